import PyProof.Rows.All
import Wide.All
import OpenK.AllK
import Wide.FinOn
import PyProof.EqAt
import PyProof.EqKinds
import PyProof.TupleCall
import KE.BitLaws
import Open.SpecLaws
import KE.OsHead
import KE.OsGo
import KE.KTryMore
import KE.KSortKeyAny
import KE.KEqDeep
import KE.RegKTryMore
import PyKh303
import PySem.Challenge.RW_viewstable_s01_answers
section
set_option Elab.async false
set_option linter.all false
set_option maxRecDepth 100000
/-! THE HAND LAYER, for ints, bools, texts, own classes, lists, tuples, dicts, comprehensions, walks over dicts, enumerate, zip, reversed, texts, calls, loops. Paste it whole ahead of your own text; what your proof does not reach may be deleted. -/
namespace L2
open PySem PySem.Spec PyProof.Rows

/-- a key: an int or a str -/
abbrev Key := Sum Int Str
def keyIs : Key → Value → Bool
  | .inl k, v => Value.isInt k v
  | .inr x, v => Value.isStrOf x v
def keyH (w : World) : Key → Int
  | .inl k => hashInt k
  | .inr x => hashStr w x
theorem keyIs_shape : ∀ {k : Key} {v : Value}, keyIs k v = true → (∃ i t, k = Sum.inl i ∧ v = Value.int i t) ∨ (∃ x t, k = Sum.inr x ∧ v = Value.str x t)
  | .inl i, v, h => by
    obtain ⟨t, e⟩ := Value.isInt_shape (k := i) (v := v) h
    exact .inl ⟨i, t, rfl, e⟩
  | .inr x, v, h => by
    obtain ⟨t, e⟩ := Value.isStrOf_shape (x := x) (v := v) h
    exact .inr ⟨x, t, rfl, e⟩
theorem keyIs_int (i : Int) (t : Tok) : keyIs (.inl i) (.int i t) = true := by simp [keyIs, Value.isInt]
theorem keyIs_str (x : Str) (t : Tok) : keyIs (.inr x) (.str x t) = true := by simp [keyIs, Value.isStrOf]
theorem key_ll (a b : Int) : decide ((Sum.inl a : Key) = Sum.inl b) = (a == b) := by
  by_cases e : a = b
  · subst e; simp
  · have h : ¬ (Sum.inl a : Key) = Sum.inl b := fun q => e (Sum.inl.inj q)
    rw [decide_eq_false h]
    exact (beq_eq_false_iff_ne.mpr e).symm
theorem key_rr (a b : Str) : decide ((Sum.inr a : Key) = Sum.inr b) = decide (a = b) := by
  by_cases e : a = b
  · subst e; simp
  · have h : ¬ (Sum.inr a : Key) = Sum.inr b := fun q => e (Sum.inr.inj q)
    rw [decide_eq_false h, decide_eq_false e]
theorem key_lr (a : Int) (b : Str) : decide ((Sum.inl a : Key) = Sum.inr b) = false := decide_eq_false (fun q => nomatch q)
theorem key_rl (a : Str) (b : Int) : decide ((Sum.inr a : Key) = Sum.inl b) = false := decide_eq_false (fun q => nomatch q)

def mixKind (prog : Program) (w : World) : PySem.KeyKind prog w Key where
  is := keyIs
  hash := keyH w
  inj := fun v a b ha hb => by
    rcases keyIs_shape ha with ⟨i, t, rfl, rfl⟩ | ⟨x, t, rfl, rfl⟩
    · rcases keyIs_shape hb with ⟨j, u, rfl, e⟩ | ⟨y, u, rfl, e⟩
      · injection e with e1 _; rw [e1]
      · exact nomatch e
    · rcases keyIs_shape hb with ⟨j, u, rfl, e⟩ | ⟨y, u, rfl, e⟩
      · exact nomatch e
      · injection e with e1 _; rw [e1]
  byValue := fun k v h => by
    rcases keyIs_shape h with ⟨i, t, rfl, rfl⟩ | ⟨x, t, rfl, rfl⟩ <;> rfl
  pyHash := fun hv h => by
    rcases keyIs_shape hv with ⟨i, t, rfl, rfl⟩ | ⟨x, t, rfl, rfl⟩
    · exact wpAny_pyHash_int h
    · exact wpAny_pyHash_str h
  eqBool := fun hu hv h => by
    rcases keyIs_shape hu with ⟨i, t, rfl, rfl⟩ | ⟨x, t, rfl, rfl⟩
    · rcases keyIs_shape hv with ⟨j, u, rfl, rfl⟩ | ⟨y, u, rfl, rfl⟩
      · rw [key_ll] at h; exact wpAny_eqBool_int h
      · rw [key_lr] at h; exact SeqAt.EqAt.int_str i t y u _ _ _ _ h
    · rcases keyIs_shape hv with ⟨j, u, rfl, rfl⟩ | ⟨y, u, rfl, rfl⟩
      · rw [key_rl] at h; exact SeqAt.EqAt.str_int x t j u _ _ _ _ h
      · rw [key_rr] at h; exact wpAny_eqBool_str h
  «strs» := fun k x t v h => by
    rcases keyIs_shape h with ⟨i, u, rfl, e⟩ | ⟨y, u, rfl, e⟩
    · exact nomatch e
    · injection e with e1 _
      subst e1
      cases v <;> rfl

theorem mixKind_int (prog : Program) (w : World) (i : Int) (t : Tok) : (mixKind prog w).is (.inl i) (.int i t) = true := keyIs_int i t
theorem mixKind_str (prog : Program) (w : World) (x : Str) (t : Tok) : (mixKind prog w).is (.inr x) (.str x t) = true := keyIs_str x t
end L2

namespace L2
open PySem PySem.Spec PyProof.Rows

/-- a value, without the heap -/
inductive V where
  | non | bl (b : Bool) | int (i : Int) | str (x : Str) | byt (b : Array UInt8) | flt (b : UInt64) | ref (a : Addr) | ty (n : String)
  deriving DecidableEq

def RelV : V → Value → Prop
  | .non, u => u = Value.none
  | .bl b, u => u = Value.bool b
  | .int i, u => ∃ t, u = Value.int i t
  | .str x, u => ∃ t, u = Value.str x t
  | .byt b, u => ∃ t, u = Value.bytes b t
  | .flt b, u => ∃ t, u = Value.float b t
  | .ref a, u => u = Value.ref a
  | .ty n, u => u = Value.type n

abbrev Vals : List V → List Value → Prop := Paired RelV
theorem Vals.length {xs : List V} {us : List Value} (r : Vals xs us) : xs.length = us.length := Paired.length r
theorem Vals.get : ∀ {xs : List V} {us : List Value} {i : Nat} {x : V}, Vals xs us → xs[i]? = some x → ∃ u, us[i]? = some u ∧ RelV x u
  | _, _, _, _, .nil, e => by simp at e
  | _, _, 0, _, .cons r _, e => by simp at e; subst e; exact ⟨_, rfl, r⟩
  | _, _, i + 1, x, .cons _ t, e => by
    obtain ⟨u, h1, h2⟩ := Vals.get (i := i) (x := x) t (by simpa using e)
    exact ⟨u, by simpa using h1, h2⟩
theorem Vals.append : ∀ {xs ys : List V} {us ws : List Value}, Vals xs us → Vals ys ws → Vals (xs ++ ys) (us ++ ws)
  | _, _, _, _, .nil, s => s
  | _, _, _, _, .cons r t, s => .cons r (Vals.append t s)
theorem Vals.take : ∀ {xs : List V} {us : List Value} (n : Nat), Vals xs us → Vals (xs.take n) (us.take n)
  | _, _, 0, _ => .nil
  | _, _, _ + 1, .nil => .nil
  | _, _, n + 1, .cons r t => .cons r (Vals.take n t)
theorem Vals.drop : ∀ {xs : List V} {us : List Value} (n : Nat), Vals xs us → Vals (xs.drop n) (us.drop n)
  | _, _, 0, r => r
  | _, _, _ + 1, .nil => .nil
  | _, _, n + 1, .cons _ t => Vals.drop n t
def RelO : Option V → Option Value → Prop
  | some v, some u => RelV v u
  | none, none => True
  | _, _ => False
def KV {κ : Type} : List (κ × V) → List (κ × Value) → Prop := Paired fun (p : κ × V) (q : κ × Value) => p.1 = q.1 ∧ RelV p.2 q.2

/-- a key of a dict (00_mix): an int or a text -/
def kV : Key → V
  | .inl i => .int i
  | .inr x => .str x

/-- what stands at a tracked address -/
inductive HO where
  /-- a list -/
  | lst (xs : List V)
  /-- a tuple (never changes) -/
  | tup (xs : List V)
  /-- a dict whose keys are ints and texts; one whose keys are tuples of ints and texts (the empty one is both) -/
  | dK (kvs : List (Key × V)) | dT (kvs : List (List Key × V))
  /-- a set of ints: its members, its size -/
  | set (S : Int → Bool) (n : Nat)
  /-- an instance of the class at C, its dict at dx, its attributes -/
  | ins (C dx : Addr) (fs : List (Str × V))
  /-- the dict of the instance at x -/
  | own (x : Addr)
  /-- the dict of an exception -/
  | xd (fs : List (Str × V))
  /-- a bound method, f of x -/
  | met (f x : Addr)
  /-- a range object lo, lo + 1, .. below hi -/
  | rng (lo hi : Int)
  /-- a thing that is known to the object (the script; a dict while a loop walks it): read, never written while it is so -/
  | frz (o : Obj) (u : HO)
  /-- a code object's table -/
  | tbl (ps : Array Value)
  /-- any other thing, by what is true of its one object (a def of one's own: SetO a S n := HO.ext fun h => ..) -/
  | ext (φ : Heap → Prop)

abbrev Hp := Addr → Option HO
def upd (H : Hp) (a : Addr) (o : HO) : Hp := fun b => if b = a then some o else H b
theorem upd_same {H : Hp} {a : Addr} {o : HO} : upd H a o a = some o := by unfold upd; rw [if_pos rfl]
theorem upd_ne {H : Hp} {a b : Addr} {o : HO} (h : b ≠ a) : upd H a o b = H b := by unfold upd; rw [if_neg h]
/-- two objects of different content stand apart -/
theorem ne_of {H : Hp} {a b : Addr} {o u : HO} (h : H a = some o) (h' : H b = some u) (d : o ≠ u) : a ≠ b := by
  intro e; subst e; rw [h] at h'; exact d (Option.some.inj h')
theorem ne_of_none {H : Hp} {a b : Addr} {o : HO} (h : H a = some o) (h' : H b = none) : a ≠ b := by
  intro e; subst e; rw [h] at h'; cases h'

section
variable (P : Program) (w : World)
def ObjOk (H : Hp) (h : Heap) (a : Addr) : HO → Prop
  | .lst xs => xs.length ≤ sizeLine ∧ ∃ (its : List Value) (n : Nat), Vals xs its ∧ h.get? a = some { cls := .type "list", data := .seq its.toArray n }
  | .tup xs => xs.length ≤ sizeLine ∧ ∃ its : List Value, Vals xs its ∧ IsTup h a its.toArray
  | .dK kvs => kvs.length ≤ sizeLine ∧ (a == sysModules) = false ∧ ∃ vs, KV kvs vs ∧ h.DictOf (mixKind P w) a vs
  | .dT kvs => kvs.length ≤ sizeLine ∧ (a == sysModules) = false ∧ ∃ xs : List (List Key × Addr × Value),
      Paired (fun (p : List Key × V) (q : List Key × Addr × Value) => p.1 = q.1 ∧ H q.2.1 = some (.tup (p.1.map kV)) ∧ RelV p.2 q.2.2) kvs xs ∧
      ∃ o es ep, h.get? a = some o ∧ o.ExactDict ∧ o.data = .dict es ep ∧ es.toList = xs.map (entryOfKey (tupleKind (mixKind P w))) ∧ (xs.map (·.1)).Nodup
  | .set S n => h.SetOf (intKind P w) a S n
  | .ins C dx fs => H dx = some (.own a) ∧ fs.length ≤ 1000 ∧ dx ≠ a ∧ h.get? a = some (PySem.W.instObj C dx) ∧
      ∃ mA, h.Ns1 dx mA ∧ (∀ f, RelO (fs.lookup f) (mA f)) ∧ PySem.Within mA (fs.map (·.1))
  | .own _ => ∃ o, h.get? a = some o
  | .xd fs => ∃ mA, h.Ns1 a mA ∧ ∀ f, RelO (fs.lookup f) (mA f)
  | .rng lo hi => ∃ t u v, h.get? a = some { cls := .type "range", data := .fields #[.int lo t, .int hi u, .int 1 v] }
  | .frz o u => h.get? a = some o ∧ ObjOk H h a u
  | .tbl ps => h.get? a = some { cls := .none, data := .fields ps }
  | .met f x => h.get? a = some (PySem.W.methodObj (.ref f) (.ref x))
  | .ext φ => φ h ∧ (∃ o, h.get? a = some o) ∧ ∀ h1 h2 : Heap, φ h1 → (∀ o, h1.get? a = some o → h2.get? a = some o) → φ h2
/-- the abstract heap is held -/
def HOk (H : Hp) (h : Heap) : Prop := ∀ a o, H a = some o → ObjOk P w H h a o
end

section
variable {P : Program} {w : World} {H H' : Hp} {h h' : Heap} {a : Addr} {o : HO}
theorem ObjOk.lt (x : ObjOk P w H h a o) : a < h.objs.size := by
  cases o with
  | lst xs => obtain ⟨_, _, _, _, e⟩ := x; exact Heap.lt_size e
  | tup xs => obtain ⟨_, _, _, p⟩ := x; exact p.lt
  | dK kvs => obtain ⟨_, _, _, _, o, _, _, e, _⟩ := x; exact Heap.lt_size e
  | dT kvs => obtain ⟨_, _, _, _, o, _, _, e, _⟩ := x; exact Heap.lt_size e
  | set S n => obtain ⟨o, _, _, _, e, _⟩ := x; exact Heap.lt_size e
  | ins C dx fs => obtain ⟨_, _, _, e, _⟩ := x; exact Heap.lt_size e
  | own y => obtain ⟨_, e⟩ := x; exact Heap.lt_size e
  | xd fs => obtain ⟨_, ⟨_, _, _, e, _⟩, _⟩ := x; exact Heap.lt_size e
  | rng lo hi => obtain ⟨_, _, _, e⟩ := x; exact Heap.lt_size e
  | frz ob u => obtain ⟨e, _⟩ := x; exact Heap.lt_size e
  | tbl ps => exact Heap.lt_size (show h.get? a = some _ from x)
  | met f y => exact Heap.lt_size (show h.get? a = some _ from x)
  | ext φ => obtain ⟨_, ⟨_, e⟩, _⟩ := x; exact Heap.lt_size e
theorem Paired.mapP {α β : Type} {F G : α → β → Prop} : ∀ {l₁ : List α} {l₂ : List β}, Paired F l₁ l₂ → (∀ a b, F a b → G a b) → Paired G l₁ l₂
  | _, _, .nil, _ => .nil
  | _, _, .cons r t, f => .cons (f _ _ r) (Paired.mapP t f)
/-- what an object's description leans on: its own object, its own dict, the tuples -/
theorem ObjOk.stay (x : ObjOk P w H h a o) (k : ∀ b u, (b = a ∨ H b = some (.own a)) → h.get? b = some u → h'.get? b = some u)
    (ho : ∀ b, H b = some (.own a) → H' b = some (.own a)) (ht : ∀ b xs, H b = some (.tup xs) → H' b = some (.tup xs)) : ObjOk P w H' h' a o := by
  induction o with
  | lst xs => obtain ⟨z, its, n, r, e⟩ := x; exact ⟨z, its, n, r, k _ _ (.inl rfl) e⟩
  | tup xs => obtain ⟨z, its, r, ob, e, c⟩ := x; exact ⟨z, its, r, ob, k _ _ (.inl rfl) e, c⟩
  | dK kvs => obtain ⟨z, y, vs, r, ob, es, ep, e, c⟩ := x; exact ⟨z, y, vs, r, ob, es, ep, k _ _ (.inl rfl) e, c⟩
  | dT kvs =>
    obtain ⟨z, y, xs, r, ob, es, ep, e, c⟩ := x
    exact ⟨z, y, xs, Paired.mapP r fun p q z => ⟨z.1, ht _ _ z.2.1, z.2.2⟩, ob, es, ep, k _ _ (.inl rfl) e, c⟩
  | set S n => obtain ⟨ob, es, ep, t, e, c⟩ := x; exact ⟨ob, es, ep, t, k _ _ (.inl rfl) e, c⟩
  | ins C dx fs =>
    obtain ⟨d, z, ne, e, mA, ⟨od, es, ep, e2, c⟩, r⟩ := x
    exact ⟨ho _ d, z, ne, k _ _ (.inl rfl) e, mA, ⟨od, es, ep, k _ _ (.inr d) e2, c⟩, r⟩
  | own y => obtain ⟨ob, e⟩ := x; exact ⟨ob, k _ _ (.inl rfl) e⟩
  | xd fs => obtain ⟨mA, ⟨od, es, ep, e, c⟩, r⟩ := x; exact ⟨mA, ⟨od, es, ep, k _ _ (.inl rfl) e, c⟩, r⟩
  | rng lo hi => obtain ⟨t, u, v, e⟩ := x; exact ⟨t, u, v, k _ _ (.inl rfl) e⟩
  | frz ob u ih => obtain ⟨e, q⟩ := x; exact ⟨k _ _ (.inl rfl) e, ih q⟩
  | tbl ps =>
    have e : h.get? a = some { cls := .none, data := .fields ps } := x
    show h'.get? a = some { cls := .none, data := .fields ps }
    exact k a _ (.inl rfl) e
  | met f y =>
    have e : h.get? a = some (PySem.W.methodObj (.ref f) (.ref y)) := x
    show h'.get? a = some (PySem.W.methodObj (.ref f) (.ref y))
    exact k a _ (.inl rfl) e
  | ext φ => obtain ⟨p, ⟨o, e⟩, st⟩ := x; exact ⟨st _ _ p fun o q => k _ _ (.inl rfl) q, ⟨o, k _ _ (.inl rfl) e⟩, st⟩
theorem HOk.lt (x : HOk P w H h) (e : H a = some o) : a < h.objs.size := (x a o e).lt
theorem HOk.fresh (x : HOk P w H h) (e : h.objs.size ≤ a) : H a = none := by
  cases q : H a with
  | none => rfl
  | some u => exact absurd (Nat.lt_of_lt_of_le (x.lt q) e) (Nat.lt_irrefl _)
/-- every object of the heap is kept -/
theorem HOk.kept (x : HOk P w H h) (k : ∀ b u, h.get? b = some u → h'.get? b = some u) : HOk P w H h' := fun a o e =>
  (x a o e).stay (fun b u _ q => k b u q) (fun _ q => q) fun _ _ q => q
/-- a new object is laid and tracked -/
theorem HOk.laid (x : HOk P w H h) (k : ∀ b u, h.get? b = some u → h'.get? b = some u) (hp : h.objs.size ≤ a) (new : ObjOk P w (upd H a o) h' a o) : HOk P w (upd H a o) h' := fun b u e => by
  have hn := x.fresh hp
  by_cases hb : b = a
  · subst hb; rw [upd_same] at e; cases e; exact new
  · rw [upd_ne hb] at e
    exact (x b u e).stay (fun c v _ q => k c v q) (fun c q => by rw [upd_ne (ne_of_none q hn)]; exact q) fun c xs q => by rw [upd_ne (ne_of_none q hn)]; exact q
end

/-- what may be read as u: it is u, or a known u -/
def Rd (H : Hp) (a : Addr) (u : HO) : Prop := H a = some u ∨ ∃ o, H a = some (.frz o u)
theorem Rd.ok {P : Program} {w : World} {H : Hp} {h : Heap} {a : Addr} {u : HO} (r : Rd H a u) (x : HOk P w H h) : ObjOk P w H h a u := by
  rcases r with r | ⟨o, r⟩
  · exact x a u r
  · obtain ⟨_, q⟩ := x a _ r
    exact q
/-- what may be written -/
def Mut : Option HO → Prop
  | some (.lst _) => True
  | some (.dK _) => True
  | some (.dT _) => True
  | some (.set _ _) => True
  | some (.ins _ _ _) => True
  | some (.ext _) => True
  | _ => False
section
variable {P : Program} {w : World} {H : Hp} {h h' : Heap} {x e : Addr} {o' : HO}
/-- the object at e is changed: x itself, or the dict of the instance x -/
theorem HOk.write (ok : HOk P w H h) (mu : Mut (H x)) (he : e = x ∨ H e = some (.own x)) (k : ∀ b u, b ≠ e → h.get? b = some u → h'.get? b = some u) (heo : ∃ u, h'.get? e = some u)
    (new : ObjOk P w (upd H x o') h' x o') : HOk P w (upd H x o') h' := fun b u q => by
  have nown : ∀ c y, H c = some (.own y) → c ≠ x := fun c y r z => by subst z; rw [r] at mu; exact mu
  have ntup : ∀ c xs, H c = some (.tup xs) → c ≠ x := fun c xs r z => by subst z; rw [r] at mu; exact mu
  by_cases hb : b = x
  · subst hb; rw [upd_same] at q; cases q; exact new
  · rw [upd_ne hb] at q
    by_cases hbe : b = e
    · have q' : H b = some (.own x) := by
        rcases he with z | z
        · exact absurd (hbe.trans z) hb
        · rw [hbe]; exact z
      rw [q] at q'; cases q'
      obtain ⟨v, hv⟩ := heo
      exact ⟨v, by rw [hbe]; exact hv⟩
    · refine (ok b u q).stay (fun c v hc r => k c v ?_ r) (fun c r => by rw [upd_ne (nown c b r)]; exact r) fun c xs r => by rw [upd_ne (ntup c xs r)]; exact r
      rcases hc with rfl | hc
      · exact hbe
      · rintro rfl
        rcases he with z | z
        · exact nown c b hc z
        · rw [hc] at z; cases z; exact hb rfl
end

/-! ### kept unless tracked; of the frames at fs (the callers') the slots may change (an exception that passes writes there); of the records at ex (iterators) nothing is said -/
structure Un (fs ex : List Addr) (H H' : Hp) (h h' : Heap) : Prop where
  keep : ∀ b o, h.get? b = some o → H b = none → b ∉ fs → b ∉ ex → h'.get? b = some o
  slot : ∀ b o, h.get? b = some o → H b = none → b ∈ fs → b ∉ ex → ∃ sl, h'.get? b = some { o with slots := sl }
  free : ∀ b o, h.get? b = some o → H b = none → b ∉ ex → H' b = none
  there : ∀ b o, h.get? b = some o → b ∉ ex → ∃ o', h'.get? b = some o'
  tups : ∀ b xs, H b = some (.tup xs) → H' b = some (.tup xs)
  frzs : ∀ b o u, H b = some (.frz o u) → H' b = some (.frz o u)
  tbls : ∀ b ps, H b = some (.tbl ps) → ∃ more, H' b = some (.tbl (ps ++ more))
section
variable {fs fs' ex ex' : List Addr} {H H1 H2 : Hp} {h h1 h2 h' : Heap} {a x e : Addr} {o : HO}
theorem Un.any (u : Un fs ex H H1 h h1) {b : Addr} {ob : Obj} (q : h.get? b = some ob) (n : H b = none) (hx : b ∉ ex) : ∃ sl, h1.get? b = some { ob with slots := sl } := by
  by_cases hb : b ∈ fs
  · exact u.slot b ob q n hb hx
  · exact ⟨ob.slots, u.keep b ob q n hb hx⟩
theorem Un.kept (k : ∀ b u, h.get? b = some u → h'.get? b = some u) : Un fs ex H H h h' :=
  ⟨fun b ob q _ _ _ => k b ob q, fun b ob q _ _ _ => ⟨ob.slots, k b ob q⟩, fun _ _ _ n _ => n, fun b ob q _ => ⟨ob, k b ob q⟩, fun _ _ q => q, fun _ _ _ q => q, fun _ ps q => ⟨#[], by rw [q]; simp⟩⟩
theorem Un.refl : Un fs ex H H h h := Un.kept fun _ _ q => q
theorem Un.laid (k : ∀ b u, h.get? b = some u → h'.get? b = some u) (hp : h.objs.size ≤ a) (hn : H a = none) : Un fs ex H (upd H a o) h h' where
  keep := fun b u q _ _ _ => k b u q
  slot := fun b u q _ _ _ => ⟨u.slots, k b u q⟩
  free := fun b u q n _ => by rw [upd_ne (Nat.ne_of_lt (Nat.lt_of_lt_of_le (Heap.lt_size q) hp))]; exact n
  there := fun b u q _ => ⟨u, k b u q⟩
  tups := fun b xs q => by rw [upd_ne (ne_of_none q hn)]; exact q
  frzs := fun b u xs q => by rw [upd_ne (ne_of_none q hn)]; exact q
  tbls := fun b ps q => ⟨#[], by rw [upd_ne (ne_of_none q hn), q]; simp⟩
theorem Un.write (mu : Mut (H x)) (he : e = x ∨ H e = some (.own x)) (k : ∀ b u, b ≠ e → h.get? b = some u → h'.get? b = some u) (heo : ∃ u, h'.get? e = some u) : Un fs ex H (upd H x o) h h' := by
  have hx : ∀ b, H b = none → b ≠ x := fun b n z => by subst z; rw [n] at mu; exact mu
  have hb : ∀ b, H b = none → b ≠ e := fun b n z => by
    subst z
    rcases he with r | r
    · exact hx b n r
    · rw [n] at r; cases r
  have hm : ∀ b u, H b = some u → ¬ Mut (some u) → b ≠ x := fun b u q nm z => by subst z; rw [q] at mu; exact nm mu
  refine ⟨fun b u q n _ _ => k b u (hb b n) q, fun b u q n _ _ => ⟨u.slots, k b u (hb b n) q⟩, fun b u q n _ => by rw [upd_ne (hx b n)]; exact n, fun b u q _ => ?_,
    fun b xs q => by rw [upd_ne (hm b _ q fun z => z)]; exact q, fun b u xs q => by rw [upd_ne (hm b _ q fun z => z)]; exact q, fun b ps q => ⟨#[], by rw [upd_ne (hm b _ q fun z => z), q]; simp⟩⟩
  by_cases hbe : b = e
  · subst hbe; exact heo
  · exact ⟨u, k b u hbe q⟩
end

/-! ### the heap without what is tracked -/
def trk (h : Heap) (H : Hp) : List Addr := (List.range h.objs.size).filter fun a => (H a).isSome
def hidT (h : Heap) (H : Hp) : Heap := PySem.W.hideAll h (trk h H)
theorem hidT_size (h : Heap) (H : Hp) : (hidT h H).objs.size = h.objs.size := PySem.W.hideAll_size _ _
theorem hidT_get {h : Heap} {H : Hp} {b : Addr} {o : Obj} (e : h.get? b = some o) (n : H b = none) : (hidT h H).get? b = some o :=
  PySem.W.hideAll_get _ e fun hm => by
    have q : (H b).isSome = true := (List.mem_filter.mp hm).2
    rw [n] at q; simp at q
theorem of_hidT {h : Heap} {H : Hp} {b : Addr} {o : Obj} (e : (hidT h H).get? b = some o) : h.get? b = some o ∧ H b = none := by
  have e' : h.get? b = some o := PySem.W.of_hideAll (trk h H) e
  refine ⟨e', ?_⟩
  cases q : H b with
  | none => rfl
  | some x =>
    have hm : b ∈ trk h H := List.mem_filter.mpr ⟨List.mem_range.mpr (Heap.lt_size e'), by simp [q]⟩
    have z : (hidT h H).get? b = none := PySem.W.hideAll_none (trk h H) hm
    rw [z] at e; cases e

/-! ### OpenK's ledger, filled with every new object but one -/
end L2

namespace L2
open PySem PySem.Spec PyProof.Rows

/-- the module's facts, over the base: the heap at the law's entry without what is tracked there -/
structure Mod (K : PySem.W.Frag) (mg : Str → Option Value) (base : Heap) : Prop where
  kin : K.In base
  glob : base.Ns mainGlobals mg
  blt : ∃ mb, base.Ns builtinsNs mb ∧ ∀ x : Str, x ≠ "__name__" → mb x = bootBuiltins x
  nolimit : base.NoLimit

/-- the context: a def's body (or a comprehension's block) running. base: fixed through the whole law; s₀, H₀: the entry; outer: the frames whose slots others may change (a def's callers); stack: all frames that run;
   ex: iterators that were made ahead of the entry and are walked here (a comprehension's); fn: the names whose cells were made at the entry (a def: all; a comprehension's block: its own); calm: not within an except suite; pn: pins that every state bears; xe: what is wanted of an exception that leaves the code -/
structure Cx where
  prog : Program
  w : World
  K : PySem.W.Frag
  mg : Str → Option Value
  base : Heap
  A : Around
  N : List Str
  s_0 : Shared
  H_0 : Hp
  env : Env
  outer : List Env
  stack : List Env
  ex : List Addr
  fn : Str → Bool
  calm : Bool
  pn : List (Addr × Obj)
  xe : Value → Shared → Prop
/-- the callers' frames -/
def frs (l : List Env) : List Addr := l.filterMap (·.frame)
abbrev Cx.fs (X : Cx) : List Addr := frs X.outer

def Vis (sc : Scope) (x : Str) : Prop := sc.names.lookup x = some .local ∨ sc.names.lookup x = some .cell ∨ sc.names.lookup x = some .free
def Loc (sc : Scope) (x : Str) : Prop := sc.names.lookup x = some .local ∨ sc.names.lookup x = some .cell
def Look (env : Env) (h : Heap) (m : Str → Option Value) (x : Str) (u : Value) : Prop :=
  (env.kindOf x = some .local ∧ m x = some u) ∨ ((env.kindOf x = some .cell ∨ env.kindOf x = some .free) ∧ ∃ c, env.cells.lookup x = some c ∧ h.IsCell c (some u))

structure Cx.Ok (X : Cx) : Prop where
  mod : Mod X.K X.mg X.base
  kind : X.env.scope.kind = .function
  glob : X.env.globals = mainGlobals
  blt : X.env.builtins = builtinsNs
  above : X.s_0.heap.objs.size ≤ X.env.locals
  inj : ∀ x y c, X.env.cells.lookup x = some c → X.env.cells.lookup y = some c → x = y
  has : ∀ x, (X.env.kindOf x = some .cell ∨ X.env.kindOf x = some .free) → ∃ c, X.env.cells.lookup x = some c
  cab : ∀ x c, X.fn x = true → X.env.cells.lookup x = some c → X.s_0.heap.objs.size ≤ c
  hd : X.calm = true → X.A.handled = none
  frames : X.A.frames = some X.stack
  stk : X.stack = X.outer ∨ (X.stack = X.env :: X.outer ∧ X.env.frame = some X.env.locals)
  exf : ∀ b ∈ X.ex, b ≠ X.env.locals ∧ ∀ x c, X.env.cells.lookup x = some c → c ≠ b
  bs : ∀ b o, X.base.get? b = some o → X.s_0.heap.get? b = some o ∧ X.H_0 b = none
  bsz : X.base.objs.size ≤ X.s_0.heap.objs.size
  noex : ∀ b o, X.base.get? b = some o → b ∉ X.ex
  exfs : ∀ b ∈ X.ex, b ∉ X.fs
  funs : X.s_0.heap.FunFrames X.base X.outer
  frf : ∀ b ∈ X.fs, X.H_0 b = none

structure Inv (X : Cx) (pins : List (Addr × Obj)) (σ : List (Option V)) (H : Hp) (s : Shared) : Prop where
  ok : X.Ok
  os : s.os = X.s_0.os
  bare : AllBare s.gens
  base : Un X.fs X.ex X.H_0 H X.s_0.heap s.heap
  loc : ∃ m, s.heap.Ns X.env.locals m ∧ ∀ (i : Nat) (x : Str) (v : V), X.N[i]? = some x → σ[i]? = some (some v) → Vis X.env.scope x → ∃ u, RelV v u ∧ Look X.env s.heap m x u
  cell : ∀ x c, X.env.cells.lookup x = some c → ∃ v, s.heap.IsCell c v
  free : H X.env.locals = none
  freeC : ∀ x c, X.env.cells.lookup x = some c → H c = none
  pin : ∀ p ∈ X.pn ++ pins, s.heap.get? p.1 = some p.2 ∧ H p.1 = none ∧ p.1 ≠ X.env.locals ∧ p.1 ∉ X.fs ∧ ∀ v, p.2.data ≠ .cell v
  hok : HOk X.prog X.w H s.heap
  len : σ.length = X.N.length

section
variable {X : Cx} {pins : List (Addr × Obj)} {σ : List (Option V)} {H H' : Hp} {s : Shared} {h' : Heap}

theorem Cx.Ok.nofr (ok : X.Ok) {b : Addr} {o : Obj} (e : X.base.get? b = some o) : b ∉ X.fs := fun hb => by
  have := (ok.funs.mem hb).1
  rw [e] at this; cases this
theorem Inv.bs (I : Inv X pins σ H s) : ∀ b o, X.base.get? b = some o → s.heap.get? b = some o ∧ H b = none := fun b o e =>
  ⟨I.base.keep b o (I.ok.bs b o e).1 (I.ok.bs b o e).2 (I.ok.nofr e) (I.ok.noex b o e), I.base.free b o (I.ok.bs b o e).1 (I.ok.bs b o e).2 (I.ok.noex b o e)⟩
theorem Inv.bk (I : Inv X pins σ H s) : ∀ b o, X.base.get? b = some o → s.heap.get? b = some o := fun b o e => (I.bs b o e).1
theorem Inv.mod (I : Inv X pins σ H s) : Mod X.K X.mg X.base := I.ok.mod
theorem Inv.kIn (I : Inv X pins σ H s) : X.K.In s.heap := I.ok.mod.kin.keeps I.bk
theorem Inv.lt (I : Inv X pins σ H s) : X.env.locals < s.heap.objs.size := let ⟨_, hn, _⟩ := I.loc; hn.lt
theorem Inv.sz (I : Inv X pins σ H s) : X.s_0.heap.objs.size ≤ s.heap.objs.size := Nat.le_trans I.ok.above (Nat.le_of_lt I.lt)
theorem Inv.nofs (I : Inv X pins σ H s) {a : Addr} (h : s.heap.objs.size ≤ a) : a ∉ X.fs := fun hb => by
  obtain ⟨_, o, ho, _⟩ := I.ok.funs.mem hb
  exact absurd (Nat.lt_of_lt_of_le (Heap.lt_size ho) (Nat.le_trans I.sz h)) (Nat.lt_irrefl _)
theorem Inv.cne (I : Inv X pins σ H s) : ∀ x c, X.env.cells.lookup x = some c → c ≠ X.env.locals := fun x c e z => by
  obtain ⟨v, o, ho, hd⟩ := I.cell x c e
  obtain ⟨m, ⟨o', es, ep, ho', hd', _⟩, _⟩ := I.loc
  rw [z, ho'] at ho; cases ho; rw [hd'] at hd; cases hd
theorem Inv.funs (I : Inv X pins σ H s) : s.heap.FunFrames X.base X.outer := by
  have all : ∀ (l : List Env), (∀ b ∈ frs l, b ∈ X.fs) → X.s_0.heap.FunFrames X.base l → s.heap.FunFrames X.base l := by
    intro l
    induction l with
    | nil => intro _ _; trivial
    | cons env r ih =>
      intro hs hl
      obtain ⟨hk, ⟨L, o, hf, hn, ho, hd⟩, hr⟩ := hl
      have hL : L ∈ X.fs := hs L (by unfold frs; rw [List.filterMap_cons, hf]; exact List.mem_cons_self)
      obtain ⟨sl, e⟩ := I.base.slot L o ho (I.ok.frf L hL) hL fun z => I.ok.exfs L z hL
      exact ⟨hk, ⟨L, _, hf, hn, e, hd⟩, ih (fun b hb => hs b (by unfold frs; rw [List.filterMap_cons, hf]; exact List.mem_cons_of_mem _ hb)) hr⟩
  exact all X.outer (fun _ hb => hb) I.ok.funs

/-- the frames that run, for a call -/
theorem Inv.stack (I : Inv X pins σ H s) : s.heap.FunFrames X.base X.stack := by
  rcases I.ok.stk with e | ⟨e, hf⟩
  · rw [e]; exact I.funs
  · rw [e]
    obtain ⟨m, hn, _⟩ := I.loc
    refine .cons (by rw [I.ok.kind]; decide) hf hn ?_ I.funs
    exact Heap.get?_none_of_le (Nat.le_trans I.ok.bsz I.ok.above)
theorem Inv.stkSub (I : Inv X pins σ H s) : ∀ b ∈ frs X.stack, b ∈ X.env.locals :: X.fs := fun b hb => by
  rcases I.ok.stk with e | ⟨e, hf⟩
  · rw [e] at hb; exact List.mem_cons_of_mem _ hb
  · rw [e] at hb
    unfold frs at hb
    rw [List.filterMap_cons, hf] at hb
    exact hb
theorem Inv.stkFree (I : Inv X pins σ H s) : ∀ b ∈ frs X.stack, H b = none := fun b hb => by
  rcases List.mem_cons.mp (I.stkSub b hb) with e | hb
  · rw [e]; exact I.free
  · obtain ⟨_, o, ho, _⟩ := I.ok.funs.mem hb
    exact I.base.free b o ho (I.ok.frf b hb) fun z => I.ok.exfs b z hb

/-- THE STEP: the untracked objects but the frame and the records at ch are kept (the callers' frames up to slots), the frame's map is kept, the new abstract heap is held -/
theorem Inv.step {g' : Array GenState} {t' : Nat} {d' : Drawn} {ch : List Addr} (I : Inv X pins σ H s)
    (hch : ∀ b ∈ ch, (b ∈ X.ex ∨ X.s_0.heap.objs.size ≤ b) ∧ b ≠ X.env.locals ∧ (∀ x c, X.env.cells.lookup x = some c → c ≠ b) ∧ ∀ p ∈ X.pn ++ pins, p.1 ≠ b)
    (keep : ∀ b o, b ≠ X.env.locals → b ∉ X.fs → b ∉ ch → s.heap.get? b = some o → H b = none → h'.get? b = some o)
    (slot : ∀ b o, b ≠ X.env.locals → b ∈ X.fs → b ∉ ch → s.heap.get? b = some o → H b = none → ∃ sl, h'.get? b = some { o with slots := sl }) (free : ∀ b o, b ∉ ch → s.heap.get? b = some o → H b = none → H' b = none)
    (there : ∀ b o, b ∉ ch → s.heap.get? b = some o → ∃ o', h'.get? b = some o')
    (tups : ∀ b xs, H b = some (.tup xs) → H' b = some (.tup xs)) (frzs : ∀ b o u, H b = some (.frz o u) → H' b = some (.frz o u)) (tbls : ∀ b ps, H b = some (.tbl ps) → ∃ more, H' b = some (.tbl (ps ++ more)))
    (ns : ∀ m, s.heap.Ns X.env.locals m → h'.Ns X.env.locals m) (hok : HOk X.prog X.w H' h') (hg : AllBare g') :
    Inv X pins σ H' { s with heap := h', gens := g', drawn := d', toks := t' } := by
  have neL : ∀ b o, X.s_0.heap.get? b = some o → b ≠ X.env.locals := fun b o e => Nat.ne_of_lt (Nat.lt_of_lt_of_le (Heap.lt_size e) I.ok.above)
  have neC : ∀ b o, X.s_0.heap.get? b = some o → b ∉ X.ex → b ∉ ch := fun b o e hx hb => by
    rcases (hch b hb).1 with z | z
    · exact hx z
    · exact absurd (Nat.lt_of_lt_of_le (Heap.lt_size e) z) (Nat.lt_irrefl _)
  have cellK : ∀ x c, X.env.cells.lookup x = some c → ∀ v, s.heap.IsCell c v → h'.IsCell c v := fun x c e v ⟨o, ho, hd⟩ => by
    have nch : c ∉ ch := fun z => (hch c z).2.2.1 x c e rfl
    by_cases hc : c ∈ X.fs
    · obtain ⟨sl, q⟩ := slot c o (I.cne x c e) hc nch ho (I.freeC x c e)
      exact ⟨_, q, hd⟩
    · exact ⟨o, keep c o (I.cne x c e) hc nch ho (I.freeC x c e), hd⟩
  refine ⟨I.ok, I.os, hg, ⟨fun b o e n hb hx => ?_, fun b o e n hb hx => ?_, fun b o e n hx => ?_, fun b o e hx => ?_, fun b xs e => tups b xs (I.base.tups b xs e), fun b o xs e => frzs b o xs (I.base.frzs b o xs e), fun b ps e => ?_⟩, ?_, fun x c e => ?_, ?_, fun x c e => ?_, fun p hp => ?_, hok, I.len⟩
  · exact keep b o (neL b o e) hb (neC b o e hx) (I.base.keep b o e n hb hx) (I.base.free b o e n hx)
  · obtain ⟨sl, e1⟩ := I.base.slot b o e n hb hx
    obtain ⟨sl', e2⟩ := slot b _ (neL b o e) hb (neC b o e hx) e1 (I.base.free b o e n hx)
    exact ⟨sl', e2⟩
  · obtain ⟨o', e1⟩ := I.base.there b o e hx
    exact free b o' (neC b o e hx) e1 (I.base.free b o e n hx)
  · obtain ⟨o', e1⟩ := I.base.there b o e hx
    exact there b o' (neC b o e hx) e1
  · obtain ⟨m1, e1⟩ := I.base.tbls b ps e
    obtain ⟨m2, e2⟩ := tbls b _ e1
    exact ⟨m1 ++ m2, by rw [e2, Array.append_assoc]⟩
  · obtain ⟨m, hn, hl⟩ := I.loc
    refine ⟨m, ns m hn, fun i x v e1 e2 e3 => ?_⟩
    obtain ⟨u, r, l⟩ := hl i x v e1 e2 e3
    refine ⟨u, r, ?_⟩
    rcases l with l | ⟨k, c, e, z⟩
    · exact .inl l
    · exact .inr ⟨k, c, e, cellK x c e _ z⟩
  · obtain ⟨v, z⟩ := I.cell x c e
    exact ⟨v, cellK x c e v z⟩
  · obtain ⟨m, ⟨o, _, _, ho, _⟩, _⟩ := I.loc
    exact free _ o (fun z => (hch _ z).2.1 rfl) ho I.free
  · obtain ⟨v, o, ho, hd⟩ := I.cell x c e
    exact free c o (fun z => (hch c z).2.2.1 x c e rfl) ho (I.freeC x c e)
  · obtain ⟨e, n, ne, nf, d⟩ := I.pin p hp
    have nch : p.1 ∉ ch := fun z => (hch p.1 z).2.2.2 p hp rfl
    exact ⟨keep p.1 p.2 ne nf nch e n, free p.1 p.2 nch e n, ne, nf, d⟩
/-- .. where the frame's own object is kept too -/
theorem Inv.un {t' : Nat} (I : Inv X pins σ H s) (u : Un X.fs [] H H' s.heap h') (hok : HOk X.prog X.w H' h') : Inv X pins σ H' { s with heap := h', toks := t' } := by
  obtain ⟨m, ⟨o, es, ep, ho, r⟩, _⟩ := id I.loc
  obtain ⟨sl, hL⟩ := u.any ho I.free (by simp)
  exact I.step (g' := s.gens) (d' := s.drawn) (ch := []) (fun _ z => nomatch z) (fun b o _ hb _ e n => u.keep b o e n hb (by simp)) (fun b o _ hb _ e n => u.slot b o e n hb (by simp)) (fun b o _ e n => u.free b o e n (by simp)) (fun b o _ e => u.there b o e (by simp)) u.tups u.frzs u.tbls (fun m' hm => by
    obtain ⟨o', es', ep', ho', r'⟩ := hm
    rw [ho] at ho'; cases ho'
    exact ⟨_, es', ep', hL, r'⟩) hok I.bare
/-- behind a call (or a comprehension's block): the slots of this frame may have changed too, the records at ch may have turned -/
theorem Inv.call {g' : Array GenState} {t' : Nat} {d' : Drawn} {ch : List Addr} (I : Inv X pins σ H s) (u : Un (frs X.stack) ch H H' s.heap h') (hok : HOk X.prog X.w H' h') (hg : AllBare g')
    (hch : ∀ b ∈ ch, (b ∈ X.ex ∨ X.s_0.heap.objs.size ≤ b) ∧ b ≠ X.env.locals ∧ (∀ x c, X.env.cells.lookup x = some c → c ≠ b) ∧ ∀ p ∈ X.pn ++ pins, p.1 ≠ b) :
    Inv X pins σ H' { s with heap := h', gens := g', drawn := d', toks := t' } := by
  obtain ⟨m, ⟨o, es, ep, ho, r⟩, _⟩ := id I.loc
  obtain ⟨sl, hL⟩ := u.any ho I.free fun z => (hch _ z).2.1 rfl
  exact I.step (ch := ch) hch (fun b o hL hb hc e n => u.keep b o e n (fun z => (List.mem_cons.mp (I.stkSub b z)).elim hL hb) hc) (fun b o _ _ hc e n => u.any e n hc) (fun b o hc e n => u.free b o e n hc) (fun b o hc e => u.there b o e hc) u.tups u.frzs u.tbls (fun m' hm => by
    obtain ⟨o', es', ep', ho', r'⟩ := hm
    rw [ho] at ho'; cases ho'
    exact ⟨_, es', ep', hL, r'⟩) hok hg
/-- an untracked record of ours (an iterator) has turned -/
theorem Inv.turned {t' : Nat} {it : Addr} (I : Inv X pins σ H s) (k : ∀ b o, b ≠ it → s.heap.get? b = some o → h'.get? b = some o) (hn : H it = none) (hL : it ≠ X.env.locals)
    (h1 : it ∈ X.ex ∨ X.s_0.heap.objs.size ≤ it) (h2 : ∀ x c, X.env.cells.lookup x = some c → c ≠ it) (h3 : ∀ p ∈ X.pn ++ pins, p.1 ≠ it) : Inv X pins σ H { s with heap := h', toks := t' } := by
  have nit : ∀ b u, H b = some u → b ≠ it := fun b u e z => by rw [z, hn] at e; cases e
  refine I.step (g' := s.gens) (d' := s.drawn) (ch := [it]) (fun b hb => ?_) (fun b o _ _ hc e _ => k b o (fun z => hc (by simp [z])) e) (fun b o _ _ hc e _ => ⟨o.slots, k b o (fun z => hc (by simp [z])) e⟩) (fun _ _ _ _ n => n)
    (fun b o hc e => ⟨o, k b o (fun z => hc (by simp [z])) e⟩) (fun _ _ e => e) (fun _ _ _ e => e) (fun b ps e => ⟨#[], by rw [e]; simp⟩) (fun m hm => ?_) (fun b u e => ?_) I.bare
  · have e : b = it := by simpa using hb
    subst e
    exact ⟨h1, hL, h2, h3⟩
  · obtain ⟨o, es, ep, ho, r⟩ := hm
    exact ⟨o, es, ep, k _ o (Ne.symm hL) ho, r⟩
  · refine (I.hok b u e).stay (fun c v hc q => k c v ?_ q) (fun _ q => q) fun _ _ q => q
    rcases hc with z | z
    · rw [z]; exact nit b u e
    · exact nit c _ z
theorem Inv.tok (I : Inv X pins σ H s) (t : Nat) : Inv X pins σ H { s with toks := t } := I.un (h' := s.heap) (t' := t) Un.refl I.hok
/-- all objects kept -/
theorem Inv.kept {t' : Nat} (I : Inv X pins σ H s) (k : ∀ b u, s.heap.get? b = some u → h'.get? b = some u) : Inv X pins σ H { s with heap := h', toks := t' } := I.un (Un.kept k) (I.hok.kept k)
/-- a new object laid and tracked -/
theorem Inv.laid {a : Addr} {o : HO} {t' : Nat} (I : Inv X pins σ H s) (k : ∀ b u, s.heap.get? b = some u → h'.get? b = some u) (hp : s.heap.objs.size ≤ a) (new : ObjOk X.prog X.w (upd H a o) h' a o) :
    Inv X pins σ (upd H a o) { s with heap := h', toks := t' } := I.un (Un.laid k hp (I.hok.fresh hp)) (I.hok.laid k hp new)
/-- an object written -/
theorem Inv.write {x e : Addr} {o : HO} {t' : Nat} (I : Inv X pins σ H s) (mu : Mut (H x)) (he : e = x ∨ H e = some (.own x)) (k : ∀ b u, b ≠ e → s.heap.get? b = some u → h'.get? b = some u) (heo : ∃ u, h'.get? e = some u)
    (new : ObjOk X.prog X.w (upd H x o) h' x o) : Inv X pins σ (upd H x o) { s with heap := h', toks := t' } := I.un (Un.write mu he k heo) (I.hok.write mu he k heo new)
/-- forgetting slots, pins -/
theorem Inv.weak {σ' : List (Option V)} (I : Inv X pins σ H s) (hl : σ'.length = σ.length) (w : ∀ (i : Nat) v, σ'[i]? = some (some v) → σ[i]? = some (some v)) : Inv X pins σ' H s :=
  ⟨I.ok, I.os, I.bare, I.base, let ⟨m, hn, hl'⟩ := I.loc; ⟨m, hn, fun i x v e1 e2 e3 => hl' i x v e1 (w i v e2) e3⟩, I.cell, I.free, I.freeC, I.pin, I.hok, hl.trans I.len⟩
theorem Inv.pins_of {pins' : List (Addr × Obj)} (I : Inv X pins σ H s) (h : ∀ p ∈ pins', s.heap.get? p.1 = some p.2 ∧ H p.1 = none ∧ p.1 ≠ X.env.locals ∧ p.1 ∉ X.fs ∧ ∀ v, p.2.data ≠ .cell v) : Inv X pins' σ H s :=
  ⟨I.ok, I.os, I.bare, I.base, I.loc, I.cell, I.free, I.freeC, fun p hp => (List.mem_append.mp hp).elim (fun z => I.pin p (List.mem_append_left _ z)) (h p), I.hok, I.len⟩

theorem nodup_ix {N : List Str} (hN : N.Nodup) {i j : Nat} {x : Str} (a : N[i]? = some x) (b : N[j]? = some x) : i = j := by
  obtain ⟨h1, e1⟩ := List.getElem?_eq_some_iff.mp a
  obtain ⟨h2, e2⟩ := List.getElem?_eq_some_iff.mp b
  exact (List.getElem_inj hN).mp (e1.trans e2.symm)

/-- a name is stored; what changed -/
theorem store_ok2 {M : Model} {A : Around} {E : Value → Shared → Prop} {i : Nat} {x : Str} {v : V} {u : Value} {Q : Unit → Shared → Prop} (I : Inv X pins σ H s) (hN : X.N.Nodup) (hi : X.N[i]? = some x) (hx : Loc X.env.scope x) (r : RelV v u)
    (h : ∀ s', Inv X pins (σ.set i (some v)) H s' → (∃ a, Heap.SameBut a s.heap s'.heap ∧ (a = X.env.locals ∨ X.env.cells.lookup x = some a)) → Q () s') (hf : X.fn x = true ∨ X.env.scope.names.lookup x = some .local := by first | exact .inl rfl | exact .inr rfl | assumption) : wpAny M A (storeName X.env x u) Q E s := by
  obtain ⟨m, hn, hl⟩ := id I.loc
  have hcls : (X.env.scope.kind == .class || (X.env.scope.kind == .module && X.env.locals != X.env.globals)) = false := by rw [I.ok.kind]; rfl
  have hiσ : i < σ.length := by rw [I.len]; exact (List.getElem?_eq_some_iff.mp hi).1
  have cne := I.cne
  have tracked : ∀ {a : Addr} {h' : Heap}, (∃ o, s.heap.get? a = some o ∧ H a = none) → Heap.SameBut a s.heap h' → HOk X.prog X.w H h' := fun {a h'} ha hs b ob e => by
    obtain ⟨_, _, hfree⟩ := ha
    refine (I.hok b ob e).stay (fun c w' hc q => (hs.2 c ?_).trans q) (fun _ q => q) fun _ _ q => q
    rintro rfl
    rcases hc with rfl | hc
    · rw [hfree] at e; cases e
    · rw [hfree] at hc; cases hc
  rcases hx with hk | hk
  · refine wpAny_storeName_local hk hn (fun h' hn' hs => ?_) hcls
    obtain ⟨oL, _, _, hoL, _⟩ := id hn
    refine h _ ⟨I.ok, I.os, I.bare, ⟨fun b o e n hb hx => ?_, fun b o e n hb hx => ?_, I.base.free, fun b o e hx => ?_, I.base.tups, I.base.frzs, I.base.tbls⟩, ⟨_, hn', fun j y v' e1 e2 e3 => ?_⟩, fun y c e => ?_, I.free, I.freeC, fun p hp => ?_, tracked ⟨oL, hoL, I.free⟩ hs, by simpa using I.len⟩ ⟨_, hs, .inl rfl⟩
    · exact (hs.2 b (Nat.ne_of_lt (Nat.lt_of_lt_of_le (Heap.lt_size e) I.ok.above))).trans (I.base.keep b o e n hb hx)
    · obtain ⟨sl, e1⟩ := I.base.slot b o e n hb hx
      exact ⟨sl, (hs.2 b (Nat.ne_of_lt (Nat.lt_of_lt_of_le (Heap.lt_size e) I.ok.above))).trans e1⟩
    · obtain ⟨o', e1⟩ := I.base.there b o e hx
      exact ⟨o', (hs.2 b (Nat.ne_of_lt (Nat.lt_of_lt_of_le (Heap.lt_size e) I.ok.above))).trans e1⟩
    · by_cases hj : j = i
      · subst hj
        rw [hi] at e1; cases e1
        rw [List.getElem?_set_self hiσ] at e2
        cases e2
        exact ⟨u, r, .inl ⟨hk, by simp⟩⟩
      · rw [List.getElem?_set_ne (Ne.symm hj)] at e2
        obtain ⟨u', r', q⟩ := hl j y v' e1 e2 e3
        refine ⟨u', r', ?_⟩
        rcases q with ⟨k, e⟩ | ⟨k, c, e, z⟩
        · refine .inl ⟨k, ?_⟩
          have : y ≠ x := fun e => hj (nodup_ix hN e1 (e ▸ hi))
          simp [this, e]
        · exact .inr ⟨k, c, e, z.sameBut hs (cne y c e)⟩
    · obtain ⟨w', z⟩ := I.cell y c e
      exact ⟨w', z.sameBut hs (cne y c e)⟩
    · obtain ⟨e, n, ne, nf, d⟩ := I.pin p hp
      exact ⟨(hs.2 p.1 ne).trans e, n, ne, nf, d⟩
  · have hfn : X.fn x = true := by
      rcases hf with z | z
      · exact z
      · rw [z] at hk; cases hk
    obtain ⟨c, hc⟩ := I.ok.has x (.inl hk)
    obtain ⟨w', z⟩ := I.cell x c hc
    refine wpAny_storeName_cell I.ok.kind hk hc z (fun h' hc' hs => ?_)
    obtain ⟨oc, hoc, hocd⟩ := id z
    refine h { s with heap := h' } ⟨I.ok, I.os, I.bare, ⟨fun b o e n hb hx => ?_, fun b o e n hb hx => ?_, I.base.free, fun b o e hx => ?_, I.base.tups, I.base.frzs, I.base.tbls⟩, ⟨m, hn.sameBut hs (Ne.symm (cne x c hc)), fun j y v' e1 e2 e3 => ?_⟩, fun y c' e => ?_, I.free, I.freeC, fun p hp => ?_, tracked ⟨oc, hoc, I.freeC x c hc⟩ hs, by simpa using I.len⟩ ⟨c, hs, .inr hc⟩
    · exact (hs.2 b (Nat.ne_of_lt (Nat.lt_of_lt_of_le (Heap.lt_size e) (I.ok.cab x c hfn hc)))).trans (I.base.keep b o e n hb hx)
    · obtain ⟨sl, e1⟩ := I.base.slot b o e n hb hx
      exact ⟨sl, (hs.2 b (Nat.ne_of_lt (Nat.lt_of_lt_of_le (Heap.lt_size e) (I.ok.cab x c hfn hc)))).trans e1⟩
    · obtain ⟨o', e1⟩ := I.base.there b o e hx
      exact ⟨o', (hs.2 b (Nat.ne_of_lt (Nat.lt_of_lt_of_le (Heap.lt_size e) (I.ok.cab x c hfn hc)))).trans e1⟩
    · by_cases hj : j = i
      · subst hj
        rw [hi] at e1; cases e1
        rw [List.getElem?_set_self hiσ] at e2
        cases e2
        exact ⟨u, r, .inr ⟨.inl hk, c, hc, hc'⟩⟩
      · rw [List.getElem?_set_ne (Ne.symm hj)] at e2
        obtain ⟨u', r', q⟩ := hl j y v' e1 e2 e3
        refine ⟨u', r', ?_⟩
        rcases q with q | ⟨k, c', e, z'⟩
        · exact .inl q
        · refine .inr ⟨k, c', e, z'.sameBut hs ?_⟩
          rintro rfl
          exact hj (nodup_ix hN e1 (I.ok.inj _ _ _ e hc ▸ hi))
    · by_cases hcc : c' = c
      · subst hcc; exact ⟨_, hc'⟩
      · obtain ⟨w2, z2⟩ := I.cell y c' e
        exact ⟨w2, z2.sameBut hs hcc⟩
    · obtain ⟨e, n, ne, nf, d⟩ := I.pin p hp
      refine ⟨(hs.2 p.1 ?_).trans e, n, ne, nf, d⟩
      intro q
      rw [q, hoc] at e
      have q' : oc = p.2 := Option.some.inj e
      exact d w' (by rw [← q']; exact hocd)
theorem store_ok {M : Model} {A : Around} {E : Value → Shared → Prop} {i : Nat} {x : Str} {v : V} {u : Value} {Q : Unit → Shared → Prop} (I : Inv X pins σ H s) (hN : X.N.Nodup) (hi : X.N[i]? = some x) (hx : Loc X.env.scope x) (r : RelV v u)
    (h : ∀ s', Inv X pins (σ.set i (some v)) H s' → Q () s') (hf : X.fn x = true ∨ X.env.scope.names.lookup x = some .local := by first | exact .inl rfl | exact .inr rfl | assumption) : wpAny M A (storeName X.env x u) Q E s :=
  store_ok2 I hN hi hx r (fun s' I' _ => h s' I') hf
/-- behind a call or a block, the state as it is -/
theorem Inv.call' {s' : Shared} {ch : List Addr} (I : Inv X pins σ H s) (ho : s'.os = s.os) (u : Un (frs X.stack) ch H H' s.heap s'.heap) (hok : HOk X.prog X.w H' s'.heap) (hg : AllBare s'.gens)
    (hch : ∀ b ∈ ch, (b ∈ X.ex ∨ X.s_0.heap.objs.size ≤ b) ∧ b ≠ X.env.locals ∧ (∀ x c, X.env.cells.lookup x = some c → c ≠ b) ∧ ∀ p ∈ X.pn ++ pins, p.1 ≠ b) : Inv X pins σ H' s' := by
  obtain ⟨h', g', d', t', o'⟩ := s'
  have e : o' = s.os := ho
  subst e
  exact I.call (g' := g') (t' := t') (d' := d') u hok hg hch
end

/-! ### the judgements -/
/-- an exception: its class, its own dict's address (where it has one), the abstract heap behind it -/
abbrev XK := Value → Option Addr → Hp → Prop
abbrev St := List (Option V)
abbrev VK := V → Hp → Prop
/-- an expression's reading; a test's; an argument list's -/
abbrev TE := St → Hp → VK → Prop
abbrev TT := St → Hp → (Bool → Hp → Prop) → Prop
abbrev TA := St → Hp → (List V → Hp → Prop) → Prop
/-- what is wanted behind a statement -/
structure Ends where
  nx : St → Hp → Prop
  rt : VK
  bk : St → Hp → Prop := fun _ _ => False
  ct : St → Hp → Prop := fun _ _ => False
abbrev TS := Ends → St → Hp → Prop

def EP (X : Cx) (pins : List (Addr × Obj)) (σ : St) (Q : VK) (u : Value) (s' : Shared) : Prop := ∃ v H', Inv X pins σ H' s' ∧ RelV v u ∧ Q v H'
def TP (X : Cx) (pins : List (Addr × Obj)) (σ : St) (Q : Bool → Hp → Prop) (b : Bool) (s' : Shared) : Prop := ∃ H', Inv X pins σ H' s' ∧ Q b H'
def AP (X : Cx) (pins : List (Addr × Obj)) (σ : St) (Q : List V → Hp → Prop) (us : List Value) (s' : Shared) : Prop := ∃ vs H', Inv X pins σ H' s' ∧ Vals vs us ∧ Q vs H'
def SP (X : Cx) (pins : List (Addr × Obj)) (D : Ends) (f : Flow) (s' : Shared) : Prop :=
  match f with
  | .next => ∃ σ' H', Inv X pins σ' H' s' ∧ D.nx σ' H'
  | .brk => ∃ σ' H', Inv X pins σ' H' s' ∧ D.bk σ' H'
  | .cont => ∃ σ' H', Inv X pins σ' H' s' ∧ D.ct σ' H'
  | .ret u => ∃ v σ' H', Inv X pins σ' H' s' ∧ RelV v u ∧ D.rt v H'

def PE (X : Cx) (e : Expr) (t : TE) : Prop :=
  ∀ (pins : List (Addr × Obj)) (s : Shared) (σ : St) (H : Hp) (Q : VK), Inv X pins σ H s → t σ H Q → wpAny (model X.prog X.w) X.A (eval e X.env) (EP X pins σ Q) X.xe s
def PT (X : Cx) (e : Expr) (t : TT) : Prop :=
  ∀ (pins : List (Addr × Obj)) (s : Shared) (σ : St) (H : Hp) (Q : Bool → Hp → Prop), Inv X pins σ H s → t σ H Q → wpAny (model X.prog X.w) X.A (isTrue e X.env (eval e X.env)) (TP X pins σ Q) X.xe s
/-- a test whatever its 'whole' is (and, or) -/
def PW (X : Cx) (e : Expr) (t : TT) : Prop :=
  ∀ (whole : Sem Value) (pins : List (Addr × Obj)) (s : Shared) (σ : St) (H : Hp) (Q : Bool → Hp → Prop), Inv X pins σ H s → t σ H Q → wpAny (model X.prog X.w) X.A (isTrue e X.env whole) (TP X pins σ Q) X.xe s
theorem PW.pt {X : Cx} {e : Expr} {t : TT} (h : PW X e t) : PT X e t := h _
/-- an argument list (no star), from the left -/
def PA (X : Cx) (es : List Expr) (t : TA) : Prop :=
  ∀ (pos : Pos) (pins : List (Addr × Obj)) (s : Shared) (σ : St) (H : Hp) (Q : List V → Hp → Prop), Inv X pins σ H s → t σ H Q → wpAny (model X.prog X.w) X.A (spliced (backTo pos (starEach es X.env))) (AP X pins σ Q) X.xe s
def PS (X : Cx) (st : Stmt) (t : TS) : Prop :=
  ∀ (pins : List (Addr × Obj)) (s : Shared) (σ : St) (H : Hp) (D : Ends), Inv X pins σ H s → t D σ H → wpAny (model X.prog X.w) X.A (exec st X.env) (SP X pins D) X.xe s
def PSs (X : Cx) (st : List Stmt) (t : TS) : Prop :=
  ∀ (pins : List (Addr × Obj)) (s : Shared) (σ : St) (H : Hp) (D : Ends), Inv X pins σ H s → t D σ H → wpAny (model X.prog X.w) X.A (execs st X.env) (SP X pins D) X.xe s
/-- weaken the end -/
theorem thn {α : Type} {t : Sem α} {Q Q' : α → Shared → Prop} {M : Model} {A : Around} {E : Value → Shared → Prop} {s : Shared} (h : wpAny M A t Q E s) (hQ : ∀ a s, Q a s → Q' a s) : wpAny M A t Q' E s := wpAny_mono h hQ fun _ _ x => x
end L2

namespace L2
open PySem PySem.Spec PyProof.Rows
section
variable {X : Cx}

/-! ### names and constants -/
def tVar (i : Nat) : TE := fun σ H Q => ∃ v, σ[i]? = some (some v) ∧ Q v H
def tC (v : V) : TE := fun _ H Q => Q v H
theorem pe_var {i : Nat} {x : Str} {pos : Pos} (hN : X.N[i]? = some x) (hv : Vis X.env.scope x) (hd : (x == ("__debug__" : Str)) = false := by decide) (hcd : (x == ("__classdict__" : Str)) = false := by decide) : PE X (.Name x pos) (tVar i) := by
  intro pins s σ H Q I h
  obtain ⟨v, e, h⟩ := h
  obtain ⟨m, hn, hl⟩ := I.loc
  obtain ⟨u, r, l⟩ := hl i x v hN e hv
  have fin : EP X pins σ Q u s := ⟨v, H, I, r, h⟩
  rcases l with ⟨hk, hm⟩ | ⟨hk, c, hc, hcell⟩
  · exact wpAny_Name (wpAny_loadName_local I.ok.kind hk hn hm fin) hd
  · rcases hk with hk | hk
    · exact wpAny_Name (wpAny_loadName_cell I.ok.kind hk hc hcell fin) hd
    · exact wpAny_Name (wpAny_loadName_free I.ok.kind hk hc hcell fin hcd) hd
theorem pe_int {i j pos} : PE X (.Constant (.int i) j pos) (tC (.int i)) := fun _ _ _ H _ I h => wpAny_Constant_int ⟨.int i, H, I.tok _, ⟨_, rfl⟩, h⟩
theorem pe_bl {b j pos} : PE X (.Constant (.bool b) j pos) (tC (.bl b)) := fun _ _ _ H _ I h => Constant_bool ⟨.bl b, H, I, rfl, h⟩
theorem pe_str {x j pos} : PE X (.Constant (.str x) j pos) (tC (.str x)) := fun _ _ _ H _ I h => Calls.Constant_str ⟨.str x, H, I.tok _, ⟨_, rfl⟩, h⟩

/-- a global name of the def -/
def Gl (X : Cx) (x : Str) : Prop := X.env.kindOf x = some .globalImplicit
theorem ld_glob {E : Value → Shared → Prop} {pins : List (Addr × Obj)} {s : Shared} {σ : St} {H : Hp} {x : Str} {u : Value} {pos : Pos} {Q : Value → Shared → Prop} (I : Inv X pins σ H s) (hg : Gl X x) (hm : X.mg x = some u) (h : Q u s)
    (hd : (x == ("__debug__" : Str)) = false := by decide) : wpAny (model X.prog X.w) X.A (eval (.Name x pos) X.env) Q E s :=
  Calls.Name_function_global I.ok.kind hg (Calls.loadGlobal_global (by rw [I.ok.glob]; exact I.mod.glob.keeps I.bk) hm h) hd
theorem ld_blt {E : Value → Shared → Prop} {pins : List (Addr × Obj)} {s : Shared} {σ : St} {H : Hp} {x : Str} {u : Value} {pos : Pos} {Q : Value → Shared → Prop} (I : Inv X pins σ H s) (hg : Gl X x) (hm : X.mg x = none) (hv : bootBuiltins x = some u) (h : Q u s)
    (hn : x ≠ "__name__" := by decide) (hd : (x == ("__debug__" : Str)) = false := by decide) : wpAny (model X.prog X.w) X.A (eval (.Name x pos) X.env) Q E s := by
  obtain ⟨mb, h1, h2⟩ := I.mod.blt
  exact Calls.Name_function_global I.ok.kind hg (Calls.loadGlobal_builtin (by rw [I.ok.glob]; exact I.mod.glob.keeps I.bk) hm (by rw [I.ok.blt]; exact h1.keeps I.bk) ((h2 x hn).trans hv) h) hd
/-- a module's constant, a class, a function, as a value -/
theorem pe_glob {x : Str} {v : V} {u : Value} {pos : Pos} (hg : Gl X x) (hm : X.mg x = some u) (r : RelV v u) (hd : (x == ("__debug__" : Str)) = false := by decide) : PE X (.Name x pos) (tC v) :=
  fun _ _ _ H _ I h => ld_glob I hg hm ⟨v, H, I, r, h⟩ hd
/-! ### arithmetic -/
variable {a b : Expr} {ta tb : TE} {pos : Pos}
/-! ### comparisons -/
def PC (X : Cx) (op : CmpOp) (a b : Expr) (t : TE) : Prop :=
  ∀ (pins : List (Addr × Obj)) (s : Shared) (σ : St) (H : Hp) (Q : VK), Inv X pins σ H s → t σ H Q →
    wpAny (model X.prog X.w) X.A (eval a X.env) (fun v s₁ => wpAny (model X.prog X.w) X.A (eval b X.env) (fun u s₂ => wpAny (model X.prog X.w) X.A (compareOp op v u) (EP X pins σ Q) X.xe s₂) X.xe s₁) X.xe s
/-- a comparison as a value, as a test -/
def tB (t : TE) : TT := fun σ H Q => t σ H fun x H1 => ∃ c, x = .bl c ∧ Q c H1
theorem pe_cmp {op : CmpOp} {t : TE} (h : PC X op a b t) (h1 : behindInMarks op b = false := by first | exact nobehind _ (by decide) (by decide) | rfl) : PE X (.Compare a [op] [b] pos) t := fun pins s σ H Q I hw => wpAny_Compare1 (h pins s σ H Q I hw) h1
theorem pt_cmp {op : CmpOp} {t : TE} (h : PC X op a b t) (h1 : behindInMarks op b = false := by first | exact nobehind _ (by decide) (by decide) | rfl) : PT X (.Compare a [op] [b] pos) (tB t) := by
  intro pins s σ H Q I hw
  refine wpAny_isTrue_Compare1 (thn (h pins s σ H _ I hw) fun v s1 h1 => thn h1 fun u s2 h2 => thn h2 fun c s3 ⟨x, H1, I1, r1, q1⟩ => ?_) h1
  obtain ⟨d, rfl, q⟩ := q1
  cases r1
  exact wpAny_truthy_bool ⟨H1, I1, q⟩
/-- an expression whose value is a bool, as a test -/
theorem pt_val {e : Expr} {t : TE} (h : PE X e t) (he : ∀ whole, isTrue e X.env whole = (do let v ← whole; standAt e.pos; holding [v] (truthy v)) := by intro _; rfl) : PT X e (tB t) := by
  intro pins s σ H Q I hw
  refine isTrue_plain (thn (h pins s σ H _ I hw) fun v s1 ⟨x, H1, I1, r1, q1⟩ => ?_) (he _)
  obtain ⟨d, rfl, q⟩ := q1
  cases r1
  exact wpAny_truthy_bool ⟨H1, I1, q⟩

/-! ### and, or, not -/
variable {tA tB' : TT} {rest : List Expr}
def tOr (t u : TT) : TT := fun σ H Q => t σ H fun c H1 => if c = true then Q true H1 else u σ H1 Q
def tNot (t : TT) : TT := fun σ H Q => t σ H fun c H1 => Q (!c) H1
theorem pw_or1 (ha : PT X a tA) : PW X (.BoolOp .Or [a] pos) tA := by
  intro wh pins s σ H Q I h
  refine isTrue_or (thn (ha pins s σ H Q I h) fun c s1 e => ?_)
  cases c with
  | false => exact isTrue_or_nil e
  | true => exact e
theorem pw_or (ha : PT X a tA) (hb : PW X (.BoolOp .Or (b :: rest) pos) tB') : PW X (.BoolOp .Or (a :: b :: rest) pos) (tOr tA tB') := by
  intro wh pins s σ H Q I h
  refine isTrue_or (thn (ha pins s σ H _ I h) fun c s1 ⟨H1, I1, q1⟩ => ?_)
  cases c with
  | true => exact ⟨H1, I1, q1⟩
  | false => exact hb wh pins s1 σ H1 Q I1 q1
theorem pt_not (ha : PT X a tA) : PT X (.UnaryOp .Not a pos) (tNot tA) := by
  intro pins s σ H Q I h
  exact isTrue_not (ha pins s σ H (fun c H1 => Q (!c) H1) I h)
/-- .. as values (bools) -/
def tAndV (ta tb : TE) : TE := fun σ H Q => ta σ H fun x H1 => ∃ c, x = .bl c ∧ if c = true then tb σ H1 Q else Q (.bl false) H1
theorem pe_one {op} {t : TE} (h : PE X a t) : PE X (.BoolOp op [a] pos) t := fun pins s σ H Q I hw => BoolOp_one (h pins s σ H Q I hw)
theorem pe_and (ha : PE X a ta) (hb : PE X (.BoolOp .And (b :: rest) pos) tb) : PE X (.BoolOp .And (a :: b :: rest) pos) (tAndV ta tb) := by
  intro pins s σ H Q I h
  refine BoolOp_and (thn (ha pins s σ H _ I h) fun v s1 ⟨x, H1, I1, r1, q1⟩ => ?_)
  obtain ⟨c, rfl, q1⟩ := q1
  cases r1
  refine wpAny_truthy_bool ?_
  cases c with
  | true => exact hb pins s1 σ H1 Q I1 q1
  | false => exact ⟨.bl false, H1, I1, rfl, q1⟩
/-- a if t else b -/
def tIf (t : TT) (ta tb : TE) : TE := fun σ H Q => t σ H fun c H1 => if c = true then ta σ H1 Q else tb σ H1 Q
theorem pe_ifExp {c : Expr} (hc : PT X c tA) (ha : PE X a ta) (hb : PE X b tb) : PE X (.IfExp c a b pos) (tIf tA ta tb) := by
  intro pins s σ H Q I h
  refine wpAny_IfExp (thn (hc pins s σ H _ I h) fun d s1 ⟨H1, I1, q1⟩ => ?_)
  cases d with
  | true => exact ha pins s1 σ H1 Q I1 q1
  | false => exact hb pins s1 σ H1 Q I1 q1
end
end L2

namespace L2
open PySem PySem.Spec PyProof.Rows

/-! ### a list, a tuple that is read: tracked, frozen, or an object of the module -/
def SqL (K : PySem.W.Frag) (H : Hp) (a : Addr) (xs : List V) : Prop :=
  Rd H a (.lst xs) ∨
    ∃ (o : Obj) (its : Array Value) (n : Nat), K.lookup a = some o ∧ o.cls = .type "list" ∧ o.dict = none ∧ o.data = .seq its n ∧ its.size ≤ sizeLine ∧ Vals xs its.toList
def SqT (K : PySem.W.Frag) (H : Hp) (a : Addr) (xs : List V) : Prop :=
  Rd H a (.tup xs) ∨
    ∃ (o : Obj) (its : Array Value) (n : Nat), K.lookup a = some o ∧ o.cls = .type "tuple" ∧ o.data = .seq its n ∧ its.size ≤ sizeLine ∧ Vals xs its.toList
def absV : Value → Option V
  | .none => some .non
  | .bool b => some (.bl b)
  | .int i _ => some (.int i)
  | .str x _ => some (.str x)
  | .bytes b _ => some (.byt b)
  | .float b _ => some (.flt b)
  | .ref a => some (.ref a)
  | .type n => some (.ty n)
  | _ => none
theorem RelV.abs {x : V} {u : Value} (r : RelV x u) : absV u = some x := by
  cases x with
  | non => cases r; rfl
  | bl _ => cases r; rfl
  | int _ => obtain ⟨t, rfl⟩ := r; rfl
  | str _ => obtain ⟨t, rfl⟩ := r; rfl
  | byt _ => obtain ⟨t, rfl⟩ := r; rfl
  | flt _ => obtain ⟨t, rfl⟩ := r; rfl
  | ref _ => cases r; rfl
  | ty _ => cases r; rfl
theorem RelV.inj {x y : V} {u : Value} (r : RelV x u) (q : RelV y u) : x = y := Option.some.inj (r.abs.symm.trans q.abs)
theorem Vals.inj : ∀ {xs ys : List V} {us : List Value}, Vals xs us → Vals ys us → xs = ys
  | _, _, _, .nil, .nil => rfl
  | _, _, _, .cons r t, .cons r' t' => by rw [r.inj r', Vals.inj t t']
section
variable {X : Cx} {pins : List (Addr × Obj)} {σ : St} {H : Hp} {s : Shared} {a : Addr} {xs ys : List V}
theorem SqL.of {K : PySem.W.Frag} (h : H a = some (.lst xs)) : SqL K H a xs := .inl (.inl h)
theorem SqT.of {K : PySem.W.Frag} (h : H a = some (.tup xs)) : SqT K H a xs := .inl (.inl h)
theorem Inv.list (I : Inv X pins σ H s) (h : SqL X.K H a xs) : ∃ its : List Value, Vals xs its ∧ PlainL s.heap a its.toArray ∧ xs.length ≤ sizeLine := by
  rcases h with h | ⟨o, its, n, hk, hc, hd, hs, hz, r⟩
  · obtain ⟨z, its, n, r, e⟩ := h.ok I.hok
    exact ⟨its, r, ⟨_, n, e, rfl, rfl, rfl⟩, z⟩
  · refine ⟨its.toList, r, ⟨o, n, I.kIn a o hk, hc, hd, by simpa using hs⟩, ?_⟩
    have e := r.length
    simp only [Array.length_toList] at e
    omega
theorem Inv.tuple (I : Inv X pins σ H s) (h : SqT X.K H a xs) : ∃ its : List Value, Vals xs its ∧ IsTup s.heap a its.toArray ∧ xs.length ≤ sizeLine := by
  rcases h with h | ⟨o, its, n, hk, hc, hs, hz, r⟩
  · obtain ⟨z, its, r, p⟩ := h.ok I.hok
    exact ⟨its, r, p, z⟩
  · refine ⟨its.toList, r, ⟨o, I.kIn a o hk, hc, n, by simpa using hs⟩, ?_⟩
    have e := r.length
    simp only [Array.length_toList] at e
    omega
theorem Inv.list_inj (I : Inv X pins σ H s) (h : SqL X.K H a xs) (h' : SqL X.K H a ys) : xs = ys := by
  obtain ⟨its, r, ⟨o, n, e, _, _, d⟩, _⟩ := I.list h
  obtain ⟨its', r', ⟨o', n', e', _, _, d'⟩, _⟩ := I.list h'
  rw [e] at e'; cases e'
  rw [d] at d'
  injection d' with d1 _
  have : its = its' := by simpa using congrArg Array.toList d1
  subst this
  exact r.inj r'
end

/-! ### another wish about exceptions -/
abbrev Cx.wish (X : Cx) (E : Value → Shared → Prop) : Cx := { X with xe := E }
/-- no exception leaves -/
abbrev Cx.nox (X : Cx) : Cx := X.wish fun _ _ => False
theorem Cx.Ok.wish {X : Cx} (ok : X.Ok) (E : Value → Shared → Prop) : (X.wish E).Ok :=
  ⟨ok.mod, ok.kind, ok.glob, ok.blt, ok.above, ok.inj, ok.has, ok.cab, ok.hd, ok.frames, ok.stk, ok.exf, ok.bs, ok.bsz, ok.noex, ok.exfs, ok.funs, ok.frf⟩
theorem Cx.Ok.unwish {X : Cx} {E : Value → Shared → Prop} (ok : (X.wish E).Ok) : X.Ok :=
  ⟨ok.mod, ok.kind, ok.glob, ok.blt, ok.above, ok.inj, ok.has, ok.cab, ok.hd, ok.frames, ok.stk, ok.exf, ok.bs, ok.bsz, ok.noex, ok.exfs, ok.funs, ok.frf⟩
section
variable {X : Cx} {pins : List (Addr × Obj)} {σ : St} {H : Hp} {s : Shared} {E : Value → Shared → Prop}
theorem Inv.wish (I : Inv X pins σ H s) (E : Value → Shared → Prop) : Inv (X.wish E) pins σ H s := ⟨I.ok.wish E, I.os, I.bare, I.base, I.loc, I.cell, I.free, I.freeC, I.pin, I.hok, I.len⟩
theorem Inv.unwish (I : Inv (X.wish E) pins σ H s) : Inv X pins σ H s := ⟨I.ok.unwish, I.os, I.bare, I.base, I.loc, I.cell, I.free, I.freeC, I.pin, I.hok, I.len⟩
theorem SP.unwish {D : Ends} {f : Flow} {s' : Shared} (h : SP (X.wish E) pins D f s') : SP X pins D f s' := by
  cases f with
  | next => obtain ⟨σ', H', I, q⟩ := h; exact ⟨σ', H', I.unwish, q⟩
  | brk => obtain ⟨σ', H', I, q⟩ := h; exact ⟨σ', H', I.unwish, q⟩
  | cont => obtain ⟨σ', H', I, q⟩ := h; exact ⟨σ', H', I.unwish, q⟩
  | ret u => obtain ⟨v, σ', H', I, r, q⟩ := h; exact ⟨v, σ', H', I.unwish, r, q⟩
theorem PSs.nox {st : List Stmt} {t : TS} (h : PSs X.nox st t) : PSs X st t := fun pins s σ H D I hw =>
  wpAny_mono (h pins s σ H D (I.wish _) hw) (fun _ _ q => q.unwish) fun _ _ z => False.elim z
end

/-! ### blocks and small statements -/
section
variable {X : Cx} {st : Stmt} {rest : List Stmt} {t u : TS} {e : Expr} {te : TE} {pos : Pos}
def tNext : TS := fun D σ H => D.nx σ H
def tSeq (t u : TS) : TS := fun D σ H => t { D with nx := u D } σ H
theorem pss_nil : PSs X [] tNext := fun _ _ σ H _ I h => wpAny_execs_nil ⟨σ, H, I, h⟩
theorem pss_cons (h1 : PS X st t) (h2 : PSs X rest u) : PSs X (st :: rest) (tSeq t u) := by
  intro pins s σ H D I h
  refine wpAny_execs_cons (thn (h1 pins s σ H { D with nx := u D } I h) fun f s1 q => ?_)
  cases f with
  | next =>
    obtain ⟨σ', H', I', q⟩ := q
    exact h2 pins s1 σ' H' D I' q
  | ret v => exact q
  | brk => exact q
  | cont => exact q
theorem pss_one (h1 : PS X st t) : PSs X [st] t := by
  intro pins s σ H D I h
  refine wpAny_execs_cons (thn (h1 pins s σ H D I h) fun f s1 q => ?_)
  cases f with
  | next => exact wpAny_execs_nil q
  | ret v => exact q
  | brk => exact q
  | cont => exact q
/-- in a def's body nothing is shown -/
theorem Inv.quiet {pins : List (Addr × Obj)} {σ : St} {H : Hp} {s : Shared} (I : Inv X pins σ H s) : interactive X.env = false := by simp [interactive, I.ok.kind]
/-- an expression whose value is dropped -/
def tDrop (te : TE) : TS := fun D σ H => te σ H fun _ H1 => D.nx σ H1
theorem ps_expr (he : PE X e te) (hs : swapsWith e none pos.line X.env = pure false := by rfl) : PS X (.Expr e pos) (tDrop te) := by
  intro pins s σ H D I h
  exact wpAny_Expr_any (thn (he pins s σ H _ I h) fun v s1 ⟨x, H1, I1, r1, q1⟩ => ⟨σ, H1, I1, q1⟩) I.quiet hs
def tRet (te : TE) : TS := fun D σ H => te σ H D.rt
theorem ps_ret (he : PE X e te) : PS X (.Return (some e) pos) (tRet te) := by
  intro pins s σ H D I h
  exact wpAny_Return_some (thn (he pins s σ H _ I h) fun v s1 ⟨x, H1, I1, r1, q1⟩ => ⟨x, σ, H1, I1, r1, q1⟩)
def tRetN : TS := fun D _ H => D.rt .non H
theorem ps_retN : PS X (.Return none pos) tRetN := fun _ _ σ H _ I h => wpAny_Return_none ⟨.non, σ, H, I, rfl, h⟩
def tIfS (c : TT) (t u : TS) : TS := fun D σ H => c σ H fun b H1 => if b = true then t D σ H1 else u D σ H1
theorem ps_if {c : Expr} {a b : List Stmt} {tc : TT} (hc : PT X c tc) (ha : PSs X a t) (hb : PSs X b u) : PS X (.If c a b pos) (tIfS tc t u) := by
  intro pins s σ H D I h
  refine wpAny_If (thn (hc pins s σ H _ I h) fun d s1 ⟨H1, I1, q1⟩ => ?_)
  cases d with
  | true => exact ha pins s1 σ H1 D I1 q1
  | false => exact hb pins s1 σ H1 D I1 q1
/-- code that the proof never comes to -/
def tNever : TS := fun _ _ _ => False
theorem ps_never : PS X st tNever := fun _ _ _ _ _ _ h => h.elim
end

/-! ### targets -/
abbrev TG := V → St → Hp → (St → Hp → Prop) → Prop
def PG (X : Cx) (target : Expr) (t : TG) : Prop :=
  ∀ (pins : List (Addr × Obj)) (s : Shared) (σ : St) (H : Hp) (v : V) (u : Value) (Q : St → Hp → Prop), Inv X pins σ H s → RelV v u → t v σ H Q →
    wpAny (model X.prog X.w) X.A (assign target X.env u) (fun _ s' => ∃ σ' H', Inv X pins σ' H' s' ∧ Q σ' H') X.xe s
section
variable {X : Cx} {pos : Pos}
def gName (i : Nat) : TG := fun v σ H Q => Q (σ.set i (some v)) H
theorem pg_name {i : Nat} {x : Str} (hN : X.N.Nodup) (hi : X.N[i]? = some x) (hx : Loc X.env.scope x) (hf : X.fn x = true ∨ X.env.scope.names.lookup x = some .local := by first | exact .inl rfl | exact .inr rfl | assumption) : PG X (.Name x pos) (gName i) := by
  intro pins s σ H v u Q I r h
  exact wpAny_assign_Name (store_ok I hN hi hx r (fun s' I' => ⟨_, H, I', h⟩) hf)
/-- target = value -/
def tAsg (te : TE) (g : TG) : TS := fun D σ H => te σ H fun x H1 => g x σ H1 D.nx
/-- name = value -/
theorem ps_set {i : Nat} {x : Str} {e : Expr} {te : TE} {pos' : Pos} (hN : X.N.Nodup) (hi : X.N[i]? = some x) (hx : Loc X.env.scope x) (he : PE X e te) (hs : swapsWith e (some (.Name x pos')) pos.line X.env = pure false := by rfl) (hf : X.fn x = true ∨ X.env.scope.names.lookup x = some .local := by first | exact .inl rfl | exact .inr rfl | assumption) :
    PS X (.Assign [.Name x pos'] e pos) (tAsg te (gName i)) := by
  intro pins s σ H D I h
  refine wpAny_Assign_Name (thn (he pins s σ H _ I h) fun v s1 ⟨y, H1, I1, r1, q1⟩ => ?_) hs
  exact store_ok I1 hN hi hx r1 (fun s2 I2 => ⟨_, H1, I2, q1⟩) hf
end

/-! ### while -/
section
variable {X : Cx} {pos : Pos}
/-- the invariant W with its measure -/
def tWhile (c : TT) (tb : TS) : TS := fun D σ H => ∃ W : Nat → St → Hp → Prop, (∃ m, W m σ H) ∧ ∀ m σ H, W m σ H →
  c σ H fun b H1 => if b = true then ∃ N : St → Hp → Prop, (∀ σ' H', N σ' H' → ∃ m', m' < m ∧ W m' σ' H') ∧ tb { D with nx := N, ct := N, bk := D.nx } σ H1 else D.nx σ H1
theorem ps_while {c : Expr} {body : List Stmt} {tc : TT} {tb : TS} (hp : PassesOwn (model X.prog X.w) X.A X.env X.xe) (hc : PT X c tc) (hb : PSs X body tb) : PS X (.While c body [] pos) (tWhile tc tb) := by
  intro pins s σ H D I h
  obtain ⟨W, ⟨m0, w0⟩, turn⟩ := h
  refine wpAny_While (codeAny_whileLoop (fun n s' => ∃ σ' H', Inv X pins σ' H' s' ∧ W n σ' H') ?_ m0 ⟨σ, H, I, w0⟩)
  rintro n s1 ⟨σ1, H1, I1, w1⟩
  refine wpAny_passesOwn hp (thn (hc pins s1 σ1 H1 _ I1 (turn n σ1 H1 w1)) fun b s2 ⟨H2, I2, q2⟩ => ?_)
  cases b with
  | true =>
    obtain ⟨N, hN, q2⟩ := q2
    rw [if_pos rfl]
    refine wpAny_passesOwn hp (thn (hb pins s2 σ1 H2 _ I2 q2) fun f s3 q3 => ?_)
    cases f with
    | next =>
      obtain ⟨σ3, H3, I3, n3⟩ := q3
      obtain ⟨m', hm, w3⟩ := hN σ3 H3 n3
      exact ⟨m', hm, σ3, H3, I3, w3⟩
    | cont =>
      obtain ⟨σ3, H3, I3, n3⟩ := q3
      obtain ⟨m', hm, w3⟩ := hN σ3 H3 n3
      exact ⟨m', hm, σ3, H3, I3, w3⟩
    | brk => exact q3
    | ret v => exact q3
  | false =>
    rw [if_neg Bool.false_ne_true]
    exact wpAny_execs_nil ⟨σ1, H2, I2, q2⟩
end

/-! ### what a loop or a comprehension walks -/
/-- at turn i: it yields x (the heap may grow), or it stops -/
structure It where
  go : Nat → Hp → Prop
  yld : Nat → Hp → V → Hp → Prop
  stop : Nat → Hp → Prop
/-- the iterator's own objects may turn: they are not the frame's, not pinned, younger than the entry (or a comprehension's own) -/
def FpOk (X : Cx) (pins : List (Addr × Obj)) (H : Hp) (b : Addr) : Prop :=
  H b = none ∧ b ≠ X.env.locals ∧ b ∉ X.fs ∧ (b ∈ X.ex ∨ X.s_0.heap.objs.size ≤ b) ∧ (∀ x c, X.env.cells.lookup x = some c → c ≠ b) ∧ ∀ p ∈ X.pn ++ pins, p.1 ≠ b
theorem Inv.fpOk {X : Cx} {pins : List (Addr × Obj)} {σ : St} {H H' : Hp} {s : Shared} {b : Addr} (I : Inv X pins σ H s) (hb : s.heap.objs.size ≤ b) (hn : H' b = none) : FpOk X pins H' b := by
  refine ⟨hn, Nat.ne_of_gt (Nat.lt_of_lt_of_le I.lt hb), I.nofs hb, .inr (Nat.le_trans I.sz hb), fun x c e z => ?_, fun p hp z => ?_⟩
  · obtain ⟨v, q⟩ := I.cell x c e
    exact absurd (Nat.lt_of_lt_of_le q.lt (by rw [z]; exact hb)) (Nat.lt_irrefl _)
  · exact absurd (Nat.lt_of_lt_of_le (Heap.lt_size (I.pin p hp).1) (by rw [z]; exact hb)) (Nat.lt_irrefl _)
structure Turn (P : Program) (w : World) (K : PySem.W.Frag) (tg : Expr) (J : It) (fp : List Addr) (it : Addr) (tn : Nat → Heap → Prop) : Prop where
  mem : it ∈ fp
  obj : ∀ i h, tn i h → ∀ b ∈ fp, ∃ o, h.get? b = some o ∧ ∀ v, o.data ≠ .cell v
  keep : ∀ i h h', tn i h → (∀ b ∈ fp, ∀ o, h.get? b = some o → h'.get? b = some o) → tn i h'
  item : ∀ (X : Cx), X.prog = P → X.w = w → X.K = K → X.calm = true → ∀ (i : Nat) (pins : List (Addr × Obj)) (s : Shared) (σ : St) (H : Hp) (E : Value → Shared → Prop), Inv X pins σ H s → (∀ b ∈ fp, FpOk X pins H b) → tn i s.heap → J.go i H →
    wpAny (model P w) X.A (pyNext (.ref it)) (fun r s1 => ∃ u, r = some u ∧
      wpAny (model P w) X.A (letOwnedTupleGo tg (.ref it) u) (fun _ s2 => ∃ x H', Inv X pins σ H' s2 ∧ RelV x u ∧ J.yld i H x H' ∧ tn (i + 1) s2.heap ∧ ∀ b ∈ fp, H' b = none) E s1) E s
  done : ∀ (X : Cx), X.prog = P → X.w = w → X.K = K → X.calm = true → ∀ (i : Nat) (pins : List (Addr × Obj)) (s : Shared) (σ : St) (H : Hp) (E : Value → Shared → Prop), Inv X pins σ H s → (∀ b ∈ fp, FpOk X pins H b) → tn i s.heap → J.stop i H →
    wpAny (model P w) X.A (pyNext (.ref it)) (fun r s1 => r = none ∧ Inv X pins σ H s1) E s
  self : ∀ (A : Around) (i : Nat) (s : Shared) (Q : Value → Shared → Prop) (E : Value → Shared → Prop), tn i s.heap → Q (.ref it) s → wpAny (model P w) A (pyIter (.ref it)) Q E s
abbrev TI := St → Hp → (It → Hp → Prop) → Prop
/-- an iterator has come -/
def PIE (X : Cx) (pins : List (Addr × Obj)) (σ : St) (tg : Expr) (R : It → Hp → Prop) (itv : Value) (s2 : Shared) : Prop :=
  ∃ (it : Addr) (fp : List Addr) (tn : Nat → Heap → Prop) (J : It) (H' : Hp), itv = .ref it ∧ Inv X pins σ H' s2 ∧ Turn X.prog X.w X.K tg J fp it tn ∧ tn 0 s2.heap ∧ (∀ b ∈ fp, FpOk X pins H' b) ∧ R J H'
def PI (X : Cx) (tg iter : Expr) (wi : TI) : Prop :=
  ∀ (pins : List (Addr × Obj)) (s : Shared) (σ : St) (H : Hp) (R : It → Hp → Prop), Inv X pins σ H s → wi σ H R →
    wpAny (model X.prog X.w) X.A (eval iter X.env) (fun v s1 => wpAny (model X.prog X.w) X.A (pyIter v) (PIE X pins σ tg R) X.xe s1) X.xe s

/-- the step ahead of the store is nothing for an iterator that keeps no tuple -/
theorem go_of {M : Model} {A : Around} {E : Value → Shared → Prop} {s : Shared} {tg : Expr} {it : Addr} {u : Value} {o : Obj} {n : String} {vs : Array Value} {Q : Unit → Shared → Prop} (ho : s.heap.get? it = some o) (hc : o.cls = .type n) (hd : o.data = .fields vs)
    (hn : ["enumerate", "zip", "dict_itemiterator", "dict_reverseitemiterator", "odict_iterator", "itertools.zip_longest", "itertools.pairwise"].contains n = false) (hQ : Q () s) : wpAny M A (letOwnedTupleGo tg (.ref it) u) Q E s := by
  unfold letOwnedTupleGo
  cases tg <;> first
    | exact wpAny_pure hQ
    | (cases u <;> first
        | exact wpAny_pure hQ
        | (refine wpAny_bind (wpAny_load ho ?_)
           rw [hc, hd]
           show wpAny M A (if (["enumerate", "zip", "dict_itemiterator", "dict_reverseitemiterator", "odict_iterator", "itertools.zip_longest", "itertools.pairwise"].contains n && vs[0]? == some (rawInt _)) = true then _ else _) Q E s
           rw [if_neg (by intro h; rw [hn, Bool.false_and] at h; cases h)]
           exact wpAny_pure hQ))

/-- the list at a, as it stands at each turn (a loop may append to it) -/
def Itl (K : PySem.W.Frag) (a : Addr) : It :=
  ⟨fun i H => ∃ xs x, SqL K H a xs ∧ xs[i]? = some x, fun i H x H' => H' = H ∧ ∀ xs, SqL K H a xs → xs[i]? = some x, fun i H => ∃ xs, SqL K H a xs ∧ xs.length ≤ i⟩
theorem turn_list {P : Program} {w : World} {K : PySem.W.Frag} {tg : Expr} (a it : Addr) : Turn P w K tg (Itl K a) [it] it (fun i h => h.IsListIter it a i) where
  mem := by simp
  obj := fun i h st b hb => by
    have e : b = it := by simpa using hb
    subst e
    obtain ⟨o, e, c, d⟩ := st
    exact ⟨o, e, fun v z => by rw [d] at z; cases z⟩
  keep := fun i h h' st k => st.at fun o e => k it (by simp) o e
  item := by
    intro X hP hw hK hc i pins s σ H E I hf st hg
    subst hP hw hK
    obtain ⟨xs, x, hq, hx⟩ := hg
    obtain ⟨its, rv, p, hz⟩ := I.list hq
    obtain ⟨u, hu, ru⟩ := rv.get hx
    obtain ⟨f0, f1, f2, f3, f4, f5⟩ := hf it (by simp)
    refine wpAny_pyNext_list_item st p.isList (x := u) (by simpa using hu) fun h' st' sb => ?_
    have I1 : Inv X pins σ H { s with heap := h' } := I.turned (t' := s.toks) (fun b o hb e => (sb.2 b hb).trans e) f0 f1 f3 f4 f5
    obtain ⟨o, e, c, d⟩ := id st'
    exact ⟨u, rfl, go_of (s := { s with heap := h' }) e c d (by decide) ⟨x, H, I1, ru, ⟨rfl, fun ys hy => by rw [I.list_inj hy hq]; exact hx⟩, st', fun b hb => (hf b hb).1⟩⟩
  done := by
    intro X hP hw hK hc i pins s σ H E I hf st hg
    subst hP hw hK
    obtain ⟨xs, hq, hx⟩ := hg
    obtain ⟨its, rv, p, hz⟩ := I.list hq
    obtain ⟨f0, f1, f2, f3, f4, f5⟩ := hf it (by simp)
    have hl := rv.length
    exact wpAny_pyNext_list_end (I.ok.hd hc) st p.isList (by simp; omega) fun h' eb => ⟨rfl, I.turned (t' := s.toks) (fun b o hb e => eb b o hb e) f0 f1 f3 f4 f5⟩
  self := fun _ _ _ _ _ st h => wpAny_pyIter_listiter st h
end L2

namespace L2
open PySem PySem.Spec PyProof.Rows
section
variable {X : Cx} {tg : Expr}
def iList (K : PySem.W.Frag) (tl : TE) : TI := fun σ H R => tl σ H fun x H1 => ∃ a, x = .ref a ∧ (∃ xs, SqL K H1 a xs) ∧ R (Itl K a) H1
theorem pi_list {l : Expr} {tl : TE} (hl : PE X l tl) : PI X tg l (iList X.K tl) := by
  intro pins s σ H R I h
  refine thn (hl pins s σ H _ I h) fun v s1 ⟨x, H1, I1, r1, q1⟩ => ?_
  obtain ⟨a, e, ⟨xs, hq⟩, q⟩ := q1
  subst e
  cases r1
  obtain ⟨its, rv, p, hz⟩ := I1.list hq
  refine wpAny_pyIter_list p.isList ?_
  refine ⟨s1.heap.objs.size, [s1.heap.objs.size], _, _, H1, rfl, I1.kept (t' := s1.toks) fun b o e => Heap.get?_push_of_some _ e, turn_list a _, ⟨_, Heap.get?_push_size _ rfl, rfl, rfl⟩, fun b hb => ?_, q⟩
  have e : b = s1.heap.objs.size := by simpa using hb
  subst e
  exact I1.fpOk (Nat.le_refl _) (I1.hok.fresh (Nat.le_refl _))
/-! ### for -/
/-- W: the invariant by the turn and a measure; N: what the body is to reach -/
def tFor (wi : TI) (g : TG) (tb : TS) : TS := fun D σ H => wi σ H fun J H1 => ∃ W : Nat → Nat → St → Hp → Prop, (∃ m, W 0 m σ H1) ∧ ∀ i m σ H, W i m σ H →
  (J.stop i H ∧ D.nx σ H) ∨ (J.go i H ∧ ∃ N : St → Hp → Prop, (∀ σ' H', N σ' H' → ∃ m', m' < m ∧ W (i + 1) m' σ' H') ∧ ∀ x H', J.yld i H x H' → g x σ H' fun σ2 H2 => tb { D with nx := N, ct := N, bk := D.nx } σ2 H2)
/-- the records at fp as they stand -/
def pinsAt (fp : List Addr) (h : Heap) : List (Addr × Obj) := fp.filterMap fun b => (h.get? b).map fun o => (b, o)
theorem mem_pinsAt {fp : List Addr} {h : Heap} {b : Addr} {o : Obj} (hb : b ∈ fp) (e : h.get? b = some o) : (b, o) ∈ pinsAt fp h := List.mem_filterMap.mpr ⟨b, hb, by rw [e]; rfl⟩
theorem of_pinsAt {fp : List Addr} {h : Heap} {p : Addr × Obj} (hp : p ∈ pinsAt fp h) : p.1 ∈ fp ∧ h.get? p.1 = some p.2 := by
  obtain ⟨b, hb, e⟩ := List.mem_filterMap.mp hp
  cases q : h.get? b with
  | none => rw [q] at e; cases e
  | some o =>
    rw [q] at e
    have e' : (b, o) = p := Option.some.inj e
    subst e'
    exact ⟨hb, q⟩
theorem Inv.pinned {pins : List (Addr × Obj)} {σ : St} {H : Hp} {s : Shared} {fp : List Addr} (I : Inv X pins σ H s) (hf : ∀ b ∈ fp, FpOk X pins H b) (ho : ∀ b ∈ fp, ∃ o, s.heap.get? b = some o ∧ ∀ v, o.data ≠ .cell v) : Inv X (pins ++ pinsAt fp s.heap) σ H s :=
  I.pins_of fun p hp => (List.mem_append.mp hp).elim (fun z => I.pin p (List.mem_append_right _ z)) fun z => by
    obtain ⟨hb, e⟩ := of_pinsAt z
    obtain ⟨f0, f1, f2, _⟩ := hf p.1 hb
    obtain ⟨o, e', d⟩ := ho p.1 hb
    rw [e] at e'; cases e'
    exact ⟨e, f0, f1, f2, d⟩
theorem Inv.unpinned {pins pl : List (Addr × Obj)} {σ : St} {H : Hp} {s : Shared} (I : Inv X (pins ++ pl) σ H s) : Inv X pins σ H s := I.pins_of fun p hp => I.pin p (List.mem_append_right _ (List.mem_append_left _ hp))
theorem ps_for {iter : Expr} {body : List Stmt} {wi : TI} {g : TG} {tb : TS} {pos : Pos} (hp : PassesOwn (model X.prog X.w) X.A X.env X.xe) (hc : X.calm = true) (hi : PI X tg iter wi) (hg : PG X tg g) (hb : PSs X body tb)
    (hs : ∀ x, foldedSetIterable iter X.env x = pure x := by intro _; rfl) : PS X (.For tg iter body [] pos) (tFor wi g tb) := by
  intro pins s σ H D I h
  refine wpAny_For (thn (hi pins s σ H _ I h) fun v s1 h1 => thn h1 fun itv s2 h2 => ?_) hs
  obtain ⟨it, fp, tn, J, H2, e, I2, T, st2, f2, W, ⟨m0, w0⟩, turn⟩ := h2
  subst e
  -- what stays true of the iterator's objects through the loop
  have stat : ∀ {H' : Hp}, (∀ b ∈ fp, H' b = none) → ∀ b ∈ fp, FpOk X pins H' b := fun hn b hb => ⟨hn b hb, (f2 b hb).2⟩
  refine codeAny_forLoop_any (fun n s' => ∃ i σ' H', Inv X pins σ' H' s' ∧ tn i s'.heap ∧ (∀ b ∈ fp, H' b = none) ∧ W i n σ' H') ?_ m0 ⟨0, σ, H2, I2, st2, fun b hb => (f2 b hb).1, w0⟩
  rintro n s3 ⟨i, σ3, H3, I3, st3, fr3, w3⟩
  rcases turn i n σ3 H3 w3 with ⟨stop, qn⟩ | ⟨go, N, hN, step⟩
  · refine wpAny_passesOwn hp (thn (T.done X rfl rfl rfl hc i pins s3 σ3 H3 X.xe I3 (stat fr3) st3 stop) fun r s4 ⟨hr, I4⟩ => ?_)
    subst hr
    exact wpAny_execs_nil ⟨σ3, H3, I4, qn⟩
  · refine wpAny_passesOwn hp (thn (T.item X rfl rfl rfl hc i pins s3 σ3 H3 X.xe I3 (stat fr3) st3 go) fun r s4 ⟨u, hr, h4⟩ => ?_)
    subst hr
    refine wpAny_passesOwn hp (thn h4 fun _ s5 ⟨x, H5, I5, r5, y5, st5, fr5⟩ => ?_)
    have I5' := I5.pinned (stat fr5) (T.obj _ _ st5)
    refine wpAny_passesOwn hp (thn (hg _ s5 σ3 H5 x u _ I5' r5 (step x H5 y5)) fun _ s6 ⟨σ6, H6, I6, q6⟩ => ?_)
    refine wpAny_passesOwn hp (thn (hb _ s6 σ6 H6 _ I6 q6) fun f s7 q7 => ?_)
    have again : ∀ {σ7 : St} {H7 : Hp}, Inv X (pins ++ pinsAt fp s5.heap) σ7 H7 s7 → N σ7 H7 → ∃ m, m < n ∧ ∃ i σ' H', Inv X pins σ' H' s7 ∧ tn i s7.heap ∧ (∀ b ∈ fp, H' b = none) ∧ W i m σ' H' := fun {σ7 H7} I7 n7 => by
      obtain ⟨m', hm, w7⟩ := hN σ7 H7 n7
      refine ⟨m', hm, i + 1, σ7, H7, I7.unpinned, T.keep _ _ _ st5 fun b hb o e => (I7.pin (b, o) (List.mem_append_right _ (List.mem_append_right _ (mem_pinsAt hb e)))).1, fun b hb => ?_, w7⟩
      obtain ⟨o, e, d⟩ := T.obj _ _ st5 b hb
      exact (I7.pin (b, o) (List.mem_append_right _ (List.mem_append_right _ (mem_pinsAt hb e)))).2.1
    cases f with
    | next => obtain ⟨σ7, H7, I7, n7⟩ := q7; exact again I7 n7
    | cont => obtain ⟨σ7, H7, I7, n7⟩ := q7; exact again I7 n7
    | brk => obtain ⟨σ7, H7, I7, q7⟩ := q7; exact ⟨σ7, H7, I7.unpinned, q7⟩
    | ret v => obtain ⟨x7, σ7, H7, I7, r7, q7⟩ := q7; exact ⟨x7, σ7, H7, I7.unpinned, r7, q7⟩
end

/-! ### the forms one uses -/
/-- over a list that the body leaves as it is -/
theorem for_list {K : PySem.W.Frag} {a : Addr} {xs : List V} {g : TG} {tb : TS} {D : Ends} {σ : St} {H : Hp} (Pv : Nat → St → Hp → Prop) (h0 : Pv 0 σ H) (hl : ∀ i σ H, i ≤ xs.length → Pv i σ H → SqL K H a xs)
    (hs : ∀ i x σ H, xs[i]? = some x → Pv i σ H → g x σ H fun σ2 H2 => tb { D with nx := Pv (i + 1), ct := Pv (i + 1), bk := D.nx } σ2 H2) (hd : ∀ σ H, Pv xs.length σ H → D.nx σ H) :
    ∃ W : Nat → Nat → St → Hp → Prop, (∃ m, W 0 m σ H) ∧ ∀ i m σ H, W i m σ H →
      ((Itl K a).stop i H ∧ D.nx σ H) ∨ ((Itl K a).go i H ∧ ∃ N : St → Hp → Prop, (∀ σ' H', N σ' H' → ∃ m', m' < m ∧ W (i + 1) m' σ' H') ∧ ∀ x H', (Itl K a).yld i H x H' → g x σ H' fun σ2 H2 => tb { D with nx := N, ct := N, bk := D.nx } σ2 H2) := by
  refine ⟨fun i m σ H => m = xs.length - i ∧ i ≤ xs.length ∧ Pv i σ H, ⟨xs.length, by simp, Nat.zero_le _, h0⟩, ?_⟩
  rintro i m σ H ⟨rfl, hi, p⟩
  have q := hl i σ H hi p
  by_cases hlt : i < xs.length
  · refine .inr ⟨⟨xs, xs[i], q, by simp [hlt]⟩, Pv (i + 1), fun σ' H' p' => ⟨xs.length - (i + 1), by omega, rfl, hlt, p'⟩, fun x H' y => ?_⟩
    obtain ⟨e, y⟩ := y
    subst e
    exact hs i x σ _ (y xs q) p
  · have e : i = xs.length := by omega
    subst e
    exact .inl ⟨⟨xs, q, Nat.le_refl _⟩, hd σ H p⟩
/-- while, by a word and a measure of the state -/
theorem while_by {c : TT} {tb : TS} {D : Ends} {σ : St} {H : Hp} (Pv : St → Hp → Prop) (μ : St → Hp → Nat) (h0 : Pv σ H)
    (hs : ∀ σ H, Pv σ H → c σ H fun b H1 => if b = true then tb { D with nx := fun σ' H' => Pv σ' H' ∧ μ σ' H' < μ σ H, ct := fun σ' H' => Pv σ' H' ∧ μ σ' H' < μ σ H, bk := D.nx } σ H1 else D.nx σ H1)
    (mono : ∀ σ H Q Q', (∀ b H1, Q b H1 → Q' b H1) → c σ H Q → c σ H Q') : tWhile c tb D σ H := by
  refine ⟨fun m σ H => m = μ σ H ∧ Pv σ H, ⟨_, rfl, h0⟩, ?_⟩
  rintro m σ H ⟨rfl, p⟩
  refine mono σ H _ _ (fun b H1 q => ?_) (hs σ H p)
  cases b with
  | true => exact ⟨_, fun σ' H' ⟨p', l⟩ => ⟨_, l, rfl, p'⟩, q⟩
  | false => exact q
end L2

namespace L2
open PySem PySem.Spec PyProof.Rows

abbrev R2 := V → V → Hp → VK → Prop
/-- a two-place operation on values: f is binaryOp op, inplaceOp op or compareOp op -/
def OpR (X : Cx) (f : Value → Value → Sem Value) (r : R2) : Prop :=
  ∀ (pins : List (Addr × Obj)) (s : Shared) (σ : St) (H : Hp) (x y : V) (v u : Value) (Q : VK), Inv X pins σ H s → RelV x v → RelV y u → r x y H Q →
    wpAny (model X.prog X.w) X.A (f v u) (EP X pins σ Q) X.xe s
/-- a one-place operation -/
def UnR (X : Cx) (f : Value → Sem Value) (r : V → Hp → VK → Prop) : Prop :=
  ∀ (pins : List (Addr × Obj)) (s : Shared) (σ : St) (H : Hp) (x : V) (v : Value) (Q : VK), Inv X pins σ H s → RelV x v → r x H Q →
    wpAny (model X.prog X.w) X.A (f v) (EP X pins σ Q) X.xe s
/-- a call of a value that is known (a builtin, a type) with values -/
def CallR (X : Cx) (f : Value) (r : List V → Hp → VK → Prop) : Prop :=
  ∀ (pins : List (Addr × Obj)) (s : Shared) (σ : St) (H : Hp) (xs : List V) (us : List Value) (Q : VK), Inv X pins σ H s → Vals xs us → r xs H Q →
    wpAny (model X.prog X.w) X.A (call f us) (EP X pins σ Q) X.xe s
def tOp (r : R2) (ta tb : TE) : TE := fun σ H Q => ta σ H fun x H1 => tb σ H1 fun y H2 => r x y H2 Q
def tUn (r : V → Hp → VK → Prop) (ta : TE) : TE := fun σ H Q => ta σ H fun x H1 => r x H1 Q
/-- ints in, under C, and a value out -/
def rI (C : Int → Int → Prop) (g : Int → Int → V) : R2 := fun x y H Q => ∃ i j, x = .int i ∧ y = .int j ∧ C i j ∧ Q (g i j) H
def rI0 (g : Int → Int → V) : R2 := fun x y H Q => ∃ i j, x = .int i ∧ y = .int j ∧ Q (g i j) H
def rU (g : Int → V) : V → Hp → VK → Prop := fun x H Q => ∃ i, x = .int i ∧ Q (g i) H

section
variable {X : Cx} {a b c : Expr} {ta tb tc : TE} {pos : Pos}

theorem binT (ha : PE X a ta) (hb : PE X b tb) {pins : List (Addr × Obj)} {s : Shared} {σ : St} {H : Hp} {R : V → V → Hp → Prop} (I : Inv X pins σ H s)
    (h : ta σ H fun x H1 => tb σ H1 fun y H2 => R x y H2) {Q : Value → Shared → Prop} {f : Value → Value → Sem Value}
    (hf : ∀ v u s2 x y H2, Inv X pins σ H2 s2 → RelV x v → RelV y u → R x y H2 → wpAny (model X.prog X.w) X.A (f v u) Q X.xe s2) :
    wpAny (model X.prog X.w) X.A (eval a X.env) (fun v s₁ => wpAny (model X.prog X.w) X.A (eval b X.env) (fun u s₂ => wpAny (model X.prog X.w) X.A (f v u) Q X.xe s₂) X.xe s₁) X.xe s := by
  refine thn (ha pins s σ H _ I h) fun v s1 ⟨x, H1, I1, r1, q1⟩ => ?_
  refine thn (hb pins s1 σ H1 _ I1 q1) fun u s2 ⟨y, H2, I2, r2, q2⟩ => ?_
  exact hf v u s2 x y H2 I2 r1 r2 q2

theorem pe_op {op : Operator} {r : R2} (ho : OpR X (binaryOp op) r) (ha : PE X a ta) (hb : PE X b tb) : PE X (.BinOp a op b pos) (tOp r ta tb) := by
  intro pins s σ H Q I h
  exact wpAny_BinOp (binT ha hb I h fun v u s2 x y H2 I2 rx ry q => ho pins s2 σ H2 x y v u Q I2 rx ry q)
theorem pe_un {op : UnaryOp} {r : V → Hp → VK → Prop} (ho : UnR X (unaryOp op) r) (ha : PE X a ta) : PE X (.UnaryOp op a pos) (tUn r ta) := by
  intro pins s σ H Q I h
  exact UnaryOp_ (thn (ha pins s σ H _ I h) fun v s1 ⟨x, H1, I1, r1, q1⟩ => ho pins s1 σ H1 x v Q I1 r1 q1)
/-! ### ints -/
theorem opI {f : Value → Value → Sem Value} {C : Int → Int → Prop} {g : Int → Int → Int}
    (rule : ∀ (i j : Int) (t u : Tok) (s : Shared) (Q : Value → Shared → Prop) (E : Value → Shared → Prop), C i j → Q (.int (g i j) s.toks) { s with toks := s.toks + 1 } → wpAny (model X.prog X.w) X.A (f (.int i t) (.int j u)) Q E s) :
    OpR X f (rI C fun i j => .int (g i j)) := by
  intro pins s σ H x y v u Q I rx ry h
  obtain ⟨i, j, rfl, rfl, hc, q⟩ := h
  obtain ⟨t, rfl⟩ := rx
  obtain ⟨t', rfl⟩ := ry
  exact rule i j t t' s _ _ hc ⟨.int (g i j), H, I.tok _, ⟨_, rfl⟩, q⟩
theorem opI0 {f : Value → Value → Sem Value} {g : Int → Int → Int}
    (rule : ∀ (i j : Int) (t u : Tok) (s : Shared) (Q : Value → Shared → Prop) (E : Value → Shared → Prop), Q (.int (g i j) s.toks) { s with toks := s.toks + 1 } → wpAny (model X.prog X.w) X.A (f (.int i t) (.int j u)) Q E s) :
    OpR X f (rI0 fun i j => .int (g i j)) := by
  intro pins s σ H x y v u Q I rx ry h
  obtain ⟨i, j, rfl, rfl, q⟩ := h
  obtain ⟨t, rfl⟩ := rx
  obtain ⟨t', rfl⟩ := ry
  exact rule i j t t' s _ _ ⟨.int (g i j), H, I.tok _, ⟨_, rfl⟩, q⟩
theorem opB0 {f : Value → Value → Sem Value} {g : Int → Int → Bool}
    (rule : ∀ (i j : Int) (t u : Tok) (s : Shared) (Q : Value → Shared → Prop) (E : Value → Shared → Prop), Q (.bool (g i j)) s → wpAny (model X.prog X.w) X.A (f (.int i t) (.int j u)) Q E s) :
    OpR X f (rI0 fun i j => .bl (g i j)) := by
  intro pins s σ H x y v u Q I rx ry h
  obtain ⟨i, j, rfl, rfl, q⟩ := h
  obtain ⟨t, rfl⟩ := rx
  obtain ⟨t', rfl⟩ := ry
  exact rule i j t t' s _ _ ⟨.bl (g i j), H, I, rfl, q⟩

theorem op_add : OpR X (binaryOp .Add) (rI0 fun i j => .int (i + j)) := opI0 fun _ _ _ _ _ _ _ q => add_int q
theorem op_sub : OpR X (binaryOp .Sub) (rI0 fun i j => .int (i - j)) := opI0 fun _ _ _ _ _ _ _ q => sub_int q
/-- % by a positive divisor of any size -/
theorem op_mod : OpR X (binaryOp .Mod) (rI (fun _ j => 0 < j) fun i j => .int (i % j)) := opI fun i j _ _ _ _ _ hc q => by
  have h1 : (0 : Int) < j := hc
  exact mod_int' (by omega) (by rw [Int.fmod_eq_emod_of_nonneg i (by omega)]; exact q)
theorem unI {f : Value → Sem Value} {g : Int → Int}
    (rule : ∀ (i : Int) (t : Tok) (s : Shared) (Q : Value → Shared → Prop) (E : Value → Shared → Prop), Q (.int (g i) s.toks) { s with toks := s.toks + 1 } → wpAny (model X.prog X.w) X.A (f (.int i t)) Q E s) :
    UnR X f (rU fun i => .int (g i)) := by
  intro pins s σ H x v Q I rx h
  obtain ⟨i, rfl, q⟩ := h
  obtain ⟨t, rfl⟩ := rx
  exact rule i t s _ _ ⟨.int (g i), H, I.tok _, ⟨_, rfl⟩, q⟩
theorem un_neg : UnR X (unaryOp .USub) (rU fun i => .int (-i)) := unI fun _ _ _ _ _ q => neg_int q
/-! ### bools among ints: n += (a < b) -/
end

/-! ### comparisons -/
/-- the scalars that == tells apart as data does -/
def scal : V → V → Bool
  | .non, .non => true | .non, .int _ => true | .int _, .non => true | .non, .bl _ => true | .bl _, .non => true | .non, .str _ => true | .str _, .non => true
  | .int _, .int _ => true | .bl _, .bl _ => true | .str _, .str _ => true | .byt _, .byt _ => true
  | .int _, .str _ => true | .str _, .int _ => true | .bl _, .str _ => true | .str _, .bl _ => true
  | _, _ => false
def rEq : R2 := fun x y H Q => scal x y = true ∧ Q (.bl (decide (x = y))) H
def rNe : R2 := fun x y H Q => scal x y = true ∧ Q (.bl (!decide (x = y))) H

theorem dec_int {i j : Int} : decide (V.int i = V.int j) = (i == j) := by
  rw [Bool.eq_iff_iff]
  simp
theorem dec_bl {i j : Bool} : decide (V.bl i = V.bl j) = (i == j) := by
  rw [Bool.eq_iff_iff]
  simp
theorem dec_str {i j : Str} : decide (V.str i = V.str j) = (i == j) := by
  rw [Bool.eq_iff_iff]
  simp
theorem dec_byt {i j : Array UInt8} : decide (V.byt i = V.byt j) = (i.toList == j.toList) := by
  rw [Bool.eq_iff_iff]
  cases i
  cases j
  simp

section
variable {X : Cx} {a b c : Expr} {ta tb tc : TE} {pos : Pos}
theorem fin_bl {pins : List (Addr × Obj)} {σ : St} {H : Hp} {s : Shared} {Q : VK} {k k' : Bool} (I : Inv X pins σ H s) (q : Q (.bl k) H) (e : k = k') : EP X pins σ Q (.bool k') s := by
  subst e
  exact ⟨.bl k, H, I, rfl, q⟩
theorem op_eq : OpR X (compareOp .Eq) rEq := by
  intro pins s σ H x y v u Q I rx ry h
  obtain ⟨hs, q⟩ := h
  cases x with
  | non =>
    cases rx
    cases y with
    | non => cases ry; exact PySem.EqNone.eq_none_none (fin_bl I q (by simp))
    | bl j => cases ry; exact PySem.EqNone.eq_none_bool (fin_bl I q (by simp))
    | int j => obtain ⟨t', rfl⟩ := ry; exact PySem.EqNone.eq_none_int (fin_bl I q (by simp))
    | str j => obtain ⟨t', rfl⟩ := ry; exact PySem.EqNone.eq_none_str (fin_bl I q (by simp))
    | _ => exact absurd (show false = true from hs) Bool.false_ne_true
  | bl i =>
    cases rx
    cases y with
    | non => cases ry; exact PySem.EqNone.eq_bool_none (fin_bl I q (by simp))
    | bl j => cases ry; exact eq_bool (fin_bl I q dec_bl)
    | str j => obtain ⟨t', rfl⟩ := ry; exact PySem.EqMixed.eq_bool_str (fin_bl I q (by simp))
    | _ => exact absurd (show false = true from hs) Bool.false_ne_true
  | int i =>
    obtain ⟨t, rfl⟩ := rx
    cases y with
    | non => cases ry; exact PySem.EqNone.eq_int_none (fin_bl I q (by simp))
    | int j => obtain ⟨t', rfl⟩ := ry; exact eq_int (fin_bl I q dec_int)
    | str j => obtain ⟨t', rfl⟩ := ry; exact PySem.EqMixed.eq_int_str (fin_bl I q (by simp))
    | _ => exact absurd (show false = true from hs) Bool.false_ne_true
  | str i =>
    obtain ⟨t, rfl⟩ := rx
    cases y with
    | non => cases ry; exact PySem.EqNone.eq_str_none (fin_bl I q (by simp))
    | bl j => cases ry; exact PySem.EqMixed.eq_str_bool (fin_bl I q (by simp))
    | int j => obtain ⟨t', rfl⟩ := ry; exact PySem.EqMixed.eq_str_int (fin_bl I q (by simp))
    | str j => obtain ⟨t', rfl⟩ := ry; exact eq_str (fin_bl I q dec_str)
    | _ => exact absurd (show false = true from hs) Bool.false_ne_true
  | byt i =>
    obtain ⟨t, rfl⟩ := rx
    cases y with
    | byt j => obtain ⟨t', rfl⟩ := ry; exact PySem.W.eq_bytes (fin_bl I q dec_byt)
    | _ => exact absurd (show false = true from hs) Bool.false_ne_true
  | _ => cases y <;> exact absurd (show false = true from hs) Bool.false_ne_true
theorem op_ne : OpR X (compareOp .NotEq) rNe := by
  intro pins s σ H x y v u Q I rx ry h
  obtain ⟨hs, q⟩ := h
  cases x with
  | non =>
    cases rx
    cases y with
    | non => cases ry; exact PySem.EqNone.ne_none_none (fin_bl I q (by simp))
    | bl j => cases ry; exact PySem.EqNone.ne_none_bool (fin_bl I q (by simp))
    | int j => obtain ⟨t', rfl⟩ := ry; exact PySem.EqNone.ne_none_int (fin_bl I q (by simp))
    | str j => obtain ⟨t', rfl⟩ := ry; exact PySem.EqNone.ne_none_str (fin_bl I q (by simp))
    | _ => exact absurd (show false = true from hs) Bool.false_ne_true
  | bl i =>
    cases rx
    cases y with
    | non => cases ry; exact PySem.EqNone.ne_bool_none (fin_bl I q (by simp))
    | bl j => cases ry; exact ne_bool (fin_bl I q (congrArg not dec_bl))
    | str j => obtain ⟨t', rfl⟩ := ry; exact PySem.EqMixed.ne_bool_str (fin_bl I q (by simp))
    | _ => exact absurd (show false = true from hs) Bool.false_ne_true
  | int i =>
    obtain ⟨t, rfl⟩ := rx
    cases y with
    | non => cases ry; exact PySem.EqNone.ne_int_none (fin_bl I q (by simp))
    | int j => obtain ⟨t', rfl⟩ := ry; exact ne_int (fin_bl I q (congrArg not dec_int))
    | str j => obtain ⟨t', rfl⟩ := ry; exact PySem.EqMixed.ne_int_str (fin_bl I q (by simp))
    | _ => exact absurd (show false = true from hs) Bool.false_ne_true
  | str i =>
    obtain ⟨t, rfl⟩ := rx
    cases y with
    | non => cases ry; exact PySem.EqNone.ne_str_none (fin_bl I q (by simp))
    | bl j => cases ry; exact PySem.EqMixed.ne_str_bool (fin_bl I q (by simp))
    | int j => obtain ⟨t', rfl⟩ := ry; exact PySem.EqMixed.ne_str_int (fin_bl I q (by simp))
    | str j => obtain ⟨t', rfl⟩ := ry; exact ne_str (fin_bl I q (congrArg not dec_str))
    | _ => exact absurd (show false = true from hs) Bool.false_ne_true
  | byt i =>
    obtain ⟨t, rfl⟩ := rx
    cases y with
    | byt j => obtain ⟨t', rfl⟩ := ry; exact PySem.W.ne_bytes (fin_bl I q (congrArg not dec_byt))
    | _ => exact absurd (show false = true from hs) Bool.false_ne_true
  | _ => cases y <;> exact absurd (show false = true from hs) Bool.false_ne_true

theorem op_lt : OpR X (compareOp .Lt) (rI0 fun i j => .bl (decide (i < j))) := opB0 fun _ _ _ _ _ _ _ q => lt_int q
theorem op_le : OpR X (compareOp .LtE) (rI0 fun i j => .bl (decide (i ≤ j))) := opB0 fun _ _ _ _ _ _ _ q => le_int q
theorem op_gt : OpR X (compareOp .Gt) (rI0 fun i j => .bl (decide (j < i))) := opB0 fun _ _ _ _ _ _ _ q => gt_int q
theorem op_ge : OpR X (compareOp .GtE) (rI0 fun i j => .bl (decide (j ≤ i))) := opB0 fun _ _ _ _ _ _ _ q => ge_int q
theorem nomark (b : Expr) {op : CmpOp} (h : op ≠ .In := by decide) (h2 : op ≠ .NotIn := by decide) : behindInMarks op b = false := by
  have e1 : (op == CmpOp.In) = false := by cases op <;> first | rfl | exact absurd rfl h
  have e2 : (op == CmpOp.NotIn) = false := by cases op <;> first | rfl | exact absurd rfl h2
  cases b <;> simp [behindInMarks, e1, e2]
/-- a comparison as a value; hm: nomark b, or (for in, not in) by with_unfolding_all rfl -/
theorem pe_cmpR {op : CmpOp} {r : R2} (ho : OpR X (compareOp op) r) (ha : PE X a ta) (hb : PE X b tb) (hm : behindInMarks op b = false) : PE X (.Compare a [op] [b] pos) (tOp r ta tb) := by
  intro pins s σ H Q I h
  exact wpAny_Compare1 (binT ha hb I h fun v u s2 x y H2 I2 rx ry q => ho pins s2 σ H2 x y v u Q I2 rx ry q) hm
/-- a reading of a value as a test -/
def tTest (t : TE) : TT := fun σ H Q => t σ H fun x H' => ∃ k, x = .bl k ∧ Q k H'
theorem pt_cmpR {op : CmpOp} {r : R2} (ho : OpR X (compareOp op) r) (ha : PE X a ta) (hb : PE X b tb) (hm : behindInMarks op b = false) : PT X (.Compare a [op] [b] pos) (tTest (tOp r ta tb)) := by
  intro pins s σ H Q I h
  refine wpAny_isTrue_Compare1 (thn (ha pins s σ H _ I h) fun v s1 ⟨x, H1, I1, r1, q1⟩ => thn (hb pins s1 σ H1 _ I1 q1) fun u s2 ⟨y, H2, I2, r2, q2⟩ =>
    thn (ho pins s2 σ H2 x y v u _ I2 r1 r2 q2) fun c s3 ⟨z, H3, I3, r3, k, e, q3⟩ => ?_) hm
  subst e
  cases r3
  exact wpAny_truthy_bool ⟨H3, I3, q3⟩
/-! ### truth -/
theorem line63 : (sizeLine : Nat) < 2 ^ 63 := by rw [sizeLine_eq]; decide
/-! ### strs and bytes -/
/-! ### scalar builtins, by CallR -/
theorem vals1 {x : V} {us : List Value} (r : Vals [x] us) : ∃ u, us = [u] ∧ RelV x u := by
  cases r with
  | cons r1 r2 => cases r2; exact ⟨_, rfl, r1⟩
theorem vals2 {x y : V} {us : List Value} (r : Vals [x, y] us) : ∃ u w', us = [u, w'] ∧ RelV x u ∧ RelV y w' := by
  cases r with
  | cons r1 r2 =>
    cases r2 with
    | cons r3 r4 => cases r4; exact ⟨_, _, rfl, r1, r3⟩
end
end L2

namespace L2
open PySem PySem.Spec PyProof.Rows

/-! ### an instance, its attributes a map -/
structure ObjM (h : Heap) (x dx C : Addr) (mA : Str → Option Value) : Prop where
  obj : h.get? x = some (PySem.W.instObj C dx)
  ns : h.Ns1 dx mA
  ne : dx ≠ x

theorem lookIn_ns {h : Heap} {dx : Addr} {mA : Str → Option Value} (n : h.Ns1 dx mA) : ∃ od, h.get? dx = some od ∧ ∀ name, PySem.W.lookIn name od = some (mA name) := by
  obtain ⟨o, es, ep, ho, hd, hk, _, hm⟩ := n
  refine ⟨o, ho, fun name => ?_⟩
  have e := hm name
  unfold nsFind findBy at e
  rw [← Array.find?_toList] at e
  unfold PySem.W.lookIn
  rw [hd]
  dsimp only
  split
  · rename_i y q
    rw [q] at e
    exact congrArg some e
  · rename_i q
    rw [q] at e
    have a : es.toList.any (·.refKey) = false := by
      rw [List.any_eq_false]
      intro y hy
      obtain ⟨z, t, hkey⟩ := hk y (Array.mem_toList_iff.mp hy)
      simp [DictEntry.refKey, hkey]
    have a' : ¬ es.toList.any (·.refKey) = true := by rw [a]; exact Bool.false_ne_true
    rw [if_neg a']
    exact congrArg some e

theorem ObjM.look {h : Heap} {x dx C : Addr} {mA : Str → Option Value} (I : ObjM h x dx C mA) : ∃ od, PySem.W.InstAt h x (PySem.W.instObj C dx) C (some od) ∧ ∀ name, PySem.W.lookIn name od = some (mA name) :=
  let ⟨od, ho, hl⟩ := lookIn_ns I.ns
  ⟨od, ⟨I.obj, rfl, rfl, ho⟩, hl⟩

section
variable {prog : Program} {w : World} {A : Around} {E : Value → Shared → Prop} {s : Shared} {K : PySem.W.Frag} {x dx C f : Addr} {mA : Str → Option Value} {name : Str} {v : Value}

theorem get_map {expr : Bool} {Q : Value → Shared → Prop} (X : K.In s.heap) (I : ObjM s.heap x dx C mA) (hg : PySem.W.plainGet K C name = true) (hh : PySem.W.hasDictIn K C = true)
    (ha : PySem.W.findIn K (.ref C) name = some none) (hv : mA name = some v) (hv' : PySem.W.handedIn v = true) (h : Q v { s with toks := s.toks + 1 }) :
    wpAny (model prog w) A (getAttr (.ref x) name expr) Q E s := by
  obtain ⟨od, J, hl⟩ := I.look
  exact PySem.W.get_value X J (PySem.W.plainGet_of hg).1 (PySem.W.findObj_own hh ha rfl (by rw [hl, hv])) hv' h

theorem get_meth {pl : Sem Bool} {Q : Value × List Value → Shared → Prop} (X : K.In s.heap) (I : ObjM s.heap x dx C mA) (hg : PySem.W.plainGet K C name = true)
    (hf : PySem.W.findIn K (.ref C) name = some (some (.ref f))) (ht : PySem.W.isFn K (.ref f) = true) (hv : mA name = none) (h : Q (.ref f, [.ref x]) s) :
    wpAny (model prog w) A (getMethod (.ref x) name pl) Q E s := by
  obtain ⟨od, J, hl⟩ := I.look
  exact PySem.W.method_fn X J (PySem.W.plainGet_of hg).1 (PySem.W.plainGet_of hg).2 hf (beq_iff_eq.mp ht) (by show (PySem.W.lookIn name od).map (·.isSome) = some false; rw [hl, hv]; rfl) h

theorem set_map {ns : List Str} {Q : Unit → Shared → Prop} (X : K.In s.heap) (I : ObjM s.heap x dx C mA)
    (hs : PySem.W.findIn K (.ref C) "__setattr__" = some (some (.builtin "object.__setattr__"))) (hp : PySem.W.plainOver K C = true) (ht : PySem.W.takerIn K C name = some none) (hh : PySem.W.hasDictIn K C = true)
    (hw : PySem.Within mA ns) (hsz : ns.length ≤ sizeLine)
    (h : ∀ h', ObjM h' x dx C (fun y => if y = name then some v else mA y) → Heap.SameBut dx s.heap h' → Q () { s with heap := h', toks := s.toks + 2 }) :
    wpAny (model prog w) A (setAttr (.ref x) name v) Q E s := by
  obtain ⟨od, J, hl⟩ := I.look
  refine PySem.W.set_plain X J hs (PySem.W.osa_open (s := { s with toks := s.toks + 1 }) (r := none) X J hp ht fun b => ?_)
  obtain ⟨cd, hc, hd'⟩ := PySem.W.any_some hh
  have hx : s.heap.get? x = some ⟨.ref C, some dx, .plain, #[]⟩ := I.obj
  refine wpAny_bind (wpAny_pure (wpAny_bind (wpAny_bind (wpAny_loadPart hx (wpAny_bind (PySem.W.Looks.here (s := { s with toks := s.toks + 1 }) (PySem.W.looks_clsIn X hc) ?_))))))
  rw [hd']
  refine wpAny_pure (a := some dx) (wpAny_bind (wpAny_pure (wpAny_bind ?_)))
  refine wpAny_nsSet1 (s := { s with toks := s.toks + 1 }) I.ns fun h' hn2 hs2 => ?_
  obtain ⟨oD, esD, epD, hoD, hdD, hcD⟩ := hn2.count (PySem.Within.cons name v hw)
  refine wpAny_bind (wpAny_lookBehind hoD (by rw [hdD]; exact pastItsLine_dict (Nat.le_trans hcD (by rw [List.length_cons]; omega))) ?_)
  exact wpAny_pure (h _ ⟨(hs2.2 _ (Ne.symm I.ne)).trans I.obj, hn2, I.ne⟩ hs2)

/-- C(..): the dict at the heap's end, the instance behind it; then its __init__ -/
theorem make_map {R : Result → Shared → Prop} {vs : List Value} {kw : List (Str × Value)} (X : K.In s.heap) (hm : PySem.W.makesIn K C = true)
    (hi : PySem.W.findIn K (.ref C) "__init__" = some (some (.ref f))) (hf : PySem.W.typeIn K (.ref f) = some (.type "function"))
    (h : codeAny (model prog w) (A.under (.builtin "type.__call__" ⟨.ref C :: vs, kw⟩)) (.call (.ref f) ⟨.ref (s.heap.objs.size + 1) :: vs, kw⟩) (PySem.W.InitBack (s.heap.objs.size + 1) R)
      { s with heap := (s.heap.push PySem.W.emptyDict).push (PySem.W.instObj C s.heap.objs.size) }) :
    codeAny (model prog w) A (.call (.ref C) ⟨vs, kw⟩) R s := by
  obtain ⟨hh, g, d, t, os⟩ := s
  exact PySem.W.make_core (PySem.W.makes_of X hm) (PySem.W.looks_findIn X hi) (fun self => PySem.W.bind_fn X self hf) (.inl rfl) h
end

/-! ### the attributes as a list of pairs -/
def putF (f : Str) (v : V) : List (Str × V) → List (Str × V)
  | [] => [(f, v)]
  | (g, x) :: r => if g = f then (g, v) :: r else (g, x) :: putF f v r
theorem lookup_putF (f g : Str) (v : V) : ∀ fs : List (Str × V), (putF f v fs).lookup g = if g = f then some v else fs.lookup g
  | [] => by
    show List.lookup g [(f, v)] = _
    by_cases h : g = f
    · have hb : (g == f) = true := beq_iff_eq.mpr h
      simp only [List.lookup, hb, if_pos h]
    · have hb : (g == f) = false := beq_eq_false_iff_ne.mpr h
      simp only [List.lookup, hb, if_neg h]
  | (k, x) :: r => by
    have ih := lookup_putF f g v r
    rw [show putF f v ((k, x) :: r) = (if k = f then (k, v) :: r else (k, x) :: putF f v r) from rfl]
    by_cases hk : k = f
    · rw [if_pos hk]
      by_cases h : g = k
      · have hb : (g == k) = true := beq_iff_eq.mpr h
        simp only [List.lookup, hb, if_pos (h.trans hk)]
      · have hb : (g == k) = false := beq_eq_false_iff_ne.mpr h
        simp only [List.lookup, hb, if_neg (fun e : g = f => h (e.trans hk.symm))]
    · rw [if_neg hk]
      by_cases h : g = k
      · have hb : (g == k) = true := beq_iff_eq.mpr h
        simp only [List.lookup, hb, if_neg (fun e : g = f => hk (h.symm.trans e))]
      · have hb : (g == k) = false := beq_eq_false_iff_ne.mpr h
        simp only [List.lookup, hb]
        exact ih
theorem keys_putF (f : Str) (v : V) : ∀ fs : List (Str × V), f ∈ (putF f v fs).map (·.1) ∧ ∀ g, g ∈ fs.map (·.1) → g ∈ (putF f v fs).map (·.1)
  | [] => ⟨by simp [putF], fun g h => by simp at h⟩
  | (k, x) :: r => by
    obtain ⟨i1, i2⟩ := keys_putF f v r
    rw [show putF f v ((k, x) :: r) = (if k = f then (k, v) :: r else (k, x) :: putF f v r) from rfl]
    by_cases hk : k = f
    · rw [if_pos hk]
      subst hk
      exact ⟨by simp, fun g h => by simpa using h⟩
    · rw [if_neg hk]
      refine ⟨?_, fun g h => ?_⟩
      · rw [List.map_cons]
        exact List.mem_cons_of_mem _ i1
      · rw [List.map_cons] at h ⊢
        rcases List.mem_cons.mp h with e | e
        · exact List.mem_cons.mpr (.inl e)
        · exact List.mem_cons_of_mem _ (i2 g e)
theorem length_putF (f : Str) (v : V) : ∀ fs : List (Str × V), (putF f v fs).length ≤ fs.length + 1
  | [] => by simp [putF]
  | (k, x) :: r => by
    have ih := length_putF f v r
    rw [show putF f v ((k, x) :: r) = (if k = f then (k, v) :: r else (k, x) :: putF f v r) from rfl]
    by_cases hk : k = f
    · rw [if_pos hk, List.length_cons, List.length_cons]; omega
    · rw [if_neg hk, List.length_cons, List.length_cons]; omega

theorem RelO.some_of {v : V} {o : Option Value} (r : RelO (some v) o) : ∃ u, o = some u ∧ RelV v u := by
  cases o with
  | none => exact (show False from r).elim
  | some u => exact ⟨u, rfl, r⟩
theorem RelO.none_of {o : Option Value} (r : RelO none o) : o = none := by
  cases o with
  | none => rfl
  | some u => exact (show False from r).elim
theorem handed_of {v : V} {u : Value} (r : RelV v u) : PySem.W.handedIn u = true := by
  cases v with
  | non => cases (show u = Value.none from r); rfl
  | bl b => cases (show u = Value.bool b from r); rfl
  | int i => obtain ⟨t, e⟩ := (show ∃ t, u = Value.int i t from r); cases e; rfl
  | str x => obtain ⟨t, e⟩ := (show ∃ t, u = Value.str x t from r); cases e; rfl
  | byt b => obtain ⟨t, e⟩ := (show ∃ t, u = Value.bytes b t from r); cases e; rfl
  | flt b => obtain ⟨t, e⟩ := (show ∃ t, u = Value.float b t from r); cases e; rfl
  | ref a => cases (show u = Value.ref a from r); rfl
  | ty n => cases (show u = Value.type n from r); rfl

section
variable {P : Program} {w : World} {H H' : Hp} {h h' : Heap} {a C dx : Addr} {fs fs' : List (Str × V)}
theorem ins_get (hok : HOk P w H h) (e : H a = some (.ins C dx fs)) : ∃ mA, ObjM h a dx C mA ∧ (∀ f, RelO (fs.lookup f) (mA f)) ∧ PySem.Within mA (fs.map (·.1)) ∧ fs.length ≤ 1000 ∧ H dx = some (.own a) := by
  obtain ⟨d, z, ne, ob, mA, n, r, q⟩ := (show ObjOk P w H h a (.ins C dx fs) from hok a _ e)
  exact ⟨mA, ⟨ob, n, ne⟩, r, q, z, d⟩
end

/-! ### what of the text a class must have -/
structure Cls (K : PySem.W.Frag) (C : Addr) : Prop where
  pg : PySem.W.plainGet K C Str.empty = true
  hd : PySem.W.hasDictIn K C = true
  po : PySem.W.plainOver K C = true
  sa : PySem.W.findIn K (.ref C) "__setattr__" = some (some (.builtin "object.__setattr__"))
theorem Cls.get {K : PySem.W.Frag} {C : Addr} (c : Cls K C) (f : Str) : PySem.W.plainGet K C f = true := c.pg
/-- no class of it has the name -/
def NoAttr (K : PySem.W.Frag) (C : Addr) (f : Str) : Prop := PySem.W.findIn K (.ref C) f = some none
theorem NoAttr.taker {K : PySem.W.Frag} {C : Addr} {f : Str} (n : NoAttr K C f) : PySem.W.takerIn K C f = some none := by
  unfold PySem.W.takerIn
  rw [show PySem.W.findIn K (.ref C) f = some none from n]
  rfl
/-- a constant of the class -/
structure Con (K : PySem.W.Frag) (C : Addr) (f : Str) (v : V) (u : Value) : Prop where
  at_ : PySem.W.findIn K (.ref C) f = some (some u)
  rel : RelV v u
  get : PySem.W.specialIn K u "__get__" = some none
  cp : PySem.W.copiedNames.contains f = false
/-- a method: a plain def of the class or of one above it -/
structure Meth (K : PySem.W.Frag) (C : Addr) (m : Str) (f : Addr) : Prop where
  at_ : PySem.W.findIn K (.ref C) m = some (some (.ref f))
  fn : PySem.W.isFn K (.ref f) = true
  kp : PySem.W.keepIn K (.ref f) = true

section
variable {X : Cx} {pins : List (Addr × Obj)} {σ : St} {H : Hp} {s : Shared} {a C dx : Addr} {fs : List (Str × V)} {f : Str} {v : V} {A : Around} {E : Value → Shared → Prop}

theorem getattr_ok {b : Bool} {Q : Value → Shared → Prop} (I : Inv X pins σ H s) (e : H a = some (.ins C dx fs)) (c : Cls X.K C) (n : NoAttr X.K C f) (l : fs.lookup f = some v)
    (h : ∀ u s', Inv X pins σ H s' → RelV v u → Q u s') : wpAny (model X.prog X.w) A (getAttr (.ref a) f b) Q E s := by
  obtain ⟨mA, O, r, _, _, _⟩ := ins_get I.hok e
  obtain ⟨u, hu, ru⟩ := RelO.some_of (v := v) (o := mA f) (by rw [← l]; exact r f)
  exact get_map I.kIn O (c.get f) c.hd n hu (handed_of ru) (h u _ (I.tok _) ru)

theorem getmeth_ok {m : Str} {g : Addr} {pl : Sem Bool} {Q : Value × List Value → Shared → Prop} (I : Inv X pins σ H s) (e : H a = some (.ins C dx fs)) (c : Cls X.K C) (k : Meth X.K C m g) (l : fs.lookup m = none)
    (h : Q (.ref g, [.ref a]) s) : wpAny (model X.prog X.w) A (getMethod (.ref a) m pl) Q E s := by
  obtain ⟨mA, O, r, _, _, _⟩ := ins_get I.hok e
  have hn : mA m = none := RelO.none_of (by rw [← l]; exact r m)
  exact get_meth I.kIn O (c.get m) k.at_ k.fn hn h

theorem setattr_ok {y : V} {u : Value} {Q : Unit → Shared → Prop} (I : Inv X pins σ H s) (e : H a = some (.ins C dx fs)) (c : Cls X.K C) (n : NoAttr X.K C f) (hl : fs.length < 1000) (ry : RelV y u)
    (h : ∀ s', Inv X pins σ (upd H a (.ins C dx (putF f y fs))) s' → Q () s') : wpAny (model X.prog X.w) A (setAttr (.ref a) f u) Q E s := by
  obtain ⟨mA, O, r, wi, _, ho⟩ := ins_get I.hok e
  have hz : (fs.map (·.1)).length ≤ sizeLine := by rw [List.length_map, sizeLine_eq]; omega
  refine set_map I.kIn O c.sa c.po n.taker c.hd wi hz fun h' O' sb => h _ ?_
  have hd : ∃ o, h'.get? dx = some o := let ⟨o, _, _, e', _⟩ := O'.ns; ⟨o, e'⟩
  refine I.write (x := a) (e := dx) (by rw [e]; exact True.intro) (.inr ho) (fun b q hb z => (sb.2 b hb).trans z) hd ?_
  refine ⟨by rw [upd_ne O.ne]; exact ho, ?_, O.ne, O'.obj, _, O'.ns, fun g => ?_, fun g hg => ?_⟩
  · have := length_putF f y fs; omega
  · show RelO ((putF f y fs).lookup g) (if g = f then some u else mA g)
    rw [lookup_putF]
    by_cases q : g = f
    · rw [if_pos q, if_pos q]; exact ry
    · rw [if_neg q, if_neg q]; exact r g
  · by_cases q : g = f
    · rw [q]; exact (keys_putF f y fs).1
    · refine (keys_putF f y fs).2 g (wi g fun z => hg ?_)
      show (if g = f then some u else mA g) = none
      rw [if_neg q]; exact z

/-- a new instance, tracked, without attributes -/
theorem Inv.made (I : Inv X pins σ H s) : Inv X pins σ (upd (upd H s.heap.objs.size (.own (s.heap.objs.size + 1))) (s.heap.objs.size + 1) (.ins C s.heap.objs.size []))
    { s with heap := (s.heap.push PySem.W.emptyDict).push (PySem.W.instObj C s.heap.objs.size) } := by
  have e1 : (s.heap.push PySem.W.emptyDict).get? s.heap.objs.size = some PySem.W.emptyDict := Heap.get?_push_size s.heap rfl
  have e2 : ((s.heap.push PySem.W.emptyDict).push (PySem.W.instObj C s.heap.objs.size)).get? (s.heap.objs.size + 1) = some (PySem.W.instObj C s.heap.objs.size) := by
    have := Heap.get?_push_size (s.heap.push PySem.W.emptyDict) (o := PySem.W.instObj C s.heap.objs.size) rfl
    rwa [Heap.size_push] at this
  have e3 : (s.heap.push PySem.W.emptyDict).Ns s.heap.objs.size (fun _ => none) := ⟨PySem.W.emptyDict, #[], _, e1, rfl, (fun e he => absurd he (by simp)), fun _ => rfl⟩
  have I1 := I.laid (a := s.heap.objs.size) (o := .own (s.heap.objs.size + 1)) (h' := s.heap.push PySem.W.emptyDict) (t' := s.toks) (fun b u q => Heap.get?_push_of_some _ q) (Nat.le_refl _) ⟨_, e1⟩
  refine I1.laid (a := s.heap.objs.size + 1) (o := .ins C s.heap.objs.size []) (t' := s.toks) (fun b u q => Heap.get?_push_of_some _ q) (Nat.le_of_eq (Heap.size_push _ _)) ?_
  have ne : s.heap.objs.size ≠ s.heap.objs.size + 1 := Nat.ne_of_lt (Nat.lt_succ_self _)
  refine ⟨by rw [upd_ne ne, upd_same], Nat.zero_le _, ne, e2, fun _ => none, (Heap.Ns1.of_empty e3).at fun o q => Heap.get?_push_of_some _ q, fun _ => True.intro, fun y hy => absurd rfl hy⟩

/-- e.f where nothing but the object is asked: through attributeBase (super) and the last hold -/
theorem attr_of {prog : Program} {w : World} {env : Env} {e : Expr} {f : Str} {pos : Pos} {s : Shared} {Q : Value → Shared → Prop} (hb : attributeBase e f env (eval e env) = eval e env)
    (h : wpAny (model prog w) A (eval e env) (fun o s₁ => wpAny (model prog w) A (getAttr o f true) Q E s₁) E s) : wpAny (model prog w) A (eval (.Attribute e f pos) env) Q E s :=
  Attribute_any_ h (by rw [arm_eval_Attribute, hb])
end

/-! ### readings and rules -/
/-- e.f, an attribute of the instance -/
def tFld (K : PySem.W.Frag) (ta : TE) (f : Str) : TE := fun σ H Q => ta σ H fun x H1 => ∃ a C dx fs v, x = .ref a ∧ H1 a = some (.ins C dx fs) ∧ Cls K C ∧ NoAttr K C f ∧ fs.lookup f = some v ∧ Q v H1
/-- e.f = value -/
def sFld (K : PySem.W.Frag) (ta tv : TE) (f : Str) : TS := fun D σ H => tv σ H fun y H1 => ta σ H1 fun x H2 => ∃ a C dx fs, x = .ref a ∧ H2 a = some (.ins C dx fs) ∧ Cls K C ∧ NoAttr K C f ∧ fs.length < 1000 ∧
  D.nx σ (upd H2 a (.ins C dx (putF f y fs)))
section
variable {X : Cx} {o e value : Expr} {f : Str} {pos pos' tpos : Pos} {ta tv : TE}
theorem pe_fld (he : PE X e ta) (hb : attributeBase e f X.env (eval e X.env) = eval e X.env) : PE X (.Attribute e f pos) (tFld X.K ta f) := by
  intro pins s σ H Q I h
  refine attr_of hb (thn (he pins s σ H _ I h) fun u s1 ⟨x, H1, I1, rx, a, C, dx, fs, v, ex, ea, c, n, l, q⟩ => ?_)
  subst ex
  obtain rfl : u = Value.ref a := rx
  exact getattr_ok I1 ea c n l fun u' s2 I2 ru => ⟨v, H1, I2, ru, q⟩
theorem ps_fld (ha : PE X o ta) (hv : PE X value tv) (hs : swapsWith value (some (.Attribute o f pos')) pos.line X.env = pure false) : PS X (.Assign [.Attribute o f pos'] value pos) (sFld X.K ta tv f) := by
  intro pins s σ H D I h
  refine plainObj_wpAny_Assign_Attribute (thn (hv pins s σ H _ I h) fun u s1 ⟨y, H1, I1, ry, q⟩ => thn (ha pins s1 σ H1 _ I1 q) fun ov s2 ⟨x, H2, I2, rx, a, C, dx, fs, ex, ea, c, n, l, q2⟩ => ?_) hs
  subst ex
  obtain rfl : ov = Value.ref a := rx
  exact setattr_ok I2 ea c n l ry fun s3 I3 => ⟨σ, _, I3, q2⟩
end

/-! ### isinstance -/
section
variable {X : Cx} {pins : List (Addr × Obj)} {σ : St} {H : Hp} {s : Shared} {A : Around} {E : Value → Shared → Prop} {Q : Value → Shared → Prop} {c : Value} {b : Bool}
/-- the type of a value, as the fragment's deciders take it; for an instance its class -/
inductive TyOf (K : PySem.W.Frag) (H : Hp) : V → Value → Prop where
  | non : TyOf K H .non (.type "NoneType")
  | bl (x : Bool) : TyOf K H (.bl x) (.type "bool")
  | int (i : Int) : TyOf K H (.int i) (.type "int")
  | str (x : Str) : TyOf K H (.str x) (.type "str")
  | flt (x : UInt64) : TyOf K H (.flt x) (.type "float")
  | lst {a : Addr} {xs : List V} (e : H a = some (.lst xs)) : TyOf K H (.ref a) (.type "list")
  | frz {a : Addr} {o : Obj} {xs : List V} (e : H a = some (.frz o (.lst xs))) : TyOf K H (.ref a) (.type "list")
  | tup {a : Addr} {xs : List V} (e : H a = some (.tup xs)) : TyOf K H (.ref a) (.type "tuple")
  | dK {a : Addr} {kvs : List (Key × V)} (e : H a = some (.dK kvs)) : TyOf K H (.ref a) (.type "dict")
  | dT {a : Addr} {kvs : List (List Key × V)} (e : H a = some (.dT kvs)) : TyOf K H (.ref a) (.type "dict")
  | ins {a C dx : Addr} {fs : List (Str × V)} (e : H a = some (.ins C dx fs)) (cl : Cls K C) (ha : PySem.W.findIn K (.ref C) "__class__" = some (some (.builtin "object.__class__")))
      (hn : PySem.W.specialIn K (.builtin "object.__class__") "__get__" = some (some (.builtin "getset_descriptor.__get__"))) (htk : PySem.W.takesIn K (.builtin "object.__class__") = some true)
      (hm : PySem.W.mroIn K C (.type "object") = some true) : TyOf K H (.ref a) (.ref C)
end
end L2

namespace L2
open PySem PySem.Spec PyProof.Rows

/-! ### room -/
structure Room (k : Nat) (A : Around) : Prop where
  hd : A.handled = none
  dp : A.depth + 3 * k + 5 < recursionLimit
  un : A.units + 16 * k + 200 < cLine
theorem Room.mono {j k : Nat} {A : Around} (r : Room k A) (h : j ≤ k) : Room j A := ⟨r.hd, by have := r.dp; omega, by have := r.un; omega⟩
theorem Room.deeper {k : Nat} {A : Around} (r : Room (k + 1) A) (env : Env) : Room k (A.deeper env) :=
  ⟨r.hd, by have := r.dp; show A.depth + 1 + 3 * k + 5 < _; omega, by have := r.un; show A.units + 3 + 16 * k + 200 < _; omega⟩
theorem Room.in1 {k : Nat} {A : Around} (r : Room (k + 1) A) : Room k A.in1 :=
  ⟨r.hd, by have := r.dp; show A.depth + 3 * k + 5 < _; omega, by have := r.un; show A.units + 1 + 16 * k + 200 < _; omega⟩
theorem make_depth {A : Around} {C : Addr} {us : List Value} {kw : List (Str × Value)} : (A.under (.builtin "type.__call__" ⟨.ref C :: us, kw⟩)).depth = A.depth + 1 := by
  first | rfl | simp [Around.under, Code.weight, Code.isCreation, Code.isGuard, Code.isCaller, Code.frames, Code.isFrame, guardIds]
theorem make_units {A : Around} {C : Addr} {us : List Value} {kw : List (Str × Value)} : (A.under (.builtin "type.__call__" ⟨.ref C :: us, kw⟩)).units = A.units + 1 := by
  first | rfl | simp [Around.under, Code.cUnits, Code.frames, Code.isFrame]
theorem Room.make {k : Nat} {A : Around} (r : Room (k + 1) A) (C : Addr) (us : List Value) (kw : List (Str × Value)) : Room k (A.under (.builtin "type.__call__" ⟨.ref C :: us, kw⟩)) :=
  ⟨r.hd, by have := r.dp; rw [make_depth]; omega, by have := r.un; rw [make_units]; omega⟩
theorem Room.depth {k : Nat} {A : Around} (r : Room k A) : A.depth < recursionLimit := by have := r.dp; omega
theorem Room.units {k : Nat} {A : Around} (r : Room k A) : A.units + 64 < cLine := by have := r.un; omega
/-! ### argument lists and displays -/
def tNil : TA := fun _ H Q => Q [] H
def tCons (ta : TE) (tr : TA) : TA := fun σ H Q => ta σ H fun x H1 => tr σ H1 fun xs H2 => Q (x :: xs) H2
section
variable {X : Cx} {e : Expr} {es : List Expr} {te : TE} {t : TA} {pos : Pos}
theorem pa_nil : PA X [] tNil := fun _ _ _ _ H Q I h => Calls.spliced_nil ⟨[], H, I, .nil, h⟩
theorem pa_cons (ha : PE X e te) (hr : PA X es t) (hs : starEach (e :: es) X.env = (false, eval e X.env) :: starEach es X.env := by rfl) : PA X (e :: es) (tCons te t) := by
  intro pos pins s σ H Q I h
  rw [hs]
  show wpAny _ _ (spliced ((false, eval e X.env) :: backTo pos (starEach es X.env))) _ _ s
  refine Calls.spliced_cons (thn (ha pins s σ H _ I h) fun u s1 ⟨x, H1, I1, r1, q1⟩ => ?_)
  exact thn (hr pos pins s1 σ H1 _ I1 q1) fun us s2 ⟨xs, H2, I2, r2, q2⟩ => ⟨x :: xs, H2, I2, .cons r1 r2, q2⟩

/-- a tuple, a list of written items -/
def tTup (t : TA) : TE := fun σ H Q => t σ H fun xs H1 => xs.length ≤ sizeLine ∧ ∀ p, H1 p = none → Q (.ref p) (upd H1 p (.tup xs))
def tLst (t : TA) : TE := fun σ H Q => t σ H fun xs H1 => xs.length ≤ sizeLine ∧ ∀ p, H1 p = none → Q (.ref p) (upd H1 p (.lst xs))
theorem pe_tup {x1} (h : PA X es t) : PE X (.Tuple es x1 pos) (tTup t) := by
  intro pins s σ H Q I hq
  refine wpAny_Tuple_spliced (thn (h pos pins s σ H _ I hq) fun us s1 ⟨xs, H1, I1, r, z, q⟩ => ⟨by rw [← r.length]; exact z, ?_⟩)
  have hf : H1 s1.heap.objs.size = none := I1.hok.fresh (Nat.le_refl _)
  refine ⟨.ref s1.heap.objs.size, upd H1 s1.heap.objs.size (.tup xs), I1.laid (t' := s1.toks) (fun b u e => Heap.get?_push_of_some _ e) (Nat.le_refl _) ?_, rfl, q _ hf⟩
  exact ⟨z, us, r, ⟨_, Heap.get?_push_size _ rfl, rfl, _, rfl⟩⟩
theorem pe_lst (h : PA X es t) : PE X (.List es pos) (tLst t) := by
  intro pins s σ H Q I hq
  refine wpAny_List_spliced (thn (h pos pins s σ H _ I hq) fun us s1 ⟨xs, H1, I1, r, z, q⟩ => ⟨by rw [← r.length]; exact z, ?_⟩)
  have hf : H1 s1.heap.objs.size = none := I1.hok.fresh (Nat.le_refl _)
  refine ⟨.ref s1.heap.objs.size, upd H1 s1.heap.objs.size (.lst xs), I1.laid (t' := s1.toks) (fun b u e => Heap.get?_push_of_some _ e) (Nat.le_refl _) ?_, rfl, q _ hf⟩
  exact ⟨z, us, 0, r, Heap.get?_push_size _ rfl⟩
end

/-! ### what a def promises -/
/-- a def's promise: the bound arguments in the parameters' order, the heap, the wanted end, the wanted exception -/
abbrev Sp := List V → Hp → VK → XK → Prop
/-- how an exception lies behind a call (file 08 gives it): the callers' frames, abstract heap and state ahead of the call, the wish, the exception, the state -/
abbrev CXT := List Env → Hp → Shared → XK → Value → Shared → Prop

/-- the state at a call -/
structure Env0 (P : Program) (w : World) (K : PySem.W.Frag) (mg : Str → Option Value) (base : Heap) (A : Around) (outer : List Env) (s : Shared) (H : Hp) : Prop where
  frames : A.frames = some outer
  mod : Mod K mg base
  bs : ∀ b o, base.get? b = some o → s.heap.get? b = some o ∧ H b = none
  bsz : base.objs.size ≤ s.heap.objs.size
  funs : s.heap.FunFrames base outer
  frf : ∀ b ∈ frs outer, H b = none
  hok : HOk P w H s.heap
  bare : AllBare s.gens
/-- a call's end -/
def CE (outer : List Env) (P : Program) (w : World) (H : Hp) (s : Shared) (Q : VK) (u : Value) (s' : Shared) : Prop :=
  ∃ v H', s'.os = s.os ∧ AllBare s'.gens ∧ Un (frs outer) [] H H' s.heap s'.heap ∧ HOk P w H' s'.heap ∧ RelV v u ∧ Q v H'
def CR (CX : CXT) (outer : List Env) (P : Program) (w : World) (H : Hp) (s : Shared) (Q : VK) (E : XK) (r : Result) (s' : Shared) : Prop :=
  match r with
  | .ok (.ret u) => CE outer P w H s Q u s'
  | .ok _ => False
  | .error e => CX outer H s E e s'
structure FnOk (P : Program) (w : World) (K : PySem.W.Frag) (mg : Str → Option Value) (base : Heap) (CX : CXT) (k : Nat) (f : Addr) (fd : FuncData) (ps : List Str) (sp : Sp) : Prop where
  len : ∀ vs H Q E, sp vs H Q E → vs.length = ps.length
  run : ∀ (A : Around) (outer : List Env) (s : Shared) (H : Hp) (args : Args) (us : List Value) (vs : List V) (Q : VK) (E : XK), Room k A → Env0 P w K mg base A outer s H → BindsTo s fd args (ps.zip us) → Vals vs us → sp vs H Q E →
    codeAny (model P w) A (.call (.ref f) args) (CR CX outer P w H s Q E) s
theorem Env0.make {P : Program} {w : World} {K : PySem.W.Frag} {mg : Str → Option Value} {base : Heap} {A : Around} {outer : List Env} {s : Shared} {H : Hp} (e : Env0 P w K mg base A outer s H) (C : Addr) (us : List Value) (kw : List (Str × Value)) :
    Env0 P w K mg base (A.under (.builtin "type.__call__" ⟨.ref C :: us, kw⟩)) outer s H := ⟨by first | exact e.frames | (simpa [Around.under, Code.envs, Code.isFrame, pushEnvs] using e.frames), e.mod, e.bs, e.bsz, e.funs, e.frf, e.hok, e.bare⟩
theorem Env0.in1 {P : Program} {w : World} {K : PySem.W.Frag} {mg : Str → Option Value} {base : Heap} {A : Around} {outer : List Env} {s : Shared} {H : Hp} (e : Env0 P w K mg base A outer s H) :
    Env0 P w K mg base A.in1 outer s H := ⟨e.frames, e.mod, e.bs, e.bsz, e.funs, e.frf, e.hok, e.bare⟩

section
variable {X : Cx} {pins : List (Addr × Obj)} {σ : St} {H : Hp} {s s' : Shared}
/-- from a body: what a callee wants -/
theorem Inv.env0 (I : Inv X pins σ H s) : Env0 X.prog X.w X.K X.mg X.base X.A X.stack s H :=
  ⟨I.ok.frames, I.ok.mod, I.bs, Nat.le_trans I.ok.bsz I.sz, I.stack, I.stkFree, I.hok, I.bare⟩
/-- behind a call -/
theorem Inv.after {Q : VK} {u : Value} (I : Inv X pins σ H s) (h : CE X.stack X.prog X.w H s Q u s') : EP X pins σ Q u s' := by
  obtain ⟨v, H', os, bare, un, hok, r, q⟩ := h
  obtain ⟨hh, g, d, t, os'⟩ := s'
  obtain rfl : os' = s.os := os
  exact ⟨v, H', I.call (h' := hh) (g' := g) (d' := d) (t' := t) (ch := []) un hok bare (fun b z => absurd z (by simp)), r, q⟩
end

/-! ### calls -/
/-- f(..): the written arguments, then the defaults dvs; E: what is wanted of an exception -/
def tCall (sp : Sp) (dvs : List V) (E : XK) (t : TA) : TE := fun σ H Q => t σ H fun vs H1 => sp (vs ++ dvs) H1 Q E
/-- o.m(..) of an instance of the class at C -/
def tMeth (C : Addr) (m : Str) (sp : Sp) (dvs : List V) (E : XK) (ta : TE) (t : TA) : TE := fun σ H Q => ta σ H fun x H1 => ∃ a dx fs, x = .ref a ∧ H1 a = some (.ins C dx fs) ∧ fs.lookup m = none ∧
  t σ H1 fun vs H2 => sp (x :: (vs ++ dvs)) H2 Q E
/-- C(..): a new instance and its dict, then __init__ -/
def tMake (C : Addr) (sp : Sp) (dvs : List V) (E : XK) (t : TA) : TE := fun σ H Q => t σ H fun vs H1 => ∀ x dx, H1 x = none → H1 dx = none → dx ≠ x →
  sp (.ref x :: (vs ++ dvs)) (upd (upd H1 dx (.own x)) x (.ins C dx [])) (fun v H2 => v = .non ∧ Q (.ref x) H2) E

/-- how the parameters are bound: us the positional arguments, kw the keywords' values by name, ds the defaults that fill up -/
def Binds (K : PySem.W.Frag) (fd : FuncData) (ps : List Str) (ds : List Value) : Prop :=
  ∀ (s : Shared) (us : List Value), K.In s.heap → (us ++ ds).length = ps.length → BindsTo s fd ⟨us, []⟩ (ps.zip (us ++ ds))
/-- every parameter is given -/
theorem Binds.all {K : PySem.W.Frag} {fd : FuncData} {ps : List Str} (h : ∀ us : List Value, us.length = ps.length → bindArgs fd ⟨us, []⟩ = pure (ps.zip us)) : Binds K fd ps [] := fun s us _ hl => by
  rw [List.append_nil] at hl ⊢
  exact .of_eq (h us hl)

/-- an exception of a callee reaches what this body wants of exceptions -/
def Passes (CX : CXT) (X : Cx) (E : XK) : Prop := ∀ (pins : List (Addr × Obj)) (σ : St) (H : Hp) (s : Shared) (e : Value) (s' : Shared), Inv X pins σ H s → CX X.stack H s E e s' → X.xe e s'

section
variable {X : Cx} {CX : CXT} {k : Nat} {f C : Addr} {fd : FuncData} {ps : List Str} {sp : Sp} {dvs : List V} {ds : List Value} {E : XK} {x m : Str} {p pos apos : Pos} {e o : Expr} {es : List Expr} {ta : TE} {t : TA}

/-- the callee runs -/
theorem run_fn {pins : List (Addr × Obj)} {σ : St} {H : Hp} {s : Shared} {Q : VK} {us : List Value} {vs : List V} (F : FnOk X.prog X.w X.K X.mg X.base CX k f fd ps sp) (hr : Room k X.A) (hb : Binds X.K fd ps ds) (hd : Vals dvs ds) (hx : Passes CX X E)
    (I : Inv X pins σ H s) (r : Vals vs us) (h : sp (vs ++ dvs) H Q E) : wpAny (model X.prog X.w) X.A (call (.ref f) us) (EP X pins σ Q) X.xe s := by
  have r2 : Vals (vs ++ dvs) (us ++ ds) := r.append hd
  have hl : (us ++ ds).length = ps.length := by rw [← r2.length]; exact F.len _ _ _ _ h
  refine wpAny_call (codeAny_mono (F.run X.A X.stack s H ⟨us, []⟩ (us ++ ds) (vs ++ dvs) Q E hr I.env0 (hb s us I.kIn hl) r2 h) fun r s' hq => ?_)
  cases r with
  | error e => exact hx pins σ H s e s' I hq
  | ok fl =>
    cases fl with
    | ret u => exact I.after hq
    | next => exact False.elim hq
    | brk => exact False.elim hq
    | cont => exact False.elim hq

theorem pe_call (F : FnOk X.prog X.w X.K X.mg X.base CX k f fd ps sp) (hr : Room k X.A) (hg : Gl X x) (hm : X.mg x = some (.ref f)) (hk : PySem.W.keepIn X.K (.ref f) = true) (hb : Binds X.K fd ps ds) (hd : Vals dvs ds) (hx : Passes CX X E)
    (ha : PA X (e :: es) t) (hdb : (x == ("__debug__" : Str)) = false := by decide) (he : starEach (e :: es) X.env = (false, eval e X.env) :: starEach es X.env := by rfl) (hpl : (backTo pos (starEach es X.env)).any (·.1) = false := by rfl) :
    PE X (.Call (.Name x p) (e :: es) [] pos) (tCall sp dvs E t) := by
  intro pins s σ H Q I h
  refine wpAny_Call_Name_kw (ld_glob I hg hm ?_ hdb)
  refine PySem.W.callWith_K (h₀ := X.base) I.ok.mod.kin hk (thn (ha pos pins s σ H _ I h) fun us s1 ⟨vs, H1, I1, r, q⟩ => ⟨I1.kIn, ?_⟩) he hpl
  exact run_fn F hr hb hd hx I1 r q
/-- o.m(e, ..) -/
theorem pe_meth {pl : Sem Bool} (he : PE X o ta) (c : Cls X.K C) (hm : Meth X.K C m f) (F : FnOk X.prog X.w X.K X.mg X.base CX k f fd ps sp) (hr : Room k X.A) (hb : Binds X.K fd ps ds) (hd : Vals dvs ds) (hx : Passes CX X E) (ha : PA X (e :: es) t)
    (hst : starEach (e :: es) X.env = (false, eval e X.env) :: starEach es X.env := by rfl) (hpl : (backTo pos (starEach es X.env)).any (·.1) = false := by rfl)
    (ht : eval (.Call (.Attribute o m apos) (e :: es) [] pos) X.env = (do
      let ov ← eval o X.env
      standAt apos.atName
      let (f, first) ← holding [ov] (getMethod ov m pl)
      callWith pos f first (backTo pos (starEach (e :: es) X.env)) (backToKw pos (keywordEach [] X.env))) := by rfl) :
    PE X (.Call (.Attribute o m apos) (e :: es) [] pos) (tMeth C m sp dvs E ta t) := by
  intro pins s σ H Q I h
  refine PySem.W.methodCall_KW (pl := pl) (thn (he pins s σ H _ I h) fun u s1 ⟨x, H1, I1, rx, a, dx, fs, ex, ea, l, q⟩ => ?_) ht
  subst ex
  obtain rfl : u = Value.ref a := rx
  refine getmeth_ok I1 ea c hm l ?_
  refine PySem.W.callWith_K (first := [.ref a]) (h₀ := X.base) I.ok.mod.kin hm.kp (thn (ha pos pins s1 σ H1 _ I1 q) fun us s2 ⟨vs, H2, I2, r, q2⟩ => ⟨I2.kIn, ?_⟩) hst hpl
  exact run_fn (us := .ref a :: us) (vs := .ref a :: vs) F hr hb hd hx I2 (.cons rfl r) q2
/-- o.m() -/
theorem pe_meth0 {pl : Sem Bool} (he : PE X o ta) (c : Cls X.K C) (hm : Meth X.K C m f) (F : FnOk X.prog X.w X.K X.mg X.base CX k f fd ps sp) (hr : Room k X.A) (hb : Binds X.K fd ps ds) (hd : Vals dvs ds) (hx : Passes CX X E)
    (ht : eval (.Call (.Attribute o m apos) [] [] pos) X.env = (do
      let ov ← eval o X.env
      standAt apos.atName
      let (f, first) ← holding [ov] (getMethod ov m pl)
      callWith pos f first (backTo pos (starEach [] X.env)) (backToKw pos (keywordEach [] X.env))) := by rfl) :
    PE X (.Call (.Attribute o m apos) [] [] pos) (tMeth C m sp dvs E ta tNil) := by
  intro pins s σ H Q I h
  refine PySem.W.methodCall_KW (pl := pl) (thn (he pins s σ H _ I h) fun u s1 ⟨x, H1, I1, rx, a, dx, fs, ex, ea, l, q⟩ => ?_) ht
  subst ex
  obtain rfl : u = Value.ref a := rx
  refine getmeth_ok I1 ea c hm l ?_
  exact PySem.W.callWith_K0 (first := [.ref a]) I1.kIn hm.kp (run_fn (us := [.ref a]) (vs := [.ref a]) F hr hb hd hx I1 (.cons rfl .nil) q)

/-- what a class must have to be made -/
structure Mk (K : PySem.W.Frag) (C f : Addr) : Prop where
  makes : PySem.W.makesIn K C = true
  init : PySem.W.findIn K (.ref C) "__init__" = some (some (.ref f))
  fn : PySem.W.isFn K (.ref f) = true
  kp : PySem.W.keepIn K (.ref C) = true

theorem run_make {pins : List (Addr × Obj)} {σ : St} {H : Hp} {s : Shared} {Q : VK} {us : List Value} {vs : List V} (M : Mk X.K C f) (F : FnOk X.prog X.w X.K X.mg X.base CX k f fd ps sp) (hr : Room (k + 1) X.A) (hb : Binds X.K fd ps ds) (hd : Vals dvs ds)
    (hx : Passes CX X E) (I : Inv X pins σ H s) (r : Vals vs us)
    (h : ∀ x dx, H x = none → H dx = none → dx ≠ x → sp (.ref x :: (vs ++ dvs)) (upd (upd H dx (.own x)) x (.ins C dx [])) (fun v H2 => v = .non ∧ Q (.ref x) H2) E) :
    wpAny (model X.prog X.w) X.A (call (.ref C) us) (EP X pins σ Q) X.xe s := by
  have hq := h (s.heap.objs.size + 1) s.heap.objs.size (I.hok.fresh (Nat.le_succ _)) (I.hok.fresh (Nat.le_refl _)) (Nat.ne_of_lt (Nat.lt_succ_self _))
  have I2 := Inv.made (C := C) I
  have r2 : Vals (V.ref (s.heap.objs.size + 1) :: (vs ++ dvs)) (Value.ref (s.heap.objs.size + 1) :: (us ++ ds)) := .cons rfl (r.append hd)
  have hl : (Value.ref (s.heap.objs.size + 1) :: us ++ ds).length = ps.length := by
    have e := r2.length
    rw [F.len _ _ _ _ hq] at e
    exact e.symm
  refine wpAny_call (make_map (f := f) I.kIn M.makes M.init (beq_iff_eq.mp M.fn) (codeAny_mono (F.run _ X.stack _ _ ⟨Value.ref (s.heap.objs.size + 1) :: us, []⟩ (Value.ref (s.heap.objs.size + 1) :: (us ++ ds)) _ _ E (hr.make C us [])
    (I2.env0.make C us []) (hb _ (Value.ref (s.heap.objs.size + 1) :: us) I2.kIn hl) r2 hq) fun r s' hq' => ?_))
  cases r with
  | error e => exact hx pins σ _ _ e s' I2 hq'
  | ok fl =>
    cases fl with
    | ret u =>
      obtain ⟨v, H', I3, rv, ev, q3⟩ := I2.after hq'
      subst ev
      exact ⟨rv, ⟨V.ref (s.heap.objs.size + 1), H', I3, rfl, q3⟩⟩
    | next => exact False.elim hq'
    | brk => exact False.elim hq'
    | cont => exact False.elim hq'
theorem pe_make (M : Mk X.K C f) (F : FnOk X.prog X.w X.K X.mg X.base CX k f fd ps sp) (hr : Room (k + 1) X.A) (hg : Gl X x) (hm : X.mg x = some (.ref C)) (hb : Binds X.K fd ps ds) (hd : Vals dvs ds) (hx : Passes CX X E)
    (ha : PA X (e :: es) t) (hdb : (x == ("__debug__" : Str)) = false := by decide) (he : starEach (e :: es) X.env = (false, eval e X.env) :: starEach es X.env := by rfl) (hpl : (backTo pos (starEach es X.env)).any (·.1) = false := by rfl) :
    PE X (.Call (.Name x p) (e :: es) [] pos) (tMake C sp dvs E t) := by
  intro pins s σ H Q I h
  refine wpAny_Call_Name_kw (ld_glob I hg hm ?_ hdb)
  refine PySem.W.callWith_K (h₀ := X.base) I.ok.mod.kin M.kp (thn (ha pos pins s σ H _ I h) fun us s1 ⟨vs, H1, I1, r, q⟩ => ⟨I1.kIn, ?_⟩) he hpl
  exact run_make M F hr hb hd hx I1 r q
theorem pe_make0 (M : Mk X.K C f) (F : FnOk X.prog X.w X.K X.mg X.base CX k f fd ps sp) (hr : Room (k + 1) X.A) (hg : Gl X x) (hm : X.mg x = some (.ref C)) (hb : Binds X.K fd ps ds) (hd : Vals dvs ds) (hx : Passes CX X E)
    (hdb : (x == ("__debug__" : Str)) = false := by decide) : PE X (.Call (.Name x p) [] [] pos) (tMake C sp dvs E tNil) := by
  intro pins s σ H Q I h
  refine wpAny_Call_Name_kw (ld_glob I hg hm ?_ hdb)
  exact PySem.W.callWith_K0 I.kIn M.kp (run_make (us := []) M F hr hb hd hx I .nil h)
end

/-! ### keywords -/
/-- the values of the keywords, from the left -/
def PK (X : Cx) (kws : List Keyword) (t : TA) : Prop :=
  ∀ (pos : Pos) (pins : List (Addr × Obj)) (s : Shared) (σ : St) (H : Hp) (Q : List V → Hp → Prop), Inv X pins σ H s → t σ H Q → wpAny (model X.prog X.w) X.A (evalAll ((backToKw pos (keywordEach kws X.env)).map (·.2))) (AP X pins σ Q) X.xe s
section
variable {X : Cx} {CX : CXT} {k : Nat} {f C : Addr} {fd : FuncData} {ps ks : List Str} {sp : Sp} {E : XK} {x m : Str} {p pos apos kpos : Pos} {e o : Expr} {es : List Expr} {kws : List Keyword} {te ta : TE} {t tk : TA} {nm : Option Str}
theorem pk_nil : PK X [] tNil := fun _ _ _ _ H Q I h => wpAny_evalAll_nil ⟨[], H, I, .nil, h⟩
theorem pk_cons (ha : PE X e te) (hr : PK X kws t) : PK X (⟨nm, e, kpos⟩ :: kws) (tCons te t) := by
  intro pos pins s σ H Q I h
  show wpAny _ _ (evalAll ((do let v ← eval e X.env; standAt pos; pure v) :: (backToKw pos (keywordEach kws X.env)).map (·.2))) _ _ s
  refine wpAny_evalAll_cons (wpAny_bind (thn (ha pins s σ H _ I h) fun u s1 ⟨x, H1, I1, r1, q1⟩ => wpAny_bind (wpAny_standAt (wpAny_pure ?_))))
  exact thn (hr pos pins s1 σ H1 _ I1 q1) fun us s2 ⟨xs, H2, I2, r2, q2⟩ => ⟨x :: xs, H2, I2, .cons r1 r2, q2⟩

/-- how a call with keywords binds: g puts the positional values us and the keywords' values ws (names ks) in the parameters' order, defaults among them -/
structure KBinds (K : PySem.W.Frag) (fd : FuncData) (ps ks : List Str) (g : List Value → List Value → List Value) (gV : List V → List V → List V) : Prop where
  to : ∀ (s : Shared) (us ws : List Value), K.In s.heap → (g us ws).length = ps.length → BindsTo s fd ⟨us, ks.zip ws⟩ (ps.zip (g us ws))
  rel : ∀ {vs : List V} {us : List Value} {zs : List V} {ws : List Value}, Vals vs us → Vals zs ws → Vals (gV vs zs) (g us ws)
variable {g : List Value → List Value → List Value} {gV : List V → List V → List V}
end

/-! ### a def's body keeps its promise -/
/-- names: the parameters first -/
structure FnScope (N P : List Str) (sc : Scope) : Prop where
  kind : sc.kind = .function
  co : sc.isCoroutine = false
  gen : sc.isGenerator = false
  nd : N.Nodup
  pre : N.take P.length = P
  par : ∀ x ∈ P, sc.names.lookup x = some .local ∨ sc.names.lookup x = some .cell
  nofree : ∀ y ∈ sc.names, y.2 ≠ .free

theorem bindL_out {kindOf : Str → Option NameKind} {x : Str} : ∀ {binds : List (Str × Value)} {m : Str → Option Value}, (∀ v, (x, v) ∉ binds) → bindL kindOf binds m x = m x
  | [], _, _ => rfl
  | (n, v) :: r, m, h => by
    unfold bindL
    rw [bindL_out fun w hw => h w (List.mem_cons_of_mem _ hw)]
    split
    · have : x ≠ n := by rintro rfl; exact h v List.mem_cons_self
      simp [this]
    · rfl
theorem bindC_out {kindOf : Str → Option NameKind} {x : Str} : ∀ {binds : List (Str × Value)} {m : Str → Option Value}, (∀ v, (x, v) ∉ binds) → bindC kindOf binds m x = m x
  | [], _, _ => rfl
  | (n, v) :: r, m, h => by
    unfold bindC
    rw [bindC_out fun w hw => h w (List.mem_cons_of_mem _ hw)]
    split
    · rfl
    · have : x ≠ n := by rintro rfl; exact h v List.mem_cons_self
      simp [this]
theorem bindL_get {kindOf : Str → Option NameKind} {x : Str} {v : Value} : ∀ {P : List Str} {vs : List Value} {i : Nat} {m : Str → Option Value}, P.Nodup → P[i]? = some x → vs[i]? = some v → kindOf x = some .local →
    bindL kindOf (P.zip vs) m x = some v
  | [], _, _, _, _, h, _, _ => by simp at h
  | _ :: _, [], _, _, _, _, h, _ => by simp at h
  | p :: P, w :: vs, 0, m, nd, h1, h2, hk => by
    simp at h1 h2; subst h1; subst h2
    show bindL kindOf ((p, w) :: P.zip vs) m p = _
    unfold bindL
    rw [bindL_out fun v hv => (List.nodup_cons.mp nd).1 (List.of_mem_zip hv).1, if_pos hk]
    simp
  | p :: P, w :: vs, i + 1, m, nd, h1, h2, hk => by
    show bindL kindOf ((p, w) :: P.zip vs) m x = _
    unfold bindL
    exact bindL_get (i := i) (List.nodup_cons.mp nd).2 (by simpa using h1) (by simpa using h2) hk
theorem bindC_get {kindOf : Str → Option NameKind} {x : Str} {v : Value} : ∀ {P : List Str} {vs : List Value} {i : Nat} {m : Str → Option Value}, P.Nodup → P[i]? = some x → vs[i]? = some v → kindOf x ≠ some .local →
    bindC kindOf (P.zip vs) m x = some v
  | [], _, _, _, _, h, _, _ => by simp at h
  | _ :: _, [], _, _, _, _, h, _ => by simp at h
  | p :: P, w :: vs, 0, m, nd, h1, h2, hk => by
    simp at h1 h2; subst h1; subst h2
    show bindC kindOf ((p, w) :: P.zip vs) m p = _
    unfold bindC
    rw [bindC_out fun v hv => (List.nodup_cons.mp nd).1 (List.of_mem_zip hv).1, if_neg hk]
    simp
  | p :: P, w :: vs, i + 1, m, nd, h1, h2, hk => by
    show bindC kindOf ((p, w) :: P.zip vs) m x = _
    unfold bindC
    exact bindC_get (i := i) (List.nodup_cons.mp nd).2 (by simpa using h1) (by simpa using h2) hk

/-- the names' values at the entry -/
def start (N : List Str) (vs : List V) : St := vs.map some ++ List.replicate (N.length - vs.length) none

/-- the context of a def's body, at its entry; an exception leaves the frame, then lies as CX says -/
def cxOf (CX : CXT) (P : Program) (w : World) (K : PySem.W.Frag) (mg : Str → Option Value) (base : Heap) (N : List Str) (qual : Str) (scope : Scope) (f : Addr) (cd : Value) (A : Around) (outer : List Env) (s : Shared) (H : Hp) (E : XK) : Cx where
  prog := P
  w := w
  K := K
  mg := mg
  base := base
  A := A.deeper (envOfC qual scope s.heap.objs.size f cd)
  N := N
  s_0 := s
  H_0 := H
  env := envOfC qual scope s.heap.objs.size f cd
  outer := outer
  stack := envOfC qual scope s.heap.objs.size f cd :: outer
  ex := []
  calm := true
  fn := fun _ => true
  pn := []
  xe := fun e s' => wpAny (model P w) (A.deeper (envOfC qual scope s.heap.objs.size f cd)) (leaving (envOfC qual scope s.heap.objs.size f cd) e) (fun _ s'' => CX outer H s E e s'') (fun e' s'' => CX outer H s E e' s'') s'

theorem cell_has {sc : Scope} {n : Nat} {x : Str} (h : sc.names.lookup x = some .cell) : ∃ c, (cellsFrom n sc.names []).lookup x = some c := by
  have q := PySem.W.cellsFrom_some sc.names n [] (.inl h)
  exact Option.isSome_iff_exists.mp q

theorem inv_start {CX : CXT} {P : Program} {w : World} {K : PySem.W.Frag} {mg : Str → Option Value} {base : Heap} {N ps : List Str} {qual : Str} {scope : Scope} {f : Addr} {cd : Value} {A : Around} {outer : List Env} {s s1 : Shared} {H : Hp} {E : XK} {us : List Value} {vs : List V}
    (S : FnScope N ps scope) (hd : A.handled = none) (e0 : Env0 P w K mg base A outer s H) (hl : vs.length = ps.length) (r : Vals vs us)
    (x : InCallC s s.heap.objs.size (bindL (envOfC qual scope s.heap.objs.size f cd).kindOf (ps.zip us) fun _ => none) (cellsFrom (s.heap.objs.size + 1) scope.names []) (bindC (envOfC qual scope s.heap.objs.size f cd).kindOf (ps.zip us) fun _ => none) s1) :
    Inv (cxOf CX P w K mg base N qual scope f cd A outer s H E) [] (start N vs) H s1 := by
  have hpl : ps.length ≤ N.length := by have := congrArg List.length S.pre; rw [List.length_take] at this; omega
  obtain ⟨h1, tk, rfl, hk⟩ := x.done
  have noA : ∀ b : Addr, b ∉ (cxOf CX P w K mg base N qual scope f cd A outer s H E).ex := fun b z => absurd (show b ∈ ([] : List Addr) from z) (by simp)
  refine ⟨⟨e0.mod, S.kind, rfl, rfl, Nat.le_refl _, fun y z c h1 h2 => ?_, fun y hy => ?_, fun y c _ h => ?_, fun _ => hd, Around.frames_deeper e0.frames, .inr ⟨rfl, rfl⟩, fun b z => absurd z (noA b), e0.bs, e0.bsz, fun b _ _ => noA b, fun b z => absurd z (noA b), e0.funs, e0.frf⟩,
    rfl, e0.bare, Un.kept hk, ⟨_, x.toInCall.ns, fun i y v h1 h2 h3 => ?_⟩, fun y c h => ⟨_, x.cell y c h⟩, e0.hok.fresh (Nat.le_refl _), fun y c h => ?_, fun p hp => absurd (show p ∈ ([] : List (Addr × Obj)) from hp) (by simp), e0.hok.kept hk, ?_⟩
  · exact name_of_addr x.apart (PySem.mem_of_lookup h1) (PySem.mem_of_lookup h2)
  · have hy : scope.names.lookup y = some .cell ∨ scope.names.lookup y = some .free := hy
    rcases hy with hy | hy
    · exact cell_has hy
    · exact absurd rfl (S.nofree _ (PySem.mem_of_lookup hy))
  · exact Nat.le_of_lt (x.above y c (PySem.mem_of_lookup h))
  · have hi : i < vs.length := by
      unfold start at h2
      by_cases hi : i < vs.length
      · exact hi
      · rw [List.getElem?_append_right (by simpa using hi)] at h2
        rw [List.getElem?_replicate] at h2
        split at h2 <;> cases h2
    have ha : vs[i]? = some v := by
      unfold start at h2
      rw [List.getElem?_append_left (by simpa using hi), List.getElem?_map] at h2
      cases e : vs[i]? with
      | none => rw [e] at h2; cases h2
      | some a => rw [e] at h2; cases h2; rfl
    obtain ⟨u, hu, rv⟩ := r.get ha
    have hp : ps[i]? = some y := by
      rw [← S.pre, List.getElem?_take_of_lt (by omega)]; exact h1
    have ndP : ps.Nodup := by rw [← S.pre]; exact S.nd.sublist (List.take_sublist _ _)
    refine ⟨u, rv, ?_⟩
    rcases S.par y (List.mem_of_getElem? hp) with k | k
    · exact .inl ⟨k, bindL_get ndP hp hu k⟩
    · obtain ⟨c, e⟩ := cell_has (n := s.heap.objs.size + 1) k
      refine .inr ⟨.inl k, c, e, ?_⟩
      have q := x.cell y c e
      rw [bindC_get ndP hp hu (by show scope.names.lookup y ≠ _; rw [k]; decide)] at q
      exact q
  · exact e0.hok.fresh (Nat.le_of_lt (x.above y c (PySem.mem_of_lookup h)))
  · unfold start
    show _ = N.length
    rw [List.length_append, List.length_map, List.length_replicate]
    omega

/-- THE RULE: a def (or a method) of the text, by its body. The body's reading t is chosen for each entry; it is run at the parameters' values -/
theorem fn_of {CX : CXT} {P : Program} {w : World} {K : PySem.W.Frag} {mg : Str → Option Value} {base : Heap} {k : Nat} {f : Addr} {name qual : Str} {params : Arguments} {body : List Stmt} {scope : Scope} {dV kV doc pm cdv ct oc : Value} {an od : Option Addr}
    {osl : Array (Option Value)} {N ps : List Str} {sp : Sp} (lk : K.lookup f = some ⟨oc, od, .func (PySem.W.fnOf name qual params body scope dV kV doc pm an cdv ct), osl⟩) (hcd : PySem.W.codeIn K cdv qual = true) (S : FnScope N ps scope)
    (len : ∀ vs H Q E, sp vs H Q E → vs.length = ps.length)
    (hbody : ∀ (A : Around) (outer : List Env) (s : Shared) (H : Hp) (vs : List V) (Q : VK) (E : XK), Room k (A.deeper (envOfC qual scope s.heap.objs.size f cdv)) → sp vs H Q E →
      ∃ t, PSs (cxOf CX P w K mg base N qual scope f cdv A outer s H E) body t ∧ t { nx := fun _ H' => Q .non H', rt := Q } (start N vs) H) :
    FnOk P w K mg base CX (k + 1) f (PySem.W.fnOf name qual params body scope dV kV doc pm an cdv ct) ps sp := by
  refine ⟨len, fun A outer s H args us vs Q E hr e0 hb r hsp => ?_⟩
  have hl := len _ _ _ _ hsp
  have KX : K.In s.heap := e0.mod.kin.keeps fun b o e => (e0.bs b o e).1
  have lim : s.heap.NoLimit := e0.mod.nolimit.keeps fun b o e => (e0.bs b o e).1
  have hkind : ∀ y ∈ ps.zip us, scope.names.lookup y.1 = some .local ∨ (scope.names.lookup y.1 = some .cell ∧ ((cellsFrom (s.heap.objs.size + 1) scope.names []).lookup y.1).isSome = true) := fun ⟨n, v⟩ hy => by
    rcases S.par n (List.of_mem_zip hy).1 with q | q
    · exact .inl q
    · exact .inr ⟨q, PySem.W.cellsFrom_some _ _ _ (.inl q)⟩
  refine codeAny_call_function hr.depth (KX _ _ lk) rfl S.co S.gen rfl (PySem.W.codeRec_of KX hcd) (hb _ _ _ _ ?_)
  refine wpAny_newFunctionEnv_cells S.kind hkind fun env he s1 x => ?_
  subst he
  refine ⟨lim.keeps x.toInCall.keep, codeAny_func ?_⟩
  obtain ⟨t, ht, hq⟩ := hbody A outer s H vs Q E (hr.deeper _) hsp
  have I : Inv (cxOf CX P w K mg base N qual scope f cdv A outer s H E) [] (start N vs) H s1 := inv_start S hr.hd e0 hl r x
  refine wpAny_mono (ht [] s1 (start N vs) H _ I hq) (fun fl s' hs => ?_) fun e s' hs => hs
  have fin : ∀ {σ' : St} {H' : Hp} {v : V} {u : Value}, Inv (cxOf CX P w K mg base N qual scope f cdv A outer s H E) [] σ' H' s' → RelV v u → Q v H' → CE outer P w H s Q u s' :=
    fun {σ' H' v u} J rv q => ⟨v, H', J.os, J.bare, J.base, J.hok, rv, q⟩
  cases fl with
  | ret u =>
    obtain ⟨v, σ', H', J, rv, q⟩ := hs
    exact fin J rv q
  | next =>
    obtain ⟨σ', H', J, q⟩ := hs
    exact fin (v := V.non) (u := Value.none) J rfl q
  | brk =>
    obtain ⟨_, _, _, q⟩ := hs
    exact False.elim q
  | cont =>
    obtain ⟨_, _, _, q⟩ := hs
    exact False.elim q
end L2

namespace L2
open PySem PySem.Spec PyProof.Rows
section
variable {X : Cx} {x : Str} {p pos : Pos} {e : Expr} {es : List Expr} {t : TA} {id T : String} {r : List V → Hp → VK → Prop}

def tCB (r : List V → Hp → VK → Prop) (t : TA) : TE := fun σ H Q => t σ H fun vs H1 => r vs H1 Q
/-- f(e, ..), f a built-in function -/
theorem pe_callB (hc : CallR X (.builtin id) r) (hg : Gl X x) (hm : X.mg x = none) (hv : bootBuiltins x = some (.builtin id)) (ha : PA X (e :: es) t) (hn : x ≠ "__name__" := by decide) (hdb : (x == ("__debug__" : Str)) = false := by decide)
    (he : starEach (e :: es) X.env = (false, eval e X.env) :: starEach es X.env := by rfl) (hpl : (backTo pos (starEach es X.env)).any (·.1) = false := by rfl) : PE X (.Call (.Name x p) (e :: es) [] pos) (tCB r t) := by
  intro pins s σ H Q I h
  refine wpAny_Call_Name_kw (ld_blt I hg hm hv ?_ hn hdb)
  exact PyProof.Rows.callWith_builtin1 (thn (ha pos pins s σ H _ I h) fun us s1 ⟨vs, H1, I1, r1, q1⟩ => hc pins s1 σ H1 vs us Q I1 r1 q1) he hpl
/-- T(e, ..), T a built-in type -/
theorem pe_callTy (hc : CallR X (.type T) r) (hg : Gl X x) (hm : X.mg x = none) (hv : bootBuiltins x = some (.type T)) (ha : PA X (e :: es) t) (hn : x ≠ "__name__" := by decide) (hdb : (x == ("__debug__" : Str)) = false := by decide)
    (he : starEach (e :: es) X.env = (false, eval e X.env) :: starEach es X.env := by rfl) (hpl : (backTo pos (starEach es X.env)).any (·.1) = false := by rfl) : PE X (.Call (.Name x p) (e :: es) [] pos) (tCB r t) := by
  intro pins s σ H Q I h
  refine wpAny_Call_Name_kw (ld_blt I hg hm hv ?_ hn hdb)
  exact PyProof.Rows.callWith_type1 (thn (ha pos pins s σ H _ I h) fun us s1 ⟨vs, H1, I1, r1, q1⟩ => hc pins s1 σ H1 vs us Q I1 r1 q1) he hpl
end
end L2

namespace HT
open PySem PyProof.Rows

section
open PySem.SeqAt
open PySem.AutoSeq1 (wpAny_loadPart')
open PySem.MeetsSeq PySem.MeetsSeq2 PySem.MeetsSeq3

end

section
variable {prog : Program} {w : World} {A : Around} {E : Value → Shared → Prop} {s : Shared}

/-- t + u, t not empty -/
theorem cat_tup {t b : Addr} {vs ws : List Value} {Q : Value → Shared → Prop} (ht : IsTup s.heap t vs.toArray) (hb : IsTup s.heap b ws.toArray) (hv : vs ≠ [])
    (h1 : ws = [] → Q (.ref t) s) (h2 : ws ≠ [] → Q (.ref s.heap.objs.size) { s with heap := s.heap.push { cls := .type "tuple", data := .seq (vs ++ ws).toArray } })
    (hsz : vs.length + ws.length ≤ sizeLine) : wpAny (model prog w) A (binaryOp .Add (.ref t) (.ref b)) Q E s := by
  obtain ⟨⟨cls, dd, data, sl⟩, ho, hc, n, hd⟩ := id ht
  obtain ⟨⟨cls2, dd2, data2, sl2⟩, ho2, hc2, n2, hd2⟩ := id hb
  simp only at hc hd hc2 hd2
  subst hc hd hc2 hd2
  have e : vs.toArray ++ ws.toArray = (vs ++ ws).toArray := by simp
  by_cases hw : ws = []
  · exact concat_meets ⟨_, ho, rfl⟩ ⟨_, ho2, rfl⟩ noFill_tuple_add seq_tuple_add PySem.F.slot_tuple_add PySem.F.entry_tuple_add (PySem.F.args_tuple_add_2 _ _)
      (tuple_addW1 t b vs.toArray ws.toArray n n2 dd dd2 sl sl2 (by simpa using hv) (by simp [hw])) ⟨ho, ho2, h1 hw⟩
  · refine concat_meets ⟨_, ho, rfl⟩ ⟨_, ho2, rfl⟩ noFill_tuple_add seq_tuple_add PySem.F.slot_tuple_add PySem.F.entry_tuple_add (PySem.F.args_tuple_add_2 _ _)
      (tuple_addW2 t b vs.toArray ws.toArray n n2 dd dd2 sl sl2 (by simpa using hv) (by simpa using hw) (by rw [List.size_toArray, List.size_toArray]; exact hsz)) ⟨ho, ho2, ?_⟩
    rw [e]
    exact h2 hw

/-! ### t[a:b], not the whole -/
/-- a slice's bound as a place among n (d where it is left out) -/
def sIx (n d : Nat) : Option Int → Nat
  | none => d
  | some v => if v < 0 then (v + (n : Int)).toNat else min v.toNat n
theorem sIx_none (n d : Nat) : sIx n d none = d := rfl
theorem sIx_nat (n d k : Nat) : sIx n d (some (k : Int)) = min k n := by
  show (if (k : Int) < 0 then ((k : Int) + (n : Int)).toNat else min (k : Int).toNat n) = min k n
  rw [if_neg (by omega), Int.toNat_natCast]
theorem sIx_le (n d : Nat) (hd : d ≤ n) (o : Option Int) : sIx n d o ≤ n := by
  cases o with
  | none => exact hd
  | some v =>
    show (if v < 0 then (v + (n : Int)).toNat else min v.toNat n) ≤ n
    by_cases hv : v < 0
    · rw [if_pos hv]; omega
    · rw [if_neg hv]; exact Nat.min_le_right _ _
theorem clip_eq (v : Int) (n d : Nat) : (if v < 0 then max (v + (n : Int)) 0 else min v (n : Int)) = ((sIx n d (some v) : Nat) : Int) := by
  show (if v < 0 then max (v + (n : Int)) 0 else min v (n : Int)) = (((if v < 0 then (v + (n : Int)).toNat else min v.toNat n) : Nat) : Int)
  by_cases hv : v < 0
  · simp only [if_pos hv]; omega
  · simp only [if_neg hv]; omega
theorem adjust_gen (lo hi : Option Int) (n : Nat) : Builtin.Slice.sliceAdjust lo hi 1 (n : Int) = (((sIx n 0 lo : Nat) : Int), ((sIx n n hi : Nat) : Int)) := by
  have h1 : ¬ ((1 : Int) < 0) := by omega
  unfold Builtin.Slice.sliceAdjust
  simp only [h1, if_false]
  refine Prod.ext ?_ ?_
  · cases lo with
    | none => rfl
    | some v => exact clip_eq v n 0
  · cases hi with
    | none => rfl
    | some v => exact clip_eq v n n
theorem places_gen (i j : Nat) : Builtin.Slice.slicePlaces (i : Int) (j : Int) 1 = j - i := by
  unfold Builtin.Slice.slicePlaces
  have h1 : (1 : Int) > 0 := by omega
  simp only [h1, if_true, Int.ediv_one]
  split <;> omega
theorem slicePart_ {v : Value} {o : Option Int} {Q : Option Int → Shared → Prop} (p : IsPart v o) (h : Q o s) : wpAny (model prog w) A (Builtin.Slice.slicePartIndex v) Q E s := by
  cases p with
  | none => exact slicePart_none h
  | int i t => exact slicePart_int h
theorem sliceApplied_gen {sl : Addr} {vl vu : Value} {lo hi : Option Int} {n : Nat} {Q : Int × Int × Nat → Shared → Prop} (hs : s.heap.IsSliceOf sl vl vu .none) (pl : IsPart vl lo) (pu : IsPart vu hi)
    (h : Q (((sIx n 0 lo : Nat) : Int), 1, sIx n n hi - sIx n 0 lo) s) : wpAny (model prog w) A (Builtin.Slice.sliceApplied (.ref sl) (pure (n : Int))) Q E s := by
  obtain ⟨os, hos, hcs, hds⟩ := id hs
  unfold Builtin.Slice.sliceApplied Builtin.Slice.sliceFields
  refine wpAny_bind (wpAny_bind (wpAny_field hos hds (x := vl) rfl (wpAny_bind (wpAny_field hos hds (x := vu) rfl (wpAny_bind (wpAny_field hos hds (x := .none) rfl (wpAny_pure ?_)))))))
  refine wpAny_bind (slicePart_none ?_)
  show wpAny _ _ (if ((1 : Int) == 0) = true then _ else _) _ _ s
  rw [if_neg (by decide)]
  refine wpAny_bind (slicePart_ pl (wpAny_bind (slicePart_ pu (wpAny_bind (wpAny_pure ?_)))))
  show wpAny _ _ (match Builtin.Slice.sliceAdjust lo hi 1 (n : Int) with | (lo, hi) => pure (lo, (1 : Int), Builtin.Slice.slicePlaces lo hi 1)) _ _ s
  rw [adjust_gen lo hi n]
  show wpAny _ _ (pure (((sIx n 0 lo : Nat) : Int), (1 : Int), Builtin.Slice.slicePlaces ((sIx n 0 lo : Nat) : Int) ((sIx n n hi : Nat) : Int) 1)) _ _ s
  rw [places_gen]
  exact wpAny_pure h
theorem pick_gen (xs : Array Value) (i k : Nat) : ((List.range k).filterMap fun (m : Nat) => xs[((i : Int) + (m : Int) * 1).toNat]?).toArray = ((xs.toList.drop i).take k).toArray := by
  have e : (fun (m : Nat) => xs[((i : Int) + (m : Int) * 1).toNat]?) = fun m => xs[i + m]? := by
    funext m
    have : ((i : Int) + (m : Int) * 1).toNat = i + m := by omega
    rw [this]
  rw [e]
  have := pick_run xs i k
  rw [List.filterMap_map] at this
  have e2 : ((fun x => xs[x]?) ∘ fun x => i + x) = fun m => xs[i + m]? := rfl
  rw [e2] at this
  rw [this]

theorem getItem_tuple_cut {t sl : Addr} {items : Array Value} {vl vu : Value} {lo hi : Option Int} {Q : Value → Shared → Prop} (ht : IsTup s.heap t items) (hs : s.heap.IsSliceOf sl vl vu .none) (pl : IsPart vl lo) (pu : IsPart vu hi)
    (hw : ¬ (sIx items.size 0 lo = 0 ∧ sIx items.size items.size hi = items.size))
    (h : Q (.ref s.heap.objs.size) { s with heap := s.heap.push { cls := .type "tuple", data := .seq ((items.toList.drop (sIx items.size 0 lo)).take (sIx items.size items.size hi - sIx items.size 0 lo)).toArray } })
    (hsz : items.size ≤ sizeLine) : wpAny (model prog w) A (getItem (.ref t) (.ref sl)) Q E s := by
  have htake : sizeOk (.seq ((items.toList.drop (sIx items.size 0 lo)).take (sIx items.size items.size hi - sIx items.size 0 lo)).toArray) := by
    show ((items.toList.drop (sIx items.size 0 lo)).take (sIx items.size items.size hi - sIx items.size 0 lo)).toArray.size ≤ sizeLine
    rw [List.size_toArray, List.length_take, List.length_drop, Array.length_toList]
    omega
  have hj : sIx items.size items.size hi ≤ items.size := sIx_le _ _ (Nat.le_refl _) hi
  obtain ⟨os, hos, hcs, hds⟩ := id hs
  have hTs : s.TypeIs (.ref sl) "slice" := ⟨os, hos, hcs⟩
  unfold getItem
  try with_reducible refine wpAny_holding ?_
  first | refine wpAny_bind (wpAny_pure ?_) | skip
  refine wpAny_bind (wpAny_sequenceKey ht.typeIs (by decide) ?_)
  refine wpAny_bind (wpAny_callSpecial?_slot (name := Str.ofString "__getitem__") ht.typeIs PyProof.Rows.slot_tuple_getitem
    (wpAny_call_entry PyProof.Rows.slot_tuple_getitem ht.typeIs entry_tuple_getitem ?_ (args_tuple_getitem _ _)))
  show wpAny _ _ (Builtin.Tuple.tupleItemsOf (.ref t) >>= _) _ _ s
  refine wpAny_bind (tupleItemsOf_ ht ?_)
  refine wpAny_bind (wpAny_typeOf hTs ?_)
  rw [if_pos (by decide)]
  refine wpAny_bind (sliceApplied_gen hs pl pu ?_)
  have hno : ¬ ((((sIx items.size 0 lo : Nat) : Int) == 0 && (1 : Int) == 1 && (sIx items.size items.size hi - sIx items.size 0 lo) == items.size) = true) := by
    intro q
    rw [Bool.and_eq_true, Bool.and_eq_true] at q
    have q1 : ((sIx items.size 0 lo : Nat) : Int) = 0 := eq_of_beq q.1.1
    have q2 : sIx items.size items.size hi - sIx items.size 0 lo = items.size := eq_of_beq q.2
    exact hw ⟨by omega, by omega⟩
  show wpAny _ _ (if (((sIx items.size 0 lo : Nat) : Int) == 0 && (1 : Int) == 1 && (sIx items.size items.size hi - sIx items.size 0 lo) == items.size) = true then _ else _) _ _ s
  rw [if_neg hno, pick_gen]
  first
    | exact wpAny_bind (m := Builtin.Tuple.tupleExact _) (wpAny_newObj_type (wpAny_pure ⟨_, rfl, wpAny_pure h⟩) htake)
    | exact wpAny_bind (m := Builtin.Tuple.tupleExact _) (wpAny_newObj_type (wpAny_bind (wpAny_pure (wpAny_pure ⟨_, rfl, wpAny_pure h⟩))) htake)
    | exact wpAny_bind (wpAny_bind (m := Builtin.Tuple.tupleExact _) (wpAny_newObj_type (wpAny_pure (wpAny_pure ⟨_, rfl, wpAny_pure h⟩)) htake))
    | exact wpAny_bind (wpAny_bind (m := Builtin.Tuple.tupleExact _) (wpAny_newObj_type (wpAny_pure ⟨_, rfl, wpAny_pure h⟩) htake))
end
end HT

namespace L2
open PySem PySem.Spec PyProof.Rows

/-! ### the parts of a slice -/
abbrev TO := St → Hp → (Option Int → Hp → Prop) → Prop
/-- a slice's part (left out, or an int) -/
def PO (X : Cx) (e : Option Expr) (t : TO) : Prop :=
  ∀ (pins : List (Addr × Obj)) (s : Shared) (σ : St) (H : Hp) (Q : Option Int → Hp → Prop), Inv X pins σ H s → t σ H Q →
    wpAny (model X.prog X.w) X.A (evalPart e X.env) (fun u s' => ∃ o H', Inv X pins σ H' s' ∧ IsPart u o ∧ Q o H') X.xe s
def tNoPart : TO := fun _ H Q => Q none H
def tPart (t : TE) : TO := fun σ H Q => t σ H fun x H1 => ∃ i, x = .int i ∧ Q (some i) H1

section
variable {X : Cx} {e : Expr} {te : TE} {lo hi : Option Expr} {tl th : TO} {pos p2 : Pos}

theorem po_none : PO X none tNoPart := by
  intro pins s σ H Q I h
  rw [evalPart_none]
  exact wpAny_pure ⟨none, H, I, .none, h⟩
theorem po_some (h : PE X e te) : PO X (some e) (tPart te) := by
  intro pins s σ H Q I hw
  rw [evalPart_some]
  refine thn (h pins s σ H _ I hw) fun u s1 ⟨x, H1, I1, r1, q1⟩ => ?_
  obtain ⟨i, rfl, q⟩ := q1
  obtain ⟨t, rfl⟩ := r1
  exact ⟨some i, H1, I1, .int i t, q⟩

/-- what a slice of a value is, by values: the slice object stands at sl -/
def SlR (X : Cx) (r : V → Option Int → Option Int → Hp → VK → Prop) : Prop :=
  ∀ (pins : List (Addr × Obj)) (s : Shared) (σ : St) (H : Hp) (x : V) (v vl vu : Value) (lo hi : Option Int) (sl : Addr) (Q : VK), Inv X pins σ H s → RelV x v → s.heap.IsSliceOf sl vl vu .none → IsPart vl lo → IsPart vu hi → r x lo hi H Q →
    ∃ T id, typeLookup (.type T) "__getitem__" = pure (some (.builtin id)) ∧ s.TypeIs v T ∧ wpAny (model X.prog X.w) X.A (getItem v (.ref sl)) (EP X pins σ Q) X.xe s
def tSl (r : V → Option Int → Option Int → Hp → VK → Prop) (te : TE) (tl th : TO) : TE := fun σ H Q => te σ H fun x H1 => tl σ H1 fun l H2 => th σ H2 fun u H3 => r x l u H3 Q
/-- a[lo:hi], any a -/
theorem pe_slice {r : V → Option Int → Option Int → Hp → VK → Prop} (hr : SlR X r) (he : PE X e te) (hl : PO X lo tl) (hu : PO X hi th) : PE X (.Subscript e (.Slice lo hi none p2) pos) (tSl r te tl th) := by
  intro pins s σ H Q I h
  refine Subscript_ (thn (he pins s σ H _ I h) fun v s1 ⟨x, H1, I1, r1, q1⟩ => ?_)
  refine wpAny_Slice (thn (hl pins s1 σ H1 _ I1 q1) fun vl s2 ⟨l, H2, I2, pl, q2⟩ => thn (hu pins s2 σ H2 _ I2 q2) fun vu s3 ⟨u, H3, I3, pu, q3⟩ => ?_)
  rw [evalPart_none]
  refine wpAny_pure ?_
  have I4 : Inv X pins σ H3 { s3 with heap := s3.heap.push { cls := .type "slice", data := .fields #[vl, vu, .none] } } := I3.kept (t' := s3.toks) fun b ob q => Heap.get?_push_of_some _ q
  obtain ⟨T, id, hT, ht, hg⟩ := hr pins { s3 with heap := s3.heap.push { cls := .type "slice", data := .fields #[vl, vu, .none] } } σ H3 x v vl vu l u s3.heap.objs.size Q I4 r1 (Heap.IsSliceOf.new ..) pl pu q3
  show wpAny (model X.prog X.w) X.A (subscriptTail e (.Slice lo hi none p2) v (.ref s3.heap.objs.size)) (EP X pins σ Q) X.xe { s3 with heap := s3.heap.push { cls := .type "slice", data := .fields #[vl, vu, .none] } }
  exact tail_any (ops := [.ref s3.heap.objs.size, v]) ht hT hg (by with_unfolding_all rfl)

/-- the items of xs[lo:hi] -/
def cutV (xs : List V) (lo hi : Option Int) : List V := (xs.drop (HT.sIx xs.length 0 lo)).take (HT.sIx xs.length xs.length hi - HT.sIx xs.length 0 lo)
theorem cutV_length (xs : List V) (lo hi : Option Int) : (cutV xs lo hi).length ≤ xs.length := by
  unfold cutV
  rw [List.length_take, List.length_drop]
  omega
/-- t[lo:hi], not the whole of it (the whole would be t itself) -/
def rSlT (K : PySem.W.Frag) : V → Option Int → Option Int → Hp → VK → Prop := fun x lo hi H Q => ∃ a xs, x = .ref a ∧ SqT K H a xs ∧
  ¬ (HT.sIx xs.length 0 lo = 0 ∧ HT.sIx xs.length xs.length hi = xs.length) ∧ ∀ p, H p = none → Q (.ref p) (upd H p (.tup (cutV xs lo hi)))
theorem sl_tup : SlR X (rSlT X.K) := by
  intro pins s σ H x v vl vu lo hi sl Q I rx hs pl pu h
  obtain ⟨a, xs, rfl, hx, hw, q⟩ := h
  cases rx
  obtain ⟨its, r, ht, hz⟩ := I.tuple hx
  have hlen : its.toArray.size = xs.length := by rw [List.size_toArray]; exact r.length.symm
  refine ⟨"tuple", _, PyProof.Rows.slot_tuple_getitem.lookup, ht.typeIs, ?_⟩
  refine HT.getItem_tuple_cut ht hs pl pu (by rw [hlen]; exact hw) ?_ (by rw [hlen]; exact hz)
  rw [hlen]
  refine ⟨.ref s.heap.objs.size, _, I.laid (t' := s.toks) (o := .tup (cutV xs lo hi)) (fun b ob q => Heap.get?_push_of_some _ q) (Nat.le_refl _) ?_, rfl, q _ (I.hok.fresh (Nat.le_refl _))⟩
  exact ⟨Nat.le_trans (cutV_length xs lo hi) hz, _, (r.drop (HT.sIx xs.length 0 lo)).take (HT.sIx xs.length xs.length hi - HT.sIx xs.length 0 lo), IsTup.new _ _⟩

/-! ### t < u, t + u -/
/-- t + u, t not empty: u empty gives t itself -/
def rCatT (K : PySem.W.Frag) : R2 := fun x y H Q => ∃ a b xs ys, x = .ref a ∧ y = .ref b ∧ SqT K H a xs ∧ SqT K H b ys ∧ xs ≠ [] ∧ xs.length + ys.length ≤ sizeLine ∧
  (ys = [] → Q (.ref a) H) ∧ (ys ≠ [] → ∀ p, H p = none → Q (.ref p) (upd H p (.tup (xs ++ ys))))
theorem Vals.nil_iff {xs : List V} {us : List Value} (r : Vals xs us) : us = [] ↔ xs = [] := by
  cases r with
  | nil => simp
  | cons _ _ => simp
theorem op_catT : OpR X (binaryOp .Add) (rCatT X.K) := by
  intro pins s σ H x y v u Q I rx ry h
  obtain ⟨a, b, xs, ys, rfl, rfl, ha, hb, hx, hz, q1, q2⟩ := h
  cases rx
  cases ry
  obtain ⟨its, r1, p1, _⟩ := I.tuple ha
  obtain ⟨its2, r2, p2, _⟩ := I.tuple hb
  refine HT.cat_tup p1 p2 (fun z => hx (r1.nil_iff.mp z)) (fun z => ⟨.ref a, H, I, rfl, q1 (r2.nil_iff.mp z)⟩) (fun z => ?_) (by rw [← r1.length, ← r2.length]; exact hz)
  refine ⟨.ref s.heap.objs.size, _, I.laid (t' := s.toks) (o := .tup (xs ++ ys)) (fun b ob q => Heap.get?_push_of_some _ q) (Nat.le_refl _) ?_, rfl, q2 (fun w => z (r2.nil_iff.mpr w)) _ (I.hok.fresh (Nat.le_refl _))⟩
  exact ⟨by rw [List.length_append]; exact hz, _, r1.append r2, IsTup.new _ _⟩
end
end L2

namespace L2
open PySem PySem.Spec PyProof.Rows

/-! ### places -/
/-- the place that an index of any sign means -/
def ixN (n : Nat) (i : Int) : Option Nat := if 0 ≤ i then (if i < n then some i.toNat else none) else if -(n : Int) ≤ i then some (i + n).toNat else none
def atI {α : Type} (xs : List α) (i : Int) : Option α := (ixN xs.length i).bind fun j => xs[j]?
theorem ixN_seq {n : Nat} {i : Int} {j : Nat} (h : ixN n i = some j) : seqIndex? i n = some j ∧ j < n ∧ -(n : Int) ≤ i ∧ i < n := by
  unfold ixN at h
  by_cases h0 : 0 ≤ i
  · rw [if_pos h0] at h
    by_cases h1 : i < n
    · rw [if_pos h1] at h
      have e : i.toNat = j := Option.some.inj h
      exact ⟨by rw [seqIndex_of h0 h1, e], by omega, by omega, h1⟩
    · rw [if_neg h1] at h; cases h
  · rw [if_neg h0] at h
    by_cases h1 : -(n : Int) ≤ i
    · rw [if_pos h1] at h
      have e : (i + n).toNat = j := Option.some.inj h
      exact ⟨by rw [seqIndex_neg (by omega) h1, e], by omega, h1, by omega⟩
    · rw [if_neg h1] at h; cases h
theorem atI_get {α : Type} {xs : List α} {i : Int} {v : α} (h : atI xs i = some v) : ∃ j, seqIndex? i xs.length = some j ∧ xs[j]? = some v ∧ j < xs.length ∧ -(xs.length : Int) ≤ i ∧ i < xs.length := by
  unfold atI at h
  cases e : ixN xs.length i with
  | none => rw [e] at h; cases h
  | some j =>
    rw [e] at h
    obtain ⟨h1, h2, h3, h4⟩ := ixN_seq e
    exact ⟨j, h1, h, h2, h3, h4⟩
theorem atI_nat {α : Type} {xs : List α} {j : Nat} {v : α} (h : xs[j]? = some v) : atI xs (j : Int) = some v := by
  have hj : j < xs.length := (List.getElem?_eq_some_iff.mp h).1
  have e : ixN xs.length (j : Int) = some j := by
    unfold ixN
    rw [if_pos (by omega), if_pos (by omega)]; simp
  unfold atI; rw [e]; exact h
/-! ### what may be subscripted -/
/-- what stands as an index of a plain subscript -/
def PlainIx (b : Expr) : Prop := ∀ o i, subscripted b false o i = operate [o, i] (getItem o i)
/-- a subscript by values -/
def IxR (X : Cx) (r : R2) : Prop :=
  ∀ (value slice : Expr) (pins : List (Addr × Obj)) (s : Shared) (σ : St) (H : Hp) (x y : V) (v u : Value) (Q : VK), Inv X pins σ H s → RelV x v → RelV y u → r x y H Q →
    subscripted slice false v u = operate [v, u] (getItem v u) → wpAny (model X.prog X.w) X.A (subscriptTail value slice v u) (EP X pins σ Q) X.xe s
/-- a call of a builtin's method by values: the receiver, the arguments -/
def MtR (X : Cx) (id : String) (r : V → List V → Hp → VK → Prop) : Prop :=
  ∀ (pins : List (Addr × Obj)) (s : Shared) (σ : St) (H : Hp) (x : V) (xs : List V) (v : Value) (us : List Value) (Q : VK), Inv X pins σ H s → RelV x v → Vals xs us → r x xs H Q →
    wpAny (model X.prog X.w) X.A (call (.builtin id) (v :: us)) (EP X pins σ Q) X.xe s
section
variable {X : Cx} {a b : Expr} {ta tb : TE} {pos : Pos}
/-- a[b] -/
theorem pe_ix {r : R2} (hr : IxR X r) (ha : PE X a ta) (hb : PE X b tb) (hs : PlainIx b) : PE X (.Subscript a b pos) (tOp r ta tb) := by
  intro pins s σ H Q I h
  exact Subscript_ (binT ha hb I h fun v u s2 x y H2 I2 rx ry q => hr a b pins s2 σ H2 x y v u Q I2 rx ry q (hs _ _))

def rIxL (K : PySem.W.Frag) : R2 := fun x y H Q => ∃ p xs i v, x = .ref p ∧ y = .int i ∧ SqL K H p xs ∧ atI xs i = some v ∧ Q v H
def rIxT (K : PySem.W.Frag) : R2 := fun x y H Q => ∃ p xs i v, x = .ref p ∧ y = .int i ∧ SqT K H p xs ∧ atI xs i = some v ∧ Q v H
theorem ix_list : IxR X (rIxL X.K) := by
  intro value slice pins s σ H x y v u Q I rx ry h hs
  obtain ⟨p, xs, i, z, rfl, rfl, hq, he, q⟩ := h
  cases rx
  obtain ⟨t, rfl⟩ := ry
  obtain ⟨its, r, pl, hz⟩ := I.list hq
  obtain ⟨j, h1, h2, h3, h4, h5⟩ := atI_get he
  obtain ⟨w, ew, rw'⟩ := r.get h2
  have hl := r.length
  have hn := line63
  have fin : EP X pins σ Q w s := ⟨z, H, I, rw', q⟩
  by_cases h0 : 0 ≤ i
  · have hj : i.toNat = j := by
      rw [seqIndex_of h0 h5] at h1
      exact Option.some.inj h1
    exact item_listR pl.isList h0 (by omega) (by rw [hj]; simpa using ew) fin hs
  · have hj : (i + (its.toArray.size : Int)).toNat = j := by
      rw [seqIndex_neg (by omega) h4] at h1
      rw [List.size_toArray, ← hl]
      exact Option.some.inj h1
    exact subscriptTail_builtinR (x := w) pl.isList.typeIs slot_list_getitem.lookup
      (wpAny_getItem_list_neg (Q := fun r s' => r = w ∧ EP X pins σ Q r s') pl.isList (by omega) (by rw [List.size_toArray] <;> omega) (by omega) (by rw [hj]; simpa using ew) ⟨rfl, fin⟩) hs
theorem ix_tup : IxR X (rIxT X.K) := by
  intro value slice pins s σ H x y v u Q I rx ry h hs
  obtain ⟨p, xs, i, z, rfl, rfl, hq, he, q⟩ := h
  cases rx
  obtain ⟨t, rfl⟩ := ry
  obtain ⟨its, r, pl, hz⟩ := I.tuple hq
  obtain ⟨j, h1, h2, h3, h4, h5⟩ := atI_get he
  obtain ⟨w, ew, rw'⟩ := r.get h2
  have hl := r.length
  have hn := line63
  have fin : EP X pins σ Q w s := ⟨z, H, I, rw', q⟩
  exact subscriptTail_builtinR (x := w) pl.typeIs slot_tuple_getitem.lookup
    (getItem_tuple (j := j) (Q := fun r s' => r = w ∧ EP X pins σ Q r s') pl (by omega) (by omega) (by rw [List.size_toArray, ← hl]; exact h1) (by simpa using ew) ⟨rfl, fin⟩) hs
/-! ### xs[i] = v, any sign -/
/-! ### slices -/
theorem slice_bounds (lo hi : Option Int) (n : Nat) : (sliceBounds lo hi none n).1 = ((HT.sIx n 0 lo : Nat) : Int) ∧ (sliceBounds lo hi none n).2.1 = ((HT.sIx n n hi : Nat) : Int) ∧ (sliceBounds lo hi none n).2.2 = 1 := by
  refine ⟨?_, ?_, rfl⟩
  · cases lo with
    | none => simp [sliceBounds, HT.sIx]
    | some i =>
      simp only [sliceBounds, HT.sIx, Option.getD_none, show (1 : Int) > 0 by decide, if_true]
      by_cases h : i < 0
      · simp only [h, if_true] <;> omega
      · simp only [h, if_false] <;> omega
  · cases hi with
    | none => simp [sliceBounds, HT.sIx]
    | some i =>
      simp only [sliceBounds, HT.sIx, Option.getD_none, show (1 : Int) > 0 by decide, if_true]
      by_cases h : i < 0
      · simp only [h, if_true] <;> omega
      · simp only [h, if_false] <;> omega
theorem slicePick_cut (its : List Value) (lo hi : Option Int) : slicePick its.toArray lo hi none = ((its.drop (HT.sIx its.length 0 lo)).take (HT.sIx its.length its.length hi - HT.sIx its.length 0 lo)).toArray := by
  obtain ⟨h1, h2, h3⟩ := slice_bounds lo hi its.toArray.size
  unfold slicePick
  rw [h1, h2, h3]
  simp only [sliceRange_one, pick_run, List.size_toArray] <;> rfl
/-- xs[lo:hi] of a list: a new list -/
def rSlL (K : PySem.W.Frag) : V → Option Int → Option Int → Hp → VK → Prop := fun x lo hi H Q => ∃ a xs, x = .ref a ∧ SqL K H a xs ∧ ∀ p, H p = none → Q (.ref p) (upd H p (.lst (cutV xs lo hi)))
theorem sl_list : SlR X (rSlL X.K) := by
  intro pins s σ H x v vl vu lo hi sl Q I rx hs pl pu h
  obtain ⟨a, xs, rfl, hx, q⟩ := h
  cases rx
  obtain ⟨its, r, ht, hz⟩ := I.list hx
  have hlen := r.length
  refine ⟨"list", _, slot_list_getitem.lookup, ht.isList.typeIs, ?_⟩
  refine wpAny_getItem_list_slice ht.isList hs pl pu .none (by simp) ?_ (by rw [List.size_toArray] <;> omega)
  rw [slicePick_cut, ← hlen]
  refine ⟨.ref s.heap.objs.size, _, I.laid (t' := s.toks) (o := .lst (cutV xs lo hi)) (fun b ob q => Heap.get?_push_of_some _ q) (Nat.le_refl _) ?_, rfl, q _ (I.hok.fresh (Nat.le_refl _))⟩
  exact ⟨Nat.le_trans (cutV_length xs lo hi) hz, _, 0, (r.drop (HT.sIx xs.length 0 lo)).take (HT.sIx xs.length xs.length hi - HT.sIx xs.length 0 lo), Heap.get?_push_size _ rfl⟩

/-! ### in, not in: flat items -/
def flatV : V → Bool
  | .non => true
  | .bl _ => true
  | .int _ => true
  | .str _ => true
  | _ => false
/-- == of flat values -/
def eqV : V → V → Bool
  | .non, .non => true
  | .bl a, .bl b => a == b
  | .bl a, .int b => (if a then 1 else 0) == b
  | .int a, .bl b => a == (if b then 1 else 0)
  | .int a, .int b => a == b
  | .str a, .str b => a == b
  | _, _ => false
theorem eqAt_V {A : Around} {s : Shared} {y x : V} {u v : Value} (ry : RelV y u) (rx : RelV x v) (fy : flatV y = true) (fx : flatV x = true) : SeqAt.EqAt A s u v (eqV y x) := by
  cases y with
  | non =>
    cases ry
    cases x with
    | non => cases rx; exact SeqAt.EqAt.same _
    | bl b => cases rx; exact SeqAt.EqAt.none_bool b
    | int b => obtain ⟨t, rfl⟩ := rx; exact SeqAt.EqAt.none_int b t
    | str b => obtain ⟨t, rfl⟩ := rx; exact SeqAt.EqAt.none_str b t
    | _ => exact absurd (show false = true from fx) Bool.false_ne_true
  | bl a =>
    cases ry
    cases x with
    | non => cases rx; exact SeqAt.EqAt.bool_none a
    | bl b => cases rx; exact SeqAt.EqAt.bool_bool a b
    | int b => obtain ⟨t, rfl⟩ := rx; exact SeqAt.EqAt.bool_int a b t
    | str b => obtain ⟨t, rfl⟩ := rx; exact SeqAt.EqAt.bool_str a b t
    | _ => exact absurd (show false = true from fx) Bool.false_ne_true
  | int a =>
    obtain ⟨t', rfl⟩ := ry
    cases x with
    | non => cases rx; exact SeqAt.EqAt.int_none a t'
    | bl b => cases rx; exact SeqAt.EqAt.int_bool a t' b
    | int b => obtain ⟨t, rfl⟩ := rx; exact SeqAt.EqAt.int_int a t' b t
    | str b => obtain ⟨t, rfl⟩ := rx; exact SeqAt.EqAt.int_str a t' b t
    | _ => exact absurd (show false = true from fx) Bool.false_ne_true
  | str a =>
    obtain ⟨t', rfl⟩ := ry
    cases x with
    | non => cases rx; exact SeqAt.EqAt.str_none a t'
    | bl b => cases rx; exact SeqAt.EqAt.str_bool a t' b
    | int b => obtain ⟨t, rfl⟩ := rx; exact SeqAt.EqAt.str_int a t' b t
    | str b => obtain ⟨t, rfl⟩ := rx; exact SeqAt.EqAt.str_str a t' b t
    | _ => exact absurd (show false = true from fx) Bool.false_ne_true
  | _ => exact absurd (show false = true from fy) Bool.false_ne_true
/-- the items' answers, read off the values (a value's own answer does not lean on its token) -/
def eqU (x : V) (u : Value) : Bool := match u with
  | .none => eqV .non x
  | .bool b => eqV (.bl b) x
  | .int i _ => eqV (.int i) x
  | .str z _ => eqV (.str z) x
  | _ => false
theorem eqU_of {x y : V} {u : Value} (r : RelV y u) (f : flatV y = true) : eqU x u = eqV y x := by
  cases y with
  | non => cases r; rfl
  | bl b => cases r; rfl
  | int i => obtain ⟨t, rfl⟩ := r; rfl
  | str z => obtain ⟨t, rfl⟩ := r; rfl
  | _ => exact absurd (show false = true from f) Bool.false_ne_true
theorem any_eqU {x : V} : ∀ {xs : List V} {us : List Value}, Vals xs us → xs.all flatV = true → us.any (eqU x) = xs.any fun y => eqV y x
  | _, _, .nil, _ => rfl
  | y :: xs, u :: us, .cons r t, f => by
    rw [List.all_cons, Bool.and_eq_true] at f
    rw [List.any_cons, List.any_cons, eqU_of r f.1, any_eqU t f.2]
theorem mem_eqAt {A : Around} {s : Shared} {x : V} {v : Value} (rx : RelV x v) (fx : flatV x = true) : ∀ {xs : List V} {us : List Value}, Vals xs us → xs.all flatV = true → ∀ u ∈ us, SeqAt.EqAt A s u v (eqU x u)
  | _, _, .nil, _ => fun u hu => by cases hu
  | y :: xs, u :: us, .cons r t, f => fun u' hu => by
    rw [List.all_cons, Bool.and_eq_true] at f
    rcases List.mem_cons.mp hu with rfl | hu
    · rw [eqU_of r f.1]; exact eqAt_V r rx f.1 fx
    · exact mem_eqAt rx fx t f.2 u' hu
def inV (x : V) (xs : List V) : Bool := xs.any fun y => eqV y x
/-- x in a list or tuple of flat items -/
def rIn (K : PySem.W.Frag) (neg : Bool) : R2 := fun x y H Q => ∃ p xs, y = .ref p ∧ (SqL K H p xs ∨ SqT K H p xs) ∧ flatV x = true ∧ xs.all flatV = true ∧ Q (.bl (if neg then !inV x xs else inV x xs)) H
theorem op_in_seq : OpR X (compareOp .In) (rIn X.K false) := by
  intro pins s σ H x y v u Q I rx ry h
  obtain ⟨p, xs, rfl, hq, fx, fs, q⟩ := h
  cases ry
  rcases hq with hq | hq
  · obtain ⟨its, r, pl, hz⟩ := I.list hq
    refine SeqAt.in_listAt (eqU x) pl.isList (fun w hw => mem_eqAt rx fx r fs w (by simpa using hw)) ⟨.bl _, H, I, rfl, ?_⟩
    rw [show its.toArray.any (eqU x) = its.any (eqU x) by simp, any_eqU r fs]
    exact q
  · obtain ⟨its, r, pl, hz⟩ := I.tuple hq
    refine SeqAt.in_tupleAt (eqU x) pl (fun w hw => mem_eqAt rx fx r fs w (by simpa using hw)) ⟨.bl _, H, I, rfl, ?_⟩
    rw [show its.toArray.any (eqU x) = its.any (eqU x) by simp, any_eqU r fs]
    exact q
/-! ### len, list(x), tuple(x) of any list or tuple that is read -/
theorem call_len_seq : CallR X (.builtin "len") (fun xs H Q => ∃ p ys, xs = [.ref p] ∧ (SqL X.K H p ys ∨ SqT X.K H p ys) ∧ Q (.int ys.length) H) := by
  intro pins s σ H xs us Q I r h
  obtain ⟨p, ys, rfl, hq, q⟩ := h
  obtain ⟨u, rfl, rx⟩ := vals1 r
  cases rx
  have hn := line63
  rcases hq with hq | hq
  · obtain ⟨its, r', pl, hz⟩ := I.list hq
    have hlen := r'.length
    exact Calls.call_len_list pl.isList (by simp only [List.size_toArray] <;> omega) ⟨.int ys.length, H, I.tok _, ⟨s.toks + 1, by rw [List.size_toArray, hlen]⟩, q⟩
  · obtain ⟨its, r', pl, hz⟩ := I.tuple hq
    have hlen := r'.length
    exact len_tuple pl (by simp only [List.size_toArray] <;> omega) ⟨.int ys.length, H, I.tok _, ⟨s.toks + 1, by rw [List.size_toArray, hlen]⟩, q⟩
theorem call_list_of : CallR X (.type "list") (fun xs H Q => ∃ p ys, xs = [.ref p] ∧ (SqL X.K H p ys ∨ SqT X.K H p ys) ∧ ∀ l, H l = none → Q (.ref l) (upd H l (.lst ys))) := by
  intro pins s σ H xs us Q I r h
  obtain ⟨p, ys, rfl, hq, q⟩ := h
  obtain ⟨u, rfl, rx⟩ := vals1 r
  cases rx
  have fin : ∀ (its : List Value), Vals ys its → ys.length ≤ sizeLine → ∀ (h' : Heap) (c' : Nat), (∀ b o', s.heap.get? b = some o' → h'.get? b = some o') →
      h'.get? s.heap.objs.size = some { cls := .type "list", dict := none, data := .seq its.toArray c', slots := #[] } → EP X pins σ Q (.ref s.heap.objs.size) { s with heap := h' } := fun its r' hz h' c' kp e =>
    ⟨.ref s.heap.objs.size, _, I.laid (t' := s.toks) kp (Nat.le_refl _) (show ObjOk X.prog X.w _ h' _ (.lst ys) from ⟨hz, its, c', r', e⟩), rfl, q _ (I.hok.fresh (Nat.le_refl _))⟩
  rcases hq with hq | hq
  · obtain ⟨its, r', pl, hz⟩ := I.list hq
    have hlen := r'.length
    obtain ⟨o, ho, hc, n, hd⟩ := pl.isList
    exact call_list_seq p (.inl rfl) ho hc hd (fun h' c' kp e => fin its r' hz h' c' kp e) (by simp only [List.size_toArray] <;> omega)
  · obtain ⟨its, r', pl, hz⟩ := I.tuple hq
    have hlen := r'.length
    obtain ⟨o, ho, hc, n, hd⟩ := pl
    exact call_list_seq p (.inr rfl) ho hc hd (fun h' c' kp e => fin its r' hz h' c' kp e) (by simp only [List.size_toArray] <;> omega)
theorem call_tuple_of : CallR X (.type "tuple") (fun xs H Q => ∃ p ys, xs = [.ref p] ∧ ((SqL X.K H p ys ∧ ∀ l, H l = none → Q (.ref l) (upd H l (.tup ys))) ∨ (SqT X.K H p ys ∧ Q (.ref p) H))) := by
  intro pins s σ H xs us Q I r h
  obtain ⟨p, ys, rfl, h⟩ := h
  obtain ⟨u, rfl, rx⟩ := vals1 r
  cases rx
  rcases h with ⟨hq, q⟩ | ⟨hq, q⟩
  · obtain ⟨its, r', pl, hz⟩ := I.list hq
    have hlen := r'.length
    refine call_tuple_list pl.isList (fun h' kp => ?_) (by simp only [List.size_toArray] <;> omega)
    have I1 : Inv X pins σ H { s with heap := h' } := I.kept (t' := s.toks) kp
    have I2 : Inv X pins σ (upd H h'.objs.size (.tup ys)) { s with heap := h'.push { cls := .type "tuple", data := .seq its.toArray } } :=
      I1.laid (t' := s.toks) (fun b o e => Heap.get?_push_of_some _ e) (Nat.le_refl _) (show ObjOk X.prog X.w _ _ _ (.tup ys) from ⟨hz, its, r', IsTup.new _ _⟩)
    exact ⟨.ref h'.objs.size, _, I2, rfl, q _ (I1.hok.fresh (Nat.le_refl _))⟩
  · obtain ⟨its, r', pl, hz⟩ := I.tuple hq
    exact call_tuple_same pl ⟨.ref p, H, I, rfl, q⟩

/-! ### the call of a builtin's method: o.m(..) -/
/-- the value is of that builtin type -/
def tyV (K : PySem.W.Frag) (T : String) (x : V) (H : Hp) : Prop := match x with
  | .str _ => T = "str"
  | .int _ => T = "int"
  | .ref p => (T = "list" ∧ ∃ xs, SqL K H p xs) ∨ (T = "tuple" ∧ ∃ o, K.lookup p = some o ∧ o.cls = .type "tuple" ∧ o.dict = none) ∨
      (T = "dict" ∧ ((∃ kvs, H p = some (.dK kvs)) ∨ ∃ kvs, H p = some (.dT kvs))) ∨ (T = "set" ∧ ∃ S n, H p = some (.set S n))
  | _ => False
theorem tyV_is {pins : List (Addr × Obj)} {σ : St} {H : Hp} {s : Shared} {T : String} {x : V} {v : Value} (I : Inv X pins σ H s) (r : RelV x v) (ty : tyV X.K T x H) :
    s.TypeIs v T ∧ ∀ a, v = .ref a → ∃ ob, s.heap.get? a = some ob ∧ ob.dict = none := by
  cases x with
  | str z =>
    obtain ⟨t, rfl⟩ := r
    cases (show T = "str" from ty)
    exact ⟨typeIs_str s z t, fun _ e => nomatch e⟩
  | int i =>
    obtain ⟨t, rfl⟩ := r
    cases (show T = "int" from ty)
    exact ⟨typeIs_int s i t, fun _ e => nomatch e⟩
  | ref p =>
    cases r
    rcases ty with ⟨rfl, xs, hq⟩ | ⟨rfl, o, hk, hc, hd⟩ | ⟨rfl, hk⟩ | ⟨rfl, S, n, hk⟩
    · obtain ⟨its, _, pl, _⟩ := I.list hq
      refine ⟨pl.isList.typeIs, fun a e => ?_⟩
      cases e
      obtain ⟨o, n, e, c, hd, _⟩ := pl
      exact ⟨o, e, hd⟩
    · refine ⟨⟨o, I.kIn p o hk, hc⟩, fun a e => ?_⟩
      cases e
      exact ⟨o, I.kIn _ o hk, hd⟩
    · have z : ∃ o, s.heap.get? p = some o ∧ o.ExactDict := by
        rcases hk with ⟨kvs, hk⟩ | ⟨kvs, hk⟩
        · obtain ⟨_, _, _, _, o, _, _, e, ex, _⟩ := I.hok p _ hk
          exact ⟨o, e, ex⟩
        · obtain ⟨_, _, _, _, o, _, _, e, ex, _⟩ := I.hok p _ hk
          exact ⟨o, e, ex⟩
      obtain ⟨o, e, ex⟩ := z
      refine ⟨⟨o, e, ex.1⟩, fun a e2 => ?_⟩
      cases e2
      exact ⟨o, e, ex.2.1⟩
    · obtain ⟨o, _, _, _, e, ex, _⟩ := I.hok p _ hk
      refine ⟨⟨o, e, ex.1⟩, fun a e2 => ?_⟩
      cases e2
      exact ⟨o, e, ex.2.1⟩
  | _ => exact False.elim ty
def tBM0 (K : PySem.W.Frag) (T : String) (r : V → List V → Hp → VK → Prop) (to : TE) : TE := fun σ H Q => to σ H fun x H1 => tyV K T x H1 ∧ r x [] H1 Q
def tBM (K : PySem.W.Frag) (T : String) (r : V → List V → Hp → VK → Prop) (to : TE) (t : TA) : TE := fun σ H Q => to σ H fun x H1 => tyV K T x H1 ∧ t σ H1 fun xs H2 => r x xs H2 Q
variable {o e : Expr} {es : List Expr} {to : TE} {t : TA} {name : Str} {apos cpos : Pos} {T id : String} {r : V → List V → Hp → VK → Prop}
theorem pe_bm0 (pa : PlainAttrs T) (slot : Slot T name id) (hty : typeOf (.builtin id) = pure (.type "method_descriptor")) (hm : MtR X id r) (ho : PE X o to)
    (hbase : attributeBase o name X.env (eval o X.env) = eval o X.env := by rfl) (hline : (apos.endLine == cpos.line) = true := by rfl) : PE X (.Call (.Attribute o name apos) [] [] cpos) (tBM0 X.K T r to) := by
  intro pins s σ H Q I h
  refine wpAny_Call_method0_late hbase hline (thn (ho pins s σ H _ I h) fun v s1 ⟨x, H1, I1, r1, ty, q1⟩ => ?_)
  obtain ⟨h1, h2⟩ := tyV_is I1 r1 ty
  exact ⟨T, id, pa, slot, hty, h1, h2, Calls.callWith_builtin rfl (PySem.evalArgs_none (hm pins s1 σ H1 x [] v [] Q I1 r1 .nil q1))⟩
theorem pe_bm (pa : PlainAttrs T) (slot : Slot T name id) (hty : typeOf (.builtin id) = pure (.type "method_descriptor")) (hm : MtR X id r) (ho : PE X o to) (ha : PA X (e :: es) t)
    (hbase : attributeBase o name X.env (eval o X.env) = eval o X.env := by rfl)
    (hfew : ((backTo cpos (starEach (e :: es) X.env)).all (fun x => !x.1) && (backToKw cpos (keywordEach [] X.env)).all (fun x => x.1.isSome)
      && decide ((e :: es).length + ([] : List Keyword).length + (if ([] : List Keyword).isEmpty then 0 else 1) < 30)) = true := by rfl)
    (hline : (apos.endLine == cpos.line) = true := by rfl) (hs : starEach (e :: es) X.env = (false, eval e X.env) :: starEach es X.env := by rfl) (hplain : (backTo cpos (starEach es X.env)).any (·.1) = false := by rfl) :
    PE X (.Call (.Attribute o name apos) (e :: es) [] cpos) (tBM X.K T r to t) := by
  intro pins s σ H Q I h
  refine wpAny_Call_method_late hbase hfew hline rfl (thn (ho pins s σ H _ I h) fun v s1 ⟨x, H1, I1, r1, ty, q1⟩ => ?_)
  obtain ⟨h1, h2⟩ := tyV_is I1 r1 ty
  refine ⟨T, id, pa, slot, hty, h1, h2, ?_⟩
  have hA := ha cpos pins s1 σ H1 _ I1 q1
  rw [hs] at hA ⊢
  refine Calls.callWith_builtin (by show (false || (backTo cpos (starEach es X.env)).any (·.1)) = false; rw [hplain] <;> rfl) (Calls.evalArgs_plain ?_)
  exact thn hA fun us s2 ⟨vs, H2, I2, r2, q2⟩ => hm pins s2 σ H2 x vs v us Q I2 r1 r2 q2
/- xs.append(e), list.index on a module's tuple .. are MtR facts of 06m -/
end
end L2

namespace L2
open PySem PySem.Spec PyProof.Rows

def MtM (X : Cx) (id : String) (r : V → List V → Hp → VK → Prop) : Prop :=
  ∀ (pins : List (Addr × Obj)) (s : Shared) (σ : St) (H : Hp) (x : V) (xs : List V) (v : Value) (us : List Value) (Q : VK), Inv X pins σ H s → RelV x v → Vals xs us → r x xs H Q →
    wpAny (model X.prog X.w) X.A (call (.builtin id) (v :: us)) (EP X pins σ Q) X.xe s

/-! ### lists of values -/
theorem Vals.one : ∀ {x : V} {us : List Value}, Vals [x] us → ∃ u, us = [u] ∧ RelV x u
  | _, _, .cons r .nil => ⟨_, rfl, r⟩
theorem Vals.zero : ∀ {us : List Value}, Vals [] us → us = []
  | _, .nil => rfl
theorem Vals.dropLast {xs : List V} {us : List Value} (h : Vals xs us) : Vals xs.dropLast us.dropLast := by
  induction h with
  | nil => exact .nil
  | cons r t ih =>
    cases t with
    | nil => exact .nil
    | cons q t' => exact .cons r ih
theorem Vals.eraseIdx : ∀ {xs : List V} {us : List Value} (i : Nat), Vals xs us → Vals (xs.eraseIdx i) (us.eraseIdx i)
  | _, _, _, .nil => .nil
  | _, _, 0, .cons _ t => t
  | _, _, i + 1, .cons r t => .cons r (Vals.eraseIdx i t)
theorem erase_last {α : Type} (l : List α) : l.eraseIdx (l.length - 1) = l.dropLast := by
  induction l with
  | nil => rfl
  | cons a r ih =>
    cases r with
    | nil => rfl
    | cons b r =>
      have e : (a :: b :: r).length - 1 = ((b :: r).length - 1) + 1 := by
        have h1 : (a :: b :: r).length = r.length + 2 := rfl
        have h2 : (b :: r).length = r.length + 1 := rfl
        omega
      rw [e, List.eraseIdx_cons_succ, ih]
      all_goals rfl
theorem len_erase {α : Type} : ∀ (l : List α) (i : Nat), (l.eraseIdx i).length ≤ l.length
  | [], _ => Nat.le_refl _
  | _ :: _, 0 => Nat.le_succ _
  | _ :: r, i + 1 => Nat.succ_le_succ (len_erase r i)
section
variable {X : Cx} {pins : List (Addr × Obj)} {σ : St} {H : Hp} {s : Shared} {l b : Addr} {xs ys zs : List V}

/-! ### the two steps: a tracked list is rewritten, a new list is laid -/
theorem Inv.lset {its its' : List Value} {n : Nat} {f : Array Value → Array Value} {t' : Nat} (I : Inv X pins σ H s) (hH : H l = some (.lst xs))
    (e : s.heap.get? l = some { cls := .type "list", data := .seq its.toArray n }) (hf : f its.toArray = its'.toArray) (hv : Vals ys its') (hz : ys.length ≤ sizeLine) :
    Inv X pins σ (upd H l (.lst ys)) { s with heap := s.heap.update l (Obj.mapSeq f), toks := t' } := by
  have q := PySem.IsL.update e f
  rw [hf] at q
  refine I.write (x := l) (e := l) (by rw [hH]; exact trivial) (.inl rfl) (fun b' u hb hu => (Heap.get?_update_other s.heap (Obj.mapSeq f) (Ne.symm hb)).trans hu) ⟨_, q⟩ ?_
  exact ⟨hz, its', _, hv, q⟩
theorem Inv.lnew {its : List Value} {t' : Nat} (I : Inv X pins σ H s) (hv : Vals ys its) (hz : ys.length ≤ sizeLine) :
    Inv X pins σ (upd H s.heap.objs.size (.lst ys)) { s with heap := s.heap.push { cls := .type "list", data := .seq its.toArray }, toks := t' } :=
  I.laid (fun _ _ q => Heap.get?_push_of_some _ q) (Nat.le_refl _) ⟨hz, its, 0, hv, Heap.get?_push_size _ rfl⟩
theorem Inv.fresh (I : Inv X pins σ H s) : H s.heap.objs.size = none := I.hok.fresh (Nat.le_refl _)
theorem Inv.lstM (I : Inv X pins σ H s) (hH : H l = some (.lst xs)) : xs.length ≤ sizeLine ∧ ∃ (its : List Value) (n : Nat), Vals xs its ∧ xs.length = its.length ∧ s.heap.get? l = some { cls := .type "list", data := .seq its.toArray n } := by
  obtain ⟨z, its, n, r, e⟩ := I.hok l _ hH
  exact ⟨z, its, n, r, r.length, e⟩

theorem notLongL {n : Nat} (h : n ≤ sizeLine) : Builtin.List.listTooLong n = false := by
  unfold Builtin.List.listTooLong
  exact decide_eq_false (by omega)
end

section
variable {X : Cx}

/-! ### methods -/
def rAppend : V → List V → Hp → VK → Prop := fun x vs H Q => ∃ l xs y, x = .ref l ∧ vs = [y] ∧ H l = some (.lst xs) ∧ xs.length < sizeLine ∧ Q .non (upd H l (.lst (xs ++ [y])))
theorem mt_append : MtM X "list.append" rAppend := by
  intro pins s σ H x vs v us Q I rx rv h
  obtain ⟨l, xs, y, rfl, rfl, hH, hz, q⟩ := h
  cases rx
  obtain ⟨u, rfl, ru⟩ := rv.one
  obtain ⟨z, its, n, r, hl, e⟩ := I.lstM hH
  refine call_meets F.slot_list_append ⟨_, e, rfl⟩ F.entry_list_append (F.args_list_append_2 _ _) (PySem.list_append l its.toArray n u (by rw [List.size_toArray]; omega)) ⟨e, ?_⟩
  refine ⟨.non, _, I.lset (its' := its ++ [u]) hH e (by simp) (r.append (.cons ru .nil)) ?_, rfl, q⟩
  rw [List.length_append, List.length_singleton]
  omega

def rExtend : V → List V → Hp → VK → Prop := fun x vs H Q => ∃ l b xs zs, x = .ref l ∧ vs = [.ref b] ∧ H l = some (.lst xs) ∧ H b = some (.lst zs) ∧ xs.length + zs.length ≤ sizeLine ∧ Q .non (upd H l (.lst (xs ++ zs)))
theorem mt_extend : MtM X "list.extend" rExtend := by
  intro pins s σ H x vs v us Q I rx rv h
  obtain ⟨l, b, xs, zs, rfl, rfl, hH, hB, hz, q⟩ := h
  cases rx
  obtain ⟨u, rfl, ru⟩ := rv.one
  cases ru
  obtain ⟨z, its, n, r, hl, e⟩ := I.lstM hH
  obtain ⟨z2, its2, n2, r2, hl2, e2⟩ := I.lstM hB
  have hsz : its.toArray.size + its2.toArray.size ≤ sizeLine := by rw [List.size_toArray, List.size_toArray]; omega
  have hlong : ¬ (!its.toArray.isEmpty && Builtin.List.listTooLong (its.toArray.size + its2.toArray.size)) = true := by
    rw [notLongL hsz, Bool.and_false]
    exact Bool.false_ne_true
  refine call_meets F.slot_list_extend ⟨_, e, rfl⟩ F.entry_list_extend (F.args_list_extend_2 _ _)
    (AutoSeq1.list_extend_list_list_0 l its.toArray n b its2.toArray n2 hlong (by rw [List.size_toArray]; omega) (by omega)) ⟨e, e2, ?_⟩
  refine ⟨.non, _, I.lset (its' := its ++ its2) hH e (by simp) (r.append r2) ?_, rfl, q⟩
  rw [List.length_append]
  omega

def rPop : V → List V → Hp → VK → Prop := fun x vs H Q => ∃ l xs y, x = .ref l ∧ vs = [] ∧ H l = some (.lst xs) ∧ xs[xs.length - 1]? = some y ∧ Q y (upd H l (.lst xs.dropLast))
theorem mt_pop : MtM X "list.pop" rPop := by
  intro pins s σ H x vs v us Q I rx rv h
  obtain ⟨l, xs, y, rfl, rfl, hH, hy, q⟩ := h
  cases rx
  have hus := rv.zero
  subst hus
  obtain ⟨z, its, n, r, hl, e⟩ := I.lstM hH
  obtain ⟨u, hu, ru⟩ := r.get hy
  have hy' : its.toArray[its.toArray.size - 1]? = some u := by
    show its.toArray[its.length - 1]? = some u
    rw [← Array.getElem?_toList, ← hl]
    exact hu
  refine call_meets F.slot_list_pop ⟨_, e, rfl⟩ F.entry_list_pop (F.args_list_pop_1 _) (MeetsSeq.list_pop_last l its.toArray n u hy' (by rw [List.size_toArray]; omega)) ⟨e, ?_⟩
  refine ⟨y, _, I.lset (its' := its.dropLast) hH e ?_ r.dropLast ?_, ru, q⟩
  · show its.toArray.eraseIdxIfInBounds (its.toArray.size - 1) = its.dropLast.toArray
    rw [List.size_toArray, List.eraseIdxIfInBounds_toArray, erase_last]
  · rw [List.length_dropLast]
    omega

def rPopAt : V → List V → Hp → VK → Prop := fun x vs H Q => ∃ l xs i k y, x = .ref l ∧ vs = [.int i] ∧ H l = some (.lst xs) ∧ -(2 ^ 63) ≤ i ∧ i < 2 ^ 63 ∧ seqIndex? i xs.length = some k ∧ xs[k]? = some y ∧ Q y (upd H l (.lst (xs.eraseIdx k)))
theorem mt_popAt : MtM X "list.pop" rPopAt := by
  intro pins s σ H x vs v us Q I rx rv h
  obtain ⟨l, xs, i, k, y, rfl, rfl, hH, h1, h2, hk, hy, q⟩ := h
  cases rx
  obtain ⟨u, rfl, ru⟩ := rv.one
  obtain ⟨t, rfl⟩ := ru
  obtain ⟨z, its, n, r, hl, e⟩ := I.lstM hH
  obtain ⟨w, hw, rw'⟩ := r.get hy
  refine call_meets F.slot_list_pop ⟨_, e, rfl⟩ F.entry_list_pop (F.args_list_pop_2 _ _)
    (MeetsSeq.list_pop_at l its.toArray n i t k w (fitsIndex_both h1 h2) (by rw [List.size_toArray, ← hl]; exact hk) (by rw [← Array.getElem?_toList]; exact hw) (by rw [List.size_toArray]; omega)) ⟨e, ?_⟩
  refine ⟨y, _, I.lset (its' := its.eraseIdx k) hH e ?_ (r.eraseIdx k) ?_, rw', q⟩
  · show its.toArray.eraseIdxIfInBounds k = (its.eraseIdx k).toArray
    rw [List.eraseIdxIfInBounds_toArray]
  · have := len_erase xs k
    omega

/-! ### list + list, list += list, list * int -/
def rCat : R2 := fun x y H Q => ∃ l b xs zs, x = .ref l ∧ y = .ref b ∧ H l = some (.lst xs) ∧ H b = some (.lst zs) ∧ xs.length + zs.length ≤ sizeLine ∧ ∀ p, H p = none → Q (.ref p) (upd H p (.lst (xs ++ zs)))
theorem op_cat : OpR X (binaryOp .Add) rCat := by
  intro pins s σ H x y v u Q I rx ry h
  obtain ⟨l, b, xs, zs, rfl, rfl, hH, hB, hz, q⟩ := h
  cases rx
  cases ry
  obtain ⟨z, its, n, r, hl, e⟩ := I.lstM hH
  obtain ⟨z2, its2, n2, r2, hl2, e2⟩ := I.lstM hB
  refine PySem.P.add_list e e2 ?_ (by rw [List.size_toArray, List.size_toArray]; omega)
  have ea : its.toArray ++ its2.toArray = (its ++ its2).toArray := by simp
  rw [ea]
  exact ⟨.ref _, _, I.lnew (t' := s.toks) (r.append r2) (by rw [List.length_append]; omega), rfl, q _ I.fresh⟩
/-! ### del xs[i] -/
end

/-! ### xs[a:b] = ys -/
section
variable {prog : Program} {w : World} {A : Around} {E : Value → Shared → Prop} {s : Shared}
set_option maxRecDepth 100000 in
end

section
variable {X : Cx}
end
end L2

namespace L2
open PySem PySem.Spec PyProof.Rows

theorem Vals.bls : ∀ {bs : List Bool} {us : List Value}, Vals (bs.map V.bl) us → us = bs.map Value.bool
  | [], us, h => by
    rw [List.map_nil] at h
    cases h
    rfl
  | b :: bs, us, h => by
    rw [List.map_cons] at h
    cases h with
    | cons r t =>
      cases r
      rw [Vals.bls t, List.map_cons]
theorem Vals.ref1 {a : Addr} {us : List Value} (r : Vals [V.ref a] us) : us = [Value.ref a] := by
  cases r with
  | cons r t =>
    cases t
    cases r
    rfl
/-! ### the library's walks over a list of ints, kept objects alone -/
section
variable {prog : Program} {w : World} {A : Around} {E : Value → Shared → Prop} {s : Shared} {l : Addr} {its : List Value} {ns : List Int} {Q : Value → Shared → Prop}
end

/-! ### the calls, by values (CallR of 03t; MtR of 06l) -/
section
variable {X : Cx}
/-! sorted, sort (fewer than 64 items: the library's own bound) -/
end

/-! ### list.index, flat items -/
section
variable {X : Cx}
end

/-! ### type(x) of an own instance; is, is not of a module's class -/
section
variable {X : Cx}
end

/-! ### any(xs), all(xs) of a list of bools -/
theorem iter_any {prog : Program} {w : World} {A : Around} {E : Value → Shared → Prop} {s : Shared} {l : Addr} {items : Array Value} {Q : Value → Shared → Prop} (hl : s.heap.IsList l items)
    (h : ∀ s₂ : Shared, s₂ = { s with heap := s.heap.push { cls := .type "list_iterator", data := .fields #[.ref l, .int 0 0] } } →
      (s₂.heap.IsListIter s.heap.objs.size l 0 ∧ s₂.heap.IsList l items) → l ≠ s.heap.objs.size → Q (.ref s.heap.objs.size) s₂) : wpAny (model prog w) A (pyIter (.ref l)) Q E s := by
  have hlt : l < s.heap.objs.size := by obtain ⟨_, e, _⟩ := hl; exact Heap.lt_size e
  exact wpAny_pyIter_list hl (h _ rfl ⟨⟨_, Heap.get?_push_size _ rfl, rfl, rfl⟩, hl.push _⟩ (Nat.ne_of_lt hlt))
theorem truth_bools {prog : Program} {w : World} {A : Around} {bs : List Bool} {its : List Value} (e : its = bs.map Value.bool) :
    TruthOf prog w A (fun i v => its.toArray[i]? = some v) (fun i => bs.getD i false) := fun i v s Q E hv hq => by
  have hv' : its[i]? = some v := by simpa using hv
  rw [e, List.getElem?_map] at hv'
  obtain ⟨b, hb, rfl⟩ := Option.map_eq_some_iff.mp hv'
  have hg : bs.getD i false = b := by rw [List.getD_eq_getElem?_getD, hb] <;> rfl
  have hq' : Q (bs.getD i false) s := hq
  rw [hg] at hq'
  exact wpAny_truthy_bool hq'
theorem any_range : ∀ bs : List Bool, (List.range bs.length).any (fun i => bs.getD i false) = bs.any id
  | [] => rfl
  | b :: bs => by
    rw [List.length_cons, List.range_succ_eq_map, List.any_cons, List.any_map, List.any_cons, ← any_range bs]
    all_goals rfl
theorem all_range : ∀ bs : List Bool, (List.range bs.length).all (fun i => bs.getD i false) = bs.all id
  | [] => rfl
  | b :: bs => by
    rw [List.length_cons, List.range_succ_eq_map, List.all_cons, List.all_map, List.all_cons, ← all_range bs]
    all_goals rfl
section
variable {X : Cx}
def rAny (K : PySem.W.Frag) : List V → Hp → VK → Prop := fun vs H Q => ∃ (a : Addr) (bs : List Bool), vs = [V.ref a] ∧ SqL K H a (bs.map V.bl) ∧ Q (.bl (bs.any id)) H
def rAll (K : PySem.W.Frag) : List V → Hp → VK → Prop := fun vs H Q => ∃ (a : Addr) (bs : List Bool), vs = [V.ref a] ∧ SqL K H a (bs.map V.bl) ∧ Q (.bl (bs.all id)) H
theorem cr_any (hc : X.calm = true) : CallR X (.builtin "any") (rAny X.K) := by
  intro pins s σ H vs us Q I r h
  obtain ⟨a, bs, rfl, hs, q⟩ := h
  obtain ⟨its, rv, hl, _⟩ := I.list hs
  rw [Vals.ref1 r]
  have hb := rv.bls
  refine call_any_walk (iter_any hl.isList fun s₂ e2 st hne => ?_)
  subst e2
  refine ⟨_, _, _, _, _, _, _, rfl, Walks.list (A := X.A.in1) (I.ok.hd hc) _ a hne its.toArray, st, truth_bools hb, fun h' tk hk => ?_⟩
  refine ⟨.bl _, H, I.kept fun b o eo => hk b o (fun hmem => ?_) (Heap.get?_push_of_some _ eo), ?_, q⟩
  · rcases List.mem_cons.mp hmem with e1 | hmem
    · exact absurd (e1 ▸ Heap.lt_size eo) (Nat.lt_irrefl _)
    · cases hmem
  · show Value.bool _ = Value.bool _
    rw [← any_range, hb, List.size_toArray, List.length_map]
theorem cr_all (hc : X.calm = true) : CallR X (.builtin "all") (rAll X.K) := by
  intro pins s σ H vs us Q I r h
  obtain ⟨a, bs, rfl, hs, q⟩ := h
  obtain ⟨its, rv, hl, _⟩ := I.list hs
  rw [Vals.ref1 r]
  have hb := rv.bls
  refine call_all_walk (iter_any hl.isList fun s₂ e2 st hne => ?_)
  subst e2
  refine ⟨_, _, _, _, _, _, _, rfl, Walks.list (A := X.A.in1) (I.ok.hd hc) _ a hne its.toArray, st, truth_bools hb, fun h' tk hk => ?_⟩
  refine ⟨.bl _, H, I.kept fun b o eo => hk b o (fun hmem => ?_) (Heap.get?_push_of_some _ eo), ?_, q⟩
  · rcases List.mem_cons.mp hmem with e1 | hmem
    · exact absurd (e1 ▸ Heap.lt_size eo) (Nat.lt_irrefl _)
    · cases hmem
  · show Value.bool _ = Value.bool _
    rw [← all_range, hb, List.size_toArray, List.length_map]
end

/-! ### == and != of data at any depth: none, bools, ints, texts, lists, tuples -/
mutual
inductive Dp (K : PySem.W.Frag) (H : Hp) : V → PyData → Prop
  | non : Dp K H .non .none
  | bl (b : Bool) : Dp K H (.bl b) (.bool b)
  | int (i : Int) : Dp K H (.int i) (.int i)
  | str (x : Str) : Dp K H (.str x) (.str x)
  | lst {a : Addr} {xs : List V} {ds : List PyData} : SqL K H a xs → DpAll K H xs ds → Dp K H (.ref a) (.list ds)
  | tup {a : Addr} {xs : List V} {ds : List PyData} : SqT K H a xs → DpAll K H xs ds → Dp K H (.ref a) (.tuple ds)
inductive DpAll (K : PySem.W.Frag) (H : Hp) : List V → List PyData → Prop
  | nil : DpAll K H [] []
  | cons {v : V} {vs : List V} {d : PyData} {ds : List PyData} : Dp K H v d → DpAll K H vs ds → DpAll K H (v :: vs) (d :: ds)
end
section
variable {X : Cx} {pins : List (Addr × Obj)} {σ : St} {H : Hp} {s : Shared}
mutual
theorem Dp.reads (I : Inv X pins σ H s) : ∀ (d : PyData) (v : V) (u : Value), Dp X.K H v d → RelV v u → ∃ as, Reads s.heap u d as
  | .none, _, _, h, r => by
    cases h
    cases r
    exact ⟨_, Reads.none⟩
  | .bool b, _, _, h, r => by
    cases h
    cases r
    exact ⟨_, Reads.bool b⟩
  | .int i, _, _, h, r => by
    cases h
    obtain ⟨t, rfl⟩ := r
    exact ⟨_, Reads.int i t⟩
  | .str x, _, _, h, r => by
    cases h
    obtain ⟨t, rfl⟩ := r
    exact ⟨_, Reads.str x t⟩
  | .list ds, _, _, h, r => by
    cases h with
    | lst hs ha =>
      cases r
      obtain ⟨its, rv, ⟨o, n, ho, hc, _, hd⟩, _⟩ := I.list hs
      obtain ⟨as, hr⟩ := Dp.readsAll I ds _ its ha rv
      exact ⟨_, Reads.list ho hc hd hr⟩
  | .tuple ds, _, _, h, r => by
    cases h with
    | tup hs ha =>
      cases r
      obtain ⟨its, rv, ⟨o, ho, hc, n, hd⟩, _⟩ := I.tuple hs
      obtain ⟨as, hr⟩ := Dp.readsAll I ds _ its ha rv
      exact ⟨_, Reads.tuple ho hc hd hr⟩
  | .dict _, _, _, h, _ => by cases h
theorem Dp.readsAll (I : Inv X pins σ H s) : ∀ (ds : List PyData) (vs : List V) (us : List Value), DpAll X.K H vs ds → Vals vs us → ∃ as, ReadsAll s.heap us ds as
  | [], _, _, h, r => by
    cases h
    cases r
    exact ⟨_, ReadsAll.nil⟩
  | d :: ds, _, _, h, r => by
    cases h with
    | cons h1 h2 =>
      cases r with
      | cons r1 r2 =>
        obtain ⟨as, q1⟩ := Dp.reads I d _ _ h1 r1
        obtain ⟨bs, q2⟩ := Dp.readsAll I ds _ _ h2 r2
        exact ⟨_, ReadsAll.cons q1 q2⟩
end
end
section
variable {X : Cx}
def rEqD (K : PySem.W.Frag) : R2 := fun x y H Q => ∃ d e, Dp K H x d ∧ Dp K H y e ∧ SeqAt.shaped d = true ∧ SeqAt.shaped e = true ∧ Q (.bl (PyData.eqv d e)) H
theorem op_eqD (hu : X.A.units + 64 < cLine) : OpR X (compareOp .Eq) (rEqD X.K) := by
  intro pins s σ H x y v u Q I rx ry h
  obtain ⟨d, e, hd, he, sd, se, q⟩ := h
  obtain ⟨as, r1⟩ := Dp.reads I d x v hd rx
  obtain ⟨bs, r2⟩ := Dp.reads I e y u he ry
  exact SeqAt.compareEq_shaped r1 r2 sd se hu ⟨.bl _, H, I, rfl, q⟩
end
end L2

namespace L2
open PySem PySem.Spec PyProof.Rows
abbrev CellAt (h : Heap) (c : Addr) (v : Option Value) : Prop := h.IsCell c v
def relS (scope sc : Scope) : Scope :=
  { scope with names := scope.names.map fun (n, k) => if (k == .free && sc.kind == .function && sc.names.lookup n == some .cell) then (n, .cell) else (n, k) }

def cloFrom (cells : List (Str × Addr)) : List (Str × NameKind) → List (Str × Addr) → List (Str × Addr)
  | [], acc => acc
  | (n, k) :: r, acc => if k == .free then cloFrom cells r ((n, (cells.lookup n).getD 0) :: acc) else cloFrom cells r acc

theorem closure_loop (env : Env) (f : Str × NameKind → List (Str × Addr) → Sem (ForInStep (List (Str × Addr))))
    (hf : ∀ n k c, f (n, k) c = if k == .free then (do let a ← cellOf env n; pure (.yield ((n, a) :: c))) else pure (.yield c)) :
    ∀ (names : List (Str × NameKind)) (acc : List (Str × Addr)), (∀ y ∈ names, y.2 = .free → ∃ c, env.cells.lookup y.1 = some c) → forIn names acc f = pure (cloFrom env.cells names acc)
  | [], acc, _ => by rw [List.forIn_nil]; rfl
  | (n, k) :: r, acc, h => by
    rw [List.forIn_cons, hf]
    have ih := fun acc => closure_loop env f hf r acc fun y hy => h y (List.mem_cons_of_mem _ hy)
    unfold cloFrom
    by_cases hk : (k == NameKind.free) = true
    · rw [if_pos hk, if_pos hk]
      obtain ⟨c, hc⟩ := h (n, k) List.mem_cons_self (by simpa using hk)
      have e : cellOf env n = pure c := by unfold cellOf; rw [hc]
      rw [e]
      have e2 : (env.cells.lookup n).getD 0 = c := by rw [hc]; rfl
      rw [e2]
      exact ih _
    · rw [if_neg hk, if_neg hk]
      exact ih _
theorem closure_ok {scope : Scope} {env : Env} (h : ∀ y ∈ scope.names, y.2 = .free → ∃ c, env.cells.lookup y.1 = some c) : closureFor scope env = pure (cloFrom env.cells scope.names []) := by
  simp only [closureFor]
  rw [closure_loop env _ (fun n k c => rfl) scope.names [] h]
  rfl

theorem mem_lookup {α : Type} : ∀ {l : List (Str × α)} {n : Str} {c : α}, (n, c) ∈ l → ∃ c', l.lookup n = some c'
  | (k, v) :: r, n, c, h => by
    rw [List.lookup_cons]
    cases hb : n == k with
    | true => exact ⟨_, rfl⟩
    | false =>
      rcases List.mem_cons.mp h with e | h
      · cases e; simp at hb
      · exact mem_lookup h

theorem cloFrom_mem {cells : List (Str × Addr)} : ∀ {names : List (Str × NameKind)} {acc : List (Str × Addr)} {n : Str} {c : Addr}, (n, c) ∈ cloFrom cells names acc → (n, c) ∈ acc ∨ ((n, .free) ∈ names ∧ c = (cells.lookup n).getD 0)
  | [], _, _, _, h => .inl h
  | (m, k) :: r, acc, n, c, h => by
    unfold cloFrom at h
    split at h
    · rename_i hk
      have hk : k = .free := by simpa using hk
      rcases cloFrom_mem h with h | ⟨h1, h2⟩
      · rcases List.mem_cons.mp h with e | h
        · cases e; exact .inr ⟨hk ▸ List.mem_cons_self, rfl⟩
        · exact .inl h
      · exact .inr ⟨List.mem_cons_of_mem _ h1, h2⟩
    · rcases cloFrom_mem h with h | ⟨h1, h2⟩
      · exact .inl h
      · exact .inr ⟨List.mem_cons_of_mem _ h1, h2⟩
theorem cloFrom_acc {cells : List (Str × Addr)} : ∀ {names : List (Str × NameKind)} {acc : List (Str × Addr)} {p : Str × Addr}, p ∈ acc → p ∈ cloFrom cells names acc
  | [], _, _, h => h
  | (m, k) :: r, acc, p, h => by
    unfold cloFrom
    split
    · exact cloFrom_acc (List.mem_cons_of_mem _ h)
    · exact cloFrom_acc h
theorem cloFrom_has {cells : List (Str × Addr)} : ∀ {names : List (Str × NameKind)} {acc : List (Str × Addr)} {n : Str}, (n, .free) ∈ names → (n, (cells.lookup n).getD 0) ∈ cloFrom cells names acc
  | (m, k) :: r, acc, n, h => by
    unfold cloFrom
    rcases List.mem_cons.mp h with e | h
    · cases e
      exact cloFrom_acc List.mem_cons_self
    · split
      · exact cloFrom_has h
      · exact cloFrom_has h

theorem cells_mem : ∀ {names : List (Str × NameKind)} {h : Heap} {acc : List (Str × Addr)} {x : Str} {c : Addr}, (x, c) ∈ cellsFrom h.objs.size names acc →
    (x, c) ∈ acc ∨ ((x, .cell) ∈ names ∧ h.objs.size ≤ c ∧ CellAt (pushCells h names) c none)
  | [], _, _, _, _, h => .inl h
  | (n, k) :: r, h, acc, x, c, hm => by
    unfold cellsFrom at hm
    unfold pushCells
    split at hm
    · rename_i hk
      rw [if_pos hk]
      have hk : k = .cell := by simpa using hk
      rw [← Heap.size_push h { cls := .type "cell", data := .cell none }] at hm
      rcases cells_mem hm with hm | ⟨h1, h2, h3⟩
      · rcases List.mem_cons.mp hm with e | hm
        · cases e
          exact .inr ⟨hk ▸ List.mem_cons_self, Nat.le_refl _, _, pushCells_keeps r _ _ _ (Heap.get?_push_size _ rfl), rfl⟩
        · exact .inl hm
      · rw [Heap.size_push] at h2
        exact .inr ⟨List.mem_cons_of_mem _ h1, Nat.le_of_succ_le h2, h3⟩
    · rename_i hk
      rw [if_neg hk]
      rcases cells_mem hm with hm | ⟨h1, h2, h3⟩
      · exact .inl hm
      · exact .inr ⟨List.mem_cons_of_mem _ h1, h2, h3⟩
theorem cells_acc : ∀ {names : List (Str × NameKind)} {n : Nat} {acc : List (Str × Addr)} {p : Str × Addr}, p ∈ acc → p ∈ cellsFrom n names acc
  | [], _, _, _, h => h
  | (m, k) :: r, n, acc, p, h => by
    unfold cellsFrom
    split
    · exact cells_acc (List.mem_cons_of_mem _ h)
    · exact cells_acc h
theorem cells_has : ∀ {names : List (Str × NameKind)} {n : Nat} {acc : List (Str × Addr)} {x : Str}, (x, .cell) ∈ names → ∃ c, (x, c) ∈ cellsFrom n names acc
  | (m, k) :: r, n, acc, x, h => by
    unfold cellsFrom
    rcases List.mem_cons.mp h with e | h
    · cases e
      exact ⟨n, cells_acc List.mem_cons_self⟩
    · split
      · exact cells_has h
      · exact cells_has h
theorem cells_inj : ∀ {names : List (Str × NameKind)} {h : Heap} {acc : List (Str × Addr)} {x y : Str} {c : Addr}, (∀ p ∈ acc, p.2 < h.objs.size) → (∀ x y c, (x, c) ∈ acc → (y, c) ∈ acc → x = y) →
    (x, c) ∈ cellsFrom h.objs.size names acc → (y, c) ∈ cellsFrom h.objs.size names acc → x = y
  | [], _, _, _, _, _, _, hi, h1, h2 => hi _ _ _ h1 h2
  | (n, k) :: r, h, acc, x, y, c, hl, hi, h1, h2 => by
    unfold cellsFrom at h1 h2
    split at h1
    · rename_i hk
      rw [if_pos hk] at h2
      rw [← Heap.size_push h { cls := .type "cell", data := .cell none }] at h1 h2
      refine cells_inj (h := h.push _) (fun p hp => ?_) (fun x y c a b => ?_) h1 h2
      · rw [Heap.size_push]
        rcases List.mem_cons.mp hp with rfl | hp
        · exact Nat.lt_succ_self _
        · exact Nat.lt_succ_of_lt (hl p hp)
      · rcases List.mem_cons.mp a with e | a <;> rcases List.mem_cons.mp b with e' | b
        · cases e; cases e'; rfl
        · cases e; exact absurd (hl _ b) (Nat.lt_irrefl _)
        · cases e'; exact absurd (hl _ a) (Nat.lt_irrefl _)
        · exact hi _ _ _ a b
    · rename_i hk
      rw [if_neg hk] at h2
      exact cells_inj hl hi h1 h2

theorem newEnv_comp {M : Model} {A : Around} {E : Value → Shared → Prop} {s : Shared} {scope : Scope} {globals : Addr} {closure : List (Str × Addr)} {qual : Str} {func : Option Addr} {code : Value} {around : Env} {builtins : Addr} {Q : Env → Shared → Prop}
    (h : Q (newEnv scope s.heap.objs.size globals (cellsFrom (s.heap.objs.size + 1) scope.names closure) qual func code (some around) builtins)
      { s with heap := pushCells (s.heap.push { cls := .type "dict", data := .dict #[] }) scope.names }) :
    wpAny M A (newFunctionEnv scope globals closure [] qual func code (some around) builtins) Q E s := by
  simp only [newFunctionEnv, Option.isSome_some, if_true]
  refine wpAny_bind (wpAny_alloc ?_)
  refine wpAny_bind (wpAny_layCells _ (fun n k c => rfl) scope.names closure _ _ ?_)
  rw [show ({ s with heap := s.heap.push { cls := .type "dict", data := .dict #[] } } : Shared).heap.objs.size = s.heap.objs.size + 1 from Heap.size_push ..]
  rw [List.forIn_nil]
  exact wpAny_bind (wpAny_pure (wpAny_pure h))

/-- every name of the written scope, in the scope that runs -/
theorem lookup_relS {sc : Scope} : ∀ {names : List (Str × NameKind)} {x : Str} {k : NameKind},
    (names.map fun (n, k) => if (k == NameKind.free && sc.kind == .function && sc.names.lookup n == some .cell) then (n, NameKind.cell) else (n, k)).lookup x = some k →
    ∃ k', names.lookup x = some k' ∧ (k = k' ∨ (k' = .free ∧ k = .cell))
  | [], _, _, h => by simp at h
  | (n, k₀) :: r, x, k, h => by
    have ih := @lookup_relS sc r x k
    have h' : List.lookup x ((if (k₀ == NameKind.free && sc.kind == .function && sc.names.lookup n == some .cell) = true then (n, NameKind.cell) else (n, k₀)) :: (r.map _)) = some k := h
    cases hx : x == n with
    | true =>
      simp only [List.lookup_cons, hx]
      by_cases hc : (k₀ == NameKind.free && sc.kind == .function && sc.names.lookup n == some .cell) = true
      · rw [if_pos hc] at h'
        simp only [List.lookup_cons, hx] at h'
        cases h'
        simp only [Bool.and_eq_true, beq_iff_eq] at hc
        exact ⟨k₀, rfl, .inr ⟨hc.1.1, rfl⟩⟩
      · rw [if_neg hc] at h'
        simp only [List.lookup_cons, hx] at h'
        cases h'
        exact ⟨_, rfl, .inl rfl⟩
    | false =>
      simp only [List.lookup_cons, hx]
      by_cases hc : (k₀ == NameKind.free && sc.kind == .function && sc.names.lookup n == some .cell) = true
      · rw [if_pos hc] at h'
        simp only [List.lookup_cons, hx] at h'
        exact ih h'
      · rw [if_neg hc] at h'
        simp only [List.lookup_cons, hx] at h'
        exact ih h'
/-- the names of a comprehension's block: its own (with their places in N), or captured -/
structure BlkOk (N : List Str) (sc scope : Scope) (own : List (Str × Nat)) : Prop where
  kind : scope.kind = .function
  uniq : ∀ y ∈ scope.names, scope.names.lookup y.1 = some y.2
  ix : ∀ p ∈ own, N[p.2]? = some p.1
  free : ∀ y ∈ scope.names, y.2 = .free → sc.names.lookup y.1 = some .cell ∨ sc.names.lookup y.1 = some .free
  own : ∀ y ∈ scope.names, y.2 = .local ∨ y.2 = .cell → y.1 ∈ own.map (·.1) ∨ y.1 ∉ N
/-- the slots of the block's own names forgotten -/
def wipe (σ : St) : List Nat → St
  | [] => σ
  | v :: vs => (wipe σ vs).set v none
theorem wipe_length (σ : St) : ∀ vs : List Nat, (wipe σ vs).length = σ.length
  | [] => rfl
  | v :: vs => by unfold wipe; rw [List.length_set, wipe_length σ vs]
theorem wipe_some {σ : St} {i : Nat} {x : V} : ∀ {vs : List Nat}, (wipe σ vs)[i]? = some (some x) → σ[i]? = some (some x) ∧ i ∉ vs
  | [], h => ⟨h, by simp⟩
  | v :: vs, h => by
    unfold wipe at h
    by_cases hi : v = i
    · subst hi
      by_cases hv : v < (wipe σ vs).length
      · rw [List.getElem?_set_self hv] at h; cases h
      · rw [List.getElem?_eq_none (by simpa using hv)] at h; cases h
    · rw [List.getElem?_set_ne hi] at h
      obtain ⟨h1, h2⟩ := wipe_some h
      exact ⟨h1, by simp only [List.mem_cons, not_or]; exact ⟨fun e => hi e.symm, h2⟩⟩

/-- the context of a block that starts at s, its iterator's objects at fp -/
abbrev Cx.blk (X : Cx) (s : Shared) (H : Hp) (scope : Scope) (cenv : Env) (fp : List Addr) : Cx := { X with s_0 := s, H_0 := H, env := cenv, outer := X.stack, ex := fp, fn := fun x => scope.names.lookup x == some .cell, pn := [], xe := fun _ _ => False }
section
variable {X : Cx} {pins : List (Addr × Obj)} {σ : St} {H : Hp} {s : Shared}
theorem block_start {scope : Scope} {own : List (Str × Nat)} {fp : List Addr} (I : Inv X pins σ H s) (ok : BlkOk X.N X.env.scope scope own) (hN : X.N.Nodup) (hfp : ∀ b ∈ fp, FpOk X pins H b ∧ b < s.heap.objs.size) :
    Inv (X.blk s H scope (compEnvC scope (cellsFrom (s.heap.objs.size + 1) scope.names (cloFrom X.env.cells scope.names [])) s.heap.objs.size X.env) fp) [] (wipe σ (own.map (·.2))) H { s with heap := pushCells (s.heap.push { cls := .type "dict", data := .dict #[] }) scope.names } := by
  have hfree : ∀ y ∈ scope.names, y.2 = .free → ∃ c, X.env.cells.lookup y.1 = some c := fun y hy e => by
    rcases ok.free y hy e with k | k
    · exact I.ok.has _ (.inl k)
    · exact I.ok.has _ (.inr k)
  generalize hcenv : compEnvC scope (cellsFrom (s.heap.objs.size + 1) scope.names (cloFrom X.env.cells scope.names [])) s.heap.objs.size X.env = cenv
  have kp : ∀ b o, s.heap.get? b = some o → (pushCells (s.heap.push { cls := .type "dict", data := .dict #[] }) scope.names).get? b = some o := fun b o e => pushCells_keeps _ _ _ _ (Heap.get?_push_of_some _ e)
  have hL : cenv.locals = s.heap.objs.size := by rw [← hcenv]; rfl
  have hcl : cenv.cells = cellsFrom (s.heap.objs.size + 1) scope.names (cloFrom X.env.cells scope.names []) := by rw [← hcenv]; rfl
  have hsc : cenv.scope = relS scope X.env.scope := by rw [← hcenv]; rfl
  rw [← Heap.size_push s.heap { cls := .type "dict", data := .dict #[] }] at hcl
  have cm : ∀ {y c}, (y, c) ∈ cloFrom X.env.cells scope.names [] → X.env.cells.lookup y = some c ∧ c < s.heap.objs.size := fun {y c} hm => by
    rcases cloFrom_mem hm with hm | ⟨h1, rfl⟩
    · cases hm
    · obtain ⟨c, hc⟩ := hfree _ h1 rfl
      rw [hc]
      obtain ⟨w, z⟩ := I.cell _ _ hc
      exact ⟨rfl, z.lt⟩
  have mem : ∀ {y c}, cenv.cells.lookup y = some c → (X.env.cells.lookup y = some c ∧ c < s.heap.objs.size) ∨ (s.heap.objs.size + 1 ≤ c ∧ CellAt (pushCells (s.heap.push { cls := .type "dict", data := .dict #[] }) scope.names) c none) := fun {y c} e => by
    rw [hcl] at e
    rcases cells_mem (PySem.mem_of_lookup e) with hm | ⟨_, h2, h3⟩
    · exact .inl (cm hm)
    · rw [Heap.size_push] at h2; exact .inr ⟨h2, h3⟩
  have look : ∀ {y}, scope.names.lookup y = some .free → ∃ c, cenv.cells.lookup y = some c ∧ X.env.cells.lookup y = some c := fun {y} hl => by
    have hy : (y, NameKind.free) ∈ scope.names := PySem.mem_of_lookup hl
    obtain ⟨c', e'⟩ := mem_lookup (cells_acc (names := scope.names) (n := (s.heap.push { cls := .type "dict", data := .dict #[] }).objs.size) (cloFrom_has (cells := X.env.cells) (acc := []) hy))
    rw [← hcl] at e'
    refine ⟨c', e', ?_⟩
    rw [hcl] at e'
    rcases cells_mem (PySem.mem_of_lookup e') with hm | ⟨h1, _, _⟩
    · exact (cm hm).1
    · have := ok.uniq _ h1
      rw [hl] at this; cases this
  have okB : (X.blk s H scope cenv fp).Ok := by
    refine ⟨I.ok.mod, by show cenv.scope.kind = _; rw [hsc]; exact ok.kind, by show cenv.globals = _; rw [← hcenv]; exact I.ok.glob, by show cenv.builtins = _; rw [← hcenv]; exact I.ok.blt, by show s.heap.objs.size ≤ cenv.locals; rw [hL]; exact Nat.le_refl _,
      fun y z c e1 e2 => ?_, fun y hy => ?_, fun y c z e => ?_, I.ok.hd, I.ok.frames, .inl rfl, fun b hb => ⟨?_, fun y c e z => ?_⟩, I.bs, Nat.le_trans I.ok.bsz I.sz, fun b o e hb => ?_, fun b hb z => ?_, I.stack, I.stkFree⟩
    · have e1 : cenv.cells.lookup y = some c := e1
      have e2 : cenv.cells.lookup z = some c := e2
      rw [hcl] at e1 e2
      refine cells_inj (fun p hp => ?_) (fun y z c a b => I.ok.inj y z c (cm a).1 (cm b).1) (PySem.mem_of_lookup e1) (PySem.mem_of_lookup e2)
      rw [Heap.size_push]
      exact Nat.lt_succ_of_lt (cm (y := p.1) (c := p.2) hp).2
    · show ∃ c, cenv.cells.lookup y = some c
      have key : ∀ k, cenv.kindOf y = some k → (k = .cell ∨ k = .free) → ∃ c, cenv.cells.lookup y = some c := fun k hk hk' => by
        unfold Env.kindOf at hk
        rw [hsc] at hk
        obtain ⟨k', e, r⟩ := lookup_relS hk
        have : k' = .cell ∨ k' = .free := by
          rcases r with rfl | ⟨rfl, _⟩
          · exact hk'
          · exact .inr rfl
        rcases this with rfl | rfl
        · obtain ⟨c, hm⟩ := cells_has (n := (s.heap.push { cls := .type "dict", data := .dict #[] }).objs.size) (acc := cloFrom X.env.cells scope.names []) (PySem.mem_of_lookup e)
          obtain ⟨c', e'⟩ := mem_lookup hm
          exact ⟨c', by rw [hcl]; exact e'⟩
        · obtain ⟨c, h1, _⟩ := look e
          exact ⟨c, h1⟩
      rcases hy with hy | hy
      · exact key _ hy (.inl rfl)
      · exact key _ hy (.inr rfl)
    · have z : (scope.names.lookup y == some NameKind.cell) = true := z
      have z : scope.names.lookup y = some .cell := by simpa using z
      have e : cenv.cells.lookup y = some c := e
      rw [hcl] at e
      rcases cells_mem (PySem.mem_of_lookup e) with hm | ⟨_, h2, _⟩
      · rcases cloFrom_mem hm with hm | ⟨h1, _⟩
        · cases hm
        · have q := ok.uniq _ h1
          rw [z] at q; cases q
      · rw [Heap.size_push] at h2
        exact Nat.le_of_succ_le h2
    · show b ≠ cenv.locals
      rw [hL]; exact Nat.ne_of_lt (hfp b hb).2
    · have e : cenv.cells.lookup y = some c := e
      rcases mem e with ⟨h1, _⟩ | ⟨h1, _⟩
      · exact (hfp b hb).1.2.2.2.2.1 y c h1 z
      · have h2 : s.heap.objs.size + 1 ≤ b := by rw [← z]; exact h1
        exact absurd (Nat.lt_of_lt_of_le (hfp b hb).2 (Nat.le_of_succ_le h2)) (Nat.lt_irrefl _)
    · rcases (hfp b hb).1.2.2.2.1 with z | z
      · exact I.ok.noex b o e z
      · exact absurd (Nat.lt_of_lt_of_le (Heap.lt_size e) (Nat.le_trans I.ok.bsz z)) (Nat.lt_irrefl _)
    · rcases List.mem_cons.mp (I.stkSub b z) with z | z
      · exact (hfp b hb).1.2.1 z
      · exact (hfp b hb).1.2.2.1 z
  refine ⟨okB, rfl, I.bare, Un.kept kp, ⟨fun _ => none, ?_, fun i y av e1 e2 e3 => ?_⟩, fun y c e => ?_, ?_, fun y c e => ?_, fun p hp => ?_, I.hok.kept kp, by rw [wipe_length]; exact I.len⟩
  · show Heap.Ns _ cenv.locals _
    rw [hL]
    exact Heap.Ns.keeps (Heap.Ns.new ..) fun b o e => pushCells_keeps _ _ _ _ e
  · obtain ⟨e2, hne⟩ := wipe_some e2
    have hfr : scope.names.lookup y = some .free ∧ (cenv.kindOf y = some .cell ∨ cenv.kindOf y = some .free) := by
      have key : ∀ k, cenv.scope.names.lookup y = some k → k = .local ∨ k = .cell ∨ k = .free → scope.names.lookup y = some .free ∧ (cenv.kindOf y = some .cell ∨ cenv.kindOf y = some .free) := fun k hk hk' => by
        have hk0 := hk
        rw [hsc] at hk
        obtain ⟨k', e, r⟩ := lookup_relS hk
        have no : ¬ (k' = .local ∨ k' = .cell) := fun hh => by
          rcases ok.own _ (PySem.mem_of_lookup e) hh with e' | e'
          · obtain ⟨p, hp, hpy⟩ := List.mem_map.mp e'
            have e3 := ok.ix p hp
            have : p.1 = y := hpy
            rw [this] at e3
            exact hne (List.mem_map.mpr ⟨p, hp, nodup_ix hN e3 e1⟩)
          · exact e' (List.mem_of_getElem? e1)
        rcases r with rfl | ⟨rfl, rfl⟩
        · rcases hk' with rfl | rfl | rfl
          · exact absurd (.inl rfl) no
          · exact absurd (.inr rfl) no
          · exact ⟨e, .inr hk0⟩
        · exact ⟨e, .inl hk0⟩
      have e3 : Vis cenv.scope y := e3
      rcases e3 with e3 | e3 | e3
      · exact key _ e3 (.inl rfl)
      · exact key _ e3 (.inr (.inl rfl))
      · exact key _ e3 (.inr (.inr rfl))
    obtain ⟨m, hn, hl⟩ := I.loc
    have hvis : Vis X.env.scope y := (ok.free _ (PySem.mem_of_lookup hfr.1) rfl).elim (fun k => .inr (.inl k)) (fun k => .inr (.inr k))
    obtain ⟨w, r, q⟩ := hl i y av e1 e2 hvis
    refine ⟨w, r, .inr ⟨hfr.2, ?_⟩⟩
    obtain ⟨c, h1, h2⟩ := look hfr.1
    rcases q with ⟨k, _⟩ | ⟨_, c', e', z⟩
    · have k : X.env.scope.names.lookup y = some .local := k
      rcases ok.free _ (PySem.mem_of_lookup hfr.1) rfl with k' | k' <;> rw [show X.env.scope.names.lookup y = _ from k'] at k <;> cases k
    · rw [h2] at e'; cases e'
      exact ⟨c, h1, z.keeps kp⟩
  · have e : cenv.cells.lookup y = some c := e
    rcases mem e with ⟨h1, _⟩ | ⟨_, z⟩
    · obtain ⟨w, z⟩ := I.cell y c h1
      exact ⟨w, z.keeps kp⟩
    · exact ⟨_, z⟩
  · show H cenv.locals = none
    rw [hL]; exact I.hok.fresh (Nat.le_refl _)
  · have e : cenv.cells.lookup y = some c := e
    rcases mem e with ⟨h1, _⟩ | ⟨h1, _⟩
    · exact I.freeC y c h1
    · exact I.hok.fresh (Nat.le_of_succ_le h1)
  · exact absurd (show p ∈ ([] : List (Addr × Obj)) ++ [] from hp) (by simp)

/-- an item appended to a tracked list -/
theorem app_ok {E : Value → Shared → Prop} {D : Addr} {xs : List V} {y : V} {v : Value} {Q : Value → Shared → Prop} (I : Inv X pins σ H s) (hD : H D = some (.lst xs)) (hz : xs.length < sizeLine) (r : RelV y v)
    (h : ∀ s', Inv X pins σ (upd H D (.lst (xs ++ [y]))) s' → Q .none s') : wpAny (model X.prog X.w) X.A (call (.builtin "list.append") [.ref D, v]) Q E s := by
  obtain ⟨hz', its, n, ri, e⟩ := I.hok D _ hD
  have hl := ri.length
  refine append_at (hsz := by rw [List.size_toArray]; omega) e fun h' sb ho' => ?_
  refine h { s with heap := h' } (I.write (t' := s.toks) (by rw [hD]; trivial) (.inl rfl) (fun b u hb q => (sb.2 b hb).trans q) ⟨_, ho'⟩ ⟨by rw [List.length_append]; exact hz, its ++ [v], n + 1, ri.append (.cons r .nil), ?_⟩)
  rw [ho']
  simp

/-- a clause's tests -/
def PTs (X : Cx) (ifs : List Expr) (t : TT) : Prop :=
  ∀ (pins : List (Addr × Obj)) (s : Shared) (σ : St) (H : Hp) (Q : Bool → Hp → Prop), Inv X pins σ H s → t σ H Q →
    wpAny (model X.prog X.w) X.A (forIn ifs true fun c r => if r = true then do let ok ← isTrue c X.env (eval c X.env); pure (ForInStep.yield ok) else pure (ForInStep.yield r)) (TP X pins σ Q) X.xe s
def tYes : TT := fun _ H Q => Q true H
theorem pts_nil : PTs X [] tYes := fun _ _ _ H _ I h => wpAny_tests_nil ⟨H, I, h⟩
theorem pts_one {c : Expr} {t : TT} (h : PT X c t) : PTs X [c] t := fun pins s σ H Q I hw => wpAny_tests_one (h pins s σ H Q I hw)
end

theorem thnF {α : Type} {t : Sem α} {Q Q' : α → Shared → Prop} {M : Model} {A : Around} {E : Value → Shared → Prop} {s : Shared} (h : wpAny M A t Q (fun _ _ => False) s) (hQ : ∀ a s, Q a s → Q' a s) : wpAny M A t Q' E s := wpAny_mono h hQ fun _ _ z => False.elim z

/-- the loop of a list comprehension's block, the target of any form (codeAny_compLoop_tests asks a target that no tuple goes to; statement and proof follow it, PyProof/CompMap.lean:41-61, with the step letOwnedTupleGo kept) -/
theorem compLoop_any {prog : Program} {w : World} {A : Around} {R : Result → Shared → Prop} {s : Shared} {elt target iter : Expr} {ifs : List Expr} {scope : Scope} {pos : Pos} {it acc : Value} {env : Env} (I : Nat → Shared → Prop)
    (turn : ∀ n s, I n s → wpAny (model prog w) A (pyNext it) (fun r s₁ => match r with
      | none => R (.ok .next) s₁
      | some v => wpAny (model prog w) A (letOwnedTupleGo target it v) (fun _ s₁' => wpAny (model prog w) A (assign target env v) (fun _ s₂ =>
          wpAny (model prog w) A (forIn ifs true fun c r => if r = true then do let ok ← isTrue c env (eval c env); pure (ForInStep.yield ok) else pure (ForInStep.yield r)) (fun ok s₃ =>
            if ok = true then wpAny (model prog w) A (eval elt env) (fun x s₄ =>
              wpAny (model prog w) A (call (.builtin "list.append") [acc, x]) (fun _ s₅ => ∃ m, m < n ∧ I m s₅) (notedBy (model prog w) A env fun e s' => R (.error e) s') s₄) (notedBy (model prog w) A env fun e s' => R (.error e) s') s₃
            else ∃ m, m < n ∧ I m s₃) (notedBy (model prog w) A env fun e s' => R (.error e) s') s₂) (notedBy (model prog w) A env fun e s' => R (.error e) s') s₁') (notedBy (model prog w) A env fun e s' => R (.error e) s') s₁) (notedBy (model prog w) A env fun e s' => R (.error e) s') s)
    (n : Nat) (h : I n s) :
    codeAny (model prog w) A (.compLoop (.ListComp elt [⟨target, iter, ifs, 0⟩] scope pos) 0 it acc env) R s := by
  refine codeAny_loop rfl I (fun n s hI => ?_) n h
  show wpAny _ A ((compTurn (.ListComp elt [⟨target, iter, ifs, 0⟩] scope pos) 0 it acc env).onRaise (fun x => do noteFrame x env; theTreesLotGoes x)) _ _ s
  refine wpAny_noted ?_
  rw [compTurn_list]
  refine wpAny_bind (wpAny_standAt (wpAny_bind (wpAny_mono (turn n s hI) (fun r s₁ h₁ => ?_) fun _ _ h' => h')))
  cases r with
  | none => exact wpAny_pure h₁
  | some v =>
    refine wpAny_bind (wpAny_mono h₁ (fun _ s₁' h₁' => ?_) fun _ _ h' => h')
    refine wpAny_bind (wpAny_mono h₁' (fun _ s₂ h₂ => wpAny_bind (wpAny_mono h₂ (fun ok s₃ h₃ => ?_) fun _ _ h' => h')) fun _ _ h' => h')
    cases ok with
    | false => exact wpAny_pure ⟨rfl, h₃⟩
    | true =>
      exact wpAny_bind (wpAny_bind (wpAny_mono h₃ (fun x s₄ h₄ => wpAny_bind (wpAny_mono h₄ (fun _ s₅ h₅ => wpAny_pure (wpAny_pure ⟨rfl, h₅⟩)) fun _ _ h' => h')) fun _ _ h' => h'))

section
variable {X : Cx}
/-- [elt for target in iter if ..]: D the new list; W by the turn and a measure, Nx what a turn is to reach -/
def tLc (wi : TI) (g : TG) (tt : TT) (te : TE) (vs : List Nat) : TE := fun σ H Q => wi σ H fun J H1 => ∀ D, H1 D = none → ∃ W : Nat → Nat → Hp → Prop, (∃ m, W 0 m (upd H1 D (.lst []))) ∧ ∀ i m H, W i m H →
  (J.stop i H ∧ Q (.ref D) H) ∨ (J.go i H ∧ ∃ Nx : Hp → Prop, (∀ H', Nx H' → ∃ m', m' < m ∧ W (i + 1) m' H') ∧ ∀ x H', J.yld i H x H' → g x (wipe σ vs) H' fun σ2 H2 => wipe σ2 vs = wipe σ vs ∧ tt σ2 H2 fun b H3 =>
    if b = true then te σ2 H3 fun y H4 => ∃ acc, H4 D = some (.lst acc) ∧ acc.length < sizeLine ∧ Nx (upd H4 D (.lst (acc ++ [y]))) else Nx H3)
theorem lc_core {pins : List (Addr × Obj)} {s : Shared} {σ : St} {H : Hp} {Q : VK} {elt tg iter : Expr} {ifs : List Expr} {scope : Scope} {own : List (Str × Nat)} {pos pos' : Pos} {wi : TI} {g : TG} {tt : TT} {te : TE} {use : Option (Value → Sem Unit)} {Qf : Value → Shared → Prop}
    (hc : X.calm = true) (hN : X.N.Nodup) (I : Inv X pins σ H s) (hi : PI X tg iter wi) (ok : BlkOk X.N X.env.scope scope own)
    (hg : ∀ (s : Shared) (H : Hp) (C : Addr) (cl : List (Str × Addr)) (fp : List Addr), PG (X.blk s H scope (compEnvC scope cl C X.env) fp) tg g) (ht : ∀ (s : Shared) (H : Hp) (C : Addr) (cl : List (Str × Addr)) (fp : List Addr), PTs (X.blk s H scope (compEnvC scope cl C X.env) fp) ifs tt)
    (he : ∀ (s : Shared) (H : Hp) (C : Addr) (cl : List (Str × Addr)) (fp : List Addr), PE (X.blk s H scope (compEnvC scope cl C X.env) fp) elt te) (hs : ∀ x, foldedSetIterable iter X.env x = pure x)
    (h : tLc wi g tt te (own.map (·.2)) σ H Q)
    (hRR : ∀ D C s' m H', Inv X pins σ H' s' → Q (.ref D) H' → s'.heap.Ns C m → FpOk X pins H' C → compPost (model X.prog X.w) X.A X.xe use Qf (.ref D) C (.ok .next) s') :
    wpAny (model X.prog X.w) X.A (comprehension (.ListComp elt [⟨tg, iter, ifs, 0⟩] scope pos) scope X.env pos' (newList []) false (eval iter X.env) use) Qf X.xe s := by
  have hfree : ∀ y ∈ scope.names, y.2 = .free → ∃ c, X.env.cells.lookup y.1 = some c := fun y hy e => by
    rcases ok.free y hy e with k | k
    · exact I.ok.has _ (.inl k)
    · exact I.ok.has _ (.inr k)
  refine wpAny_comprehension_free (use := use) rfl hs (closure_ok hfree) ok.kind (fun y hy e => by rw [ok.uniq y hy, e])
    (thn (hi pins s σ H _ I h) fun xv s1 hx => thn hx fun itv s2 h2 => ?_)
  obtain ⟨it, fp, tn, J, H2, e, I2, T, st2, f2, q⟩ := h2
  subst e
  refine wpAny_newObj_type (newEnv_comp ?_) (by show 0 ≤ sizeLine; decide)
  generalize hD : s2.heap.objs.size = D
  have hDn : H2 D = none := I2.hok.fresh (Nat.le_of_eq hD)
  obtain ⟨W, ⟨m0, w0⟩, turn⟩ := q D hDn
  -- the new list
  generalize hs3 : ({ s2 with heap := s2.heap.push { cls := .type "list", data := .seq ([] : List Value).toArray } } : Shared) = s3
  have I3 : Inv X pins σ (upd H2 D (.lst [])) s3 := by
    rw [← hs3]
    refine I2.laid (t' := s2.toks) (fun b o e => Heap.get?_push_of_some _ e) (Nat.le_of_eq hD) ⟨Nat.zero_le _, [], 0, .nil, ?_⟩
    rw [← hD]
    exact Heap.get?_push_size _ rfl
  have h3 : s3.heap = s2.heap.push { cls := .type "list", data := .seq ([] : List Value).toArray } := by rw [← hs3]
  have sz : ∀ b ∈ fp, b < s2.heap.objs.size := fun b hb => by
    obtain ⟨o, e, _⟩ := T.obj _ _ st2 b hb
    exact Heap.lt_size e
  have f3 : ∀ b ∈ fp, FpOk X pins (upd H2 D (.lst [])) b ∧ b < s3.heap.objs.size := fun b hb => by
    have hlt := sz b hb
    refine ⟨⟨?_, (f2 b hb).2⟩, by rw [h3, Heap.size_push]; exact Nat.lt_succ_of_lt hlt⟩
    rw [upd_ne (by rw [← hD]; exact Nat.ne_of_lt hlt)]
    exact (f2 b hb).1
  have st3 : tn 0 s3.heap := T.keep _ _ _ st2 fun b _ o e => by rw [h3]; exact Heap.get?_push_of_some _ e
  have I4 := block_start I3 ok hN f3
  have pg := hg s3 (upd H2 D (.lst [])) s3.heap.objs.size (cellsFrom (s3.heap.objs.size + 1) scope.names (cloFrom X.env.cells scope.names [])) fp
  have pt := ht s3 (upd H2 D (.lst [])) s3.heap.objs.size (cellsFrom (s3.heap.objs.size + 1) scope.names (cloFrom X.env.cells scope.names [])) fp
  have pe := he s3 (upd H2 D (.lst [])) s3.heap.objs.size (cellsFrom (s3.heap.objs.size + 1) scope.names (cloFrom X.env.cells scope.names [])) fp
  show codeAny _ _ (.compStart (.ListComp elt [⟨tg, iter, ifs, 0⟩] scope pos) 0 (.ref it) (.ref D) (compEnvC scope (cellsFrom (s3.heap.objs.size + 1) scope.names (cloFrom X.env.cells scope.names [])) s3.heap.objs.size X.env)) (compPost (model X.prog X.w) X.A X.xe use Qf (.ref D) s3.heap.objs.size) { s3 with heap := pushCells (s3.heap.push { cls := .type "dict", data := .dict #[] }) scope.names }
  have nfp : ∀ b ∈ fp, (upd H2 D (.lst [])) b = none := fun b hb => (f3 b hb).1.1
  generalize hce : compEnvC scope (cellsFrom (s3.heap.objs.size + 1) scope.names (cloFrom X.env.cells scope.names [])) s3.heap.objs.size X.env = ce at I4 pg pt pe ⊢
  have cL : ce.locals = s3.heap.objs.size := by subst hce; rfl
  generalize hH3 : upd H2 D (.lst []) = H3 at I3 I4 pg pt pe w0 nfp f3
  generalize hs4 : ({ s3 with heap := pushCells (s3.heap.push { cls := .type "dict", data := .dict #[] }) scope.names } : Shared) = s4 at I4 ⊢
  have st4 : tn 0 s4.heap := T.keep _ _ _ st3 fun b _ o e => by rw [← hs4]; exact pushCells_keeps _ _ _ _ (Heap.get?_push_of_some _ e)
  have stat : ∀ {σ' : St} {H' : Hp} {s' : Shared}, Inv (X.blk s3 H3 scope ce fp) [] σ' H' s' → (∀ b ∈ fp, H' b = none) → ∀ b ∈ fp, FpOk (X.blk s3 H3 scope ce fp) [] H' b := fun {σ' H' s'} I' hn b hb =>
    ⟨hn b hb, (I'.ok.exf b hb).1, I'.ok.exfs b hb, .inl hb, fun x c e => (I'.ok.exf b hb).2 x c e, fun p hp => absurd (show p ∈ ([] : List (Addr × Obj)) ++ [] from hp) (by simp)⟩
  have loop : codeAny (model X.prog X.w) X.A (.compLoop (.ListComp elt [⟨tg, iter, ifs, 0⟩] scope pos) 0 (.ref it) (.ref D) ce) (compPost (model X.prog X.w) X.A X.xe use Qf (.ref D) s3.heap.objs.size) s4 := by
    refine compLoop_any (fun n s' => ∃ i H', Inv (X.blk s3 H3 scope ce fp) [] (wipe σ (own.map (·.2))) H' s' ∧ tn i s'.heap ∧ (∀ b ∈ fp, H' b = none) ∧ W i n H') ?_ m0 ⟨0, H3, I4, st4, nfp, w0⟩
    rintro n s5 ⟨i, H5, I5, st5, n5, w5⟩
    rcases turn i n H5 w5 with ⟨stop, qq⟩ | ⟨go, Nx, hNx, step⟩
    · have td := T.done (X.blk s3 H3 scope ce fp) rfl rfl rfl hc i [] s5 _ H5 (fun _ _ => False) I5 (stat I5 n5) st5 stop
      refine thnF td fun r s6 ⟨hr, I6⟩ => ?_
      subst hr
      -- back in the def's context
      have I7 : Inv X pins σ H5 s6 := I3.call' (ch := fp) I6.os I6.base I6.hok I6.bare fun b hb => ⟨(f3 b hb).1.2.2.2.1, (f3 b hb).1.2.1, (f3 b hb).1.2.2.2.2.1, (f3 b hb).1.2.2.2.2.2⟩
      have nC : H5 s3.heap.objs.size = none := by
        have z : H5 ce.locals = none := I6.free
        rw [cL] at z
        exact z
      obtain ⟨m, hn, _⟩ := I6.loc
      have hn : s6.heap.Ns ce.locals m := hn
      rw [cL] at hn
      exact hRR D s3.heap.objs.size s6 m H5 I7 qq hn (I3.fpOk (Nat.le_refl _) nC)
    · have ti := T.item (X.blk s3 H3 scope ce fp) rfl rfl rfl hc i [] s5 _ H5 (fun _ _ => False) I5 (stat I5 n5) st5 go
      refine thnF ti fun r s6 ⟨u, hr, h6⟩ => ?_
      subst hr
      refine thnF h6 fun _ s7 ⟨x, H7, I7, r7, y7, st7, n7⟩ => ?_
      have I7' := I7.pinned (stat I7 n7) (T.obj _ _ st7)
      refine thnF (pg _ s7 _ H7 x u _ I7' r7 (step x H7 y7)) fun _ s8 ⟨σ8, H8, I8, hw8, q8⟩ => ?_
      refine thnF (pt _ s8 σ8 H8 _ I8 q8) fun b s9 ⟨H9, I9, q9⟩ => ?_
      -- the turn's end
      have fin : ∀ {s' : Shared} {H' : Hp}, Inv (X.blk s3 H3 scope ce fp) ([] ++ pinsAt fp s7.heap) σ8 H' s' → Nx H' → ∃ m, m < n ∧ ∃ i H', Inv (X.blk s3 H3 scope ce fp) [] (wipe σ (own.map (·.2))) H' s' ∧ tn i s'.heap ∧ (∀ b ∈ fp, H' b = none) ∧ W i m H' := fun {s' H'} I' nx => by
        obtain ⟨m', hm, w'⟩ := hNx H' nx
        have pin' : ∀ b ∈ fp, ∀ o, s7.heap.get? b = some o → s'.heap.get? b = some o ∧ H' b = none := fun b hb o e =>
          let z := I'.pin (b, o) (List.mem_append_right _ (List.mem_append_right _ (mem_pinsAt hb e)))
          ⟨z.1, z.2.1⟩
        have hl : (wipe σ (own.map (·.2))).length = σ8.length := by rw [← hw8, wipe_length]
        refine ⟨m', hm, i + 1, H', (I'.unpinned (pins := [])).weak hl (fun j v e => ?_), T.keep _ _ _ st7 fun b hb o e => (pin' b hb o e).1, fun b hb => ?_, w'⟩
        · rw [← hw8] at e
          exact (wipe_some e).1
        · obtain ⟨o, e, _⟩ := T.obj _ _ st7 b hb
          exact (pin' b hb o e).2
      cases b with
      | false =>
        simp only [Bool.false_eq_true, if_false] at q9 ⊢
        exact fin I9 q9
      | true =>
        simp only [if_true] at q9 ⊢
        refine thnF (pe _ s9 σ8 H9 _ I9 q9) fun z s10 ⟨yv, H10, I10, r10, acc, hD10, hz10, nx⟩ => ?_
        exact app_ok (X := X.blk s3 H3 scope ce fp) I10 hD10 hz10 r10 fun s11 I11 => fin I11 nx
  exact codeAny_compStart_list loop (T.self X.A 0 _ _ _ st4 loop)
/-- as a value -/
theorem pe_lc {elt tg iter : Expr} {ifs : List Expr} {scope : Scope} {own : List (Str × Nat)} {pos : Pos} {wi : TI} {g : TG} {tt : TT} {te : TE} (hc : X.calm = true) (hN : X.N.Nodup) (hi : PI X tg iter wi) (ok : BlkOk X.N X.env.scope scope own)
    (hg : ∀ (s : Shared) (H : Hp) (C : Addr) (cl : List (Str × Addr)) (fp : List Addr), PG (X.blk s H scope (compEnvC scope cl C X.env) fp) tg g) (ht : ∀ (s : Shared) (H : Hp) (C : Addr) (cl : List (Str × Addr)) (fp : List Addr), PTs (X.blk s H scope (compEnvC scope cl C X.env) fp) ifs tt)
    (he : ∀ (s : Shared) (H : Hp) (C : Addr) (cl : List (Str × Addr)) (fp : List Addr), PE (X.blk s H scope (compEnvC scope cl C X.env) fp) elt te) (hs : ∀ x, foldedSetIterable iter X.env x = pure x := by intro _; rfl) :
    PE X (.ListComp elt [⟨tg, iter, ifs, 0⟩] scope pos) (tLc wi g tt te (own.map (·.2))) := by
  intro pins s σ H Q I h
  rw [eval_ListComp]
  refine lc_core hc hN I hi ok hg ht he hs h fun D C s' m H' I' q hn f => ⟨m, hn, fun h'' sb => ?_⟩
  obtain ⟨f0, f1, f2, f3, f4, f5⟩ := f
  exact ⟨.ref D, H', I'.turned (t' := s'.toks) (fun b o hb e => (sb.2 b hb).trans e) f0 f1 f3 f4 f5, rfl, q⟩
/-- name = [..] on one line, the name a local -/
theorem ps_setLc {i : Nat} {y : Str} {py : Pos} {elt tg iter : Expr} {ifs : List Expr} {scope : Scope} {own : List (Str × Nat)} {pos spos : Pos} {wi : TI} {g : TG} {tt : TT} {te : TE} (hc : X.calm = true) (hN : X.N.Nodup) (hy : X.N[i]? = some y) (hyl : X.env.scope.names.lookup y = some .local)
    (hsw : swapsWith (.ListComp elt [⟨tg, iter, ifs, 0⟩] scope pos) (some (.Name y py)) spos.line X.env = pure true) (hi : PI X tg iter wi) (ok : BlkOk X.N X.env.scope scope own)
    (hg : ∀ (s : Shared) (H : Hp) (C : Addr) (cl : List (Str × Addr)) (fp : List Addr), PG (X.blk s H scope (compEnvC scope cl C X.env) fp) tg g) (ht : ∀ (s : Shared) (H : Hp) (C : Addr) (cl : List (Str × Addr)) (fp : List Addr), PTs (X.blk s H scope (compEnvC scope cl C X.env) fp) ifs tt)
    (he : ∀ (s : Shared) (H : Hp) (C : Addr) (cl : List (Str × Addr)) (fp : List Addr), PE (X.blk s H scope (compEnvC scope cl C X.env) fp) elt te) (hs : ∀ x, foldedSetIterable iter X.env x = pure x := by intro _; rfl) :
    PS X (.Assign [.Name y py] (.ListComp elt [⟨tg, iter, ifs, 0⟩] scope pos) spos) (tAsg (tLc wi g tt te (own.map (·.2))) (gName i)) := by
  intro pins s σ H D I h
  rw [exec_Assign_Name_used _ _ _ _ hsw]
  refine wpAny_bind (wpAny_standAt (wpAny_bind ?_))
  show wpAny _ X.A (do let _ ← comprehension (.ListComp elt [⟨tg, iter, ifs, 0⟩] scope pos) scope X.env (firstIterPos [⟨tg, iter, ifs, 0⟩] pos) (newList []) false (eval iter X.env) (some (assign (.Name y py) X.env))) _ _ s
  have h : tLc wi g tt te (own.map (·.2)) σ H (fun x H1 => gName i x σ H1 D.nx) := h
  refine wpAny_bind (thn (lc_core (Qf := fun _ s' => SP X pins D .next s') hc hN I hi ok hg ht he hs h fun L C s' m H' I' q hn f => ?_) fun _ s' hq => wpAny_pure (wpAny_pure hq))
  show wpAny _ _ (assign (.Name y py) X.env (.ref L)) _ _ _
  refine wpAny_assign_Name (store_ok2 (v := V.ref L) I' hN hy (.inl hyl) rfl (fun s2 I2 ⟨a, sb, ha⟩ => ?_) (.inr hyl))
  obtain ⟨f0, f1, f2, f3, f4, f5⟩ := f
  have haC : C ≠ a := by
    rcases ha with z | z
    · rw [z]; exact f1
    · exact fun e => f4 y a z e.symm
  refine ⟨m, hn.sameBut sb haC, fun h3 sb3 => ?_⟩
  exact ⟨_, H', I2.turned (t' := s2.toks) (fun b o hb e => (sb3.2 b hb).trans e) f0 f1 f3 f4 f5, q⟩
theorem sw_true {elt : Expr} {gs : List Comprehension} {scope : Scope} {pos py : Pos} {y : Str} {l : Nat} {env : Env} (hk : env.scope.kind = .function) (hy : env.scope.names.lookup y = some .local) (hl : (py.line == pos.line) = true)
    (ha : (scope.names.any fun (n, k) => n == y && (k == .local || k == .cell)) = false) : swapsWith (.ListComp elt gs scope pos) (some (.Name y py)) l env = pure true := by
  have ky : env.kindOf y = some .local := hy
  have hb : env.blockKind = .function := by unfold Env.blockKind; rw [hk]; rfl
  unfold swapsWith
  simp only [hb, ky, ha, Expr.pos, hl]
  rfl
end

/-! ### the forms one uses -/
/-- over a list that the block leaves as it is -/
theorem lc_list {K : PySem.W.Frag} {a : Addr} {xs : List V} {g : TG} {tt : TT} {te : TE} {vs : List Nat} {σ : St} {H1 : Hp} {D : Addr} {Qd : Hp → Prop} (Pv : Nat → Hp → Prop) (h0 : Pv 0 (upd H1 D (.lst []))) (hl : ∀ i H, i ≤ xs.length → Pv i H → SqL K H a xs)
    (hs : ∀ i x H, xs[i]? = some x → Pv i H → g x (wipe σ vs) H fun σ2 H2 => wipe σ2 vs = wipe σ vs ∧ tt σ2 H2 fun b H3 =>
      if b = true then te σ2 H3 fun y H4 => ∃ acc, H4 D = some (.lst acc) ∧ acc.length < sizeLine ∧ Pv (i + 1) (upd H4 D (.lst (acc ++ [y]))) else Pv (i + 1) H3) (hd : ∀ H, Pv xs.length H → Qd H) :
    ∃ W : Nat → Nat → Hp → Prop, (∃ m, W 0 m (upd H1 D (.lst []))) ∧ ∀ i m H, W i m H →
      ((Itl K a).stop i H ∧ Qd H) ∨ ((Itl K a).go i H ∧ ∃ Nx : Hp → Prop, (∀ H', Nx H' → ∃ m', m' < m ∧ W (i + 1) m' H') ∧ ∀ x H', (Itl K a).yld i H x H' → g x (wipe σ vs) H' fun σ2 H2 => wipe σ2 vs = wipe σ vs ∧ tt σ2 H2 fun b H3 =>
        if b = true then te σ2 H3 fun y H4 => ∃ acc, H4 D = some (.lst acc) ∧ acc.length < sizeLine ∧ Nx (upd H4 D (.lst (acc ++ [y]))) else Nx H3) := by
  refine ⟨fun i m H => m = xs.length - i ∧ i ≤ xs.length ∧ Pv i H, ⟨xs.length, by simp, Nat.zero_le _, h0⟩, ?_⟩
  rintro i m H ⟨rfl, hi, p⟩
  have q := hl i H hi p
  by_cases hlt : i < xs.length
  · refine .inr ⟨⟨xs, xs[i], q, by simp [hlt]⟩, Pv (i + 1), fun H' p' => ⟨xs.length - (i + 1), by omega, rfl, hlt, p'⟩, fun x H' y => ?_⟩
    obtain ⟨e, y⟩ := y
    subst e
    exact hs i x _ (y xs q) p
  · have e : i = xs.length := by omega
    subst e
    exact .inl ⟨⟨xs, q, Nat.le_refl _⟩, hd H p⟩
def blkC (N : List Str) (sc scope : Scope) (own : List (Str × Nat)) : Bool :=
  (match scope.kind with | .function => true | _ => false) && (scope.names.all fun y => decide (scope.names.lookup y.1 = some y.2)) && (own.all fun p => decide (N[p.2]? = some p.1)) &&
    (scope.names.all fun y => match y.2 with
      | .free => (match sc.names.lookup y.1 with | some .cell => true | some .free => true | _ => false)
      | .local => decide (y.1 ∈ own.map (·.1)) || decide (y.1 ∉ N)
      | .cell => decide (y.1 ∈ own.map (·.1)) || decide (y.1 ∉ N)
      | _ => true)
theorem blkOk_by {N : List Str} {sc scope : Scope} {own : List (Str × Nat)} (h : blkC N sc scope own = true) : BlkOk N sc scope own := by
  unfold blkC at h
  simp only [Bool.and_eq_true, List.all_eq_true, decide_eq_true_eq] at h
  obtain ⟨⟨⟨h1, h2⟩, h3⟩, h4⟩ := h
  refine ⟨?_, h2, h3, fun y hy e => ?_, fun y hy e => ?_⟩
  · split at h1
    · assumption
    · cases h1
  · have q := h4 y hy
    simp only [e] at q
    split at q <;> first | exact .inl (by assumption) | exact .inr (by assumption) | cases q
  · have q := h4 y hy
    rcases e with e | e <;> (simp only [e, Bool.or_eq_true, decide_eq_true_eq] at q; exact q)
end L2

namespace L2
open PySem PySem.Spec PyProof.Rows

section
variable {prog : Program} {w : World} {A : Around} {R : Result → Shared → Prop} {s : Shared} {elt t0 i0 t1 i1 : Expr} {ifs0 ifs1 : List Expr} {scope : Scope} {pos : Pos} {it acc : Value} {env : Env}
end

section
variable {X : Cx}
end
end L2

namespace L2
open PySem PySem.Spec PyProof.Rows

/-! ### lists of pairs as tables -/
section
variable {κ : Type} [DecidableEq κ]
def valV (kvs : List (κ × V)) (k : κ) : Option V := (kvs.find? fun kv => decide (kv.1 = k)).map (·.2)
/-- in its place, or at the end -/
def putK (kvs : List (κ × V)) (k : κ) (v : V) : List (κ × V) :=
  if (kvs.any fun kv => decide (kv.1 = k)) = true then kvs.map (fun kv => if kv.1 = k then (kv.1, v) else kv) else kvs ++ [(k, v)]
theorem valV_pos {p : κ × V} {r : List (κ × V)} {k : κ} (e : p.1 = k) : valV (p :: r) k = some p.2 := by simp [valV, List.find?_cons, e]
theorem valV_neg {p : κ × V} {r : List (κ × V)} {k : κ} (e : ¬ p.1 = k) : valV (p :: r) k = valV r k := by simp [valV, List.find?_cons, e]
theorem length_putK (kvs : List (κ × V)) (k : κ) (v : V) : (putK kvs k v).length ≤ kvs.length + 1 := by
  unfold putK
  split
  · rw [List.length_map]; omega
  · rw [List.length_append, List.length_cons, List.length_nil]; omega
theorem RelO.isSome_eq {o : Option V} {u : Option Value} (r : RelO o u) : o.isSome = u.isSome := by
  cases o with
  | none => cases u with
    | none => rfl
    | some _ => exact (show False from r).elim
  | some _ => cases u with
    | none => exact (show False from r).elim
    | some _ => rfl
/-- raw tables of the same keys -/
theorem KV.val {kvs : List (κ × V)} {vs : List (κ × Value)} (r : KV kvs vs) (k : κ) : RelO (valV kvs k) (valueAt vs k) := by
  unfold KV at r
  induction r with
  | nil => exact True.intro
  | @cons p q ps qs h t ih =>
    obtain ⟨h1, h2⟩ := h
    by_cases e : p.1 = k
    · have e' : q.1 = k := h1.symm.trans e
      have b : valueAt (q :: qs) k = some q.2 := by simp [valueAt, List.find?_cons, e']
      rw [valV_pos e, b]; exact h2
    · have e' : ¬ q.1 = k := fun z => e (h1.trans z)
      have b : valueAt (q :: qs) k = valueAt qs k := by simp [valueAt, List.find?_cons, e']
      rw [valV_neg e, b]; exact ih
theorem KV.any {kvs : List (κ × V)} {vs : List (κ × Value)} (r : KV kvs vs) (k : κ) : (kvs.any fun kv => decide (kv.1 = k)) = vs.any fun kv => decide (kv.1 = k) := by
  unfold KV at r
  induction r with
  | nil => rfl
  | cons h t ih => rw [List.any_cons, List.any_cons, ih, h.1]
theorem KV.repl {kvs : List (κ × V)} {vs : List (κ × Value)} (r : KV kvs vs) (k : κ) {y : V} {u : Value} (ry : RelV y u) :
    KV (kvs.map fun kv => if kv.1 = k then (kv.1, y) else kv) (vs.map fun kv => if kv.1 = k then (kv.1, u) else kv) := by
  unfold KV at r ⊢
  induction r with
  | nil => exact .nil
  | @cons p q ps qs h t ih =>
    rw [List.map_cons, List.map_cons]
    refine .cons ?_ ih
    obtain ⟨h1, h2⟩ := h
    by_cases e : p.1 = k
    · rw [if_pos e, if_pos (h1.symm.trans e)]; exact ⟨h1, ry⟩
    · rw [if_neg e, if_neg (fun z => e (h1.trans z))]; exact ⟨h1, h2⟩
theorem KV.put {kvs : List (κ × V)} {vs : List (κ × Value)} (r : KV kvs vs) (k : κ) {y : V} {u : Value} (ry : RelV y u) : KV (putK kvs k y) (stored vs k u) := by
  unfold putK stored
  rw [r.any k]
  by_cases e : (vs.any fun kv => decide (kv.1 = k)) = true
  · rw [if_pos e, if_pos e]; exact r.repl k ry
  · rw [if_neg e, if_neg e]; exact Paired.snoc r ⟨rfl, ry⟩
theorem KV.length {kvs : List (κ × V)} {vs : List (κ × Value)} (r : KV kvs vs) : kvs.length = vs.length := Paired.length r
end


/-! ### a tracked dict, its keys ints and texts or tuples of these -/
theorem kV_is {P : Program} {w : World} {k : Key} {u : Value} (r : RelV (kV k) u) : (mixKind P w).is k u = true := by
  cases k with
  | inl i => obtain ⟨t, e⟩ := (show ∃ t, u = Value.int i t from r); subst e; exact mixKind_int P w i t
  | inr x => obtain ⟨t, e⟩ := (show ∃ t, u = Value.str x t from r); subst e; exact mixKind_str P w x t
theorem items_are {P : Program} {w : World} : ∀ {ks : List Key} {us : List Value}, Vals (ks.map kV) us → ItemsAre (mixKind P w) ks us
  | [], _, r => by rw [List.map_nil] at r; cases r; exact .nil
  | k :: ks, _, r => by
    rw [List.map_cons] at r
    cases r with
    | cons h t => exact .cons (kV_is h) (items_are t)

/-- raw entries of a dict with tuple keys -/
abbrev KT (H : Hp) : List (List Key × V) → List (List Key × Addr × Value) → Prop := Paired fun p q => p.1 = q.1 ∧ H q.2.1 = some (.tup (p.1.map kV)) ∧ RelV p.2 q.2.2
theorem KT.val {H : Hp} {kvs : List (List Key × V)} {xs : List (List Key × Addr × Value)} (r : KT H kvs xs) (k : List Key) : RelO (valV kvs k) ((atKey xs k).map (·.2)) := by
  induction r with
  | nil => exact True.intro
  | @cons p q ps qs h t ih =>
    obtain ⟨h1, _, h2⟩ := h
    by_cases e : p.1 = k
    · have e' : q.1 = k := h1.symm.trans e
      have b : atKey (q :: qs) k = some q.2 := by simp [atKey, List.find?_cons, e']
      rw [valV_pos e, b]; exact h2
    · have e' : ¬ q.1 = k := fun z => e (h1.trans z)
      have b : atKey (q :: qs) k = atKey qs k := by simp [atKey, List.find?_cons, e']
      rw [valV_neg e, b]; exact ih
section
variable {P : Program} {w : World} {H : Hp} {h : Heap} {a : Addr}
theorem rd_of {u : HO} (ok : HOk P w H h) (e : Rd H a u) : ObjOk P w H h a u := e.ok ok
theorem dk_rd {kvs : List (Key × V)} (ok : HOk P w H h) (e : Rd H a (.dK kvs)) : kvs.length ≤ sizeLine ∧ (a == sysModules) = false ∧ ∃ vs, KV kvs vs ∧ h.DictOf (mixKind P w) a vs :=
  show ObjOk P w H h a (.dK kvs) from rd_of ok e
/-- a tracked tuple of ints and texts is a key -/
theorem key_of {ks : List Key} (ok : HOk P w H h) (e : H a = some (.tup (ks.map kV))) : (tupleKind (mixKind P w)).is h ks a := by
  obtain ⟨_, its, r, o, h1, h2, n, h3⟩ := (show ObjOk P w H h a (.tup (ks.map kV)) from ok a _ e)
  exact ⟨o, its.toArray, n, h1, h2, h3, by simpa using items_are r⟩
theorem dt_rd {kvs : List (List Key × V)} (ok : HOk P w H h) (e : Rd H a (.dT kvs)) : kvs.length ≤ sizeLine ∧ (a == sysModules) = false ∧
    ∃ xs, KT H kvs xs ∧ h.DictOfH (tupleKind (mixKind P w)) a xs := by
  obtain ⟨z, y, xs, r, o, es, ep, h1, h2, h3, h4, h5⟩ := (show ObjOk P w H h a (.dT kvs) from rd_of ok e)
  refine ⟨z, y, xs, r, o, es, ep, h1, h2, h3, h4, fun x hx => ?_, h5⟩
  have all : ∀ {l : List (List Key × V)} {m : List (List Key × Addr × Value)}, KT H l m → ∀ x ∈ m, (tupleKind (mixKind P w)).is h x.1 x.2.1 := by
    intro l m q
    induction q with
    | nil => intro x hx; exact nomatch hx
    | @cons p q ps qs hq t ih =>
      intro x hx
      rcases List.mem_cons.mp hx with e | hx
      · subst e
        exact key_of ok (by rw [← hq.1]; exact hq.2.1)
      · exact ih x hx
  exact all r x hx
end

/-- what the dict at a holds at the key y -/
def DGet (H : Hp) (a : Addr) (y : V) (r : Option V) : Prop :=
  (∃ kvs k, Rd H a (.dK kvs) ∧ y = kV k ∧ r = valV kvs k) ∨ ∃ kvs k b, Rd H a (.dT kvs) ∧ y = .ref b ∧ H b = some (.tup (k.map kV)) ∧ r = valV kvs k
theorem DGet.k {H : Hp} {a : Addr} {kvs : List (Key × V)} {k : Key} (e : H a = some (.dK kvs)) : DGet H a (kV k) (valV kvs k) := .inl ⟨kvs, k, .inl e, rfl, rfl⟩
section
variable {X : Cx} {pins : List (Addr × Obj)} {σ : St} {H : Hp} {s : Shared} {a : Addr} {y v : V} {u r : Value} {o : Option V} {A : Around} {E : Value → Shared → Prop}

theorem Inv.big (I : Inv X pins σ H s) : sysModules < s.heap.objs.size := by
  have h : mainGlobals < s.heap.objs.size := (I.mod.glob.keeps I.bk).lt
  exact Nat.lt_trans (by decide) h

/-- d[y], there -/
theorem d_getItem {Q : Value → Shared → Prop} (hu : A.units + 1 < cLine) (I : Inv X pins σ H s) (g : DGet H a y (some v)) (ry : RelV y u) (h : ∀ w' s', Inv X pins σ H s' → RelV v w' → Q w' s') :
    wpAny (model X.prog X.w) A (getItem (.ref a) u) Q E s := by
  rcases g with ⟨kvs, k, e, ey, l⟩ | ⟨kvs, k, b, e, ey, eb, l⟩
  · subst ey
    obtain ⟨z, hd, vs, rel, dd⟩ := dk_rd I.hok e
    obtain ⟨w', hw, rw'⟩ := RelO.some_of (v := v) (o := valueAt vs k) (by rw [l]; exact rel.val k)
    exact wpAny_getItem_of (kV_is ry) dd.mapOf hw (h w' _ (I.tok _) rw')
  · subst ey
    cases (show u = Value.ref b from ry)
    obtain ⟨z, hd, xs, rel, dd⟩ := dt_rd I.hok e
    obtain ⟨w', hw, rw'⟩ := RelO.some_of (v := v) (o := (atKey xs k).map (·.2)) (by rw [l]; exact rel.val k)
    obtain ⟨p, hp, hp2⟩ := Option.map_eq_some_iff.mp hw
    refine wpAny_getItem_heap (tupleKind_room_in1 hu) (key_of I.hok eb) dd hp ?_
    rw [hp2]
    exact h w' _ (I.tok _) rw'
/-- y in d -/
theorem d_in {Q : Value → Shared → Prop} (hu : A.units + 1 < cLine) (I : Inv X pins σ H s) (g : DGet H a y o) (ry : RelV y u) (h : ∀ s', Inv X pins σ H s' → Q (.bool o.isSome) s') :
    wpAny (model X.prog X.w) A (compareOp .In u (.ref a)) Q E s := by
  rcases g with ⟨kvs, k, e, ey, l⟩ | ⟨kvs, k, b, e, ey, eb, l⟩
  · subst ey
    obtain ⟨z, hd, vs, rel, dd⟩ := dk_rd I.hok e
    refine wpAny_in_of (kV_is ry) hd dd.mapOf ?_
    rw [← (rel.val k).isSome_eq, ← l]
    exact h _ (I.tok _)
  · subst ey
    cases (show u = Value.ref b from ry)
    obtain ⟨z, hd, xs, rel, dd⟩ := dt_rd I.hok e
    refine wpAny_in_heap (tupleKind_room_in1 hu) (key_of I.hok eb) hd dd ?_
    have q := (rel.val k).isSome_eq
    rw [Option.isSome_map] at q
    rw [← q, ← l]
    exact h _ (I.tok _)
theorem d_notIn {Q : Value → Shared → Prop} (hu : A.units + 1 < cLine) (I : Inv X pins σ H s) (g : DGet H a y o) (ry : RelV y u) (h : ∀ s', Inv X pins σ H s' → Q (.bool (!o.isSome)) s') :
    wpAny (model X.prog X.w) A (compareOp .NotIn u (.ref a)) Q E s := by
  rcases g with ⟨kvs, k, e, ey, l⟩ | ⟨kvs, k, b, e, ey, eb, l⟩
  · subst ey
    obtain ⟨z, hd, vs, rel, dd⟩ := dk_rd I.hok e
    refine wpAny_notIn_of (kV_is ry) hd dd.mapOf ?_
    rw [← (rel.val k).isSome_eq, ← l]
    exact h _ (I.tok _)
  · subst ey
    cases (show u = Value.ref b from ry)
    obtain ⟨z, hd, xs, rel, dd⟩ := dt_rd I.hok e
    refine wpAny_notIn_heap (tupleKind_room_in1 hu) (key_of I.hok eb) hd dd ?_
    have q := (rel.val k).isSome_eq
    rw [Option.isSome_map] at q
    rw [← q, ← l]
    exact h _ (I.tok _)
end

section
variable {X : Cx} {pins : List (Addr × Obj)} {σ : St} {H : Hp} {s : Shared} {a : Addr} {kvs : List (Key × V)} {k : Key} {u : Value} {A : Around} {E : Value → Shared → Prop}
end


/-! ### readings and rules -/
/-- the element of a subscription, not a slice -/
def NoSl (i : Expr) : Prop := ∀ ov iv, subscripted i false ov iv = operate [ov, iv] (getItem ov iv)
theorem subD_of {prog : Program} {w : World} {A : Around} {E : Value → Shared → Prop} {s : Shared} {env : Env} {value slice : Expr} {pos : Pos} {T id : String} {Q : Value → Shared → Prop}
    (hl : typeLookup (.type T) "__getitem__" = pure (some (.builtin id))) (hs : NoSl slice)
    (h : wpAny (model prog w) A (eval value env) (fun o s₁ => wpAny (model prog w) A (eval slice env) (fun i s₂ => s₂.TypeIs o T ∧ wpAny (model prog w) A (getItem o i) Q E s₂) E s₁) E s) :
    wpAny (model prog w) A (eval (.Subscript value slice pos) env) Q E s := by
  refine Subscript_ (wpAny_mono h (fun o s₁ h₁ => wpAny_mono h₁ (fun i s₂ h₂ => ?_) fun _ _ x => x) fun _ _ x => x)
  obtain ⟨hT, h₂⟩ := h₂
  unfold subscriptTail
  refine wpAny_bind ?_
  rw [getitemInPython_of_ne hT.not_modules]
  refine wpAny_bind (wpAny_specialOf hT hl ?_)
  have fin : wpAny (model prog w) A (subscripted slice false o i) (fun r s₃ => wpAny (model prog w) A (letTemporaryGo value o r >>= fun _ => pure r) Q E s₃) E s₂ := by
    rw [hs o i]
    exact wpAny_operating (wpAny_mono h₂ (fun r s₃ h₃ => wpAny_bind (wpAny_letTemporaryGo (wpAny_pure h₃))) fun _ _ x => x)
  first
    | exact wpAny_pure (wpAny_bind fin)
    | exact wpAny_bind (wpAny_pure (wpAny_bind fin))
    | exact wpAny_bind fin

theorem dict_typeIs {X : Cx} {pins : List (Addr × Obj)} {σ : St} {H : Hp} {s : Shared} {a : Addr} {y : V} {o : Option V} (I : Inv X pins σ H s) (g : DGet H a y o) : s.TypeIs (.ref a) "dict" := by
  rcases g with ⟨kvs, k, e, _, _⟩ | ⟨kvs, k, b, e, _, _, _⟩
  · obtain ⟨_, _, vs, _, dd⟩ := dk_rd I.hok e
    exact dd.typeIs
  · obtain ⟨_, _, xs, _, dd⟩ := dt_rd I.hok e
    exact dd.typeIs
/-- d[y] -/
def tDGet (td ty : TE) : TE := fun σ H Q => td σ H fun x H1 => ty σ H1 fun y H2 => ∃ a v, x = .ref a ∧ DGet H2 a y (some v) ∧ Q v H2
/-- y in d, y not in d -/
def tDIn (ty td : TE) : TE := fun σ H Q => ty σ H fun y H1 => td σ H1 fun x H2 => ∃ a o, x = .ref a ∧ DGet H2 a y o ∧ Q (.bl o.isSome) H2
def tDNotIn (ty td : TE) : TE := fun σ H Q => ty σ H fun y H1 => td σ H1 fun x H2 => ∃ a o, x = .ref a ∧ DGet H2 a y o ∧ Q (.bl (!o.isSome)) H2
section
variable {X : Cx} {o i e value : Expr} {pos pos' tpos : Pos} {td ty tv : TE}
theorem pe_dget (hu : X.A.units + 1 < cLine) (ho : PE X o td) (hi : PE X i ty) (hs : NoSl i) : PE X (.Subscript o i pos) (tDGet td ty) := by
  intro pins s σ H Q I h
  refine subD_of PySem.F.slot_dict_getitem.lookup hs (thn (ho pins s σ H _ I h) fun u s1 ⟨x, H1, I1, rx, q1⟩ => thn (hi pins s1 σ H1 _ I1 q1) fun iv s2 ⟨y, H2, I2, ry, a, v, ex, g, q2⟩ => ?_)
  subst ex
  obtain rfl : u = Value.ref a := rx
  exact ⟨dict_typeIs I2 g, d_getItem hu I2 g ry fun w' s3 I3 rw' => ⟨v, H2, I3, rw', q2⟩⟩
theorem pc_din (hu : X.A.units + 1 < cLine) (hi : PE X i ty) (ho : PE X o td) : PC X .In i o (tDIn ty td) := by
  intro pins s σ H Q I h
  refine thn (hi pins s σ H _ I h) fun iv s1 ⟨y, H1, I1, ry, q1⟩ => thn (ho pins s1 σ H1 _ I1 q1) fun u s2 ⟨x, H2, I2, rx, a, ov, ex, g, q2⟩ => ?_
  subst ex
  obtain rfl : u = Value.ref a := rx
  exact d_in hu I2 g ry fun s3 I3 => ⟨.bl ov.isSome, H2, I3, rfl, q2⟩
theorem pc_dnotin (hu : X.A.units + 1 < cLine) (hi : PE X i ty) (ho : PE X o td) : PC X .NotIn i o (tDNotIn ty td) := by
  intro pins s σ H Q I h
  refine thn (hi pins s σ H _ I h) fun iv s1 ⟨y, H1, I1, ry, q1⟩ => thn (ho pins s1 σ H1 _ I1 q1) fun u s2 ⟨x, H2, I2, rx, a, ov, ex, g, q2⟩ => ?_
  subst ex
  obtain rfl : u = Value.ref a := rx
  exact d_notIn hu I2 g ry fun s3 I3 => ⟨.bl (!ov.isSome), H2, I3, rfl, q2⟩
end


/-! ### displays -/
section
variable {X : Cx} {pos : Pos}
end

def mergeK (kvs more : List (Key × V)) : List (Key × V) := more.foldl (fun acc kv => putK acc kv.1 kv.2) kvs
theorem KV.merge : ∀ {more : List (Key × V)} {rs : List (Key × Value)} {kvs : List (Key × V)} {vs : List (Key × Value)}, KV more rs → KV kvs vs → KV (mergeK kvs more) (merged vs rs) := by
  intro more rs kvs vs r
  unfold KV at r
  induction r generalizing kvs vs with
  | nil => intro q; exact q
  | @cons p q ps qs h t ih =>
    intro r0
    have e : KV (putK kvs p.1 p.2) (stored vs q.1 q.2) := by
      have := r0.put p.1 h.2
      rw [← h.1]; exact this
    exact ih e
theorem length_mergeK : ∀ (more kvs : List (Key × V)), (mergeK kvs more).length ≤ kvs.length + more.length
  | [], kvs => by show kvs.length ≤ kvs.length + 0; omega
  | p :: r, kvs => by
    have h1 := length_mergeK r (putK kvs p.1 p.2)
    have h2 := length_putK kvs p.1 p.2
    show (mergeK (putK kvs p.1 p.2) r).length ≤ _
    rw [List.length_cons]; omega
/-! ### methods -/
/-- a method call o.m(e) of a built-in, with one argument: what must be seen of the text -/
structure M1 (X : Cx) (o : Expr) (m : Str) (apos : Pos) (e : Expr) (cpos : Pos) : Prop where
  base : attributeBase o m X.env (eval o X.env) = eval o X.env
  few : ((backTo cpos (starEach [e] X.env)).all (fun x => !x.1) && (backToKw cpos (keywordEach [] X.env)).all (fun x => x.1.isSome)
    && decide (([e] : List Expr).length + ([] : List Keyword).length + (if ([] : List Keyword).isEmpty then 0 else 1) < 30)) = true
  line : (apos.endLine == cpos.line) = true
  trees : backTo cpos (starEach [e] X.env) = [(false, eval e X.env)]
structure M2 (X : Cx) (o : Expr) (m : Str) (apos : Pos) (e f : Expr) (cpos : Pos) : Prop where
  base : attributeBase o m X.env (eval o X.env) = eval o X.env
  few : ((backTo cpos (starEach [e, f] X.env)).all (fun x => !x.1) && (backToKw cpos (keywordEach [] X.env)).all (fun x => x.1.isSome)
    && decide (([e, f] : List Expr).length + ([] : List Keyword).length + (if ([] : List Keyword).isEmpty then 0 else 1) < 30)) = true
  line : (apos.endLine == cpos.line) = true
  trees : backTo cpos (starEach [e, f] X.env) = [(false, eval e X.env), (false, eval f X.env)]

section
variable {X : Cx} {pins : List (Addr × Obj)} {σ : St} {H : Hp} {s : Shared} {a : Addr} {y d : V} {u r : Value} {o : Option V} {A : Around} {E : Value → Shared → Prop}
end

section
variable {X : Cx} {o e f : Expr} {apos cpos : Pos} {td ty tx : TE}
end

/-! ### dict(d): a copy -/
section
variable {X : Cx} {pins : List (Addr × Obj)} {σ : St} {H : Hp} {s : Shared} {a : Addr} {kvs : List (Key × V)} {A : Around} {E : Value → Shared → Prop}
end


section
variable {X : Cx} {pins : List (Addr × Obj)} {σ : St} {H : Hp} {s : Shared} {a : Addr} {y : V} {u : Value} {A : Around} {E : Value → Shared → Prop}
end
end L2

namespace L2
open PySem PySem.Spec PyProof.Rows

theorem list_keys_none : typeLookup (.type "list") "keys" = pure none := am_miss_of_fast (by first | decide +kernel | rfl)
theorem ud_entry : entryFor table "dict.update.loop" = some Builtin.«dict.update.loop» := entryFor_of_tree (by kernel_rfl)
theorem ud_plain : plainId "dict.update.loop" = true := by decide +kernel

section
variable {prog : Program} {w : World} {A : Around} {E : Value → Shared → Prop}
/-- a list has no attribute 'keys': an AttributeError is made, and forgotten -/
theorem miss_list {s : Shared} {a : Addr} {o : Obj} {xs : Array Value} {k : Nat} {Q : Option Value → Shared → Prop} (hx : s.heap.get? a = some o) (hc : o.cls = .type "list") (hdat : o.data = .seq xs k) (hd : o.dict = none) (hA : A.handled = none)
    (h : ∀ h' tk, (∀ b ob, s.heap.get? b = some ob → h'.get? b = some ob) → Q none { s with heap := h', toks := tk }) : wpAny (model prog w) A (getAttr? (.ref a) "keys") Q E s := by
  obtain ⟨c, dct, dat, sl⟩ := o
  simp only at hc hdat hd
  subst hc hdat hd
  obtain ⟨hp, g, d, tk, os⟩ := s
  have hT : ∀ tk', (⟨hp, g, d, tk', os⟩ : Shared).TypeIs (.ref a) "list" := fun _ => ⟨_, hx, rfl⟩
  have hmiss := list_keys_none
  have hname : (["__module__", "__name__", "__qualname__", "__doc__", "__annotations__"] : List Str).contains "keys" = false := by decide +kernel
  have hsz : ("keys" : Str).length + 100 ≤ sizeLine := by first | size_fits | decide +kernel
  have f1 := sub_AttributeError
  have f3 := PySem.F.slot_list_getattribute.lookup
  have f4 := PySem.F.slot_list_getattribute.bind (.ref a)
  have f5 := am_list_getattr_none
  unfold getAttr? getAttrBy? getAttrBy
  repeat (any_goals (first | assumption | exact hT _ | ((with_reducible show wpAny _ _ (call (Value.builtin "list.__getattribute__") _ _) _ _ _); refine call_meets PySem.F.slot_list_getattribute (hT _) am_entry_list_getattribute (PySem.F.args_list_getattribute_2 _ _) (meets_getattribute_miss_list a xs k sl "keys" _ hmiss hname hsz) ⟨hx, hA, fun h' tk' e hx' => ?_⟩) | wp_step))
  obtain ⟨t', u', he⟩ := hx'.there
  show wpAny _ _ (getattributeRaised _ _ _ _ _ _ _) _ _ _
  unfold getattributeRaised
  repeat (any_goals (first | assumption | wp_step))
  all_goals first | exact h _ _ hx'.keeps | (dsimp only; repeat (any_goals (first | assumption | exact h _ _ hx'.keeps | wp_step)))

/-- the walk over the pairs -/
theorem upd_loop {R : Result → Shared → Prop} {S I l : Addr} {items : Array Value} {res : Value} (hh : A.handled = none) (hlI : l ≠ I) (hSI : S ≠ I) (hSl : S ≠ l) :
    ∀ (rest : List (Key × Value)) (i : Nat) (acc : List (Key × Value)) (ix : Int) (t : Tok) (s : Shared), items.size = i + rest.length → acc.length + rest.length ≤ sizeLine →
      (∀ (j : Nat) (q : Key × Value), rest[j]? = some q → ∃ (b : Addr) (u : Value), items[i + j]? = some (.ref b) ∧ b ≠ S ∧ b ≠ I ∧ IsTup s.heap b #[u, q.2] ∧ keyIs q.1 u = true) →
      s.heap.IsListIter I l i → s.heap.IsList l items → s.heap.DictOf (mixKind prog w) S acc →
      (∀ h' tk, h'.DictOf (mixKind prog w) S (merged acc rest) → (∀ b o, b ≠ S → b ≠ I → s.heap.get? b = some o → h'.get? b = some o) → R (.ok (.ret res)) { s with heap := h', toks := tk }) →
      codeAny (model prog w) A (.builtin "dict.update.loop" ⟨[.ref S, .ref I, .int ix t, res], []⟩) R s
  | [], i, acc, ix, t, s, hsz, hln, ht, hit, hl, hm, hR => by
    refine codeAny_builtin ud_entry ?_
    rw [Around.under_plainId ud_plain _]
    show wpAny _ A.in1 (pyNext (.ref I) >>= _) _ _ s
    refine wpAny_bind (wpAny_pyNext_list_end (A := A.in1) hh hit hl (by first | exact Array.getElem?_eq_none (Nat.le_of_eq hsz) | (simp at hsz; simp; omega)) fun h' he => ?_)
    show wpAny _ A.in1 (Builtin.Dict.addKeywords S [] >>= _) _ _ _
    refine wpAny_bind (wpAny_pure (wpAny_pure ?_))
    exact hR h' s.toks (hm.extBut he hSI) fun b o _ hb e => he b o hb e
  | q :: rest, i, acc, ix, t, s, hsz, hln, ht, hit, hl, hm, hR => by
    obtain ⟨b, u, hb, hbS, hbI, htup, hk⟩ := ht 0 q rfl
    rw [List.length_cons] at hsz hln
    refine codeAny_builtin ud_entry ?_
    rw [Around.under_plainId ud_plain _]
    show wpAny _ A.in1 (pyNext (.ref I) >>= _) _ _ s
    refine wpAny_bind (wpAny_pyNext_list_item (x := .ref b) hit hl (by simpa using hb) fun h1 hit1 hs1 => ?_)
    have ht1 : IsTup h1 b #[u, q.2] := htup.extBut hs1.extBut hbI
    have hl1 : h1.IsList l items := hl.extBut hs1.extBut hlI
    have hm1 : h1.DictOf (mixKind prog w) S acc := hm.extBut hs1.extBut hSI
    obtain ⟨o, ho, hc, n, hd⟩ := id ht1
    show wpAny _ A.in1 (holding [Value.ref b] _ >>= _) _ _ _
    refine wpAny_bind (wpAny_holding ?_)
    refine wpAny_bind (wpAny_tryCatch ?_)
    unfold Builtin.Dict.pairItems
    refine wpAny_bind (wpAny_typeOf (T := "tuple") ⟨o, ho, hc⟩ ?_)
    rw [if_pos (by first | decide | rfl | simp)]
    refine wpAny_bind (wpAny_seqItems ho hd (wpAny_pure ?_))
    show wpAny _ A.in1 (holding [u, q.2] (dictSet S u q.2)) _ _ _
    refine wpAny_holding (wpAny_dictSet_pairs (knd := mixKind prog w) (k := q.1) hk hm1 (fun h2 hm2 hs2 => ?_) (by omega))
    refine wpAny_pure ⟨plainId_quiet ud_plain _, upd_loop (items := items) hh hlI hSI hSl rest (i + 1) (stored acc q.1 q.2) (ix + 1) 0 _ (show items.size = i + 1 + rest.length by omega) ?_ (fun j q' e => ?_) ?_ ?_ hm2 fun h' tk hd' k => ?_⟩
    · have z := stored_length_le acc q.1 q.2
      omega
    · obtain ⟨b', u', hb', hbS', hbI', htup', hk'⟩ := ht (j + 1) q' (by simpa using e)
      refine ⟨b', u', ?_, hbS', hbI', (htup'.extBut hs1.extBut hbI').extBut hs2.extBut hbS', hk'⟩
      rw [show i + 1 + j = i + (j + 1) by omega]
      exact hb'
    · exact hit1.at fun o' e => hs2.extBut I o' (Ne.symm hSI) e
    · exact hl1.extBut hs2.extBut (Ne.symm hSl)
    · exact hR h' tk hd' fun c oc h3 h4 e => k c oc h3 h4 (hs2.extBut c oc h3 (hs1.extBut c oc h4 e))

/-- dict(l) of a list of pairs -/
theorem call_dict_pairs {s : Shared} {l : Addr} {ol : Obj} {items : Array Value} {n : Nat} {prs : List (Key × Value)} {Q : Value → Shared → Prop} (hh : A.handled = none) (hl : s.heap.get? l = some ol) (hc : ol.cls = .type "list") (hd : ol.dict = none)
    (hdat : ol.data = .seq items n) (hsz : items.size = prs.length) (hln : prs.length ≤ sizeLine)
    (ht : ∀ (j : Nat) (q : Key × Value), prs[j]? = some q → ∃ (b : Addr) (u : Value), items[j]? = some (.ref b) ∧ IsTup s.heap b #[u, q.2] ∧ keyIs q.1 u = true)
    (h : ∀ h' tk, h'.DictOf (mixKind prog w) s.heap.objs.size (merged [] prs) → (∀ b o, s.heap.get? b = some o → h'.get? b = some o) → Q (.ref s.heap.objs.size) { s with heap := h', toks := tk }) :
    wpAny (model prog w) A (call (.type "dict") [.ref l]) Q E s := by
  refine callType_codes (Q₁ := fun obj s₁ => obj = .ref s.heap.objs.size ∧ s₁ = { s with heap := s.heap.push { cls := .type "dict", data := .dict #[] } }) PySem.F.kt_called_dict (PySem.F.kt_typeCall_dict_1 _) PySem.F.entry_dict_init (kt_code_dict_new _ ⟨rfl, rfl⟩) ?_
  rintro obj s₁ ⟨rfl, rfl⟩
  have hnew : (s.heap.push { cls := .type "dict", data := .dict #[] }).DictOf (mixKind prog w) s.heap.objs.size [] := Heap.DictOf.new s.heap
  have k0 : ∀ b o, s.heap.get? b = some o → (s.heap.push { cls := .type "dict", data := .dict #[] }).get? b = some o := fun b o e => Heap.get?_push_of_some _ e
  refine ⟨hnew.typeIs, PySem.F.args_dict_init_2 _ _, ?_⟩
  unfold Builtin.«dict.__init__»
  refine wpAny_bind ?_
  unfold Builtin.Dict.selfAndRest
  refine wpAny_bind (wpAny_notOrdered_dict hnew.typeIs ?_)
  show wpAny _ _ (pure (s.heap.objs.size, [Value.ref l])) _ _ _
  refine wpAny_pure ?_
  show wpAny _ _ (Builtin.Dict.updateFrom "dict.__init__" s.heap.objs.size (.ref l) [] .none) _ _ _
  unfold Builtin.Dict.updateFrom
  refine wpAny_bind (wpAny_typeOf (T := "list") ⟨ol, k0 _ _ hl, hc⟩ ?_)
  rw [if_pos (by first | decide | rfl | simp)]
  refine wpAny_bind (miss_list (k0 _ _ hl) hc hdat hd hh fun h1 tk1 hk1 => ?_)
  rw [if_pos (show (none : Option Value).isNone = true from rfl)]
  refine wpAny_bind (wpAny_rule ?_)
  have hl1 : h1.IsList l items := ⟨ol, hk1 _ _ (k0 _ _ hl), hc, n, hdat⟩
  have hS1 : s.heap.objs.size < h1.objs.size := by
    have e : (s.heap.push { cls := .type "dict", data := .dict #[] }).get? s.heap.objs.size = some { cls := .type "dict", data := .dict #[] } := Heap.get?_push_size _ rfl
    exact Heap.lt_size (hk1 _ _ e)
  refine wpAny_bind (wpAny_pyIter_list hl1 ?_)
  have k2 : ∀ b o, h1.get? b = some o → (h1.push { cls := .type "list_iterator", data := .fields #[.ref l, .int 0 0] }).get? b = some o := fun b o e => Heap.get?_push_of_some _ e
  have hlt : l < s.heap.objs.size := Heap.lt_size hl
  have key := upd_loop (prog := prog) (w := w) (A := A.in1) (R := wants (fun r s₂ => r = .none ∧ Q (.ref s.heap.objs.size) s₂) E) (S := s.heap.objs.size) (I := h1.objs.size) (l := l) (items := items) (res := Value.none) hh
    (Nat.ne_of_lt (Nat.lt_trans hlt hS1)) (Nat.ne_of_lt hS1) (Nat.ne_of_gt hlt) prs 0 [] 0 0
    { s with heap := h1.push { cls := .type "list_iterator", data := .fields #[.ref l, .int 0 0] }, toks := tk1 } (by rw [hsz, Nat.zero_add]) (by rw [List.length_nil, Nat.zero_add]; exact hln)
    (fun j q e => by
      obtain ⟨b, u, e1, e2, e3⟩ := ht j q e
      have hb : b < s.heap.objs.size := e2.lt
      exact ⟨b, u, by rw [Nat.zero_add]; exact e1, Nat.ne_of_lt hb, Nat.ne_of_lt (Nat.lt_trans hb hS1), e2.keeps fun c o z => k2 _ _ (hk1 _ _ (k0 _ _ z)), e3⟩)
    ⟨_, Heap.get?_push_size _ rfl, rfl, rfl⟩ (hl1.at fun o e => k2 _ _ e) ((hnew.at fun o e => hk1 _ _ e).at fun o e => k2 _ _ e)
    (fun h' tk hd' k => ⟨rfl, h h' tk hd' fun b o e => k b o (Nat.ne_of_lt (Heap.lt_size e)) (Nat.ne_of_lt (Nat.lt_trans (Heap.lt_size e) hS1)) (k2 _ _ (hk1 _ _ (k0 _ _ e)))⟩)
  first
    | exact wpAny_pure ⟨plainId_quiet ud_plain _, key⟩
    | exact wpAny_bind (wpAny_pure (wpAny_pure ⟨plainId_quiet ud_plain _, key⟩))
end

section
variable {X : Cx}
theorem pairs_of {pins : List (Addr × Obj)} {σ : St} {H : Hp} {s : Shared} (I : Inv X pins σ H s) : ∀ {ps : List Addr} {kvs : List (Key × V)}, Paired (fun p kv => SqT X.K H p [kV kv.1, kv.2]) ps kvs →
    ∃ prs : List (Key × Value), KV kvs prs ∧ prs.length = ps.length ∧ ∀ (j : Nat) (q : Key × Value), prs[j]? = some q → ∃ (b : Addr) (u : Value), ps[j]? = some b ∧ IsTup s.heap b #[u, q.2] ∧ keyIs q.1 u = true
  | _, _, .nil => ⟨[], .nil, rfl, fun j q e => by simp at e⟩
  | _, _, .cons (a := p) (b := kv) h t => by
    obtain ⟨prs, r, hl, hp⟩ := pairs_of I t
    obtain ⟨its, rv, ht, _⟩ := I.tuple h
    obtain ⟨u, y, ei, ru, ry⟩ := vals2 rv
    subst ei
    refine ⟨(kv.1, y) :: prs, .cons ⟨rfl, ry⟩ r, by rw [List.length_cons, List.length_cons, hl], fun j q e => ?_⟩
    cases j with
    | zero =>
      have e' : (kv.1, y) = q := Option.some.inj e
      subst e'
      exact ⟨p, u, rfl, ht, kV_is (P := X.prog) (w := X.w) ru⟩
    | succ j =>
      obtain ⟨b, u', e1, e2, e3⟩ := hp j q (by simpa using e)
      exact ⟨b, u', by simpa using e1, e2, e3⟩
theorem refs_at : ∀ {ps : List Addr} {us : List Value}, Vals (ps.map V.ref) us → us = ps.map Value.ref
  | [], us, r => by
    rw [List.map_nil] at r
    cases r
    rfl
  | p :: ps, us, r => by
    rw [List.map_cons] at r
    cases r with
    | cons h t =>
      cases h
      rw [List.map_cons, ← refs_at t]
/-- dict(xs) of a list of pairs (key, value): later pairs win, the place is the first one's -/
theorem call_dictP (hcalm : X.calm = true) : CallR X (.type "dict") (fun xs H Q => ∃ (a : Addr) (ps : List Addr) (kvs : List (Key × V)), xs = [.ref a] ∧ SqL X.K H a (ps.map V.ref) ∧ Paired (fun p kv => SqT X.K H p [kV kv.1, kv.2]) ps kvs ∧
    ∀ p, H p = none → Q (.ref p) (upd H p (.dK (mergeK [] kvs)))) := by
  intro pins s σ H xs us Q I r q
  obtain ⟨a, ps, kvs, ex, hq, hp, q⟩ := q
  subst ex
  obtain ⟨u, eu, rx⟩ := vals1 r
  subst eu
  cases rx
  obtain ⟨its, rv, pl, hz⟩ := I.list hq
  have ei := refs_at rv
  subst ei
  rw [List.length_map] at hz
  obtain ⟨prs, rel, hl, hpr⟩ := pairs_of I hp
  obtain ⟨o, n, ho, hc, hd, hdat⟩ := pl
  refine call_dict_pairs (prs := prs) (I.ok.hd hcalm) ho hc hd hdat (by simp [hl]) (by rw [hl]; exact hz) (fun j q' e => ?_) fun h' tk hd' k => ?_
  · obtain ⟨b, u, e1, e2, e3⟩ := hpr j q' e
    exact ⟨b, u, by simp [e1], e2, e3⟩
  · have hm : (s.heap.objs.size == sysModules) = false := beq_eq_false_iff_ne.mpr (Nat.ne_of_gt I.big)
    have hlen : (mergeK [] kvs).length ≤ sizeLine := by
      refine Nat.le_trans (length_mergeK kvs []) ?_
      rw [List.length_nil, Nat.zero_add, rel.length, hl]
      exact hz
    exact ⟨.ref s.heap.objs.size, upd H s.heap.objs.size (.dK (mergeK [] kvs)), I.laid (t' := tk) k (Nat.le_refl _) (show ObjOk X.prog X.w _ _ _ (.dK (mergeK [] kvs)) from ⟨hlen, hm, merged [] prs, KV.merge rel .nil, hd'⟩), rfl, q _ (I.hok.fresh (Nat.le_refl _))⟩
end
end L2

namespace L2
open PySem PySem.Spec PyProof.Rows

section
variable {X : Cx} {pins : List (Addr × Obj)} {σ : St} {H : Hp} {s : Shared} {h' : Heap}
/-- several records of ours have turned -/
theorem Inv.turnedL {t' : Nat} {ch : List Addr} (I : Inv X pins σ H s) (k : ∀ b o, b ∉ ch → s.heap.get? b = some o → h'.get? b = some o) (hf : ∀ b ∈ ch, FpOk X pins H b) : Inv X pins σ H { s with heap := h', toks := t' } := by
  have nit : ∀ b u, H b = some u → b ∉ ch := fun b u e z => by
    have q := (hf b z).1
    rw [q] at e; cases e
  refine I.step (g' := s.gens) (d' := s.drawn) (ch := ch) (fun b hb => ⟨(hf b hb).2.2.2.1, (hf b hb).2.1, (hf b hb).2.2.2.2.1, (hf b hb).2.2.2.2.2⟩) (fun b o _ _ hc e _ => k b o hc e) (fun b o _ _ hc e _ => ⟨o.slots, k b o hc e⟩)
    (fun _ _ _ _ n => n) (fun b o hc e => ⟨o, k b o hc e⟩) (fun _ _ e => e) (fun _ _ _ e => e) (fun b ps e => ⟨#[], by rw [e]; simp⟩) (fun m hm => ?_) (fun b u e => ?_) I.bare
  · obtain ⟨o, es, ep, ho, r⟩ := hm
    exact ⟨o, es, ep, k _ o (fun z => (hf _ z).2.1 rfl) ho, r⟩
  · refine (I.hok b u e).stay (fun c v hc q => k c v ?_ q) (fun _ q => q) fun _ _ q => q
    rcases hc with z | z
    · rw [z]; exact nit b u e
    · exact nit c _ z
/-! ### locking a thing while a statement runs -/
end
section
variable {X : Cx}
/-! ### one iterator just laid -/
theorem pi_one {tg : Expr} {pins : List (Addr × Obj)} {σ : St} {H : Hp} {s : Shared} {R : It → Hp → Prop} {J : It} {tn : Nat → Heap → Prop} {tk : Nat} (I : Inv X pins σ H s) (o : Obj)
    (T : Turn X.prog X.w X.K tg J [s.heap.objs.size] s.heap.objs.size tn) (st : tn 0 (s.heap.push o)) (q : R J H) : PIE X pins σ tg R (.ref s.heap.objs.size) { s with heap := s.heap.push o, toks := tk } := by
  refine ⟨s.heap.objs.size, [s.heap.objs.size], tn, J, H, rfl, I.kept fun b ob e => Heap.get?_push_of_some _ e, T, st, fun b hb => ?_, q⟩
  have e : b = s.heap.objs.size := by simpa using hb
  subst e
  exact I.fpOk (Nat.le_refl _) (I.hok.fresh (Nat.le_refl _))
end

/-! ### range with a step -/
/-- lo, lo + c, .. (n of them) -/
def Itc (lo c : Int) (n : Nat) : It := ⟨fun i _ => i < n, fun i H x H' => H' = H ∧ x = .int (lo + (i : Nat) * c), fun i _ => n ≤ i⟩
theorem turn_rangeC {P : Program} {w : World} {K : PySem.W.Frag} {tg : Expr} (it : Addr) (lo c : Int) (n : Nat) : Turn P w K tg (Itc lo c n) [it] it (fun i h => IsRangeIter h it (lo + (i : Nat) * c) ((n : Int) - (i : Nat)) c) where
  mem := by simp
  obj := fun i h st b hb => by
    have e : b = it := by simpa using hb
    subst e
    exact ⟨_, st, fun v z => nomatch z⟩
  keep := fun i h h' st k => k it (by simp) _ st
  item := by
    intro X hP hw hK hc i pins s σ H E I hf st hg
    subst hP hw hK
    obtain ⟨f0, f1, f2, f3, f4, f5⟩ := hf it (by simp)
    have W := Walks.range (prog := X.prog) (w := X.w) (I.ok.hd hc) it lo c n
    refine W.item i s _ _ hg st fun v h' tk hv st' kk => ?_
    obtain ⟨t, rfl⟩ := hv
    have I1 : Inv X pins σ H { s with heap := h', toks := tk } := I.turned (fun b o hb e => kk b o (by simpa using hb) e) f0 f1 f3 f4 f5
    exact ⟨_, rfl, go_of (s := { s with heap := h', toks := tk }) (n := "range_iterator") st' rfl rfl (by decide) ⟨.int (lo + (i : Nat) * c), H, I1, ⟨t, rfl⟩, ⟨rfl, rfl⟩, st', fun b hb => (hf b hb).1⟩⟩
  done := by
    intro X hP hw hK hc i pins s σ H E I hf st hg
    subst hP hw hK
    obtain ⟨f0, f1, f2, f3, f4, f5⟩ := hf it (by simp)
    exact wpAny_pyNext_range_end (I.ok.hd hc) st (by have : n ≤ i := hg; omega) fun h' eb => ⟨rfl, I.turned (t' := s.toks) (fun b o hb e => eb b o hb e) f0 f1 f3 f4 f5⟩
  self := fun A i s Q E st h => wpAny_pyIter_rangeiter st h
/-- range(i, j, c): small bounds, n items -/
def RgC (i j c : Int) (n : Nat) : Prop := c ≠ 0 ∧ c.natAbs < 1073741824 ∧ Builtin.Range.small i j c = true ∧ Builtin.Range.rangeSize i j c = n
theorem RgC.neg {i j : Int} (ha : -(2 ^ 62) ≤ i) (ha' : i < 2 ^ 62) (hb : -(2 ^ 62) ≤ j) (hb' : j < 2 ^ 62) : RgC i j (-1) (i - j).toNat :=
  ⟨by decide, by decide, PySem.W.small_down ha ha' hb hb', PySem.W.rangeSize_downNat i j⟩
def iRng3 (ta : TA) : TI := fun σ H R => ta σ H fun vs H1 => ∃ (i j c : Int) (n : Nat), vs = [.int i, .int j, .int c] ∧ RgC i j c n ∧ R (Itc i c n) H1
section
variable {X : Cx} {tg : Expr}
theorem pi_range3 {a b c : Expr} {ta : TA} {p pos : Pos} (hg : Gl X "range") (hm : X.mg "range" = none) (ha : PA X [a, b, c] ta)
    (hs : starEach [a, b, c] X.env = (false, eval a X.env) :: starEach [b, c] X.env := by rfl) (hpl : (backTo pos (starEach [b, c] X.env)).any (·.1) = false := by rfl) :
    PI X tg (.Call (.Name "range" p) [a, b, c] [] pos) (iRng3 ta) := by
  intro pins s σ H R I h
  refine Call_ (ld_blt I hg hm boot_range (PyProof.Rows.callWith_type1 (thn (ha pos pins s σ H _ I h) fun us s1 ⟨vs, H1, I1, r1, q1⟩ => ?_) hs hpl))
  obtain ⟨i, j, k, n, e, ⟨c0, c1, c2, c3⟩, q⟩ := q1
  subst e
  cases r1 with
  | cons r rr =>
    cases rr with
    | cons r' rr =>
      cases rr with
      | cons r'' rr =>
        cases rr
        obtain ⟨t, rfl⟩ := r
        obtain ⟨t', rfl⟩ := r'
        obtain ⟨t'', rfl⟩ := r''
        refine call_range_3 c0 ?_ (.inl (PyProof.noPylong_small c1))
        refine wpAny_pyIter_range (IsRange.new ..) c2 ?_
        have I2 : Inv X pins σ H1 { s1 with heap := s1.heap.push { cls := .type "range", data := .fields #[.int i t, .int j t', .int k t''] } } := I1.kept (t' := s1.toks) fun b o e => Heap.get?_push_of_some _ e
        refine pi_one (tk := s1.toks) I2 _ (turn_rangeC _ i k n) ?_ q
        have e1 : i + ((0 : Nat) : Int) * k = i := by simp
        have e2 : (n : Int) - ((0 : Nat) : Int) = Builtin.Range.rangeSize i j k := by rw [c3]; simp
        show IsRangeIter _ _ (i + ((0 : Nat) : Int) * k) ((n : Int) - ((0 : Nat) : Int)) k
        rw [e1, e2]
        exact Heap.get?_push_size _ rfl
end
/-- the turns of a step range, for the for loop -/
theorem for_rangeC {lo c : Int} {n : Nat} {g : TG} {tb : TS} {D : Ends} {σ : St} {H : Hp} (Pv : Nat → St → Hp → Prop) (h0 : Pv 0 σ H)
    (hs : ∀ i σ H, i < n → Pv i σ H → g (.int (lo + (i : Nat) * c)) σ H fun σ2 H2 => tb { D with nx := Pv (i + 1), ct := Pv (i + 1), bk := D.nx } σ2 H2) (hd : ∀ σ H, Pv n σ H → D.nx σ H) :
    ∃ W : Nat → Nat → St → Hp → Prop, (∃ m, W 0 m σ H) ∧ ∀ i m σ H, W i m σ H →
      ((Itc lo c n).stop i H ∧ D.nx σ H) ∨ ((Itc lo c n).go i H ∧ ∃ N : St → Hp → Prop, (∀ σ' H', N σ' H' → ∃ m', m' < m ∧ W (i + 1) m' σ' H') ∧ ∀ x H', (Itc lo c n).yld i H x H' → g x σ H' fun σ2 H2 => tb { D with nx := N, ct := N, bk := D.nx } σ2 H2) := by
  refine ⟨fun i m σ H => m = n - i ∧ i ≤ n ∧ Pv i σ H, ⟨n, by simp, Nat.zero_le _, h0⟩, ?_⟩
  rintro i m σ H ⟨rfl, hi, p⟩
  by_cases hlt : i < n
  · refine .inr ⟨hlt, Pv (i + 1), fun σ' H' p' => ⟨n - (i + 1), by omega, rfl, hlt, p'⟩, fun x H' y => ?_⟩
    obtain ⟨e, y⟩ := y
    subst e y
    exact hs i σ _ hlt p
  · have e : i = n := by omega
    subst e
    exact .inl ⟨Nat.le_refl _, hd σ H p⟩

/-! ### reversed(list) -/
section
variable {X : Cx} {tg : Expr}
end

/-! ### a str -/
/-! ### a dict's keys: any dict's entries -/
section
variable {prog : Program} {w : World} {A : Around} {E : Value → Shared → Prop} {s : Shared}
end

/-! ### a locked dict -/
section
variable {X : Cx} {pins : List (Addr × Obj)} {σ : St} {H : Hp} {s : Shared} {d : Addr} {o : Obj}
end

section
variable {P : Program} {w : World} {K : PySem.W.Frag} {tg : Expr} {d : Addr} {o : Obj} {es : Array DictEntry} {ep : Nat}
end

/-! ### for k in d, d.keys(), d.values(), d.items() -/
section
variable {X : Cx} {tg e : Expr} {td : TE} {apos cpos : Pos}
end

/-! ### enumerate(list) -/
/-! ### zip(list, list) -/
end L2

section 
namespace Bits
open PySem PyProof.Rows

end Bits
end 

section 
namespace TL
open PySem PySem.Builtin PySem.Builtin.Str PySem.StrLaws

/-! ### the list functions -/
/-! ### the model's split and partition are these -/
/-! ### computing spl and par -/
/-! ### digits -/
/-! ### words: x.split() -/
end TL
end 

namespace L2
open PySem PySem.Spec PyProof.Rows

section
variable {X : Cx} {pins : List (Addr × Obj)} {σ : St} {H : Hp} {s : Shared} {Q : VK}
end

section
variable {X : Cx}

/-! ### of a text alone -/
/-! ### of a text and a text -/
end

section
variable {X : Cx} {o e : Expr} {to te : TE}
end
end L2

namespace L2
open PySem PySem.Spec PyProof.Rows

section
variable {X : Cx}
end

/-! ### slices of a text -/
end L2

namespace Att
open PySem PySem.W PySem.Calls PyProof.Rows

/-! ### the script -/
/-! ### the attachment: holds_open's last premise (the goal 'hc' behind k_head) from a wpAny of the law's body -/
/-! ### rules over ANY heap (no ledger) from facts about the written part K: the library's own take a ledger (News) for what they write -/
section
variable {prog : Program} {w : World} {A : Around} {E : Value → Shared → Prop} {s : Shared} {K : Frag}

/-! the whole heap as the ledger: makes every rule that writes through a ledger a rule over any heap -/
end
end Att

namespace L2
open PySem PySem.Spec PyProof.Rows

end L2

namespace L2
open PySem PySem.Spec PyProof.Rows

end L2

/- THE LAST THEOREM (shape; LID, My.* are yours):
   My.Adr: a structure of the addresses that your layer names (classes, functions); My.Txt K t: a structure (Prop) of the equations over K;
   My.txt_mk : {K} {implicit addresses ..} (e1 : nsIn K mainGlobals "law" = some (some (.ref f))) (e2 : K.lookup f = some ⟨oc, od, .func (fnOf "law" "law" params body scope dV kV doc pm an cdv ct), sl⟩) (e3 : codeIn K cdv "law" = true) .. : ∃ t, My.Txt K t

set_option maxRecDepth 100000 in
set_option maxHeartbeats 0 in
theorem PySem.Challenge.cw_LID_holds : PySem.Challenge.rw_LID.Holds := by
  w_on; o_law; k_head; (case hw => w_witness2)
  k_fill
  refine L2.walk_of (l := PySem.Challenge.rw_LID) (n := 63) (k := 40) (x := "script") (CX := fun w => ..) (sp := fun _ => My.sp_law) rfl (by decide) rfl ⟨rfl, by decide, by decide⟩ (fun w h Y => PySem.W.kIn_of Y) ?F ?S ?C
  case F =>
    intro w mg fa h KX G hmg
    have T : ∃ t, My.Txt (L2.KOf KX) t := by
      dsimp only [L2.KOf]                          -- K must stand as «<heap const> w.params» for k_is
      refine' My.txt_mk ?e1 ?e2 ?e3 ..
      (case e1 => PySem.W.k_is)                    -- in the order: a name -> its address -> its object -> its parts
      (case e2 => PySem.W.k_is)
      ..
    obtain ⟨t, T⟩ := T
    have e0 := hmg.symm.trans (PySem.W.mg_of KX G T.law)
    cases e0                                       -- fa is the law's own address
    exact ⟨_, fun s u => .of_eq rfl, fun base kb nb => My.law_fn T kb nb⟩     -- if «.of_eq rfl» comes too early: refine' ⟨_, ?b, fun base kb nb => My.law_fn T kb nb⟩; exact fun s u => .of_eq rfl
  case S => exact fun w H a ns hl hO hS => ..
  case C => exact ..
(the tactic k_is has no namespace: write k_is) -/

/-! SHORT WORDS over the layer: a def of the text, its body, what a loop and a test want. -/
namespace L2
open PySem PySem.Spec PyProof.Rows

/-! ### the text by places -/
/-- the j-th statement of a class's body -/
def inClass (s : Stmt) (j : Nat) : Stmt := match s with
  | .ClassDef _ _ _ body _ _ _ _ _ _ _ => body.getD j (.Pass ⟨0, 0, 0, 0⟩)
  | _ => .Pass ⟨0, 0, 0, 0⟩
def defArgs (s : Stmt) : Arguments := match s with
  | .FunctionDef _ a _ _ _ _ _ _ _ _ => a
  | _ => { posonlyargs := [], args := [], vararg := none, kwonlyargs := [], kw_defaults := [], kwarg := none, defaults := [] }
def defBody (s : Stmt) : List Stmt := match s with
  | .FunctionDef _ _ b _ _ _ _ _ _ _ => b
  | _ => []
def defScope (s : Stmt) : Scope := match s with
  | .FunctionDef _ _ _ _ _ _ sc _ _ _ => sc
  | _ => { kind := .function, names := [], isGenerator := false, isCoroutine := false }

/-! ### no exception leaves a def -/
abbrev CX0 : CXT := fun _ _ _ _ _ _ => False
abbrev E0 : XK := fun _ _ _ => False
theorem pass0 {X : Cx} : Passes CX0 X E0 := fun _ _ _ _ _ _ _ h => h.elim

/-! ### a def (or method) of the text as it stands behind the top -/
structure Fun (K : PySem.W.Frag) (x qual : Str) (st : Stmt) (f : Addr) (fd : FuncData) : Prop where
  ex : ∃ (oc : Value) (od : Option Addr) (kV doc pm : Value) (an : Option Addr) (cdv ct : Value) (osl : Array (Option Value)),
    fd = PySem.W.fnOf x qual (defArgs st) (defBody st) (defScope st) .none kV doc pm an cdv ct ∧ K.lookup f = some ⟨oc, od, .func fd, osl⟩ ∧ PySem.W.codeIn K cdv qual = true
  kp : PySem.W.keepIn K (.ref f) = true
section
variable {P : Program} {w : World} {K : PySem.W.Frag} {mg : Str → Option Value} {base : Heap}
/-- THE RULE for a def: its body as a term of rules, and the reading of that term -/
theorem Fun.ok {x qual : Str} {st : Stmt} {f : Addr} {fd : FuncData} {N ps : List Str} {k : Nat} {sp : Sp} (F : Fun K x qual st f fd) (S : FnScope N ps (defScope st)) (len : ∀ vs H Q E, sp vs H Q E → vs.length = ps.length)
    (hbody : ∀ (cdv : Value) (A : Around) (outer : List Env) (s : Shared) (H : Hp) (vs : List V) (Q : VK) (E : XK), Room k (A.deeper (envOfC qual (defScope st) s.heap.objs.size f cdv)) → sp vs H Q E →
      ∃ t, PSs (cxOf CX0 P w K mg base N qual (defScope st) f cdv A outer s H E).nox (defBody st) t ∧ t { nx := fun _ H' => Q .non H', rt := Q } (start N vs) H) : FnOk P w K mg base CX0 (k + 1) f fd ps sp := by
  obtain ⟨oc, od, kV, doc, pm, an, cdv, ct, osl, rfl, lk, hcd⟩ := F.ex
  refine fn_of lk hcd S len fun A outer s H vs Q E hr hsp => ?_
  obtain ⟨t, h, q⟩ := hbody cdv A outer s H vs Q E hr hsp
  exact ⟨t, h.nox, q⟩
/-- how its arguments bind (no defaults): h is «fun _ _ _ _ _ _ us hl => match us, hl with | [_, _], _ => rfl», one _ a parameter -/
theorem Fun.binds {x qual : Str} {st : Stmt} {f : Addr} {fd : FuncData} {ps : List Str} (F : Fun K x qual st f fd)
    (h : ∀ (kV doc pm : Value) (an : Option Addr) (cdv ct : Value) (us : List Value), us.length = ps.length → bindArgs (PySem.W.fnOf x qual (defArgs st) (defBody st) (defScope st) .none kV doc pm an cdv ct) ⟨us, []⟩ = pure (ps.zip us)) : Binds K fd ps [] := by
  obtain ⟨oc, od, kV, doc, pm, an, cdv, ct, osl, rfl, lk, hcd⟩ := F.ex
  exact .all (h kV doc pm an cdv ct)
theorem fun_mk {x qual : Str} {st : Stmt} {f : Addr} {oc : Value} {od an : Option Addr} {osl : Array (Option Value)} {kV doc pm cdv ct : Value} (l : K.lookup f = some ⟨oc, od, .func (PySem.W.fnOf x qual (defArgs st) (defBody st) (defScope st) .none kV doc pm an cdv ct), osl⟩)
    (c : PySem.W.codeIn K cdv qual = true) (k : PySem.W.keepIn K (.ref f) = true) : Fun K x qual st f (PySem.W.fnOf x qual (defArgs st) (defBody st) (defScope st) .none kV doc pm an cdv ct) := ⟨⟨oc, od, kV, doc, pm, an, cdv, ct, osl, rfl, l, c⟩, k⟩
end
theorem hu_of {A : Around} {k : Nat} (hr : Room k A) : A.units + 1 < cLine := Nat.lt_of_le_of_lt (Nat.add_le_add_left (by decide : 1 ≤ 64) _) hr.units
/-! ### expressions in short: the name that stands in the i-th slot -/
section
variable {X : Cx}
theorem pv (i : Nat) {x : Str} {pos : Pos} (hN : X.N[i]? = some x := by rfl) (hv : Vis X.env.scope x := by first | exact Or.inl rfl | exact Or.inr (Or.inl rfl) | exact Or.inr (Or.inr rfl)) (hd : (x == ("__debug__" : Str)) = false := by decide)
    (hcd : (x == ("__classdict__" : Str)) = false := by decide) : PE X (.Name x pos) (tVar i) := pe_var hN hv hd hcd
end

/-! ### tests -/
theorem iteF {A B : Prop} (h : B) : if false = true then A else B := by
  rw [if_neg Bool.false_ne_true]
  exact h
theorem iteT {A B : Prop} (h : A) : if true = true then A else B := by
  rw [if_pos rfl]
  exact h
/-! ### heaps -/
/-- all that was tracked is as it was -/
def Same (H H' : Hp) : Prop := ∀ b o, H b = some o → H' b = some o
theorem Same.refl (H : Hp) : Same H H := fun _ _ h => h
theorem Same.trans {H H1 H2 : Hp} (a : Same H H1) (b : Same H1 H2) : Same H H2 := fun c o h => b c o (a c o h)
theorem Same.free {H H' : Hp} (e : Same H H') {l : Addr} (h : H' l = Option.none) : H l = Option.none := by
  cases q : H l with
  | none => rfl
  | some o =>
    rw [e l o q] at h
    cases h
theorem Same.seq {K : PySem.W.Frag} {H H' : Hp} {a : Addr} {xs : List V} (e : Same H H') (h : SqL K H a xs) : SqL K H' a xs := by
  rcases h with (h | ⟨o, h⟩) | h
  · exact .inl (.inl (e _ _ h))
  · exact .inl (.inr ⟨o, e _ _ h⟩)
  · exact .inr h

/-! ### a dict's pairs: keys that differ -/
section
variable {κ : Type} [DecidableEq κ]
end
/-! ### lists -/
theorem at_of {xs : List V} {z : Int} {j : Nat} {v : V} (e : z = (j : Int)) (h : xs[j]? = some v) : atI xs z = some v := by
  rw [e]
  exact atI_nat h
/-- a new instance and its __init__ leave all that was tracked as it was -/
theorem Same.made {H H1 : Hp} {x dx C : Addr} (nx : H x = Option.none) (nd : H dx = Option.none) (k : ∀ b o, (upd (upd H dx (.own x)) x (.ins C dx [])) b = some o → b ≠ x → H1 b = some o) : Same H H1 := fun b o e =>
  k b o (by rw [upd_ne (ne_of_none e nx), upd_ne (ne_of_none e nd)]; exact e) (ne_of_none e nx)
end L2

section
set_option Elab.async false
set_option linter.all false
set_option maxRecDepth 100000
set_option maxHeartbeats 2000000
namespace L2
open PySem PySem.Spec PyProof.Rows
open PySem.W (WData Codec OpenSpec Well WellAll ReadsW ReadsAllW)
/-! ### an answer as data -/
mutual
/-- x stands for the datum d, lists and tuples all the way -/
inductive Dw (K : PySem.W.Frag) (H : Hp) : V → WData → Prop
  | non : Dw K H .non .none
  | bl (b : Bool) : Dw K H (.bl b) (.bool b)
  | int (i : Int) : Dw K H (.int i) (.int i)
  | str (x : Str) : Dw K H (.str x) (.str x)
  | byt (b : Array UInt8) : Dw K H (.byt b) (.bytes b.toList)
  | lst {a : Addr} {xs : List V} {ds : List WData} : SqL K H a xs → DwAll K H xs ds → Dw K H (.ref a) (.list ds)
  | tup {a : Addr} {xs : List V} {ds : List WData} : SqT K H a xs → DwAll K H xs ds → Dw K H (.ref a) (.tuple ds)
inductive DwAll (K : PySem.W.Frag) (H : Hp) : List V → List WData → Prop
  | nil : DwAll K H [] []
  | cons {v : V} {vs : List V} {d : WData} {ds : List WData} : Dw K H v d → DwAll K H vs ds → DwAll K H (v :: vs) (d :: ds)
end
theorem dw_ints {K : PySem.W.Frag} {H : Hp} : ∀ ns : List Int, DwAll K H (ns.map V.int) (ns.map WData.int)
  | [] => .nil
  | n :: r => .cons (.int n) (dw_ints r)
theorem ints_dw {K : PySem.W.Frag} {H : Hp} : ∀ (ns : List Int) (xs : List V), DwAll K H xs (ns.map WData.int) → xs = ns.map V.int
  | [], xs, h => by
    cases h
    rfl
  | n :: r, xs, h => by
    cases h with
    | cons h1 h2 =>
      cases h1
      rw [ints_dw r _ h2] <;> rfl
section
variable {P : Program} {w : World} {K : PySem.W.Frag} {H : Hp} {h : Heap} {R : PySem.W.WRecords} {cl : Str → Option Addr}
theorem sqL_at {a : Addr} {xs : List V} (hok : HOk P w H h) (KX : K.In h) (q : SqL K H a xs) : ∃ (its : List Value) (o : Obj) (n : Nat), Vals xs its ∧ h.get? a = some o ∧ o.cls = .type "list" ∧ o.data = .seq its.toArray n := by
  rcases q with q | ⟨o, its, n, e, hc, _, hd, _, hv⟩
  · obtain ⟨_, its, n, hv, e⟩ := (show ObjOk P w H h a (.lst xs) from q.ok hok)
    exact ⟨its, _, n, hv, e, rfl, rfl⟩
  · exact ⟨its.toList, o, n, hv, KX _ _ e, hc, by simp [hd]⟩
theorem sqT_at {a : Addr} {xs : List V} (hok : HOk P w H h) (KX : K.In h) (q : SqT K H a xs) : ∃ (its : List Value) (o : Obj) (n : Nat), Vals xs its ∧ h.get? a = some o ∧ o.cls = .type "tuple" ∧ o.data = .seq its.toArray n := by
  rcases q with q | ⟨o, its, n, e, hc, hd, _, hv⟩
  · obtain ⟨_, its, hv, o, e, hc, n, hd⟩ := (show ObjOk P w H h a (.tup xs) from q.ok hok)
    exact ⟨its, o, n, hv, e, hc, hd⟩
  · exact ⟨its.toList, o, n, hv, KX _ _ e, hc, by simp [hd]⟩
mutual
theorem Dw.reads (hok : HOk P w H h) (KX : K.In h) : ∀ (d : WData) (v : V) (u : Value), Dw K H v d → RelV v u → ∃ as, ReadsW R cl h u d as
  | .none, _, _, x, r => by
    cases x
    cases r
    exact ⟨_, ReadsW.none⟩
  | .bool b, _, _, x, r => by
    cases x
    cases r
    exact ⟨_, ReadsW.bool b⟩
  | .int i, _, _, x, r => by
    cases x
    obtain ⟨t, rfl⟩ := r
    exact ⟨_, ReadsW.int i t⟩
  | .str s, _, _, x, r => by
    cases x
    obtain ⟨t, rfl⟩ := r
    exact ⟨_, ReadsW.str s t⟩
  | .bytes b, _, _, x, r => by
    cases x
    obtain ⟨t, rfl⟩ := r
    exact ⟨_, ReadsW.bytes _ t⟩
  | .list ds, _, _, x, r => by
    cases x with
    | lst hs ha =>
      cases r
      obtain ⟨its, o, n, rv, ho, hc, hd⟩ := sqL_at hok KX hs
      obtain ⟨as, hr⟩ := Dw.readsAll hok KX ds _ its ha rv
      exact ⟨_, ReadsW.list ho hc hd hr⟩
  | .tuple ds, _, _, x, r => by
    cases x with
    | tup hs ha =>
      cases r
      obtain ⟨its, o, n, rv, ho, hc, hd⟩ := sqT_at hok KX hs
      obtain ⟨as, hr⟩ := Dw.readsAll hok KX ds _ its ha rv
      exact ⟨_, ReadsW.tuple ho hc hd hr⟩
  | .float _, _, _, x, _ => by cases x
  | .dict _, _, _, x, _ => by cases x
  | .bytearray _, _, _, x, _ => by cases x
  | .set _, _, _, x, _ => by cases x
  | .frozenset _, _, _, x, _ => by cases x
  | .obj _ _, _, _, x, _ => by cases x
theorem Dw.readsAll (hok : HOk P w H h) (KX : K.In h) : ∀ (ds : List WData) (vs : List V) (us : List Value), DwAll K H vs ds → Vals vs us → ∃ as, ReadsAllW R cl h us ds as
  | [], _, _, x, r => by
    cases x
    cases r
    exact ⟨_, ReadsAllW.nil⟩
  | d :: ds, _, _, x, r => by
    cases x with
    | cons h1 h2 =>
      cases r with
      | cons r1 r2 =>
        obtain ⟨as, q1⟩ := Dw.reads hok KX d _ _ h1 r1
        obtain ⟨bs, q2⟩ := Dw.readsAll hok KX ds _ _ h2 r2
        exact ⟨_, ReadsAllW.cons q1 q2⟩
end
end
/-! ### the arguments -/
mutual
/-- data that a codec tells -/
def plW : WData → Bool
  | .none => true
  | .bool _ => true
  | .int _ => true
  | .str _ => true
  | .bytes _ => true
  | .list xs => plWs xs
  | .tuple xs => plWs xs
  | _ => false
def plWs : List WData → Bool
  | [] => true
  | x :: r => plW x && plWs r
end
theorem plWs_map {α : Type} {f : α → WData} (h : ∀ a, plW (f a) = true) : ∀ l : List α, plWs (l.map f) = true
  | [] => rfl
  | x :: r => by
    show (plW (f x) && plWs (r.map f)) = true
    rw [h x, plWs_map h r] <;> rfl
theorem pl_enc : ∀ (c : Codec) (a : c.denote), plW (c.enc a) = true
  | .unit, _ => rfl
  | .bool, _ => rfl
  | .int _ _, _ => rfl
  | .nat _ _, _ => rfl
  | .u8, _ => rfl
  | .bytes _ _, _ => rfl
  | .text _ _ _ _, _ => rfl
  | .list _ _ c, a => plWs_map (fun x => pl_enc c x) a
  | .pair c d, a => by
    show (plW (c.enc a.1) && (plW (d.enc a.2) && true)) = true
    rw [pl_enc c a.1, pl_enc d a.2] <;> rfl
  | .triple c d e, a => by
    show (plW (c.enc a.1) && (plW (d.enc a.2.1) && (plW (e.enc a.2.2) && true))) = true
    rw [pl_enc c a.1, pl_enc d a.2.1, pl_enc e a.2.2] <;> rfl
  | .option c, none => rfl
  | .option c, some x => pl_enc c x
theorem pl_encAll : ∀ (cs : List Codec) (a : Codec.denoteAll cs), plWs (Codec.encAll cs a) = true
  | [], _ => rfl
  | c :: cs, a => by
    show (plW (c.enc a.1) && plWs (Codec.encAll cs a.2)) = true
    rw [pl_enc c a.1, pl_encAll cs a.2] <;> rfl
theorem weight_mem : ∀ {xs : List WData} {d : WData}, d ∈ xs → d.weight ≤ WData.weightAll xs
  | [], d, h => absurd h (by simp)
  | x :: r, d, h => by
    show d.weight ≤ x.weight + 1 + WData.weightAll r
    rcases List.mem_cons.mp h with e | m
    · rw [e]
      omega
    · have z := weight_mem m
      omega
def toV : Value → V
  | .none => .non
  | .bool b => .bl b
  | .int i _ => .int i
  | .str x _ => .str x
  | .bytes b _ => .byt b
  | .ref a => .ref a
  | _ => .non
/-- a value of the arguments, its objects among A -/
def OkU (A : List Addr) : Value → Prop
  | .none => True
  | .bool _ => True
  | .int _ _ => True
  | .str _ _ => True
  | .bytes _ _ => True
  | .ref a => a ∈ A
  | _ => False
theorem OkU.mono {A B : List Addr} (h : ∀ a ∈ A, a ∈ B) : ∀ {u : Value}, OkU A u → OkU B u := fun {u} x => by
  cases u with
  | ref a => exact h a x
  | none => trivial
  | bool b => trivial
  | int i t => trivial
  | str s t => trivial
  | bytes b t => trivial
  | _ => exact False.elim x
theorem relV_toV {A : List Addr} {u : Value} (x : OkU A u) : RelV (toV u) u := by
  cases u with
  | ref a => rfl
  | none => rfl
  | bool b => rfl
  | int i t => exact ⟨t, rfl⟩
  | str s t => exact ⟨t, rfl⟩
  | bytes b t => exact ⟨t, rfl⟩
  | _ => exact False.elim x
theorem vals_toV {A : List Addr} : ∀ {vs : List Value}, (∀ u ∈ vs, OkU A u) → Vals (vs.map toV) vs
  | [], _ => .nil
  | u :: r, h => .cons (relV_toV (h u (List.mem_cons_self ..))) (vals_toV fun x hx => h x (List.mem_cons_of_mem _ hx))
/-- an object of the arguments -/
def ArgOb (h : Heap) (A : List Addr) (a : Addr) : Prop := ∃ vs : List Value, vs.length ≤ sizeLine ∧ (∀ u ∈ vs, OkU A u) ∧
  (h.get? a = some { cls := .type "list", data := .seq vs.toArray } ∨ h.get? a = some { cls := .type "tuple", data := .seq vs.toArray })
theorem ArgOb.mono {h : Heap} {A B : List Addr} {a : Addr} (k : ∀ a ∈ A, a ∈ B) (x : ArgOb h A a) : ArgOb h B a := by
  obtain ⟨vs, h1, h2, h3⟩ := x
  exact ⟨vs, h1, fun u hu => (h2 u hu).mono k, h3⟩
theorem wellAll_len {P : Params} {h : Heap} : ∀ {vs : List Value} {ds : List WData}, WellAll P h vs ds → vs.length = ds.length
  | _, _, .nil => rfl
  | _, _, .cons _ b => by
    show _ + 1 = _ + 1
    rw [wellAll_len b]
theorem well_list {P : Params} {h : Heap} {v : Value} {ds : List WData} (x : Well P h v (.list ds)) : ∃ (a : Addr) (vs : List Value), v = .ref a ∧ h.get? a = some { cls := .type "list", data := .seq vs.toArray } ∧ WellAll P h vs ds := by
  cases x with
  | list ho hall => exact ⟨_, _, rfl, ho, hall⟩
theorem well_tuple {P : Params} {h : Heap} {v : Value} {ds : List WData} (x : Well P h v (.tuple ds)) : ∃ (a : Addr) (vs : List Value), v = .ref a ∧ h.get? a = some { cls := .type "tuple", data := .seq vs.toArray } ∧ WellAll P h vs ds := by
  cases x with
  | tuple ho hall => exact ⟨_, _, rfl, ho, hall⟩
theorem well_cons {P : Params} {h : Heap} {us : List Value} {d : WData} {ds : List WData} (x : WellAll P h us (d :: ds)) : ∃ (v : Value) (vs : List Value), us = v :: vs ∧ Well P h v d ∧ WellAll P h vs ds := by
  cases x with
  | cons a b => exact ⟨_, _, rfl, a, b⟩
theorem line_of {n : Nat} (h : n ≤ 1048576) : n ≤ sizeLine := Nat.le_trans h (by decide)
section
variable {P : Params} {h : Heap}
mutual
theorem area_one : ∀ (d : WData) (v : Value), Well P h v d → plW d = true → d.weight ≤ 1048576 → ∃ A : List Addr, OkU A v ∧ ∀ a ∈ A, ArgOb h A a
  | .none, _, x, _, _ => by
    cases x
    exact ⟨[], trivial, fun a m => absurd m (by simp)⟩
  | .bool b, _, x, _, _ => by
    cases x
    exact ⟨[], trivial, fun a m => absurd m (by simp)⟩
  | .int i, _, x, _, _ => by
    cases x
    exact ⟨[], trivial, fun a m => absurd m (by simp)⟩
  | .str s, _, x, _, _ => by
    cases x
    exact ⟨[], trivial, fun a m => absurd m (by simp)⟩
  | .bytes b, _, x, _, _ => by
    cases x
    exact ⟨[], trivial, fun a m => absurd m (by simp)⟩
  | .list ds, _, x, p, z => by
    obtain ⟨a, vs, rfl, ho, hall⟩ := well_list x
    have z2 : WData.weightAll ds ≤ 1048576 := z
    obtain ⟨A, h1, h2⟩ := area_all ds _ hall p fun d hd => Nat.le_trans (weight_mem hd) z2
    have k : ∀ b ∈ A, b ∈ a :: A := fun b hb => List.mem_cons_of_mem _ hb
    refine ⟨a :: A, List.mem_cons_self .., fun b hb => ?_⟩
    rcases List.mem_cons.mp hb with e | m
    · rw [e]
      exact ⟨vs, line_of (by rw [wellAll_len hall]; exact Nat.le_trans (PySem.W.length_le_weightAllW ds) z2), fun u hu => (h1 u hu).mono k, .inl ho⟩
    · exact (h2 b m).mono k
  | .tuple ds, _, x, p, z => by
    obtain ⟨a, vs, rfl, ho, hall⟩ := well_tuple x
    have z2 : WData.weightAll ds ≤ 1048576 := z
    obtain ⟨A, h1, h2⟩ := area_all ds _ hall p fun d hd => Nat.le_trans (weight_mem hd) z2
    have k : ∀ b ∈ A, b ∈ a :: A := fun b hb => List.mem_cons_of_mem _ hb
    refine ⟨a :: A, List.mem_cons_self .., fun b hb => ?_⟩
    rcases List.mem_cons.mp hb with e | m
    · rw [e]
      exact ⟨vs, line_of (by rw [wellAll_len hall]; exact Nat.le_trans (PySem.W.length_le_weightAllW ds) z2), fun u hu => (h1 u hu).mono k, .inr ho⟩
    · exact (h2 b m).mono k
  | .float _, _, _, p, _ => Bool.noConfusion (show false = true from p)
  | .dict _, _, _, p, _ => Bool.noConfusion (show false = true from p)
  | .bytearray _, _, _, p, _ => Bool.noConfusion (show false = true from p)
  | .set _, _, _, p, _ => Bool.noConfusion (show false = true from p)
  | .frozenset _, _, _, p, _ => Bool.noConfusion (show false = true from p)
  | .obj _ _, _, _, p, _ => Bool.noConfusion (show false = true from p)
theorem area_all : ∀ (ds : List WData) (vs : List Value), WellAll P h vs ds → plWs ds = true → (∀ d ∈ ds, d.weight ≤ 1048576) → ∃ A : List Addr, (∀ u ∈ vs, OkU A u) ∧ ∀ a ∈ A, ArgOb h A a
  | [], _, x, _, _ => by
    cases x
    exact ⟨[], fun u m => absurd m (by simp), fun a m => absurd m (by simp)⟩
  | d :: ds, _, x, p, z => by
    obtain ⟨v, vs, rfl, x1, x2⟩ := well_cons x
    have q : plW d = true ∧ plWs ds = true := Bool.and_eq_true_iff.mp p
    obtain ⟨A, a1, a2⟩ := area_one d v x1 q.1 (z d (List.mem_cons_self ..))
    obtain ⟨B, b1, b2⟩ := area_all ds vs x2 q.2 fun e he => z e (List.mem_cons_of_mem _ he)
    have kA : ∀ b ∈ A, b ∈ A ++ B := fun b hb => List.mem_append.mpr (.inl hb)
    have kB : ∀ b ∈ B, b ∈ A ++ B := fun b hb => List.mem_append.mpr (.inr hb)
    refine ⟨A ++ B, fun u hu => ?_, fun b hb => ?_⟩
    · rcases List.mem_cons.mp hu with e | m
      · rw [e]
        exact a1.mono kA
      · exact (b1 u m).mono kB
    · rcases List.mem_append.mp hb with m | m
      · exact (a2 b m).mono kA
      · exact (b2 b m).mono kB
end
end
/-- what is tracked of an argument's object -/
def hoOf (o : Obj) : Option HO := match o.data with
  | .seq vs _ => if (o.cls == Value.type "list") = true then some (.frz o (.lst (vs.toList.map toV))) else some (.frz o (.tup (vs.toList.map toV)))
  | _ => none
def argH (K : PySem.W.Frag) (h : Heap) (A : List Addr) : Hp := fun b => if b ∈ A then (if (K.lookup b).isNone = true then (h.get? b).bind hoOf else none) else none
/-- nothing is tracked but what is known to the object -/
def OnlyF (H : Hp) : Prop := ∀ b, H b = none ∨ ∃ o u, H b = some (.frz o u)
theorem hoOf_lst (vs : List Value) : hoOf { cls := .type "list", data := .seq vs.toArray } = some (.frz { cls := .type "list", data := .seq vs.toArray } (.lst (vs.map toV))) := by
  show (if (Value.type "list" == Value.type "list") = true then some (HO.frz { cls := .type "list", data := .seq vs.toArray } (.lst (vs.toArray.toList.map toV))) else some (HO.frz { cls := .type "list", data := .seq vs.toArray } (.tup (vs.toArray.toList.map toV)))) = _
  rw [if_pos (beq_self_eq_true _)]
theorem hoOf_tup (vs : List Value) : hoOf { cls := .type "tuple", data := .seq vs.toArray } = some (.frz { cls := .type "tuple", data := .seq vs.toArray } (.tup (vs.map toV))) := by
  show (if (Value.type "tuple" == Value.type "list") = true then some (HO.frz { cls := .type "tuple", data := .seq vs.toArray } (.lst (vs.toArray.toList.map toV))) else some (HO.frz { cls := .type "tuple", data := .seq vs.toArray } (.tup (vs.toArray.toList.map toV)))) = _
  rw [if_neg (by decide)]
section
variable {P : Program} {w : World} {K : PySem.W.Frag} {h : Heap} {A : List Addr}
theorem argH_at {b : Addr} {o : Obj} (hb : b ∈ A) (hk : K.lookup b = none) (e : h.get? b = some o) : argH K h A b = hoOf o := by
  unfold argH
  rw [if_pos hb, hk, if_pos (show (none : Option Obj).isNone = true from rfl), e] <;> rfl
theorem of_argH {b : Addr} {u : HO} (q : argH K h A b = some u) : b ∈ A ∧ K.lookup b = none := by
  unfold argH at q
  by_cases hb : b ∈ A
  · rw [if_pos hb] at q
    cases hk : K.lookup b with
    | none => exact ⟨hb, rfl⟩
    | some o =>
      rw [hk, if_neg (by simp)] at q
      cases q
  · rw [if_neg hb] at q
    cases q
/-- what stands tracked -/
theorem argH_is (ar : ∀ a ∈ A, ArgOb h A a) {b : Addr} {u : HO} (q : argH K h A b = some u) : K.lookup b = none ∧ ∃ vs : List Value, vs.length ≤ sizeLine ∧ (∀ u ∈ vs, OkU A u) ∧
    ((h.get? b = some { cls := .type "list", data := .seq vs.toArray } ∧ u = .frz { cls := .type "list", data := .seq vs.toArray } (.lst (vs.map toV))) ∨
     (h.get? b = some { cls := .type "tuple", data := .seq vs.toArray } ∧ u = .frz { cls := .type "tuple", data := .seq vs.toArray } (.tup (vs.map toV)))) := by
  obtain ⟨hb, hk⟩ := of_argH q
  obtain ⟨vs, h1, h2, h3⟩ := ar b hb
  refine ⟨hk, vs, h1, h2, ?_⟩
  rcases h3 with e | e
  · rw [argH_at hb hk e, hoOf_lst] at q
    exact .inl ⟨e, (Option.some.inj q).symm⟩
  · rw [argH_at hb hk e, hoOf_tup] at q
    exact .inr ⟨e, (Option.some.inj q).symm⟩
theorem argH_only (ar : ∀ a ∈ A, ArgOb h A a) : OnlyF (argH K h A) := fun b => by
  cases q : argH K h A b with
  | none => exact .inl rfl
  | some u =>
    obtain ⟨_, vs, _, _, ⟨_, e⟩ | ⟨_, e⟩⟩ := argH_is ar q
    · exact .inr ⟨_, _, by rw [e]⟩
    · exact .inr ⟨_, _, by rw [e]⟩
theorem argH_ok (ar : ∀ a ∈ A, ArgOb h A a) : HOk P w (argH K h A) h := fun b u q => by
  obtain ⟨_, vs, h1, h2, ⟨e, rfl⟩ | ⟨e, rfl⟩⟩ := argH_is ar q
  · exact ⟨e, by rw [List.length_map]; exact h1, vs, _, vals_toV h2, e⟩
  · exact ⟨e, by rw [List.length_map]; exact h1, vs, vals_toV h2, _, e, rfl, _, rfl⟩
theorem seq_inj {c c' : Value} {vs us : List Value} (e : (some { cls := c, data := .seq vs.toArray } : Option Obj) = some { cls := c', data := .seq us.toArray }) : c = c' ∧ vs = us := by
  have e1 := Option.some.inj e
  have e2 : c = c' := congrArg Obj.cls e1
  have e3 : Data.seq vs.toArray = Data.seq us.toArray := congrArg Obj.data e1
  injection e3 with e4
  refine ⟨e2, ?_⟩
  have e5 := congrArg Array.toList e4
  simpa using e5
/-- a list argument -/
theorem argL (KX : K.In h) (ar : ∀ a ∈ A, ArgOb h A a) {a : Addr} {vs : List Value} (ha : a ∈ A) (e : h.get? a = some { cls := .type "list", data := .seq vs.toArray }) : (∀ u ∈ vs, OkU A u) ∧ SqL K (argH K h A) a (vs.map toV) := by
  obtain ⟨us, h1, h2, h3⟩ := ar a ha
  have hu : us = vs := by
    rcases h3 with q | q
    · rw [e] at q
      exact (seq_inj q).2.symm
    · rw [e] at q
      exact absurd (Value.type.inj (seq_inj q).1) (by decide)
  subst hu
  refine ⟨h2, ?_⟩
  cases hk : K.lookup a with
  | none => exact .inl (.inr ⟨_, by rw [argH_at ha hk e, hoOf_lst]⟩)
  | some o =>
    have e2 := KX a o hk
    rw [e] at e2
    obtain rfl := Option.some.inj e2
    exact .inr ⟨_, us.toArray, _, hk, rfl, rfl, rfl, by rw [List.size_toArray]; exact h1, by simpa using vals_toV h2⟩
theorem argT (KX : K.In h) (ar : ∀ a ∈ A, ArgOb h A a) {a : Addr} {vs : List Value} (ha : a ∈ A) (e : h.get? a = some { cls := .type "tuple", data := .seq vs.toArray }) : (∀ u ∈ vs, OkU A u) ∧ SqT K (argH K h A) a (vs.map toV) := by
  obtain ⟨us, h1, h2, h3⟩ := ar a ha
  have hu : us = vs := by
    rcases h3 with q | q
    · rw [e] at q
      exact absurd (Value.type.inj (seq_inj q).1) (by decide)
    · rw [e] at q
      exact (seq_inj q).2.symm
  subst hu
  refine ⟨h2, ?_⟩
  cases hk : K.lookup a with
  | none => exact .inl (.inr ⟨_, by rw [argH_at ha hk e, hoOf_tup]⟩)
  | some o =>
    have e2 := KX a o hk
    rw [e] at e2
    obtain rfl := Option.some.inj e2
    exact .inr ⟨_, us.toArray, _, hk, rfl, rfl, by rw [List.size_toArray]; exact h1, by simpa using vals_toV h2⟩
mutual
theorem dw_one {Pm : Params} (KX : K.In h) (ar : ∀ a ∈ A, ArgOb h A a) : ∀ (d : WData) (v : Value), Well Pm h v d → plW d = true → OkU A v → Dw K (argH K h A) (toV v) d
  | .none, _, x, _, _ => by
    cases x
    exact .non
  | .bool b, _, x, _, _ => by
    cases x
    exact .bl b
  | .int i, _, x, _, _ => by
    cases x
    exact .int i
  | .str s, _, x, _, _ => by
    cases x
    exact .str s
  | .bytes b, _, x, _, _ => by
    cases x
    have z := Dw.byt (K := K) (H := argH K h A) b.toArray
    exact z
  | .list ds, _, x, p, hu => by
    obtain ⟨a, vs, rfl, ho, hall⟩ := well_list x
    obtain ⟨h2, hs⟩ := argL KX ar hu ho
    exact .lst hs (dw_all KX ar ds _ hall p h2)
  | .tuple ds, _, x, p, hu => by
    obtain ⟨a, vs, rfl, ho, hall⟩ := well_tuple x
    obtain ⟨h2, hs⟩ := argT KX ar hu ho
    exact .tup hs (dw_all KX ar ds _ hall p h2)
  | .float _, _, _, p, _ => Bool.noConfusion (show false = true from p)
  | .dict _, _, _, p, _ => Bool.noConfusion (show false = true from p)
  | .bytearray _, _, _, p, _ => Bool.noConfusion (show false = true from p)
  | .set _, _, _, p, _ => Bool.noConfusion (show false = true from p)
  | .frozenset _, _, _, p, _ => Bool.noConfusion (show false = true from p)
  | .obj _ _, _, _, p, _ => Bool.noConfusion (show false = true from p)
theorem dw_all {Pm : Params} (KX : K.In h) (ar : ∀ a ∈ A, ArgOb h A a) : ∀ (ds : List WData) (vs : List Value), WellAll Pm h vs ds → plWs ds = true → (∀ u ∈ vs, OkU A u) → DwAll K (argH K h A) (vs.map toV) ds
  | [], _, x, _, _ => by
    cases x
    exact .nil
  | d :: ds, _, x, p, hu => by
    obtain ⟨v, vs, rfl, x1, x2⟩ := well_cons x
    have q : plW d = true ∧ plWs ds = true := Bool.and_eq_true_iff.mp p
    exact .cons (dw_one KX ar d v x1 q.1 (hu _ (List.mem_cons_self ..))) (dw_all KX ar ds vs x2 q.2 fun u m => hu u (List.mem_cons_of_mem _ m))
end
end
/-! ### the call -/
theorem spec_call {P : Program} {w : World} {K : PySem.W.Frag} {mg mb : Str → Option Value} {CX : CXT} {k : Nat} {fa : Addr} {fd : FuncData} {ps : List Str} {sp : Sp} {s₁ : Shared} {vals : List Value} {ds : List WData} {R : PySem.W.WRecords} {cl : Str → Option Addr} {d0 : WData}
    (KX : K.In s₁.heap) (hns : s₁.heap.Ns mainGlobals mg) (hb : s₁.heap.Ns builtinsNs mb) (hbb : ∀ x : Str, x ≠ "__name__" → mb x = bootBuiltins x) (hlim : s₁.heap.NoLimit) (hg : s₁.gens = #[])
    (hwl : WellAll w.params s₁.heap vals ds) (hpl : plWs ds = true) (hwt : ∀ d ∈ ds, d.weight ≤ 1048576) (hr : Room k callerA)
    (F : ∀ base : Heap, K.In base → base.Ns mainGlobals mg → FnOk P w K mg base CX k fa fd ps sp) (hbind : ∀ (s : Shared) (us : List Value), us.length = ps.length → BindsTo s fd ⟨us, []⟩ (ps.zip us)) (hlen : ds.length = ps.length)
    (hsp : ∀ (H : Hp) (xs : List V), OnlyF H → DwAll K H xs ds → sp xs H (fun v H' => Dw K H' v d0) fun _ _ _ => False)
    (hCX : ∀ H e s', CX [] H s₁ (fun _ _ _ => False) e s' → False) :
    codeAny (model P w) callerA (.call (.ref fa) ⟨vals, []⟩) (fun r s' => ∃ u as, r = .ok (.ret u) ∧ ReadsW R cl s'.heap u d0 as ∧ OldK s₁.heap s'.heap ∧ s'.os = s₁.os ∧ AllBare s'.gens) s₁ := by
  obtain ⟨A, ho, ar⟩ := area_all ds vals hwl hpl hwt
  have hO : OnlyF (argH K s₁.heap A) := argH_only ar
  have hok : HOk P w (argH K s₁.heap A) s₁.heap := argH_ok ar
  have hS := dw_all KX ar ds vals hwl hpl ho
  have hV := vals_toV ho
  have hK : ∀ b u, argH K s₁.heap A b = some u → K.lookup b = none := fun b u q => (argH_is ar q).1
  have noA : ∀ {b : Addr} {o : Obj} {es : Array DictEntry} {ep : Nat}, s₁.heap.get? b = some o → o.data = .dict es ep → argH K s₁.heap A b = none := fun {b o es ep} e d => by
    cases q : argH K s₁.heap A b with
    | none => rfl
    | some u =>
      obtain ⟨_, vs, _, _, ⟨e2, _⟩ | ⟨e2, _⟩⟩ := argH_is ar q
      · rw [e2] at e
        cases e
        have d' : Data.seq vs.toArray _ = Data.dict es ep := d
        cases d'
      · rw [e2] at e
        cases e
        have d' : Data.seq vs.toArray _ = Data.dict es ep := d
        cases d'
  generalize argH K s₁.heap A = H at hO hok hS hK noA
  have base_of : ∀ {b : Addr} {o : Obj}, s₁.heap.get? b = some o → H b = none → (hidT s₁.heap H).get? b = some o := fun e n => hidT_get e n
  have nsK : ∀ {b : Addr} {m : Str → Option Value}, s₁.heap.Ns b m → (hidT s₁.heap H).Ns b m := fun {b m} ⟨o, es, ep, e, d, r⟩ => ⟨o, es, ep, base_of e (noA e d), d, r⟩
  have nK : ∀ b o, K.lookup b = some o → H b = none := fun b o e => by
    cases q : H b with
    | none => rfl
    | some u =>
      rw [hK b u q] at e
      cases e
  have hKb : K.In (hidT s₁.heap H) := fun b o e => base_of (KX b o e) (nK b o e)
  have hM : Mod K mg (hidT s₁.heap H) := ⟨hKb, nsK hns, ⟨mb, nsK hb, hbb⟩, let ⟨mc, h1, h2⟩ := hlim; ⟨mc, nsK h1, h2⟩⟩
  have e0 : Env0 P w K mg (hidT s₁.heap H) callerA [] s₁ H := ⟨rfl, hM, fun b o e => of_hidT e, Nat.le_of_eq (hidT_size _ _), trivial, fun b hb => absurd (show b ∈ ([] : List Addr) from hb) (by simp), hok, .of_eq hg⟩
  have hl : vals.length = ps.length := by rw [wellAll_len hwl]; exact hlen
  refine codeAny_mono ((F _ hKb (nsK hns)).run callerA [] s₁ H ⟨vals, []⟩ vals (vals.map toV) _ _ hr e0 (hbind s₁ vals hl) hV (hsp H _ hO hS)) fun r s' x => ?_
  cases r with
  | error e => exact (hCX H e s' x).elim
  | ok fl =>
    cases fl with
    | next => exact False.elim x
    | brk => exact False.elim x
    | cont => exact False.elim x
    | ret u =>
      obtain ⟨v, H', os, bare, un, hok', r', q⟩ := x
      have kept : ∀ b o, s₁.heap.get? b = some o → s'.heap.get? b = some o := fun b o e => by
        cases q2 : H b with
        | none => exact un.keep b o e q2 (by intro z; exact absurd (show b ∈ ([] : List Addr) from z) (by simp)) (by simp)
        | some u2 =>
          rcases hO b with z | ⟨ob, u3, z⟩
          · rw [q2] at z
            cases z
          · have z2 := un.frzs b ob _ z
            obtain ⟨e1, _⟩ := hok b _ z
            obtain ⟨e2, _⟩ := hok' b _ z2
            rw [e] at e1
            cases e1
            exact e2
      have KX' : K.In s'.heap := fun b o e => kept b o (KX b o e)
      obtain ⟨as, hrd⟩ := Dw.reads (R := R) (cl := cl) hok' KX' d0 v u q r'
      exact ⟨u, as, rfl, hrd, OldK.of_keep kept, os, bare⟩
/-! ### the row -/
theorem layable_weight {ds : List WData} (h : WData.layableAll ds = true) : ∀ d ∈ ds, d.weight ≤ 1048576 := fun d hd =>
  (PySem.W.layableW_iff.mp (List.all_eq_true.mp h d hd)).2.2
theorem encAll_len : ∀ (cs : List Codec) (a : Codec.denoteAll cs), (Codec.encAll cs a).length = cs.length
  | [], _ => rfl
  | c :: cs, a => by
    show (Codec.encAll cs a.2).length + 1 = cs.length + 1
    rw [encAll_len cs a.2]
/-- the goal that k_headS leaves (case hc), from the promise of the row's def: whatever the arguments that the codecs let and the row asks for, the def gives what stands for enc (f ..) -/
theorem walk_spec {r : OpenSpec} {k : Nat} {q : Program} {loose : List Str} {XP : (Str → Option Value) → Heap → Prop} {YP : World → Heap → Prop} {d : DefRec} {K : Params → PySem.W.Frag} {CX : World → CXT} {ps : List Str} {sp : World → Sp}
    (hwell : r.wellSaid = true) (hdf : d.params.defaults = []) (hlen : r.args.length = ps.length) (hr : Room k callerA)
    (hY : ∀ (w : World) (h : Heap), YP w h → (K w.params).In h)
    (F : ∀ (w : World) (mg : Str → Option Value) (fa : Addr) (h : Heap), YP w h → (K w.params).In h → h.Ns mainGlobals mg → mg d.name = some (.ref fa) →
      ∃ fd : FuncData, (∀ (s : Shared) (us : List Value), us.length = ps.length → BindsTo s fd ⟨us, []⟩ (ps.zip us)) ∧
        ∀ base : Heap, (K w.params).In base → base.Ns mainGlobals mg → FnOk r.prog w (K w.params) mg base (CX w) k fa fd ps (sp w))
    (hsp : ∀ (w : World) (H : Hp) (xs : List V) (a : Codec.denoteAll r.args), OnlyF H → Codec.withinAll r.args a = true → Codec.app r.args r.asked a = true → DwAll (K w.params) H xs (Codec.encAll r.args a) →
      sp w xs H (fun v H' => Dw (K w.params) H' v (r.ret.enc (Codec.app r.args r.f a))) fun _ _ _ => False)
    (hCX : ∀ (w : World) (H : Hp) (s : Shared) (e : Value) (s' : Shared), CX w [] H s (fun _ _ _ => False) e s' → False) :
    PySem.W.WalkOS q loose XP YP r d [] (fun f vs => PySem.call f vs) := by
  intro w s_0 s₁ mg mb G Y fa o pm cd doc dV kV ho hd hcd hD hmg hg args vals as hpre hlay hrd hwl hlo
  obtain ⟨a, e1, e2⟩ := PySem.W.os_pre_some hpre
  obtain ⟨e3, hwi⟩ := Codec.encAll_of_decAll r.args args a e1
  subst e3
  have KX := hY w _ Y
  obtain ⟨fd, hb, hF⟩ := F w mg fa _ Y KX G.T.g hmg
  refine PySem.W.enter_call (codeAny_mono (spec_call (R := []) (cl := classAt s_0.heap) (d0 := r.ret.enc (Codec.app r.args r.f a)) KX G.T.g G.T.b G.T.builtins G.T.nolimit hg hwl (pl_encAll _ _) (layable_weight hlay) hr hF hb (by rw [encAll_len]; exact hlen)
    (fun H xs hO hS => hsp w H xs a hO hwi e2 hS) fun H e s' => hCX w H s₁ e s') fun r' s' hq => ?_)
  obtain ⟨u, as', rfl, h1, h2, h3, h4⟩ := hq
  exact ⟨.inl ⟨u, _, as', rfl, fun _ => rfl, h1, (OpenSpec.post_iff hwell hwi _ _).mpr rfl, fun z => Bool.noConfusion (show false = true from z)⟩, h2, h3, h4⟩
/-- the same where the promise hangs on the written part alone -/
theorem walk_specK {r : OpenSpec} {k : Nat} {q : Program} {loose : List Str} {XP : (Str → Option Value) → Heap → Prop} {YP : World → Heap → Prop} {d : DefRec} {K : Params → PySem.W.Frag} {CX : CXT} {ps : List Str} {sp : PySem.W.Frag → Sp}
    (hwell : r.wellSaid = true) (hdf : d.params.defaults = []) (hlen : r.args.length = ps.length) (hr : Room k callerA)
    (hY : ∀ (w : World) (h : Heap), YP w h → (K w.params).In h)
    (F : ∀ (w : World) (mg : Str → Option Value) (fa : Addr) (h : Heap), YP w h → (K w.params).In h → h.Ns mainGlobals mg → mg d.name = some (.ref fa) →
      ∃ fd : FuncData, (∀ (s : Shared) (us : List Value), us.length = ps.length → BindsTo s fd ⟨us, []⟩ (ps.zip us)) ∧
        ∀ base : Heap, (K w.params).In base → base.Ns mainGlobals mg → FnOk r.prog w (K w.params) mg base CX k fa fd ps (sp (K w.params)))
    (hsp : ∀ (K : PySem.W.Frag) (H : Hp) (xs : List V) (a : Codec.denoteAll r.args), OnlyF H → Codec.withinAll r.args a = true → Codec.app r.args r.asked a = true → DwAll K H xs (Codec.encAll r.args a) →
      sp K xs H (fun v H' => Dw K H' v (r.ret.enc (Codec.app r.args r.f a))) fun _ _ _ => False)
    (hCX : ∀ (H : Hp) (s : Shared) (e : Value) (s' : Shared), CX [] H s (fun _ _ _ => False) e s' → False) :
    PySem.W.WalkOS q loose XP YP r d [] (fun f vs => PySem.call f vs) :=
  walk_spec (K := K) (CX := fun _ => CX) (sp := fun w => sp (K w.params)) hwell hdf hlen hr hY F (fun w H xs a h1 h2 h3 h4 => hsp (K w.params) H xs a h1 h2 h3 h4) fun _ H s e s' => hCX H s e s'
end L2
end

end
section
set_option linter.all false
namespace Vm
open Kh302

/-! ### tables -/
def Inc (t : Table) : Prop := (t.map Row.key).Pairwise (· < ·)
def RowsOk (t : Table) : Prop := ∀ r, r ∈ t → okRow r = true

theorem rising_iff : ∀ l : List Nat, rising l = true ↔ l.Pairwise (· < ·)
  | [] => by simp [rising]
  | [a] => by simp [rising]
  | a :: b :: l => by
    have ih := rising_iff (b :: l)
    rw [rising, Bool.and_eq_true, decide_eq_true_eq, ih]
    constructor
    · rintro ⟨h1, h2⟩
      refine List.pairwise_cons.mpr ⟨fun c hc => ?_, h2⟩
      rcases List.mem_cons.mp hc with e | e
      · rw [e]; exact h1
      · exact Nat.lt_trans h1 ((List.pairwise_cons.mp h2).1 c e)
    · intro h
      obtain ⟨h1, h2⟩ := List.pairwise_cons.mp h
      exact ⟨h1 b (List.mem_cons_self ..), h2⟩

theorem okTable_iff (t : Table) : okTable t = true ↔ t.length ≤ 256 ∧ RowsOk t ∧ Inc t := by
  unfold okTable
  rw [Bool.and_eq_true, Bool.and_eq_true, decide_eq_true_eq, List.all_eq_true, rising_iff]
  rfl

theorem okRow_iff (r : Row) : okRow r = true ↔ r.key < W ∧ r.cols.length = 4 ∧ ∀ x ∈ r.cols, x < W := by
  unfold okRow
  rw [Bool.and_eq_true, Bool.and_eq_true, decide_eq_true_eq, List.all_eq_true, beq_iff_eq]
  simp

theorem okStep_iff (s : Step) : okStep s = true ↔ s.value < W ∧ ((s.kind = 0 ∧ s.col ≤ 4 ∧ s.how ≤ 3) ∨ ((s.kind = 1 ∨ s.kind = 2) ∧ 1 ≤ s.col ∧ s.col ≤ 4 ∧ s.how = 0)) := by
  unfold okStep
  simp

theorem set_key (r : Row) (c v : Nat) : (r.set c v).key = r.key := rfl
theorem set_len (r : Row) (c v : Nat) : (r.set c v).cols.length = r.cols.length := by
  unfold Row.set
  exact List.length_set ..
theorem okRow_set {r : Row} {c v : Nat} (h : okRow r = true) (hv : v < W) : okRow (r.set c v) = true := by
  rw [okRow_iff] at h ⊢
  refine ⟨h.1, by rw [set_len]; exact h.2.1, fun x hx => ?_⟩
  have hx : x ∈ r.cols.set (c - 1) v := hx
  rcases List.mem_or_eq_of_mem_set hx with e | e
  · exact h.2.2 x e
  · rw [e]; exact hv
theorem col_lt {r : Row} {c : Nat} (h : okRow r = true) : r.col c < W := by
  rw [okRow_iff] at h
  unfold Row.col
  by_cases e : c = 0
  · rw [if_pos e]; exact h.1
  · rw [if_neg e, List.getD_eq_getElem?_getD]
    cases q : r.cols[c - 1]? with
    | none => show (0 : Nat) < W; decide
    | some x => exact h.2.2 x (List.mem_of_getElem? q)

/-! what a step shows -/
theorem map_key_set (t : Table) (f : Row → Row) (h : ∀ r, (f r).key = r.key) : (t.map f).map Row.key = t.map Row.key := by
  rw [List.map_map]
  exact List.map_congr_left fun r _ => h r
theorem Inc.map {t : Table} (f : Row → Row) (h : ∀ r, (f r).key = r.key) (i : Inc t) : Inc (t.map f) := by
  unfold Inc
  rw [map_key_set t f h]; exact i
theorem Inc.sub {t u : Table} (h : u.Sublist t) (i : Inc t) : Inc u := List.Pairwise.sublist (h.map Row.key) i
theorem Inc.filter {t : Table} (p : Row → Bool) (i : Inc t) : Inc (t.filter p) := i.sub List.filter_sublist
theorem shows_inc {s : Step} {t : Table} (i : Inc t) : Inc (shows s t) := by
  unfold shows
  by_cases h : s.kind = 0
  · rw [if_pos h]; exact i.filter _
  · rw [if_neg h]
    by_cases h1 : s.kind = 1
    · rw [if_pos h1]; exact i.map _ fun r => rfl
    · rw [if_neg h1]; exact i.map _ fun r => rfl
theorem Wpos : 0 < W := by decide
theorem shows_rows {s : Step} {t : Table} (i : RowsOk t) : RowsOk (shows s t) := by
  unfold shows
  by_cases h : s.kind = 0
  · rw [if_pos h]; exact fun r hr => i r (List.mem_filter.mp hr).1
  · rw [if_neg h]
    by_cases h1 : s.kind = 1
    · rw [if_pos h1]
      intro r hr
      obtain ⟨q, hq, rfl⟩ := List.mem_map.mp hr
      exact okRow_set (i q hq) Wpos
    · rw [if_neg h1]
      intro r hr
      obtain ⟨q, hq, rfl⟩ := List.mem_map.mp hr
      exact okRow_set (i q hq) (Nat.mod_lt _ Wpos)
theorem shows_len (s : Step) (t : Table) : (shows s t).length ≤ t.length := by
  unfold shows
  by_cases h : s.kind = 0
  · rw [if_pos h]; exact List.length_filter_le ..
  · rw [if_neg h]
    by_cases h1 : s.kind = 1
    · rw [if_pos h1, List.length_map]; exact Nat.le_refl _
    · rw [if_neg h1, List.length_map]; exact Nat.le_refl _
theorem get_nil (t : Table) : get [] t = t := rfl
theorem get_cons (s : Step) (v : View) (t : Table) : get (s :: v) t = get v (shows s t) := rfl
theorem get_inc : ∀ {v : View} {t : Table}, Inc t → Inc (get v t)
  | [], _, i => i
  | s :: v, t, i => get_inc (v := v) (shows_inc i)
theorem get_rows : ∀ {v : View} {t : Table}, RowsOk t → RowsOk (get v t)
  | [], _, i => i
  | s :: v, t, i => get_rows (v := v) (shows_rows i)
theorem get_len : ∀ (v : View) (t : Table), (get v t).length ≤ t.length
  | [], _ => Nat.le_refl _
  | s :: v, t => Nat.le_trans (get_len v (shows s t)) (shows_len s t)

/-! find -/
theorem find_some {t : Table} {k : Nat} {r : Row} (h : find t k = some r) : r ∈ t ∧ r.key = k :=
  ⟨List.mem_of_find?_eq_some h, by have := List.find?_some h; simpa using this⟩
theorem find_none {t : Table} {k : Nat} (h : find t k = none) : ∀ r ∈ t, r.key ≠ k := fun r hr e => by
  have := List.find?_eq_none.mp h r hr
  exact this (by simp [e])
theorem key_inj : ∀ {t : Table} {a b : Row}, Inc t → a ∈ t → b ∈ t → a.key = b.key → a = b
  | [], _, _, _, h, _, _ => by simp at h
  | x :: t, a, b, i, ha, hb, e => by
    have i' : (x.key :: t.map Row.key).Pairwise (· < ·) := i
    obtain ⟨h1, h2⟩ := List.pairwise_cons.mp i'
    have out : ∀ c ∈ t, x.key < c.key := fun c hc => h1 _ (List.mem_map.mpr ⟨c, hc, rfl⟩)
    rcases List.mem_cons.mp ha with ea | ea <;> rcases List.mem_cons.mp hb with eb | eb
    · rw [ea, eb]
    · subst ea; have := out b eb; omega
    · subst eb; have := out a ea; omega
    · exact key_inj h2 ea eb e
theorem find_mem {t : Table} {r : Row} (i : Inc t) (h : r ∈ t) : find t r.key = some r := by
  cases q : find t r.key with
  | none => exact absurd rfl (find_none q r h)
  | some x => rw [key_inj i (find_some q).1 h (find_some q).2]

/-! insert -/
theorem insert_len (r : Row) : ∀ t : Table, (Kh302.insert r t).length = t.length + 1
  | [] => rfl
  | x :: l => by
    unfold Kh302.insert
    by_cases h : r.key < x.key
    · rw [if_pos h]; rfl
    · rw [if_neg h, List.length_cons, insert_len r l, List.length_cons]
theorem insert_mem (r y : Row) : ∀ t : Table, y ∈ Kh302.insert r t ↔ y = r ∨ y ∈ t
  | [] => by simp [Kh302.insert]
  | x :: l => by
    unfold Kh302.insert
    by_cases h : r.key < x.key
    · rw [if_pos h]; simp
    · rw [if_neg h, List.mem_cons, insert_mem r y l, List.mem_cons]
      constructor
      · rintro (e | e | e)
        · exact .inr (.inl e)
        · exact .inl e
        · exact .inr (.inr e)
      · rintro (e | e | e)
        · exact .inr (.inl e)
        · exact .inl e
        · exact .inr (.inr e)
theorem insert_inc (r : Row) : ∀ {t : Table}, Inc t → (∀ x ∈ t, x.key ≠ r.key) → Inc (Kh302.insert r t)
  | [], _, _ => by simp [Kh302.insert, Inc]
  | x :: l, i, h => by
    have i' : (x.key :: l.map Row.key).Pairwise (· < ·) := i
    obtain ⟨h1, h2⟩ := List.pairwise_cons.mp i'
    unfold Kh302.insert
    by_cases c : r.key < x.key
    · rw [if_pos c]
      refine List.pairwise_cons.mpr ⟨fun k hk => ?_, i'⟩
      rcases List.mem_cons.mp hk with e | e
      · rw [e]; exact c
      · exact Nat.lt_trans c (h1 k e)
    · rw [if_neg c]
      refine List.pairwise_cons.mpr ⟨fun k hk => ?_, insert_inc r h2 fun y hy => h y (List.mem_cons_of_mem _ hy)⟩
      obtain ⟨y, hy, rfl⟩ := List.mem_map.mp hk
      rcases (insert_mem r y l).mp hy with e | e
      · rw [e]
        have := h x (List.mem_cons_self ..)
        omega
      · exact h1 _ (List.mem_map.mpr ⟨y, e, rfl⟩)
theorem insert_rows {r : Row} {t : Table} (hr : okRow r = true) (i : RowsOk t) : RowsOk (Kh302.insert r t) := fun y hy => by
  rcases (insert_mem r y t).mp hy with e | e
  · rw [e]; exact hr
  · exact i y e
/-- the rows of w put in, one behind another -/
def putAll (w z : Table) : Table := w.foldl (fun z r => Kh302.insert r z) z
theorem putAll_mem (y : Row) : ∀ (w z : Table), y ∈ putAll w z ↔ y ∈ w ∨ y ∈ z
  | [], z => by simp [putAll]
  | r :: w, z => by
    have ih := putAll_mem y w (Kh302.insert r z)
    show y ∈ putAll w (Kh302.insert r z) ↔ _
    rw [ih, insert_mem, List.mem_cons]
    constructor
    · rintro (e | e | e)
      · exact .inl (.inr e)
      · exact .inl (.inl e)
      · exact .inr e
    · rintro ((e | e) | e)
      · exact .inr (.inl e)
      · exact .inl e
      · exact .inr (.inr e)
theorem putAll_len : ∀ (w z : Table), (putAll w z).length = w.length + z.length
  | [], z => by simp [putAll]
  | r :: w, z => by
    show (putAll w (Kh302.insert r z)).length = _
    rw [putAll_len w, insert_len, List.length_cons]; omega
theorem putAll_inc : ∀ {w z : Table}, Inc w → Inc z → (∀ x ∈ w, ∀ y ∈ z, x.key ≠ y.key) → Inc (putAll w z)
  | [], z, _, iz, _ => iz
  | r :: w, z, iw, iz, d => by
    have i' : (r.key :: w.map Row.key).Pairwise (· < ·) := iw
    obtain ⟨h1, h2⟩ := List.pairwise_cons.mp i'
    show Inc (putAll w (Kh302.insert r z))
    refine putAll_inc h2 (insert_inc r iz fun x hx e => d r (List.mem_cons_self ..) x hx e.symm) fun x hx y hy => ?_
    rcases (insert_mem r y z).mp hy with e | e
    · rw [e]
      have := h1 x.key (List.mem_map.mpr ⟨x, hx, rfl⟩)
      omega
    · exact d x (List.mem_cons_of_mem _ hx) y e

/-! written back by a step -/
def takenBy (s : Step) (t w : Table) : Bool := w.any fun r => match find t r.key with
  | some x => !keeps s x
  | none => false
theorem not_taken {s : Step} {t w : Table} (h : takenBy s t w = false) : ∀ r ∈ w, ∀ x ∈ t, keeps s x = false → r.key = x.key → Inc t → False := fun r hr x hx k e i => by
  have q := List.any_eq_false.mp h r hr
  rw [e, find_mem i hx] at q
  simp [k] at q
theorem backStep_keep {s : Step} (h0 : s.kind = 0) (t w : Table) : backStep s t w = if w.all (keeps s) = false then .unkept else if takenBy s t w = true then .taken else .table (putAll w (t.filter fun r => !keeps s r)) := by
  unfold backStep
  rw [if_pos h0]
  rfl
theorem backStep_hide {s : Step} (h1 : s.kind = 1) (t w : Table) : backStep s t w = if (w.all fun r => r.col s.col == 0) = false then .unkept else .table (w.map fun r => r.set s.col (match find t r.key with
      | some x => x.col s.col
      | none => s.value)) := by
  unfold backStep
  rw [if_neg (by omega), if_pos h1]
  rfl
theorem backStep_shift {s : Step} (h0 : s.kind ≠ 0) (h1 : s.kind ≠ 1) (t w : Table) : backStep s t w = .table (w.map fun r => r.set s.col ((r.col s.col + (W - s.value)) % W)) := by
  unfold backStep
  rw [if_neg h0, if_neg h1]
theorem backStep_ok {s : Step} {t w x : Table} (h : backStep s t w = .table x) (os : okStep s = true) (rt : RowsOk t) (it : Inc t) (rw_ : RowsOk w) (iw : Inc w) : RowsOk x ∧ Inc x ∧ w.length ≤ x.length := by
  rw [okStep_iff] at os
  by_cases h0 : s.kind = 0
  · rw [backStep_keep h0] at h
    by_cases h1 : w.all (keeps s) = false
    · rw [if_pos h1] at h; cases h
    · rw [if_neg h1] at h
      by_cases h2 : takenBy s t w = true
      · rw [if_pos h2] at h; cases h
      · rw [if_neg h2] at h
        injection h with h
        subst h
        have nt : takenBy s t w = false := by simpa using h2
        refine ⟨fun y hy => ?_, ?_, ?_⟩
        · rcases (putAll_mem y w _).mp hy with e | e
          · exact rw_ y e
          · exact rt y (List.mem_filter.mp e).1
        · refine putAll_inc iw (it.filter _) fun a ha b hb e => ?_
          obtain ⟨hb1, hb2⟩ := List.mem_filter.mp hb
          exact not_taken nt a ha b hb1 (by simpa using hb2) e it
        · show w.length ≤ (putAll w _).length
          rw [putAll_len]; omega
  · by_cases h1 : s.kind = 1
    · rw [backStep_hide h1] at h
      by_cases h2 : (w.all fun r => r.col s.col == 0) = false
      · rw [if_pos h2] at h; cases h
      · rw [if_neg h2] at h
        injection h with h
        subst h
        refine ⟨fun y hy => ?_, iw.map _ fun r => rfl, by rw [List.length_map]; exact Nat.le_refl _⟩
        obtain ⟨q, hq, rfl⟩ := List.mem_map.mp hy
        refine okRow_set (rw_ q hq) ?_
        cases e : find t q.key with
        | none => exact os.1
        | some z => exact col_lt (rt z (find_some e).1)
    · rw [backStep_shift h0 h1] at h
      injection h with h
      subst h
      refine ⟨fun y hy => ?_, iw.map _ fun r => rfl, by rw [List.length_map]; exact Nat.le_refl _⟩
      obtain ⟨q, hq, rfl⟩ := List.mem_map.mp hy
      exact okRow_set (rw_ q hq) (Nat.mod_lt _ Wpos)
theorem back_ok : ∀ {v : View} {t w x : Table}, back v t w = .table x → (∀ s ∈ v, okStep s = true) → RowsOk t → Inc t → RowsOk w → Inc w → RowsOk x ∧ Inc x ∧ w.length ≤ x.length
  | [], t, w, x, h, _, _, _, rw_, iw => by
    injection h with h
    subst h
    exact ⟨rw_, iw, Nat.le_refl _⟩
  | s :: v, t, w, x, h, os, rt, it, rw_, iw => by
    unfold back at h
    cases q : back v (shows s t) w with
    | taken => rw [q] at h; cases h
    | unkept => rw [q] at h; cases h
    | table y =>
      rw [q] at h
      obtain ⟨a1, a2, a3⟩ := back_ok q (fun z hz => os z (List.mem_cons_of_mem _ hz)) (shows_rows rt) (shows_inc it) rw_ iw
      obtain ⟨b1, b2, b3⟩ := backStep_ok h (os s (List.mem_cons_self ..)) rt it a1 a2
      exact ⟨b1, b2, Nat.le_trans a3 b3⟩

/-! a part of what is shown can always be written back -/
theorem sub_len {x t : Table} (ix : Inc x) (it : Inc t) (h : ∀ r ∈ x, r ∈ t) : x.length ≤ t.length := by
  induction t generalizing x with
  | nil =>
    cases x with
    | nil => exact Nat.le_refl _
    | cons r x => have := h r (List.mem_cons_self ..); simp at this
  | cons a t ih =>
    have i' : (a.key :: t.map Row.key).Pairwise (· < ·) := it
    obtain ⟨h1, h2⟩ := List.pairwise_cons.mp i'
    cases x with
    | nil => exact Nat.zero_le _
    | cons r x =>
      have j' : (r.key :: x.map Row.key).Pairwise (· < ·) := ix
      obtain ⟨g1, g2⟩ := List.pairwise_cons.mp j'
      have lo : ∀ y ∈ x, y ∈ t := fun y hy => by
        rcases List.mem_cons.mp (h y (List.mem_cons_of_mem _ hy)) with e | e
        · have l1 := g1 y.key (List.mem_map.mpr ⟨y, hy, rfl⟩)
          rcases List.mem_cons.mp (h r (List.mem_cons_self ..)) with e2 | e2
          · rw [e, e2] at l1; omega
          · have l2 := h1 r.key (List.mem_map.mpr ⟨r, e2, rfl⟩)
            rw [e] at l1; omega
        · exact e
      have := ih g2 h2 lo
      simp only [List.length_cons]; omega

theorem set_col {r : Row} {c : Nat} (h : okRow r = true) (h1 : 1 ≤ c) (h4 : c ≤ 4) (v : Nat) : (r.set c v).col c = v := by
  rw [okRow_iff] at h
  unfold Row.col Row.set
  rw [if_neg (by omega)]
  show (r.cols.set (c - 1) v).getD (c - 1) 0 = v
  rw [List.getD_eq_getElem?_getD, List.getElem?_set_self (by omega)]
  rfl
theorem set_set (r : Row) (c a b : Nat) : (r.set c a).set c b = r.set c b := by
  unfold Row.set
  show (⟨r.key, (r.cols.set (c - 1) a).set (c - 1) b⟩ : Row) = ⟨r.key, r.cols.set (c - 1) b⟩
  rw [List.set_set]
theorem set_self {r : Row} {c : Nat} (h : okRow r = true) (h1 : 1 ≤ c) (h4 : c ≤ 4) : r.set c (r.col c) = r := by
  rw [okRow_iff] at h
  unfold Row.col Row.set
  rw [if_neg (by omega)]
  have hl : c - 1 < r.cols.length := by omega
  have e : r.cols.getD (c - 1) 0 = r.cols[c - 1] := by
    rw [List.getD_eq_getElem?_getD, List.getElem?_eq_getElem hl]; rfl
  show (⟨r.key, r.cols.set (c - 1) (r.cols.getD (c - 1) 0)⟩ : Row) = r
  rw [e, List.set_getElem_self]
theorem backStep_part {s : Step} {t w : Table} (os : okStep s = true) (rt : RowsOk t) (it : Inc t) (iw : Inc w) (h : ∀ r ∈ w, r ∈ shows s t) : ∃ x, backStep s t w = .table x ∧ Inc x ∧ ∀ r ∈ x, r ∈ t := by
  rw [okStep_iff] at os
  by_cases h0 : s.kind = 0
  · rw [backStep_keep h0]
    have mem : ∀ r ∈ w, r ∈ t ∧ keeps s r = true := fun r hr => by
      have := h r hr
      unfold shows at this
      rw [if_pos h0] at this
      exact List.mem_filter.mp this
    have a1 : ¬ w.all (keeps s) = false := by
      have : w.all (keeps s) = true := List.all_eq_true.mpr fun r hr => (mem r hr).2
      rw [this]; decide
    have a2 : takenBy s t w = false := List.any_eq_false.mpr fun r hr => by
      rw [find_mem it (mem r hr).1]
      simp [(mem r hr).2]
    rw [if_neg a1, if_neg (show ¬ takenBy s t w = true by rw [a2]; decide)]
    refine ⟨_, rfl, ?_, fun y hy => ?_⟩
    · refine putAll_inc iw (it.filter _) fun a ha b hb e => ?_
      obtain ⟨hb1, hb2⟩ := List.mem_filter.mp hb
      exact not_taken a2 a ha b hb1 (by simpa using hb2) e it
    · rcases (putAll_mem y w _).mp hy with e | e
      · exact (mem y e).1
      · exact (List.mem_filter.mp e).1
  · by_cases h1 : s.kind = 1
    · rw [backStep_hide h1]
      have mem : ∀ r ∈ w, ∃ q ∈ t, r = q.set s.col 0 := fun r hr => by
        have := h r hr
        unfold shows at this
        rw [if_neg h0, if_pos h1] at this
        obtain ⟨q, hq, e⟩ := List.mem_map.mp this
        exact ⟨q, hq, e.symm⟩
      have hc : 1 ≤ s.col ∧ s.col ≤ 4 := by omega
      have a1 : ¬ (w.all fun r => r.col s.col == 0) = false := by
        have : (w.all fun r => r.col s.col == 0) = true := List.all_eq_true.mpr fun r hr => by
          obtain ⟨q, hq, rfl⟩ := mem r hr
          rw [set_col (rt q hq) hc.1 hc.2]; rfl
        rw [this]; decide
      rw [if_neg a1]
      refine ⟨_, rfl, iw.map _ fun r => rfl, fun y hy => ?_⟩
      obtain ⟨r, hr, rfl⟩ := List.mem_map.mp hy
      obtain ⟨q, hq, rfl⟩ := mem r hr
      rw [set_key, find_mem it hq, set_set]
      show q.set s.col (q.col s.col) ∈ t
      rw [set_self (rt q hq) hc.1 hc.2]; exact hq
    · rw [backStep_shift h0 h1]
      have mem : ∀ r ∈ w, ∃ q ∈ t, r = q.set s.col ((q.col s.col + s.value) % W) := fun r hr => by
        have := h r hr
        unfold shows at this
        rw [if_neg h0, if_neg h1] at this
        obtain ⟨q, hq, e⟩ := List.mem_map.mp this
        exact ⟨q, hq, e.symm⟩
      have hc : 1 ≤ s.col ∧ s.col ≤ 4 := by omega
      refine ⟨_, rfl, iw.map _ fun r => rfl, fun y hy => ?_⟩
      obtain ⟨r, hr, rfl⟩ := List.mem_map.mp hy
      obtain ⟨q, hq, rfl⟩ := mem r hr
      rw [set_col (rt q hq) hc.1 hc.2, set_set]
      have e : ((q.col s.col + s.value) % W + (W - s.value)) % W = q.col s.col := by
        have l1 := col_lt (c := s.col) (rt q hq)
        have l2 := os.1
        rw [Nat.add_mod, Nat.mod_mod, ← Nat.add_mod]
        rw [show q.col s.col + s.value + (W - s.value) = q.col s.col + W by omega, Nat.add_mod_right]
        exact Nat.mod_eq_of_lt l1
      rw [e, set_self (rt q hq) hc.1 hc.2]; exact hq
theorem back_part : ∀ {v : View} {t w : Table}, (∀ s ∈ v, okStep s = true) → RowsOk t → Inc t → Inc w → (∀ r ∈ w, r ∈ get v t) → ∃ x, back v t w = .table x ∧ Inc x ∧ ∀ r ∈ x, r ∈ t
  | [], t, w, _, _, _, iw, h => ⟨w, rfl, iw, h⟩
  | s :: v, t, w, os, rt, it, iw, h => by
    obtain ⟨y, e, iy, hy⟩ := back_part (v := v) (t := shows s t) (w := w) (fun z hz => os z (List.mem_cons_of_mem _ hz)) (shows_rows rt) (shows_inc it) iw h
    obtain ⟨x, e2, ix, hx⟩ := backStep_part (os s (List.mem_cons_self ..)) rt it iy hy
    refine ⟨x, ?_, ix, hx⟩
    unfold back
    rw [e]; exact e2
theorem without_mem (t : Table) (k : Nat) (r : Row) : r ∈ Kh303.without t k ↔ r ∈ t ∧ r.key ≠ k := by
  unfold Kh303.without
  rw [List.mem_filter]
  simp
theorem without_inc {t : Table} (k : Nat) (i : Inc t) : Inc (Kh303.without t k) := i.filter _
theorem without_len (t : Table) (k : Nat) : (Kh303.without t k).length ≤ t.length := List.length_filter_le ..
theorem okView_iff (v : View) : okView v = true ↔ v.length ≤ 8 ∧ ∀ s ∈ v, okStep s = true := by
  unfold okView
  rw [Bool.and_eq_true, decide_eq_true_eq, List.all_eq_true]
theorem drop_can {v : View} {t : Table} (k : Nat) (ov : okView v = true) (ot : okTable t = true) : ∃ x, back v t (Kh303.without (get v t) k) = .table x ∧ (Kh303.without (get v t) k).length ≤ 256 ∧ x.length ≤ 256 ∧ okTable x = true := by
  rw [okView_iff] at ov
  rw [okTable_iff] at ot
  have ii : Inc (Kh303.without (get v t) k) := without_inc k (get_inc ot.2.2)
  obtain ⟨x, e, ix, hx⟩ := back_part ov.2 ot.2.1 ot.2.2 ii fun r hr => ((without_mem _ k r).mp hr).1
  have l1 := sub_len ix ot.2.2 hx
  have l2 := without_len (get v t) k
  have l3 := get_len v t
  refine ⟨x, e, by omega, by omega, (okTable_iff x).mpr ⟨by omega, fun r hr => ot.2.1 r (hx r hr), ix⟩⟩
end Vm

end
section
set_option linter.all false
namespace Vm
open Kh302

/-! ### what may come about -/
theorem becomes_ok {a : Kh303.Abs} {t : Table} (o : Kh303.Ok a) (h : okTable t = true) : Kh303.Ok (a.becomes t) := by
  unfold Kh303.Abs.becomes
  by_cases e : t = a.t
  · rw [if_pos e]; exact o
  · rw [if_neg e]
    obtain ⟨o1, o2, o3, o4, o5⟩ := o
    refine ⟨h, o2, o3, ?_, fun x hx => ?_⟩
    · show ((a.t :: a.before).take Kh303.KEPT).length ≤ Kh303.KEPT
      rw [List.length_take]; exact Nat.min_le_left ..
    · have hx : x ∈ (a.t :: a.before).take Kh303.KEPT := hx
      rcases List.mem_cons.mp (List.mem_of_mem_take hx) with e | e
      · rw [e]; exact o1
      · exact o5 x e
theorem put_ok {a : Kh303.Abs} {v : View} {w : Table} {n : Int} (o : Kh303.Ok a) (ov : okView v = true) (rw_ : RowsOk w) (iw : Inc w) : Kh303.Ok (a.put v w n).1 := by
  unfold Kh303.Abs.put
  cases q : back v a.t w with
  | taken => exact o
  | unkept => exact o
  | table x =>
    show Kh303.Ok (if 256 < w.length ∨ 256 < x.length then (a, Kh303.say (-28)) else (a.becomes x, Kh303.say n)).1
    by_cases c : 256 < w.length ∨ 256 < x.length
    · rw [if_pos c]; exact o
    · rw [if_neg c]
      have ot := (okTable_iff _).mp o.1
      obtain ⟨b1, b2, _⟩ := back_ok q ((okView_iff v).mp ov).2 ot.2.1 ot.2.2 rw_ iw
      exact becomes_ok o ((okTable_iff x).mpr ⟨by omega, b1, b2⟩)
/-- what write would show -/
def with_ (t : Table) (r : Row) : Table := Kh302.insert r (Kh303.without t r.key)
theorem with_rows {t : Table} {r : Row} (hr : okRow r = true) (i : RowsOk t) : RowsOk (with_ t r) := insert_rows hr fun x hx => i x ((without_mem t r.key x).mp hx).1
theorem with_inc {t : Table} (r : Row) (i : Inc t) : Inc (with_ t r) := insert_inc r (without_inc _ i) fun x hx => ((without_mem t r.key x).mp hx).2
def okCall : Kh303.Call → Prop
  | .write _ r => okRow r = true
  | _ => True
theorem empty_ok : Kh303.Ok Kh303.empty := ⟨rfl, by decide, (fun v h => absurd (show v ∈ ([] : List View) from h) List.not_mem_nil), by decide, (fun t h => absurd (show t ∈ ([] : List Table) from h) List.not_mem_nil)⟩
theorem doing_write (a : Kh303.Abs) (i : Nat) (r : Row) : Kh303.doing a (.write i r) = match a.views[i]? with
    | none => (a, Kh303.say (-22))
    | some v => a.put v (with_ (get v a.t) r) (if (Kh302.find (get v a.t) r.key).isSome then 2 else 1) := rfl
theorem doing_drop (a : Kh303.Abs) (i k : Nat) : Kh303.doing a (.drop i k) = match a.views[i]? with
    | none => (a, Kh303.say (-22))
    | some v => if (Kh302.find (get v a.t) k).isNone then (a, Kh303.say (-2)) else a.put v (Kh303.without (get v a.t) k) 0 := rfl
theorem doing_back (a : Kh303.Abs) : Kh303.doing a .back = match a.before with
    | [] => (a, Kh303.say (-2))
    | t :: l => ({ a with t := t, before := l }, Kh303.say l.length) := rfl
theorem doing_ok {a : Kh303.Abs} {c : Kh303.Call} (o : Kh303.Ok a) (hc : okCall c) : Kh303.Ok (Kh303.doing a c).1 := by
  cases c with
  | begin_ => exact empty_ok
  | view v =>
    cases v with
    | none => exact o
    | some v =>
      show Kh303.Ok (if okView v = false then (a, Kh303.say (-22)) else if 16 ≤ a.views.length then (a, Kh303.say (-28)) else ({ a with views := a.views ++ [v] }, Kh303.say a.views.length)).1
      by_cases h : okView v = false
      · rw [if_pos h]; exact o
      · rw [if_neg h]
        by_cases h2 : 16 ≤ a.views.length
        · rw [if_pos h2]; exact o
        · rw [if_neg h2]
          obtain ⟨o1, o2, o3, o4, o5⟩ := o
          refine ⟨o1, ?_, fun x hx => ?_, o4, o5⟩
          · show (a.views ++ [v]).length ≤ 16
            rw [List.length_append]; simp; omega
          · have hx : x ∈ a.views ++ [v] := hx
            rcases List.mem_append.mp hx with e | e
            · exact o3 x e
            · rw [List.mem_singleton.mp e]; simpa using h
  | many i => exact o
  | row i k => exact o
  | find i k => exact o
  | write i r =>
    rw [doing_write]
    cases q : a.views[i]? with
    | none => exact o
    | some v =>
      have ot := (okTable_iff _).mp o.1
      exact put_ok o (o.2.2.1 v (List.mem_of_getElem? q)) (with_rows hc (get_rows ot.2.1)) (with_inc r (get_inc ot.2.2))
  | drop i k =>
    rw [doing_drop]
    cases q : a.views[i]? with
    | none => exact o
    | some v =>
      have ot := (okTable_iff _).mp o.1
      show Kh303.Ok (if (Kh302.find (a.shows v) k).isNone then (a, Kh303.say (-2)) else a.put v (Kh303.without (a.shows v) k) 0).1
      by_cases c : (Kh302.find (a.shows v) k).isNone = true
      · rw [if_pos c]; exact o
      · rw [if_neg c]
        exact put_ok o (o.2.2.1 v (List.mem_of_getElem? q)) (fun x hx => get_rows ot.2.1 x ((without_mem _ _ x).mp hx).1) (without_inc _ (get_inc ot.2.2))
  | back =>
    rw [doing_back]
    cases q : a.before with
    | nil => exact o
    | cons t l =>
      obtain ⟨o1, o2, o3, o4, o5⟩ := o
      rw [q] at o4 o5
      exact ⟨o5 t (List.mem_cons_self ..), o2, o3, Nat.le_trans (Nat.le_succ _) o4, fun x hx => o5 x (List.mem_cons_of_mem _ hx)⟩

/-! ### the calls, one behind another -/
def U32 (z : Int) : Prop := 0 ≤ z ∧ z < 4294967296
theorem natural_iff (z : Int) : Kh303Neutral.natural z 32 = true ↔ U32 z := by
  unfold Kh303Neutral.natural U32
  rw [Bool.and_eq_true, decide_eq_true_eq, decide_eq_true_eq]
  have : ((2 : Int) ^ 32) = 4294967296 := by decide
  rw [this]
/-- a call as it stands at the head of a list: what it is, its numbers in the list, the rest -/
inductive Head : List (List Int) → List Int → List Int → Prop
  | begin_ (t : List Int) : Head [[0]] (0 :: t) t
  | view (v t : List Int) (h4 : v.length % 4 = 0) (h48 : v.length ≤ 48) (hu : ∀ z ∈ v, U32 z) : Head [[1], v] (1 :: (v.length : Int) :: (v ++ t)) t
  | many (i : Int) (t : List Int) (hi : U32 i) : Head [[2, i]] (2 :: i :: t) t
  | row (i k : Int) (t : List Int) (hi : U32 i) (hk : U32 k) : Head [[3, i, k]] (3 :: i :: k :: t) t
  | find (i k : Int) (t : List Int) (hi : U32 i) (hk : U32 k) : Head [[4, i, k]] (4 :: i :: k :: t) t
  | write (i : Int) (r t : List Int) (hi : U32 i) (h5 : r.length = 5) (hu : ∀ z ∈ r, U32 z) : Head [[5, i], r] (5 :: i :: 5 :: (r ++ t)) t
  | drop (i k : Int) (t : List Int) (hi : U32 i) (hk : U32 k) : Head [[6, i, k]] (6 :: i :: k :: t) t
  | back (t : List Int) : Head [[7]] (7 :: t) t
theorem row_split {l x s : List Int} (h : PyFlat.row l = some (x, s)) : l = (x.length : Int) :: (x ++ s) := by
  cases l with
  | nil => cases h
  | cons n r =>
    unfold PyFlat.row at h
    dsimp only at h
    by_cases c : 0 ≤ n ∧ n.toNat ≤ r.length
    · rw [if_pos c] at h
      have e := Option.some.inj h
      have e1 : r.take n.toNat = x := congrArg Prod.fst e
      have e2 : r.drop n.toNat = s := congrArg Prod.snd e
      subst e1 e2
      rw [List.take_append_drop, List.length_take]
      congr 1
      omega
    · rw [if_neg c] at h; cases h
theorem head_of {l t : List Int} {c : List (List Int)} (h : PyFlat.call PyKh303.shape l = some (c, t)) (ha : Kh303Neutral.asked1 (PyKh303.whole c) = true) : Head c l t := by
  cases l with
  | nil => cases h
  | cons p r =>
    unfold PyFlat.call at h
    dsimp only at h
    have all32 : ∀ v : List Int, (v.all fun z => Kh303Neutral.natural z 32) = true → ∀ z ∈ v, U32 z := fun v hv z hz => (natural_iff z).mp (List.all_eq_true.mp hv z hz)
    have sh : ∀ {n k : Nat}, PyKh303.shape p = some (n, k) → ¬ r.length < n ∧ ∃ xs, PyFlat.rows k (r.drop n) = some (xs, t) ∧ c = (p :: r.take n) :: xs := fun {n k} e => by
      rw [e] at h
      dsimp only at h
      by_cases q : r.length < n
      · rw [if_pos q] at h; cases h
      · rw [if_neg q] at h
        refine ⟨q, ?_⟩
        cases e2 : PyFlat.rows k (r.drop n) with
        | none => rw [e2] at h; cases h
        | some y =>
          rw [e2] at h
          have e3 := Option.some.inj h
          have e4 : (p :: r.take n) :: y.1 = c := congrArg Prod.fst e3
          have e5 : y.2 = t := congrArg Prod.snd e3
          exact ⟨y.1, by rw [← e5], e4.symm⟩
    have rows1 : ∀ {l : List Int} {xs : List (List Int)}, PyFlat.rows 1 l = some (xs, t) → ∃ x, xs = [x] ∧ l = (x.length : Int) :: (x ++ t) := fun {l xs} e => by
      unfold PyFlat.rows at e
      cases q : PyFlat.row l with
      | none => rw [q] at e; cases e
      | some y =>
        rw [q] at e
        dsimp only [PyFlat.rows] at e
        have e3 := Option.some.inj e
        have e4 : [y.1] = xs := congrArg Prod.fst e3
        have e5 : y.2 = t := congrArg Prod.snd e3
        exact ⟨y.1, e4.symm, by rw [← e5]; exact row_split (by rw [q])⟩
    have rows0 : ∀ {l : List Int} {xs : List (List Int)}, PyFlat.rows 0 l = some (xs, t) → xs = [] ∧ l = t := fun {l xs} e => by
      have e3 := Option.some.inj (show some (([] : List (List Int)), l) = some (xs, t) from e)
      exact ⟨(congrArg Prod.fst e3).symm, congrArg Prod.snd e3⟩
    by_cases p0 : p = 0
    · subst p0
      obtain ⟨_, xs, e1, e2⟩ := sh (n := 0) (k := 0) rfl
      obtain ⟨rfl, e3⟩ := rows0 e1
      subst e2 e3
      exact .begin_ _
    by_cases p1 : p = 1
    · subst p1
      obtain ⟨_, xs, e1, e2⟩ := sh (n := 0) (k := 1) rfl
      obtain ⟨x, rfl, e3⟩ := rows1 e1
      have e3 : r = (x.length : Int) :: (x ++ t) := e3
      subst e2 e3
      have ha : ((x.all fun z => Kh303Neutral.natural z 32) && x.length % 4 == 0 && decide (x.length ≤ 48)) = true := ha
      rw [Bool.and_eq_true, Bool.and_eq_true] at ha
      exact .view x t (by simpa using ha.1.2) (by simpa using ha.2) (all32 x ha.1.1)
    by_cases p2 : p = 2
    · subst p2
      obtain ⟨q, xs, e1, e2⟩ := sh (n := 1) (k := 0) rfl
      obtain ⟨rfl, e3⟩ := rows0 e1
      match r, q, e2, e3 with
      | i :: r, q, e2, e3 =>
        have e3 : r = t := e3
        subst e3 e2
        exact .many i _ ((natural_iff i).mp ha)
      | [], q, _, _ => exact absurd (by decide) q
    have two : ∀ m : Int, p = m → PyKh303.shape m = some (2, 0) → ∃ i k, r = i :: k :: t ∧ c = [[m, i, k]] := fun m e hs => by
      subst e
      obtain ⟨q, xs, e1, e2⟩ := sh (n := 2) (k := 0) hs
      obtain ⟨rfl, e3⟩ := rows0 e1
      match r, q, e2, e3 with
      | i :: k :: r, q, e2, e3 =>
        have e3 : r = t := e3
        subst e3
        exact ⟨i, k, rfl, e2⟩
      | [i], q, _, _ => exact absurd (by show (1 : Nat) < 2; decide) q
      | [], q, _, _ => exact absurd (by show (0 : Nat) < 2; decide) q
    by_cases p3 : p = 3
    · obtain ⟨i, k, e1, e2⟩ := two 3 p3 rfl
      subst p3 e1 e2
      have ha : (Kh303Neutral.natural i 32 && Kh303Neutral.natural k 32) = true := ha
      rw [Bool.and_eq_true] at ha
      exact .row i k t ((natural_iff i).mp ha.1) ((natural_iff k).mp ha.2)
    by_cases p4 : p = 4
    · obtain ⟨i, k, e1, e2⟩ := two 4 p4 rfl
      subst p4 e1 e2
      have ha : (Kh303Neutral.natural i 32 && Kh303Neutral.natural k 32) = true := ha
      rw [Bool.and_eq_true] at ha
      exact .find i k t ((natural_iff i).mp ha.1) ((natural_iff k).mp ha.2)
    by_cases p6 : p = 6
    · obtain ⟨i, k, e1, e2⟩ := two 6 p6 rfl
      subst p6 e1 e2
      have ha : (Kh303Neutral.natural i 32 && Kh303Neutral.natural k 32) = true := ha
      rw [Bool.and_eq_true] at ha
      exact .drop i k t ((natural_iff i).mp ha.1) ((natural_iff k).mp ha.2)
    by_cases p5 : p = 5
    · subst p5
      obtain ⟨q, xs, e1, e2⟩ := sh (n := 1) (k := 1) rfl
      obtain ⟨x, rfl, e3⟩ := rows1 e1
      match r, q, e2, e3 with
      | i :: r, q, e2, e3 =>
        have e3 : r = (x.length : Int) :: (x ++ t) := e3
        subst e3 e2
        have ha : (Kh303Neutral.natural i 32 && (x.all fun z => Kh303Neutral.natural z 32) && x.length == 5) = true := ha
        rw [Bool.and_eq_true, Bool.and_eq_true] at ha
        have h5 : x.length = 5 := by simpa using ha.2
        rw [h5]
        exact .write i x t ((natural_iff i).mp ha.1.1) h5 (all32 x ha.1.2)
      | [], q, _, _ => exact absurd (by show (0 : Nat) < 1; decide) q
    by_cases p7 : p = 7
    · subst p7
      obtain ⟨_, xs, e1, e2⟩ := sh (n := 0) (k := 0) rfl
      obtain ⟨rfl, e3⟩ := rows0 e1
      subst e2 e3
      exact .back _
    · exfalso
      have : PyKh303.shape p = none := by
        unfold PyKh303.shape
        rw [if_neg p0, if_neg p1, if_neg p2, if_neg p3, if_neg p4, if_neg p5, if_neg p6, if_neg p7]
      rw [this] at h
      cases h

/-- the calls that are still to come, read off the list -/
inductive Calls : List (List (List Int)) → List Int → Prop
  | nil : Calls [] []
  | cons {c : List (List Int)} {l t : List Int} {cs : List (List (List Int))} (h : Head c l t) (r : Calls cs t) : Calls (c :: cs) l
theorem calls_of : ∀ {f : Nat} {l : List Int} {cs : List (List (List Int))}, PyFlat.calls PyKh303.shape f l = some cs → (cs.map PyKh303.whole).all Kh303Neutral.asked1 = true → Calls cs l
  | f, [], cs, h, _ => by
    have e : [] = cs := by
      cases f <;> exact Option.some.inj h
    subst e; exact .nil
  | 0, p :: r, cs, h, _ => by cases h
  | f + 1, p :: r, cs, h, ha => by
    unfold PyFlat.calls at h
    cases q : PyFlat.call PyKh303.shape (p :: r) with
    | none => rw [q] at h; cases h
    | some y =>
      obtain ⟨c, t⟩ := y
      rw [q] at h
      dsimp only at h
      cases q2 : PyFlat.calls PyKh303.shape f t with
      | none => rw [q2] at h; cases h
      | some cs' =>
        rw [q2] at h
        have e := Option.some.inj h
        subst e
        rw [List.map_cons, List.all_cons, Bool.and_eq_true] at ha
        exact .cons (head_of q ha.1) (calls_of q2 ha.2)
theorem head_whole {c : List (List Int)} {l t : List Int} (h : Head c l t) : PyKh303.whole c = c := by
  cases h <;> rfl
theorem calls_whole {cs : List (List (List Int))} {l : List Int} (h : Calls cs l) : cs.map PyKh303.whole = cs := by
  induction h with
  | nil => rfl
  | cons h _ ih => rw [List.map_cons, head_whole h, ih]
/-- what is asked, and what is due, in these words -/
theorem asked_calls {l : List Int} (h : PyKh303.answers_asked l = true) : ∃ cs, Calls cs l ∧ cs.length ≤ 400 ∧ PyKh303.answers l = PyFlat.told (PyFlat.played Kh303Neutral.step Kh303.empty cs) := by
  unfold PyKh303.answers_asked at h
  unfold PyKh303.answers
  cases q : PyFlat.calls PyKh303.shape l.length l with
  | none =>
    have : PyKh303.calls l = none := by unfold PyKh303.calls; rw [q]
    rw [this] at h; cases h
  | some cs =>
    have key : PyKh303.calls l = some (cs.map PyKh303.whole) := by unfold PyKh303.calls; rw [q]
    rw [key] at h ⊢
    dsimp only at h ⊢
    rw [Bool.and_eq_true] at h
    have h2 := h.2
    unfold Kh303Neutral.asked at h2
    rw [Bool.and_eq_true, decide_eq_true_eq, List.length_map] at h2
    have hc := calls_of q h2.2
    rw [calls_whole hc]
    exact ⟨cs, hc, h2.1, rfl⟩

theorem told_cons (a : List Int) (l : List (List Int)) : PyFlat.told (a :: l) = ((a.length : Int) :: a) ++ PyFlat.told l := rfl
theorem played_cons (s : Kh303.Abs) (c : List (List Int)) (cs : List (List (List Int))) : PyFlat.told (PyFlat.played Kh303Neutral.step s (c :: cs)) =
    (((Kh303Neutral.step s c).2.length : Int) :: (Kh303Neutral.step s c).2) ++ PyFlat.told (PyFlat.played Kh303Neutral.step (Kh303Neutral.step s c).1 cs) := rfl

/-! ### one call -/
def tell (r : Kh303.Abs × Kh303.Ans) : Kh303.Abs × List Int := (r.1, r.2.value :: Kh303Neutral.rowInts r.2.out)
theorem step_begin (s : Kh303.Abs) : Kh303Neutral.step s [[0]] = tell (Kh303.doing s .begin_) := rfl
theorem step_view (s : Kh303.Abs) (v : List Int) : Kh303Neutral.step s [[1], v] = tell (Kh303.doing s (.view (if v.length ≤ 32 then some (Kh303Neutral.view v) else none))) := rfl
theorem step_many (s : Kh303.Abs) (i : Int) : Kh303Neutral.step s [[2, i]] = tell (Kh303.doing s (.many i.toNat)) := rfl
theorem step_row (s : Kh303.Abs) (i k : Int) : Kh303Neutral.step s [[3, i, k]] = tell (Kh303.doing s (.row i.toNat k.toNat)) := rfl
theorem step_find (s : Kh303.Abs) (i k : Int) : Kh303Neutral.step s [[4, i, k]] = tell (Kh303.doing s (.find i.toNat k.toNat)) := rfl
theorem step_write (s : Kh303.Abs) (i : Int) (r : List Int) : Kh303Neutral.step s [[5, i], r] = tell (Kh303.doing s (.write i.toNat ((Kh303Neutral.table r).headD ⟨0, [0, 0, 0, 0]⟩))) := rfl
theorem step_drop (s : Kh303.Abs) (i k : Int) : Kh303Neutral.step s [[6, i, k]] = tell (Kh303.doing s (.drop i.toNat k.toNat)) := rfl
theorem step_back (s : Kh303.Abs) : Kh303Neutral.step s [[7]] = tell (Kh303.doing s .back) := rfl

/-! ### answers are short -/
def OutOk (l : Kh302.Table) : Prop := l = [] ∨ ∃ r, l = [r] ∧ Kh302.okRow r = true
theorem put_out (a : Kh303.Abs) (v : Kh302.View) (w : Kh302.Table) (n : Int) : (a.put v w n).2.out = [] := by
  unfold Kh303.Abs.put
  split
  · rfl
  · rfl
  · split <;> rfl
theorem out_ok {a : Kh303.Abs} (o : Kh303.Ok a) (c : Kh303.Call) : OutOk (Kh303.doing a c).2.out := by
  have ot := (okTable_iff _).mp o.1
  cases c with
  | begin_ => exact .inl rfl
  | view v =>
    cases v with
    | none => exact .inl rfl
    | some v =>
      show OutOk (if Kh302.okView v = false then (a, Kh303.say (-22)) else if 16 ≤ a.views.length then (a, Kh303.say (-28)) else ({ a with views := a.views ++ [v] }, Kh303.say a.views.length)).2.out
      split
      · exact .inl rfl
      · split <;> exact .inl rfl
  | many i =>
    show OutOk (match a.views[i]? with | none => Kh303.say (-22) | some v => Kh303.say (a.shows v).length).out
    split <;> exact .inl rfl
  | row i k =>
    show OutOk (match a.views[i]? with | none => Kh303.say (-22) | some v => match (a.shows v)[k]? with | none => Kh303.say (-2) | some r => (⟨0, [r]⟩ : Kh303.Ans)).out
    split
    · exact .inl rfl
    · rename_i v _
      cases q : (a.shows v)[k]? with
      | none => exact .inl rfl
      | some r => exact .inr ⟨r, rfl, get_rows (v := v) ot.2.1 r (List.mem_of_getElem? q)⟩
  | find i k =>
    show OutOk (match a.views[i]? with | none => Kh303.say (-22) | some v => match Kh302.find (a.shows v) k with | none => Kh303.say (-2) | some r => (⟨0, [r]⟩ : Kh303.Ans)).out
    split
    · exact .inl rfl
    · rename_i v _
      cases q : Kh302.find (a.shows v) k with
      | none => exact .inl rfl
      | some r => exact .inr ⟨r, rfl, get_rows (v := v) ot.2.1 r (find_some q).1⟩
  | write i r =>
    rw [doing_write]
    split
    · exact .inl rfl
    · exact .inl (put_out ..)
  | drop i k =>
    rw [doing_drop]
    split
    · exact .inl rfl
    · split
      · exact .inl rfl
      · exact .inl (put_out ..)
  | back =>
    rw [doing_back]
    split <;> exact .inl rfl
theorem tell_short {a : Kh303.Abs} (o : Kh303.Ok a) (c : Kh303.Call) : (tell (Kh303.doing a c)).2.length ≤ 6 := by
  show (Kh303Neutral.rowInts (Kh303.doing a c).2.out).length + 1 ≤ 6
  rcases out_ok o c with e | ⟨r, e, h⟩
  · rw [e]; show 0 + 1 ≤ 6; decide
  · rw [e]
    have hl := ((okRow_iff r).mp h).2.1
    show (List.map Int.ofNat ((r.key :: r.cols) ++ [])).length + 1 ≤ 6
    rw [List.length_map, List.append_nil, List.length_cons, hl]
    decide
/-- a call's state and answer -/
theorem table_row {r : List Int} (h5 : r.length = 5) (hu : ∀ z ∈ r, U32 z) : ∃ row, Kh303Neutral.table r = [row] ∧ Kh302.okRow row = true ∧ r = (row.key :: row.cols).map Int.ofNat := by
  match r, h5, hu with
  | [a, b, c, d, e], _, hu =>
    have hW : Kh302.W = 4294967296 := by decide
    have key : ∀ z ∈ [a, b, c, d, e], z.toNat < Kh302.W ∧ Int.ofNat z.toNat = z := fun z hz => by
      have h := hu z hz
      rw [hW]
      exact ⟨by have := h.1; have := h.2; omega, Int.toNat_of_nonneg h.1⟩
    have ka := key a (by simp)
    have kb := key b (by simp)
    have kc := key c (by simp)
    have kd := key d (by simp)
    have ke := key e (by simp)
    refine ⟨⟨a.toNat, [b.toNat, c.toNat, d.toNat, e.toNat]⟩, rfl, (okRow_iff _).mpr ⟨ka.1, rfl, fun x hx => ?_⟩, ?_⟩
    · simp at hx
      rcases hx with rfl | rfl | rfl | rfl
      · exact kb.1
      · exact kc.1
      · exact kd.1
      · exact ke.1
    · show [a, b, c, d, e] = [Int.ofNat a.toNat, Int.ofNat b.toNat, Int.ofNat c.toNat, Int.ofNat d.toNat, Int.ofNat e.toNat]
      rw [ka.2, kb.2, kc.2, kd.2, ke.2]
theorem step_ok {a : Kh303.Abs} {c : List (List Int)} {u : List Int} (o : Kh303.Ok a) (h : Head c u []) : Kh303.Ok (Kh303Neutral.step a c).1 ∧ (Kh303Neutral.step a c).2.length ≤ 6 := by
  have key : ∀ k : Kh303.Call, Kh303Neutral.step a c = tell (Kh303.doing a k) → okCall k → Kh303.Ok (Kh303Neutral.step a c).1 ∧ (Kh303Neutral.step a c).2.length ≤ 6 := fun k e hk => by
    rw [e]; exact ⟨doing_ok o hk, tell_short o k⟩
  cases h with
  | begin_ => exact key _ (step_begin a) trivial
  | view v t h4 h48 hu => exact key _ (step_view a v) trivial
  | many i t hi => exact key _ (step_many a i) trivial
  | row i k t hi hk => exact key _ (step_row a i k) trivial
  | find i k t hi hk => exact key _ (step_find a i k) trivial
  | write i r t hi h5 hu =>
    refine key _ (step_write a i r) ?_
    obtain ⟨row, e, hr, _⟩ := table_row h5 hu
    show Kh302.okRow ((Kh303Neutral.table r).headD _) = true
    rw [e]; exact hr
  | drop i k t hi hk => exact key _ (step_drop a i k) trivial
  | back => exact key _ (step_back a) trivial
end Vm

end
section
set_option Elab.async false
set_option linter.all false
set_option maxRecDepth 100000
set_option maxHeartbeats 2000000
namespace Vm
open PySem PySem.Spec PyProof.Rows L2

/-! ### rows, tables, steps, views in the heap -/
def cellV (x : Nat) : V := .int (x : Int)
def rowV (r : Kh302.Row) : List V := cellV r.key :: r.cols.map cellV
theorem rowV_len {r : Kh302.Row} (h : r.cols.length = 4) : (rowV r).length = 5 := by
  show (r.cols.map cellV).length + 1 = 5
  rw [List.length_map, h]
theorem rowV_at {r : Kh302.Row} {c : Nat} (h : r.cols.length = 4) (hc : c ≤ 4) : (rowV r)[c]? = some (cellV (r.col c)) := by
  cases c with
  | zero => rfl
  | succ c =>
    show (r.cols.map cellV)[c]? = some (cellV (r.cols.getD c 0))
    rw [List.getElem?_map, List.getD_eq_getElem?_getD, List.getElem?_eq_getElem (by omega)]
    rfl
theorem rowV_set (r : Kh302.Row) {c : Nat} (n : Nat) (h1 : 1 ≤ c) : rowV (r.set c n) = (rowV r).set c (cellV n) := by
  cases c with
  | zero => omega
  | succ c =>
    show cellV r.key :: (r.cols.set c n).map cellV = cellV r.key :: (r.cols.map cellV).set c (cellV n)
    rw [List.map_set]
theorem set_cut {α : Type} (l : List α) (c : Nat) (x : α) (h : c < l.length) : l.set c x = (l.take c ++ [x]) ++ l.drop (c + 1) := by
  rw [List.set_eq_take_append_cons_drop, if_pos h, List.append_assoc]
  rfl
def RowAt (H : Hp) (a : Addr) (r : Kh302.Row) : Prop := H a = some (.tup (rowV r))
def Rows (H : Hp) (as : List Addr) (t : Kh302.Table) : Prop := Paired (RowAt H) as t
/-- the list at l holds the rows of t -/
def TabAt (H : Hp) (l : Addr) (t : Kh302.Table) : Prop := ∃ as : List Addr, H l = some (.lst (as.map V.ref)) ∧ Rows H as t
theorem paired_mono {α β : Type} {F F' : α → β → Prop} (hm : ∀ a b, F a b → F' a b) : ∀ {l : List α} {m : List β}, Paired F l m → Paired F' l m
  | _, _, .nil => .nil
  | _, _, .cons h t => .cons (hm _ _ h) (paired_mono hm t)
theorem paired_get {α β : Type} {F : α → β → Prop} : ∀ {l : List α} {m : List β} {i : Nat} {a : α}, Paired F l m → l[i]? = some a → ∃ b, m[i]? = some b ∧ F a b
  | _, _, _, _, .nil, h => by simp at h
  | _, _, 0, _, .cons r _, h => by simp at h; subst h; exact ⟨_, rfl, r⟩
  | _, _, i + 1, a, .cons _ t, h => by
    obtain ⟨b, h1, h2⟩ := paired_get (i := i) (a := a) t (by simpa using h)
    exact ⟨b, by simpa using h1, h2⟩
theorem paired_get' {α β : Type} {F : α → β → Prop} : ∀ {l : List α} {m : List β} {i : Nat} {b : β}, Paired F l m → m[i]? = some b → ∃ a, l[i]? = some a ∧ F a b
  | _, _, _, _, .nil, h => by simp at h
  | _, _, 0, _, .cons r _, h => by simp at h; subst h; exact ⟨_, rfl, r⟩
  | _, _, i + 1, a, .cons _ t, h => by
    obtain ⟨b, h1, h2⟩ := paired_get' (i := i) (b := a) t (by simpa using h)
    exact ⟨b, by simpa using h1, h2⟩
theorem map_get {α β : Type} {f : α → β} {l : List α} {i : Nat} {y : β} (h : (l.map f)[i]? = some y) : ∃ a, l[i]? = some a ∧ y = f a := by
  rw [List.getElem?_map] at h
  obtain ⟨a, h1, h2⟩ := Option.map_eq_some_iff.mp h
  exact ⟨a, h1, h2.symm⟩
theorem take_snoc {α : Type} {l : List α} {i : Nat} {x : α} (h : l[i]? = some x) : l.take (i + 1) = l.take i ++ [x] := by
  rw [List.take_add_one, h]
  rfl
theorem Rows.same {H H' : Hp} {as : List Addr} {t : Kh302.Table} (s : Same H H') (h : Rows H as t) : Rows H' as t := paired_mono (fun a r e => s a _ e) h
theorem Rows.upd {H : Hp} {as : List Addr} {t : Kh302.Table} {D : Addr} {xs ys : List V} (h : Rows H as t) (hD : H D = some (.lst xs)) : Rows (L2.upd H D (.lst ys)) as t :=
  paired_mono (fun a r e => by
    have ne : a ≠ D := ne_of e hD (by intro z; cases z)
    show L2.upd H D _ a = _
    rw [upd_ne ne]; exact e) h
theorem TabAt.same {H H' : Hp} {l : Addr} {t : Kh302.Table} (s : Same H H') (h : TabAt H l t) : TabAt H' l t := by
  obtain ⟨as, h1, h2⟩ := h
  exact ⟨as, s l _ h1, h2.same s⟩
/-- a new object, or a store at one that was new, leaves what was tracked -/
theorem Same.put {H H1 : Hp} {D : Addr} {o : HO} (s : Same H H1) (h : H D = Option.none) : Same H (L2.upd H1 D o) := fun b u e => by
  rw [upd_ne (ne_of_none e h)]
  exact s b u e
theorem Same.new {H : Hp} {D : Addr} {o : HO} (h : H D = Option.none) : Same H (L2.upd H D o) := Same.put (Same.refl H) h

/-! steps -/
def sf (s : Kh302.Step) : List (Str × V) := putF "value" (cellV s.value) (putF "how" (cellV s.how) (putF "col" (cellV s.col) (putF "kind" (cellV s.kind) [])))
theorem sf_value (s : Kh302.Step) : (sf s).lookup ("value" : Str) = some (cellV s.value) := by
  unfold sf
  rw [lookup_putF, if_pos rfl]
theorem sf_how (s : Kh302.Step) : (sf s).lookup ("how" : Str) = some (cellV s.how) := by
  unfold sf
  rw [lookup_putF, if_neg (by decide +kernel), lookup_putF, if_pos rfl]
theorem sf_col (s : Kh302.Step) : (sf s).lookup ("col" : Str) = some (cellV s.col) := by
  unfold sf
  rw [lookup_putF, if_neg (by decide +kernel), lookup_putF, if_neg (by decide +kernel), lookup_putF, if_pos rfl]
theorem sf_kind (s : Kh302.Step) : (sf s).lookup ("kind" : Str) = some (cellV s.kind) := by
  unfold sf
  rw [lookup_putF, if_neg (by decide +kernel), lookup_putF, if_neg (by decide +kernel), lookup_putF, if_neg (by decide +kernel), lookup_putF, if_pos rfl]
def StepAt (C : Addr) (H : Hp) (a : Addr) (s : Kh302.Step) : Prop := ∃ dx, H a = some (.ins C dx (sf s))
def Steps (C : Addr) (H : Hp) (as : List Addr) (v : Kh302.View) : Prop := Paired (StepAt C H) as v
def ViewAt (C : Addr) (H : Hp) (l : Addr) (v : Kh302.View) : Prop := ∃ as : List Addr, H l = some (.lst (as.map V.ref)) ∧ Steps C H as v
theorem Steps.same {C : Addr} {H H' : Hp} {as : List Addr} {v : Kh302.View} (s : Same H H') (h : Steps C H as v) : Steps C H' as v := paired_mono (fun a r ⟨dx, e⟩ => ⟨dx, s a _ e⟩) h
theorem Steps.upd {C : Addr} {H : Hp} {as : List Addr} {v : Kh302.View} {D : Addr} {xs ys : List V} (h : Steps C H as v) (hD : H D = some (.lst xs)) : Steps C (L2.upd H D (.lst ys)) as v :=
  paired_mono (fun a r ⟨dx, e⟩ => by
    have ne : a ≠ D := ne_of e hD (by intro z; cases z)
    exact ⟨dx, by rw [upd_ne ne]; exact e⟩) h
theorem ViewAt.same {C : Addr} {H H' : Hp} {l : Addr} {v : Kh302.View} (s : Same H H') (h : ViewAt C H l v) : ViewAt C H' l v := by
  obtain ⟨as, h1, h2⟩ := h
  exact ⟨as, s l _ h1, h2.same s⟩

/-! ### small words for readings -/
theorem dec_cell {a : Nat} {j : Int} : decide (cellV a = V.int j) = decide ((a : Int) = j) := by
  unfold cellV
  rw [Bool.eq_iff_iff]
  simp
theorem dec_int2 {i j : Int} : decide (V.int i = V.int j) = decide (i = j) := by
  rw [Bool.eq_iff_iff]
  simp
theorem decc {p q : Prop} [Decidable p] [Decidable q] (h : p ↔ q) : decide p = decide q := by
  rw [Bool.eq_iff_iff, decide_eq_true_eq, decide_eq_true_eq]; exact h
theorem itd {c A B : Prop} [Decidable c] (h1 : c → A) (h2 : ¬ c → B) : if decide c = true then A else B := by
  by_cases h : c
  · rw [decide_eq_true h, if_pos rfl]; exact h1 h
  · rw [decide_eq_false h, if_neg Bool.false_ne_true]; exact h2 h
theorem itb {b : Bool} {A B : Prop} (h1 : b = true → A) (h2 : b = false → B) : if b = true then A else B := by
  cases b with
  | true => rw [if_pos rfl]; exact h1 rfl
  | false => rw [if_neg Bool.false_ne_true]; exact h2 rfl
/-- a number of the module -/
theorem pe_cst {X : Cx} {x : Str} {i : Int} {pos : Pos} (hg : Gl X x) (h : ∃ t, X.mg x = some (.int i t)) (hd : (x == ("__debug__" : Str)) = false := by decide) : PE X (.Name x pos) (tC (.int i)) :=
  let ⟨t, e⟩ := h
  pe_glob hg e ⟨t, rfl⟩ hd
/-- a comprehension over range(lo, hi, c) -/
theorem lc_rangeC {lo c : Int} {n : Nat} {g : TG} {tt : TT} {te : TE} {vs : List Nat} {σ : L2.St} {H1 : Hp} {D : Addr} {Qd : Hp → Prop} (Pv : Nat → Hp → Prop) (h0 : Pv 0 (upd H1 D (.lst [])))
    (hs : ∀ i H, i < n → Pv i H → g (.int (lo + (i : Nat) * c)) (wipe σ vs) H fun σ2 H2 => wipe σ2 vs = wipe σ vs ∧ tt σ2 H2 fun b H3 =>
      if b = true then te σ2 H3 fun y H4 => ∃ acc, H4 D = some (.lst acc) ∧ acc.length < sizeLine ∧ Pv (i + 1) (upd H4 D (.lst (acc ++ [y]))) else Pv (i + 1) H3) (hd : ∀ H, Pv n H → Qd H) :
    ∃ W : Nat → Nat → Hp → Prop, (∃ m, W 0 m (upd H1 D (.lst []))) ∧ ∀ i m H, W i m H →
      ((Itc lo c n).stop i H ∧ Qd H) ∨ ((Itc lo c n).go i H ∧ ∃ Nx : Hp → Prop, (∀ H', Nx H' → ∃ m', m' < m ∧ W (i + 1) m' H') ∧ ∀ x H', (Itc lo c n).yld i H x H' → g x (wipe σ vs) H' fun σ2 H2 => wipe σ2 vs = wipe σ vs ∧ tt σ2 H2 fun b H3 =>
        if b = true then te σ2 H3 fun y H4 => ∃ acc, H4 D = some (.lst acc) ∧ acc.length < sizeLine ∧ Nx (upd H4 D (.lst (acc ++ [y]))) else Nx H3) := by
  refine ⟨fun i m H => m = n - i ∧ i ≤ n ∧ Pv i H, ⟨n, by simp, Nat.zero_le _, h0⟩, ?_⟩
  rintro i m H ⟨rfl, hi, p⟩
  by_cases hlt : i < n
  · refine .inr ⟨hlt, Pv (i + 1), fun H' p' => ⟨n - (i + 1), by omega, rfl, hlt, p'⟩, fun x H' y => ?_⟩
    obtain ⟨e, y⟩ := y
    subst e y
    exact hs i _ hlt p
  · have e : i = n := by omega
    subst e
    exact .inl ⟨Nat.le_refl _, hd H p⟩

/-! ### the text by places -/
def top (i : Nat) : Stmt := PySem.Challenge.pw_viewstable_s01_answers.main.body.getD i (.Pass ⟨0, 0, 0, 0⟩)
abbrev sStepInit : Stmt := inClass (top 14) 0
abbrev sStepAt : Stmt := top 15
abbrev sStepsOf : Stmt := top 16
abbrev sIsStep : Stmt := top 17
abbrev sIsView : Stmt := top 18
abbrev sKeeps : Stmt := top 19
abbrev sWith : Stmt := top 20
abbrev sShownBy : Stmt := top 21
abbrev sShown : Stmt := top 22

/-- what the module's top has written -/
structure Txt (K : PySem.W.Frag) (mg : Str → Option Value) (C : Addr) : Prop where
  cl : Cls K C
  nKind : NoAttr K C "kind"
  nCol : NoAttr K C "col"
  nHow : NoAttr K C "how"
  nValue : NoAttr K C "value"
  mgC : mg "Step" = some (.ref C)
  keep : ∃ t, mg "KEEP" = some (.int 0 t)
  hide : ∃ t, mg "HIDE" = some (.int 1 t)
  shift : ∃ t, mg "SHIFT" = some (.int 2 t)
  less : ∃ t, mg "LESS" = some (.int 0 t)
  same : ∃ t, mg "SAME" = some (.int 1 t)
  more : ∃ t, mg "MORE" = some (.int 2 t)
  other : ∃ t, mg "OTHER" = some (.int 3 t)
  last : ∃ t, mg "LAST_COLUMN" = some (.int 4 t)
  most : ∃ t, mg "MOST_STEPS" = some (.int 8 t)
  four : ∃ t, mg "NUMBERS_OF_A_STEP" = some (.int 4 t)
  modu : ∃ t, mg "MODULUS" = some (.int 4294967296 t)
  len : mg "len" = Option.none
  range : mg "range" = Option.none
  list : mg "list" = Option.none
  all : mg "all" = Option.none

/-! ### the promises -/
def spStepInit (C : Addr) : Sp := fun vs H Q _ => ∃ (p dx : Addr) (s : Kh302.Step), vs = [.ref p, cellV s.kind, cellV s.col, cellV s.how, cellV s.value] ∧ H p = some (.ins C dx []) ∧
  ∀ H' : Hp, StepAt C H' p s → (∀ b o, H b = some o → b ≠ p → H' b = some o) → Q .non H'
def spStepAt (K : PySem.W.Frag) (C : Addr) : Sp := fun vs H Q _ => ∃ (l : Addr) (ns : List Int) (k : Nat) (s : Kh302.Step), vs = [.ref l, cellV k] ∧ SqL K H l (ns.map V.int) ∧
  ns[k]? = some (s.kind : Int) ∧ ns[k + 1]? = some (s.col : Int) ∧ ns[k + 2]? = some (s.how : Int) ∧ ns[k + 3]? = some (s.value : Int) ∧
  ∀ (H' : Hp) (a : Addr), StepAt C H' a s → Same H H' → Q (.ref a) H'
def spKeeps (C : Addr) : Sp := fun vs H Q _ => ∃ (a b : Addr) (s : Kh302.Step) (r : Kh302.Row), vs = [.ref a, .ref b] ∧ StepAt C H a s ∧ RowAt H b r ∧ s.col ≤ 4 ∧ r.cols.length = 4 ∧ Q (.bl (Kh302.keeps s r)) H
def spWith : Sp := fun vs H Q _ => ∃ (a : Addr) (r : Kh302.Row) (c n : Nat), vs = [.ref a, cellV c, cellV n] ∧ RowAt H a r ∧ 1 ≤ c ∧ c ≤ 4 ∧ r.cols.length = 4 ∧
  ∀ (H' : Hp) (p : Addr), RowAt H' p (r.set c n) → Same H H' → Q (.ref p) H'
def spIsStep (C : Addr) : Sp := fun vs H Q _ => ∃ (a : Addr) (s : Kh302.Step), vs = [.ref a] ∧ StepAt C H a s ∧ s.value < Kh302.W ∧ Q (.bl (Kh302.okStep s)) H

section
variable {P : Program} {w : World} {K : PySem.W.Frag} {mg : Str → Option Value} {base : Heap}

/-! Step.__init__ -/
theorem scStepInit : FnScope ["self", "kind", "col", "how", "value"] ["self", "kind", "col", "how", "value"] (defScope sStepInit) := ⟨rfl, rfl, rfl, by decide +kernel, rfl, by decide +kernel, by decide +kernel⟩
theorem ok_stepInit {f C : Addr} {fd : FuncData} (F : Fun K "__init__" "Step.__init__" sStepInit f fd) (T : Txt K mg C) : FnOk P w K mg base CX0 1 f fd ["self", "kind", "col", "how", "value"] (spStepInit C) := by
  refine F.ok scStepInit (fun vs H Q E h => ?_) (fun cdv A outer s H vs Q E hr h => ?_)
  · obtain ⟨p, dx, s, rfl, _⟩ := h
    rfl
  · obtain ⟨p, dx, s, rfl, hp, k⟩ := h
    refine ⟨_, pss_cons (ps_fld (pv 0) (pv 1) rfl) (pss_cons (ps_fld (pv 0) (pv 2) rfl) (pss_cons (ps_fld (pv 0) (pv 3) rfl) (pss_one (ps_fld (pv 0) (pv 4) rfl)))), ?_⟩
    have l1 := length_putF "kind" (cellV s.kind) []
    have l2 := length_putF "col" (cellV s.col) (putF "kind" (cellV s.kind) [])
    have l3 := length_putF "how" (cellV s.how) (putF "col" (cellV s.col) (putF "kind" (cellV s.kind) []))
    have l0 : ([] : List (Str × V)).length = 0 := rfl
    refine ⟨_, rfl, _, rfl, p, C, dx, [], rfl, hp, T.cl, T.nKind, by show 0 < 1000; decide, ?_⟩
    refine ⟨_, rfl, _, rfl, p, C, dx, _, rfl, upd_same, T.cl, T.nCol, by omega, ?_⟩
    refine ⟨_, rfl, _, rfl, p, C, dx, _, rfl, upd_same, T.cl, T.nHow, by omega, ?_⟩
    refine ⟨_, rfl, _, rfl, p, C, dx, _, rfl, upd_same, T.cl, T.nValue, by omega, ?_⟩
    exact k _ ⟨dx, upd_same⟩ fun b o e hb => by rw [upd_ne hb, upd_ne hb, upd_ne hb, upd_ne hb]; exact e

/-! step_at -/
theorem scStepAt : FnScope ["numbers", "place"] ["numbers", "place"] (defScope sStepAt) := ⟨rfl, rfl, rfl, by decide +kernel, rfl, by decide +kernel, by decide +kernel⟩
theorem ok_stepAt {f C fI : Addr} {fd fdI : FuncData} (F : Fun K "step_at" "step_at" sStepAt f fd) (T : Txt K mg C) (M : Mk K C fI)
    (GI : FnOk P w K mg base CX0 1 fI fdI ["self", "kind", "col", "how", "value"] (spStepInit C)) (bI : Binds K fdI ["self", "kind", "col", "how", "value"] []) : FnOk P w K mg base CX0 3 f fd ["numbers", "place"] (spStepAt K C) := by
  refine F.ok scStepAt (fun vs H Q E h => ?_) (fun cdv A outer s H vs Q E hr h => ?_)
  · obtain ⟨l, ns, k, s, rfl, _⟩ := h
    rfl
  · obtain ⟨l, ns, k, s, rfl, hS, h0, h1, h2, h3, kk⟩ := h
    refine ⟨_, pss_one (ps_ret (pe_make M GI hr rfl T.mgC bI .nil pass0 (pa_cons (pe_ix ix_list (pv 0) (pv 1) (fun _ _ => rfl)) (pa_cons (pe_ix ix_list (pv 0) (pe_op op_add (pv 1) pe_int) (fun _ _ => rfl))
      (pa_cons (pe_ix ix_list (pv 0) (pe_op op_add (pv 1) pe_int) (fun _ _ => rfl)) (pa_cons (pe_ix ix_list (pv 0) (pe_op op_add (pv 1) pe_int) (fun _ _ => rfl)) pa_nil)))))), ?_⟩
    have at0 : ∀ {j : Nat} {z : Nat}, ns[j]? = some (z : Int) → (ns.map V.int)[j]? = some (cellV z) := fun e => by rw [List.getElem?_map, e]; rfl
    refine ⟨_, rfl, _, rfl, l, _, _, _, rfl, rfl, hS, at_of (j := k) rfl (at0 h0), ?_⟩
    refine ⟨_, rfl, _, rfl, _, _, rfl, rfl, l, _, _, _, rfl, rfl, hS, at_of (j := k + 1) (by omega) (at0 h1), ?_⟩
    refine ⟨_, rfl, _, rfl, _, _, rfl, rfl, l, _, _, _, rfl, rfl, hS, at_of (j := k + 2) (by omega) (at0 h2), ?_⟩
    refine ⟨_, rfl, _, rfl, _, _, rfl, rfl, l, _, _, _, rfl, rfl, hS, at_of (j := k + 3) (by omega) (at0 h3), ?_⟩
    intro x dx nx ndx nex
    exact ⟨x, dx, s, rfl, upd_same, fun H1 hs k1 => ⟨rfl, kk H1 x hs (Same.made nx ndx k1)⟩⟩

/-! keeps -/
theorem scKeeps : FnScope ["step", "row", "number"] ["step", "row"] (defScope sKeeps) := ⟨rfl, rfl, rfl, by decide +kernel, rfl, by decide +kernel, by decide +kernel⟩
theorem ok_keeps {f C : Addr} {fd : FuncData} (F : Fun K "keeps" "keeps" sKeeps f fd) (T : Txt K mg C) : FnOk P w K mg base CX0 1 f fd ["step", "row"] (spKeeps C) := by
  refine F.ok scKeeps (fun vs H Q E h => ?_) (fun cdv A outer s H vs Q E hr h => ?_)
  · obtain ⟨a, b, s, r, rfl, _⟩ := h
    rfl
  · obtain ⟨a, b, s, r, rfl, ⟨dx, ha⟩, hb, hc, hl, k⟩ := h
    refine ⟨_, pss_cons (ps_set (i := 2) scKeeps.nd rfl (Or.inl rfl) (pe_ix ix_tup (pv 1) (pe_fld (pv 0) rfl) (fun _ _ => rfl)))
      (pss_cons (ps_if (pt_cmpR op_eq (pe_fld (pv 0) rfl) (pe_cst rfl T.less) (nomark _)) (pss_one (ps_ret (pe_cmpR op_lt (pv 2) (pe_fld (pv 0) rfl) (nomark _)))) pss_nil)
      (pss_cons (ps_if (pt_cmpR op_eq (pe_fld (pv 0) rfl) (pe_cst rfl T.same) (nomark _)) (pss_one (ps_ret (pe_cmpR op_eq (pv 2) (pe_fld (pv 0) rfl) (nomark _)))) pss_nil)
      (pss_cons (ps_if (pt_cmpR op_eq (pe_fld (pv 0) rfl) (pe_cst rfl T.more) (nomark _)) (pss_one (ps_ret (pe_cmpR op_gt (pv 2) (pe_fld (pv 0) rfl) (nomark _)))) pss_nil)
      (pss_one (ps_ret (pe_cmpR op_ne (pv 2) (pe_fld (pv 0) rfl) (nomark _))))))), ?_⟩
    refine ⟨_, rfl, _, rfl, a, C, dx, _, _, rfl, ha, T.cl, T.nCol, sf_col s, b, _, _, _, rfl, rfl, SqT.of hb, at_of (j := s.col) rfl (rowV_at hl hc), ?_⟩
    have ek : ∀ k : Bool, Kh302.keeps s r = k → Q (.bl k) H := fun k e => by rw [← e]; assumption
    have e0 : Kh302.keeps s r = if s.how = 0 then decide (r.col s.col < s.value) else if s.how = 1 then r.col s.col == s.value else if s.how = 2 then decide (s.value < r.col s.col) else r.col s.col != s.value := rfl
    refine ⟨_, rfl, a, C, dx, _, _, rfl, ha, T.cl, T.nHow, sf_how s, rfl, _, rfl, ?_⟩
    rw [dec_cell]
    refine itd (fun h0 => ?_) (fun h0 => ?_)
    · refine ⟨_, rfl, _, rfl, a, C, dx, _, _, rfl, ha, T.cl, T.nValue, sf_value s, _, _, rfl, rfl, ?_⟩
      refine ek _ ?_
      rw [e0, if_pos (by omega)]
      exact decc (by omega)
    refine ⟨_, rfl, a, C, dx, _, _, rfl, ha, T.cl, T.nHow, sf_how s, rfl, _, rfl, ?_⟩
    rw [dec_cell]
    refine itd (fun h1 => ?_) (fun h1 => ?_)
    · refine ⟨_, rfl, _, rfl, a, C, dx, _, _, rfl, ha, T.cl, T.nValue, sf_value s, rfl, ?_⟩
      refine ek _ ?_
      rw [e0, if_neg (by omega), if_pos (by omega)]
      show (r.col s.col == s.value) = decide (V.int (r.col s.col : Int) = V.int (s.value : Int))
      rw [dec_int2, Bool.eq_iff_iff]
      simp
      omega
    refine ⟨_, rfl, a, C, dx, _, _, rfl, ha, T.cl, T.nHow, sf_how s, rfl, _, rfl, ?_⟩
    rw [dec_cell]
    refine itd (fun h2 => ?_) (fun h2 => ?_)
    · refine ⟨_, rfl, _, rfl, a, C, dx, _, _, rfl, ha, T.cl, T.nValue, sf_value s, _, _, rfl, rfl, ?_⟩
      refine ek _ ?_
      rw [e0, if_neg (by omega), if_neg (by omega), if_pos (by omega)]
      exact decc (by omega)
    refine ⟨_, rfl, _, rfl, a, C, dx, _, _, rfl, ha, T.cl, T.nValue, sf_value s, rfl, ?_⟩
    refine ek _ ?_
    rw [e0, if_neg (by omega), if_neg (by omega), if_neg (by omega)]
    show (r.col s.col != s.value) = !decide (V.int (r.col s.col : Int) = V.int (s.value : Int))
    rw [dec_int2, Bool.eq_iff_iff]
    simp
    omega

/-! with_number -/
theorem scWith : FnScope ["row", "col", "number"] ["row", "col", "number"] (defScope sWith) := ⟨rfl, rfl, rfl, by decide +kernel, rfl, by decide +kernel, by decide +kernel⟩
theorem ok_with {f C : Addr} {fd : FuncData} (F : Fun K "with_number" "with_number" sWith f fd) (T : Txt K mg C) : FnOk P w K mg base CX0 1 f fd ["row", "col", "number"] spWith := by
  refine F.ok scWith (fun vs H Q E h => ?_) (fun cdv A outer s H vs Q E hr h => ?_)
  · obtain ⟨a, r, c, n, rfl, _⟩ := h
    rfl
  · obtain ⟨a, r, c, n, rfl, ha, h1, h4, hl, k⟩ := h
    refine ⟨_, pss_one (ps_ret (pe_op op_catT (pe_op op_catT (pe_slice sl_tup (pv 0) po_none (po_some (pv 1))) (pe_tup (pa_cons (pv 2) pa_nil)))
      (pe_slice sl_tup (pv 0) (po_some (pe_op op_add (pv 1) pe_int)) po_none))), ?_⟩
    have hz := rowV_len hl
    have e5 : (5 : Nat) ≤ sizeLine := by decide
    have u1 : HT.sIx 5 5 (some (c : Int)) = c := by rw [HT.sIx_nat]; omega
    have c1 : cutV (rowV r) Option.none (some (c : Int)) = (rowV r).take c := by
      unfold cutV
      rw [hz, HT.sIx_none, u1, List.drop_zero, Nat.sub_zero]
    have u2 : HT.sIx 5 0 (some ((c + 1 : Nat) : Int)) = c + 1 := by rw [HT.sIx_nat]; omega
    have c2 : cutV (rowV r) (some ((c + 1 : Nat) : Int)) Option.none = (rowV r).drop (c + 1) := by
      unfold cutV
      rw [hz, HT.sIx_none, u2]
      exact List.take_of_length_le (by rw [List.length_drop, hz]; exact Nat.le_refl _)
    -- row[:col]
    refine ⟨_, rfl, _, rfl, _, rfl, a, _, rfl, SqT.of ha, ?_, fun p hp => ?_⟩
    · rw [hz, u1]; omega
    rw [c1]
    -- (number,)
    refine ⟨_, rfl, (by show 1 ≤ sizeLine; decide), fun q hq => ?_⟩
    have npq : p ≠ q := by
      intro e; subst e
      rw [upd_same] at hq; cases hq
    refine ⟨p, q, _, _, rfl, rfl, SqT.of (by rw [upd_ne npq]; exact upd_same), SqT.of upd_same, ?_, ?_, fun z => (by cases z), fun _ u hu => ?_⟩
    · intro z
      have := congrArg List.length z
      rw [List.length_take, hz] at this
      have e : ([] : List V).length = 0 := rfl
      rw [e] at this
      omega
    · rw [List.length_take, hz]
      show min c 5 + 1 ≤ sizeLine
      omega
    have hqn : H q = Option.none := by
      have := Same.free (Same.new (o := HO.tup ((rowV r).take c)) hp) hq
      exact this
    have s2 : Same H (upd (upd H p (.tup ((rowV r).take c))) q (.tup [cellV n])) := Same.put (Same.new hp) hqn
    have s3 : Same H (upd (upd (upd H p (.tup ((rowV r).take c))) q (.tup [cellV n])) u (.tup ((rowV r).take c ++ [cellV n]))) := Same.put s2 (s2.free hu)
    have hau := s3 a _ ha
    -- row[col + 1:]
    refine ⟨_, rfl, _, rfl, _, _, rfl, rfl, _, rfl, a, _, rfl, SqT.of hau, ?_, fun v hv => ?_⟩
    · rw [hz]
      show ¬ (HT.sIx 5 0 (some ((c : Int) + 1)) = 0 ∧ _)
      rw [show ((c : Int) + 1) = ((c + 1 : Nat) : Int) by omega, u2]
      omega
    rw [show ((c : Int) + 1) = ((c + 1 : Nat) : Int) by omega, c2]
    have nuv : u ≠ v := by
      intro e; subst e
      rw [upd_same] at hv; cases hv
    have s4 : Same H (upd (upd (upd (upd H p (.tup ((rowV r).take c))) q (.tup [cellV n])) u (.tup ((rowV r).take c ++ [cellV n]))) v (.tup ((rowV r).drop (c + 1)))) := Same.put s3 (s3.free hv)
    have e1 : rowV (r.set c n) = ((rowV r).take c ++ [cellV n]) ++ (rowV r).drop (c + 1) := by rw [rowV_set r n h1, set_cut _ _ _ (by omega)]
    refine ⟨u, v, _, _, rfl, rfl, SqT.of (by rw [upd_ne nuv]; exact upd_same), SqT.of upd_same, ?_, ?_, fun z => ?_, fun z x hx => ?_⟩
    · intro z
      have := congrArg List.length z
      rw [List.length_append] at this
      have e : ([] : List V).length = 0 := rfl
      have e' : [cellV n].length = 1 := rfl
      rw [e, e'] at this
      omega
    · rw [List.length_append, List.length_take, List.length_drop, hz]
      show min c 5 + 1 + (5 - (c + 1)) ≤ sizeLine
      omega
    · refine k _ u ?_ s4
      show upd _ v _ u = _
      rw [upd_ne nuv, upd_same, e1, z, List.append_nil]
    · refine k _ x ?_ (Same.put s4 (s4.free hx))
      show upd _ x _ x = _
      rw [upd_same, e1]

/-! is_step -/
theorem scIsStep : FnScope ["step"] ["step"] (defScope sIsStep) := ⟨rfl, rfl, rfl, by decide +kernel, rfl, by decide +kernel, by decide +kernel⟩
theorem okStep_keep {s : Kh302.Step} (hv : s.value < Kh302.W) (h : s.kind = 0) : Kh302.okStep s = (decide (s.col ≤ 4) && decide (s.how ≤ 3)) := by
  rw [Bool.eq_iff_iff, okStep_iff, Bool.and_eq_true, decide_eq_true_eq, decide_eq_true_eq]
  omega
theorem okStep_else {s : Kh302.Step} (hv : s.value < Kh302.W) (h : s.kind = 1 ∨ s.kind = 2) : Kh302.okStep s = (decide (1 ≤ s.col) && (decide (s.col ≤ 4) && decide (s.how = 0))) := by
  rw [Bool.eq_iff_iff, okStep_iff, Bool.and_eq_true, Bool.and_eq_true, decide_eq_true_eq, decide_eq_true_eq, decide_eq_true_eq]
  omega
theorem okStep_no {s : Kh302.Step} (h0 : s.kind ≠ 0) (h : ¬ (s.kind = 1 ∨ s.kind = 2)) : Kh302.okStep s = false := by
  rw [Bool.eq_false_iff]
  intro e
  rw [Ne, okStep_iff] at *
  omega
theorem ok_isStep {f C : Addr} {fd : FuncData} (F : Fun K "is_step" "is_step" sIsStep f fd) (T : Txt K mg C) : FnOk P w K mg base CX0 1 f fd ["step"] (spIsStep C) := by
  refine F.ok scIsStep (fun vs H Q E h => ?_) (fun cdv A outer s H vs Q E hr h => ?_)
  · obtain ⟨a, s, rfl, _⟩ := h
    rfl
  · obtain ⟨a, s, rfl, ⟨dx, ha⟩, hv, k⟩ := h
    refine ⟨_, pss_cons (ps_if (pt_cmpR op_eq (pe_fld (pv 0) rfl) (pe_cst rfl T.keep) (nomark _))
        (pss_one (ps_ret (pe_and (pe_cmpR op_le (pe_fld (pv 0) rfl) (pe_cst rfl T.last) (nomark _)) (pe_one (pe_cmpR op_le (pe_fld (pv 0) rfl) (pe_cst rfl T.other) (nomark _)))))) pss_nil)
      (pss_cons (ps_if (PW.pt (pw_or (pt_cmpR op_eq (pe_fld (pv 0) rfl) (pe_cst rfl T.hide) (nomark _)) (pw_or1 (pt_cmpR op_eq (pe_fld (pv 0) rfl) (pe_cst rfl T.shift) (nomark _)))))
        (pss_one (ps_ret (pe_and (pe_cmpR op_le pe_int (pe_fld (pv 0) rfl) (nomark _)) (pe_and (pe_cmpR op_le (pe_fld (pv 0) rfl) (pe_cst rfl T.last) (nomark _)) (pe_one (pe_cmpR op_eq (pe_fld (pv 0) rfl) pe_int (nomark _))))))) pss_nil)
      (pss_one (ps_ret pe_bl))), ?_⟩
    have ek : ∀ k : Bool, Kh302.okStep s = k → Q (.bl k) H := fun k e => by rw [← e]; assumption
    refine ⟨_, rfl, a, C, dx, _, _, rfl, ha, T.cl, T.nKind, sf_kind s, rfl, _, rfl, ?_⟩
    rw [dec_cell]
    refine itd (fun h0 => ?_) (fun h0 => ?_)
    · have e0 := okStep_keep hv (by omega)
      refine ⟨_, rfl, a, C, dx, _, _, rfl, ha, T.cl, T.nCol, sf_col s, _, _, rfl, rfl, _, rfl, ?_⟩
      refine itd (fun h1 => ?_) (fun h1 => ?_)
      · refine ⟨_, rfl, a, C, dx, _, _, rfl, ha, T.cl, T.nHow, sf_how s, _, _, rfl, rfl, ?_⟩
        refine ek _ ?_
        rw [e0, decide_eq_true (show s.col ≤ 4 by omega), Bool.true_and]
        exact decc (by omega)
      · refine ek _ ?_
        rw [e0, decide_eq_false (show ¬ s.col ≤ 4 by omega), Bool.false_and]
    have fin : (s.kind = 1 ∨ s.kind = 2) → tAndV (tOp (rI0 fun i j => .bl (decide (i ≤ j))) (tC (.int 1)) (tFld K (tVar 0) "col")) (tAndV (tOp (rI0 fun i j => .bl (decide (i ≤ j))) (tFld K (tVar 0) "col") (tC (.int 4))) (tOp rEq (tFld K (tVar 0) "how") (tC (.int 0)))) [some (.ref a)] H Q := fun hk => by
      have e0 := okStep_else hv hk
      refine ⟨_, rfl, a, C, dx, _, _, rfl, ha, T.cl, T.nCol, sf_col s, _, _, rfl, rfl, _, rfl, ?_⟩
      refine itd (fun h1 => ?_) (fun h1 => ?_)
      · refine ⟨_, rfl, a, C, dx, _, _, rfl, ha, T.cl, T.nCol, sf_col s, _, _, rfl, rfl, _, rfl, ?_⟩
        refine itd (fun h2 => ?_) (fun h2 => ?_)
        · refine ⟨_, rfl, a, C, dx, _, _, rfl, ha, T.cl, T.nHow, sf_how s, rfl, ?_⟩
          refine ek _ ?_
          rw [e0, decide_eq_true (show 1 ≤ s.col by omega), decide_eq_true (show s.col ≤ 4 by omega), Bool.true_and, Bool.true_and, dec_cell]
          exact decc (by omega)
        · refine ek _ ?_
          rw [e0, decide_eq_false (show ¬ s.col ≤ 4 by omega), Bool.false_and, Bool.and_false]
      · refine ek _ ?_
        rw [e0, decide_eq_false (show ¬ 1 ≤ s.col by omega), Bool.false_and]
    refine ⟨_, rfl, a, C, dx, _, _, rfl, ha, T.cl, T.nKind, sf_kind s, rfl, _, rfl, ?_⟩
    rw [dec_cell]
    refine itd (fun h1 => fin (.inl (by omega))) (fun h1 => ?_)
    refine ⟨_, rfl, a, C, dx, _, _, rfl, ha, T.cl, T.nKind, sf_kind s, rfl, _, rfl, ?_⟩
    rw [dec_cell]
    refine itd (fun h2 => fin (.inr (by omega))) (fun h2 => ?_)
    exact ek _ (okStep_no (by omega) (by omega))
end
end Vm

end
section
set_option Elab.async false
set_option linter.all false
set_option maxRecDepth 100000
set_option maxHeartbeats 2000000
namespace Vm
open PySem PySem.Spec PyProof.Rows L2

/-! ### a def of the module, a method, a class, as its callers see it -/
def DefOk (P : Program) (w : World) (K : PySem.W.Frag) (mg : Str → Option Value) (base : Heap) (k : Nat) (x : Str) (ps : List Str) (sp : Sp) : Prop :=
  ∃ (f : Addr) (fd : FuncData), mg x = some (.ref f) ∧ PySem.W.keepIn K (.ref f) = true ∧ FnOk P w K mg base CX0 k f fd ps sp ∧ Binds K fd ps []
def MethOk (P : Program) (w : World) (K : PySem.W.Frag) (mg : Str → Option Value) (base : Heap) (k : Nat) (C : Addr) (m : Str) (ps : List Str) (sp : Sp) : Prop :=
  ∃ (f : Addr) (fd : FuncData), Meth K C m f ∧ FnOk P w K mg base CX0 k f fd ps sp ∧ Binds K fd ps []
def MakeOk (P : Program) (w : World) (K : PySem.W.Frag) (mg : Str → Option Value) (base : Heap) (k : Nat) (x : Str) (C : Addr) (ps : List Str) (sp : Sp) : Prop :=
  ∃ (f : Addr) (fd : FuncData), Mk K C f ∧ mg x = some (.ref C) ∧ FnOk P w K mg base CX0 k f fd ps sp ∧ Binds K fd ps []
section
variable {X : Cx} {k : Nat} {C : Addr} {ps : List Str} {sp : Sp} {x m : Str} {p pos apos : Pos} {e o : Expr} {es : List Expr} {ta : TE} {t : TA}
theorem pe_def (D : DefOk X.prog X.w X.K X.mg X.base k x ps sp) (hr : Room k X.A) (hg : Gl X x) (ha : PA X (e :: es) t) (hdb : (x == ("__debug__" : Str)) = false := by decide)
    (he : starEach (e :: es) X.env = (false, eval e X.env) :: starEach es X.env := by rfl) (hpl : (backTo pos (starEach es X.env)).any (·.1) = false := by rfl) :
    PE X (.Call (.Name x p) (e :: es) [] pos) (tCall sp [] E0 t) :=
  let ⟨_, _, h1, h2, h3, h4⟩ := D
  pe_call h3 hr hg h1 h2 h4 .nil pass0 ha hdb he hpl
theorem pe_mk (D : MakeOk X.prog X.w X.K X.mg X.base k x C ps sp) (hr : Room (k + 1) X.A) (hg : Gl X x) (ha : PA X (e :: es) t) (hdb : (x == ("__debug__" : Str)) = false := by decide)
    (he : starEach (e :: es) X.env = (false, eval e X.env) :: starEach es X.env := by rfl) (hpl : (backTo pos (starEach es X.env)).any (·.1) = false := by rfl) :
    PE X (.Call (.Name x p) (e :: es) [] pos) (tMake C sp [] E0 t) :=
  let ⟨_, _, h1, h2, h3, h4⟩ := D
  pe_make h1 h3 hr hg h2 h4 .nil pass0 ha hdb he hpl
theorem pe_mk0 (D : MakeOk X.prog X.w X.K X.mg X.base k x C ps sp) (hr : Room (k + 1) X.A) (hg : Gl X x) (hdb : (x == ("__debug__" : Str)) = false := by decide) : PE X (.Call (.Name x p) [] [] pos) (tMake C sp [] E0 tNil) :=
  let ⟨_, _, h1, h2, h3, h4⟩ := D
  pe_make0 h1 h3 hr hg h2 h4 .nil pass0 hdb
theorem pe_mth {pl : Sem Bool} (D : MethOk X.prog X.w X.K X.mg X.base k C m ps sp) (he : PE X o ta) (c : Cls X.K C) (hr : Room k X.A) (ha : PA X (e :: es) t)
    (hst : starEach (e :: es) X.env = (false, eval e X.env) :: starEach es X.env := by rfl) (hpl : (backTo pos (starEach es X.env)).any (·.1) = false := by rfl)
    (ht : eval (.Call (.Attribute o m apos) (e :: es) [] pos) X.env = (do
      let ov ← eval o X.env
      standAt apos.atName
      let (f, first) ← holding [ov] (getMethod ov m pl)
      callWith pos f first (backTo pos (starEach (e :: es) X.env)) (backToKw pos (keywordEach [] X.env))) := by rfl) :
    PE X (.Call (.Attribute o m apos) (e :: es) [] pos) (tMeth C m sp [] E0 ta t) :=
  let ⟨_, _, h1, h2, h3⟩ := D
  pe_meth he c h1 h2 hr h3 .nil pass0 ha hst hpl ht
theorem pe_mth0 {pl : Sem Bool} (D : MethOk X.prog X.w X.K X.mg X.base k C m ps sp) (he : PE X o ta) (c : Cls X.K C) (hr : Room k X.A)
    (ht : eval (.Call (.Attribute o m apos) [] [] pos) X.env = (do
      let ov ← eval o X.env
      standAt apos.atName
      let (f, first) ← holding [ov] (getMethod ov m pl)
      callWith pos f first (backTo pos (starEach [] X.env)) (backToKw pos (keywordEach [] X.env))) := by rfl) :
    PE X (.Call (.Attribute o m apos) [] [] pos) (tMeth C m sp [] E0 ta tNil) :=
  let ⟨_, _, h1, h2, h3⟩ := D
  pe_meth0 he c h1 h2 hr h3 .nil pass0 ht
end

/-- within a comprehension's block the written part is named (its reading is chosen ahead of the block) -/
theorem pfK {X : Cx} (K : PySem.W.Frag) {e : Expr} {f : Str} {pos : Pos} {ta : TE} (he : PE X e ta) (hK : X.K = K := by rfl) (hb : attributeBase e f X.env (eval e X.env) = eval e X.env := by rfl) : PE X (.Attribute e f pos) (tFld K ta f) := by
  subst hK
  exact pe_fld he hb
theorem pixT {X : Cx} (K : PySem.W.Frag) {a b : Expr} {ta tb : TE} {pos : Pos} (ha : PE X a ta) (hb : PE X b tb) (hK : X.K = K := by rfl) (hs : PlainIx b := by intro _ _; rfl) : PE X (.Subscript a b pos) (tOp (rIxT K) ta tb) := by
  subst hK
  exact pe_ix ix_tup ha hb hs
theorem pixL {X : Cx} (K : PySem.W.Frag) {a b : Expr} {ta tb : TE} {pos : Pos} (ha : PE X a ta) (hb : PE X b tb) (hK : X.K = K := by rfl) (hs : PlainIx b := by intro _ _; rfl) : PE X (.Subscript a b pos) (tOp (rIxL K) ta tb) := by
  subst hK
  exact pe_ix ix_list ha hb hs
theorem tyes {σ : L2.St} {H : Hp} {A B : Hp → Prop} (h : A H) : tYes σ H fun b H3 => if b = true then A H3 else B H3 := by
  show if true = true then A H else B H
  rw [if_pos rfl]
  exact h

/-! ### a view's numbers -/
theorem view_len : ∀ (ns : List Int), ns.length % 4 = 0 → (Kh303Neutral.view ns).length * 4 = ns.length
  | [], _ => rfl
  | [_], h => by simp at h
  | [_, _], h => by simp at h
  | [_, _, _], h => by simp at h
  | a :: b :: c :: d :: l, h => by
    have ih := view_len l (by simp only [List.length_cons] at h; omega)
    show ((Kh303Neutral.view l).length + 1) * 4 = l.length + 4
    omega
theorem view_at : ∀ {ns : List Int} {i : Nat} {s : Kh302.Step}, (∀ z ∈ ns, (0 : Int) ≤ z) → (Kh303Neutral.view ns)[i]? = some s →
    ns[4 * i]? = some (s.kind : Int) ∧ ns[4 * i + 1]? = some (s.col : Int) ∧ ns[4 * i + 2]? = some (s.how : Int) ∧ ns[4 * i + 3]? = some (s.value : Int)
  | [], _, _, _, h => by simp [Kh303Neutral.view] at h
  | [_], _, _, _, h => by simp [Kh303Neutral.view] at h
  | [_, _], _, _, _, h => by simp [Kh303Neutral.view] at h
  | [_, _, _], _, _, _, h => by simp [Kh303Neutral.view] at h
  | a :: b :: c :: d :: l, 0, s, hz, h => by
    have e : (⟨Kh303Neutral.nat a, Kh303Neutral.nat b, Kh303Neutral.nat c, Kh303Neutral.nat d⟩ : Kh302.Step) = s := Option.some.inj h
    have ha := hz a (by simp)
    have hb := hz b (by simp)
    have hc := hz c (by simp)
    have hd := hz d (by simp)
    have key : ∀ z : Int, 0 ≤ z → some z = some ((Kh303Neutral.nat z : Nat) : Int) := fun z h => by
      unfold Kh303Neutral.nat
      rw [Int.toNat_of_nonneg h]
    subst e
    exact ⟨key a ha, key b hb, key c hc, key d hd⟩
  | a :: b :: c :: d :: l, i + 1, s, hz, h => by
    have ih := view_at (ns := l) (i := i) (s := s) (fun z m => hz z (by simp [m])) h
    have e : 4 * (i + 1) = 4 * i + 4 := by omega
    rw [e]
    exact ih
theorem view_lt : ∀ {ns : List Int}, (∀ z ∈ ns, U32 z) → ∀ s ∈ Kh303Neutral.view ns, s.value < Kh302.W
  | [], _, s, h => by simp [Kh303Neutral.view] at h
  | [_], _, s, h => by simp [Kh303Neutral.view] at h
  | [_, _], _, s, h => by simp [Kh303Neutral.view] at h
  | [_, _, _], _, s, h => by simp [Kh303Neutral.view] at h
  | a :: b :: c :: d :: l, hz, s, h => by
    have h : s ∈ (⟨Kh303Neutral.nat a, Kh303Neutral.nat b, Kh303Neutral.nat c, Kh303Neutral.nat d⟩ : Kh302.Step) :: Kh303Neutral.view l := h
    rcases List.mem_cons.mp h with e | e
    · subst e
      have hd := hz d (by simp)
      have hW : Kh302.W = 4294967296 := by decide
      show d.toNat < Kh302.W
      rw [hW]
      have := hd.1
      have := hd.2
      omega
    · exact view_lt (fun z m => hz z (by simp [m])) s e

/-! ### the promises -/
def spStepsOf (K : PySem.W.Frag) (C : Addr) : Sp := fun vs H Q _ => ∃ (l : Addr) (ns : List Int), vs = [.ref l] ∧ SqL K H l (ns.map V.int) ∧ ns.length % 4 = 0 ∧ ns.length ≤ 48 ∧ (∀ z ∈ ns, (0 : Int) ≤ z) ∧
  ∀ (H' : Hp) (p : Addr), ViewAt C H' p (Kh303Neutral.view ns) → H p = Option.none → Same H H' → Q (.ref p) H'
def spIsView (C : Addr) : Sp := fun vs H Q _ => ∃ (l : Addr) (v : Kh302.View), vs = [.ref l] ∧ ViewAt C H l v ∧ v.length ≤ 1000 ∧ (∀ s ∈ v, s.value < Kh302.W) ∧ ∀ H' : Hp, Same H H' → Q (.bl (Kh302.okView v)) H'
def spShownBy (C : Addr) : Sp := fun vs H Q _ => ∃ (l a : Addr) (t : Kh302.Table) (s : Kh302.Step), vs = [.ref l, .ref a] ∧ TabAt H l t ∧ StepAt C H a s ∧ Kh302.okStep s = true ∧ RowsOk t ∧ t.length ≤ 1000 ∧
  ∀ (H' : Hp) (p : Addr), TabAt H' p (Kh302.shows s t) → H p = Option.none → Same H H' → Q (.ref p) H'
def spShown (C : Addr) : Sp := fun vs H Q _ => ∃ (l a : Addr) (t : Kh302.Table) (v : Kh302.View), vs = [.ref l, .ref a] ∧ TabAt H l t ∧ ViewAt C H a v ∧ (∀ s ∈ v, Kh302.okStep s = true) ∧ RowsOk t ∧ t.length ≤ 1000 ∧
  ∀ (H' : Hp) (p : Addr), TabAt H' p (Kh302.get v t) → H p = Option.none → Same H H' → Q (.ref p) H'

section
variable {P : Program} {w : World} {K : PySem.W.Frag} {mg : Str → Option Value} {base : Heap}

/-! steps_of -/
theorem fits_small {i : Int} (h1 : -1000 ≤ i) (h2 : i ≤ 1000) : Builtin.Range.rangeFitsLong i = true := by
  unfold Builtin.Range.rangeFitsLong
  rw [Bool.and_eq_true, decide_eq_true_eq, decide_eq_true_eq]
  omega
theorem rgc4 {n m : Nat} (h : m * 4 = n) (hn : n ≤ 48) : RgC 0 (n : Int) 4 m := by
  have e : Builtin.Range.rangeSize 0 (n : Int) 4 = (m : Int) := by
    unfold Builtin.Range.rangeSize
    rw [if_pos (by decide)]
    split <;> omega
  refine ⟨by decide, by decide, ?_, e⟩
  unfold Builtin.Range.small
  rw [e, fits_small (by decide) (by decide), fits_small (i := (n : Int)) (by omega) (by omega), fits_small (i := 4) (by decide) (by decide), fits_small (i := (m : Int)) (by omega) (by omega), if_pos (by decide), fits_small (i := (n : Int) + (4 - 1)) (by omega) (by omega)]
  simp
theorem scStepsOf : FnScope ["numbers", "place"] ["numbers"] (defScope sStepsOf) := ⟨rfl, rfl, rfl, by decide +kernel, rfl, by decide +kernel, by decide +kernel⟩
theorem ok_stepsOf {f C : Addr} {fd : FuncData} (F : Fun K "steps_of" "steps_of" sStepsOf f fd) (T : Txt K mg C) (D1 : DefOk P w K mg base 3 "step_at" ["numbers", "place"] (spStepAt K C)) : FnOk P w K mg base CX0 4 f fd ["numbers"] (spStepsOf K C) := by
  refine F.ok scStepsOf (fun vs H Q E h => ?_) (fun cdv A outer s H vs Q E hr h => ?_)
  · obtain ⟨l, ns, rfl, _⟩ := h
    rfl
  · obtain ⟨l, ns, rfl, hS, h4, h48, hz, k⟩ := h
    refine ⟨_, pss_one (ps_ret (pe_lc rfl scStepsOf.nd (pi_range3 (by rfl) T.range (pa_cons pe_int (pa_cons (pe_callB call_len_seq (by rfl) T.len PySem.boot_len (pa_cons (pv 0) pa_nil)) (pa_cons (pe_cst rfl T.four) pa_nil))))
      (blkOk_by (own := [("place", 1)]) (by kernel_rfl)) (fun _ _ _ _ _ => pg_name (i := 1) scStepsOf.nd rfl (Or.inl rfl)) (fun _ _ _ _ _ => pts_nil)
      (fun _ _ _ _ _ => pe_def D1 hr rfl (pa_cons (pv 0) (pa_cons (pv 1) pa_nil))))), ?_⟩
    have hv := view_len ns h4
    refine ⟨_, rfl, l, _, rfl, .inl hS, 0, _, 4, (Kh303Neutral.view ns).length, rfl, ?_, fun D hD => lc_rangeC
      (fun i H' => ∃ as : List Addr, H' D = some (.lst (as.map V.ref)) ∧ Steps C H' as ((Kh303Neutral.view ns).take i) ∧ Same H H')
      ⟨[], upd_same, .nil, Same.new hD⟩ ?_ ?_⟩
    · rw [List.length_map]; exact rgc4 hv h48
    · rintro i H' hi ⟨as, hD', hA, sm⟩
      refine ⟨rfl, tyes ?_⟩
      obtain ⟨st, hst⟩ : ∃ st, (Kh303Neutral.view ns)[i]? = some st := ⟨_, List.getElem?_eq_getElem hi⟩
      obtain ⟨a0, a1, a2, a3⟩ := view_at hz hst
      refine ⟨_, rfl, _, rfl, l, ns, 4 * i, st, ?_, sm.seq hS, a0, a1, a2, a3, fun H4 a ha s4 => ?_⟩
      · show [V.ref l, V.int (0 + (i : Int) * 4)] = [V.ref l, V.int ((4 * i : Nat) : Int)]
        rw [show (0 + (i : Int) * 4) = ((4 * i : Nat) : Int) by omega]
      have hl : as.length ≤ 48 := by
        have e := Paired.length hA
        rw [List.length_take] at e
        omega
      have h4D := s4 D _ hD'
      refine ⟨_, h4D, by rw [List.length_map]; exact Nat.lt_of_le_of_lt hl (by decide), as ++ [a], ?_, ?_, Same.put (sm.trans s4) hD⟩
      · rw [upd_same, List.map_append]; rfl
      · rw [take_snoc hst]
        exact Steps.upd (Paired.snoc (hA.same s4) ha) h4D
    · rintro H' ⟨as, hD', hA, sm⟩
      rw [List.take_length] at hA
      exact k H' D ⟨as, hD', hA⟩ hD sm

/-! is_view -/
theorem scIsView : FnScope ["steps", "step"] ["steps"] (defScope sIsView) := ⟨rfl, rfl, rfl, by decide +kernel, rfl, by decide +kernel, by decide +kernel⟩
theorem ok_isView {f C : Addr} {fd : FuncData} (F : Fun K "is_view" "is_view" sIsView f fd) (T : Txt K mg C) (D1 : DefOk P w K mg base 1 "is_step" ["step"] (spIsStep C)) : FnOk P w K mg base CX0 2 f fd ["steps"] (spIsView C) := by
  refine F.ok scIsView (fun vs H Q E h => ?_) (fun cdv A outer s H vs Q E hr h => ?_)
  · obtain ⟨l, v, rfl, _⟩ := h
    rfl
  · obtain ⟨l, v, rfl, ⟨as, hl, hA⟩, hn, hw, k⟩ := h
    refine ⟨_, pss_one (ps_ret (pe_and (pe_cmpR op_le (pe_callB call_len_seq (by rfl) T.len PySem.boot_len (pa_cons (pv 0) pa_nil)) (pe_cst rfl T.most) (nomark _))
      (pe_one (pe_callB (cr_all rfl) (by rfl) T.all PyProof.Rows.boot_all (pa_cons (pe_lc rfl scIsView.nd (pi_list (pv 0)) (blkOk_by (own := [("step", 1)]) (by kernel_rfl)) (fun _ _ _ _ _ => pg_name (i := 1) scIsView.nd rfl (Or.inl rfl)) (fun _ _ _ _ _ => pts_nil)
        (fun _ _ _ _ _ => pe_def D1 hr rfl (pa_cons (pv 1) pa_nil))) pa_nil))))), ?_⟩
    have hlen := Paired.length hA
    refine ⟨_, rfl, l, _, rfl, .inl (SqL.of hl), _, _, rfl, rfl, _, rfl, ?_⟩
    rw [List.length_map, hlen]
    refine itd (fun h8 => ?_) (fun h8 => ?_)
    · refine ⟨_, rfl, l, rfl, ⟨_, SqL.of hl⟩, fun D hD => lc_list (K := K) (a := l) (xs := as.map V.ref) (fun i H' => H' D = some (.lst (((v.take i).map Kh302.okStep).map V.bl)) ∧ Same H H') ⟨upd_same, Same.new hD⟩
        (fun i H' _ ⟨_, sm⟩ => SqL.of (sm _ _ hl)) ?_ ?_⟩
      · rintro i x H' hx ⟨hD', sm⟩
        obtain ⟨a, ha, rfl⟩ := map_get hx
        obtain ⟨st, hst, dx, hs⟩ := paired_get hA ha
        refine ⟨rfl, tyes ?_⟩
        refine ⟨_, rfl, a, st, rfl, ⟨dx, sm _ _ hs⟩, hw st (List.mem_of_getElem? hst), _, hD', ?_, ?_, Same.put sm hD⟩
        · rw [List.length_map, List.length_map, List.length_take]
          exact Nat.lt_of_le_of_lt (Nat.le_trans (Nat.min_le_right _ _) hn) (by decide)
        · rw [upd_same, take_snoc hst, List.map_append, List.map_append]; rfl
      · rintro H' ⟨hD', sm⟩
        rw [List.length_map, hlen, List.take_length] at hD'
        refine ⟨D, v.map Kh302.okStep, rfl, SqL.of hD', ?_⟩
        have e : (v.map Kh302.okStep).all id = Kh302.okView v := by
          unfold Kh302.okView
          rw [decide_eq_true (show v.length ≤ 8 by omega), Bool.true_and, List.all_map]; rfl
        rw [e]
        exact k H' sm
    · have e : Kh302.okView v = false := by
        unfold Kh302.okView
        rw [decide_eq_false (show ¬ v.length ≤ 8 by omega), Bool.false_and]
      have q := k H (Same.refl H)
      rw [e] at q
      exact q

/-! shown_by_step -/
theorem width {t : Kh302.Table} {r : Kh302.Row} (h : RowsOk t) (m : r ∈ t) : r.cols.length = 4 := ((okRow_iff r).mp (h r m)).2.1
theorem scShownBy : FnScope ["rows", "step", "row"] ["rows", "step"] (defScope sShownBy) := ⟨rfl, rfl, rfl, by decide +kernel, rfl, by decide +kernel, by decide +kernel⟩
theorem ok_shownBy {f C : Addr} {fd : FuncData} (F : Fun K "shown_by_step" "shown_by_step" sShownBy f fd) (T : Txt K mg C) (D1 : DefOk P w K mg base 1 "keeps" ["step", "row"] (spKeeps C))
    (D2 : DefOk P w K mg base 1 "with_number" ["row", "col", "number"] spWith) : FnOk P w K mg base CX0 2 f fd ["rows", "step"] (spShownBy C) := by
  refine F.ok scShownBy (fun vs H Q E h => ?_) (fun cdv A outer s H vs Q E hr h => ?_)
  · obtain ⟨l, a, t, s, rfl, _⟩ := h
    rfl
  · obtain ⟨l, a, t, st, rfl, ⟨as, hl, hA⟩, ⟨dx, ha⟩, os, rt, hn, k⟩ := h
    refine ⟨_, pss_cons (ps_if (pt_cmpR op_eq (pfK K (pv 1)) (pe_cst rfl T.keep) (nomark _))
        (pss_one (ps_ret (pe_lc rfl scShownBy.nd (pi_list (pv 0)) (blkOk_by (own := [("row", 2)]) (by kernel_rfl)) (fun _ _ _ _ _ => pg_name (i := 2) scShownBy.nd rfl (Or.inl rfl))
          (fun _ _ _ _ _ => pts_one (pt_val (pe_def D1 hr rfl (pa_cons (pv 1) (pa_cons (pv 2) pa_nil))))) (fun _ _ _ _ _ => pv 2)))) pss_nil)
      (pss_cons (ps_if (pt_cmpR op_eq (pfK K (pv 1)) (pe_cst rfl T.hide) (nomark _))
        (pss_one (ps_ret (pe_lc rfl scShownBy.nd (pi_list (pv 0)) (blkOk_by (own := [("row", 2)]) (by kernel_rfl)) (fun _ _ _ _ _ => pg_name (i := 2) scShownBy.nd rfl (Or.inl rfl))
          (fun _ _ _ _ _ => pts_nil) (fun _ _ _ _ _ => pe_def D2 hr rfl (pa_cons (pv 2) (pa_cons (pfK K (pv 1)) (pa_cons pe_int pa_nil))))))) pss_nil)
      (pss_one (ps_ret (pe_lc rfl scShownBy.nd (pi_list (pv 0)) (blkOk_by (own := [("row", 2)]) (by kernel_rfl)) (fun _ _ _ _ _ => pg_name (i := 2) scShownBy.nd rfl (Or.inl rfl))
          (fun _ _ _ _ _ => pts_nil) (fun _ _ _ _ _ => pe_def D2 hr rfl (pa_cons (pv 2) (pa_cons (pfK K (pv 1)) (pa_cons (pe_op op_mod (pe_op op_add (pixT K (pv 2) (pfK K (pv 1))) (pfK K (pv 1))) (pe_cst rfl T.modu)) pa_nil)))))))), ?_⟩
    have hlen := Paired.length hA
    have os' := (okStep_iff st).mp os
    have small : ∀ {bs : List Addr} {u : Kh302.Table} {H' : Hp}, Rows H' bs u → u.length ≤ 1000 → (bs.map V.ref).length < sizeLine := fun {bs u H'} hr hu => by
      rw [List.length_map, Paired.length hr]
      exact Nat.lt_of_le_of_lt hu (by decide)
    -- keep
    refine ⟨_, rfl, a, C, dx, _, _, rfl, ha, T.cl, T.nKind, sf_kind st, rfl, _, rfl, ?_⟩
    rw [dec_cell]
    refine itd (fun h0 => ?_) (fun h0 => ?_)
    · have k0 : st.kind = 0 := by omega
      have sh : Kh302.shows st t = t.filter (Kh302.keeps st) := by unfold Kh302.shows; rw [if_pos k0]
      refine ⟨_, rfl, l, rfl, ⟨_, SqL.of hl⟩, fun D hD => lc_list (K := K) (a := l) (xs := as.map V.ref)
        (fun i H' => ∃ bs : List Addr, H' D = some (.lst (bs.map V.ref)) ∧ Rows H' bs ((t.take i).filter (Kh302.keeps st)) ∧ Same H H') ⟨[], upd_same, .nil, Same.new hD⟩
        (fun i H' _ ⟨_, _, _, sm⟩ => SqL.of (sm _ _ hl)) ?_ ?_⟩
      · rintro i x H' hx ⟨bs, hD', hB, sm⟩
        obtain ⟨b, hb, rfl⟩ := map_get hx
        obtain ⟨r, hr', hrow⟩ := paired_get hA hb
        have hrow' : RowAt H' b r := sm _ _ hrow
        refine ⟨rfl, _, rfl, _, rfl, a, b, st, r, rfl, ⟨dx, sm _ _ ha⟩, hrow', by omega, width rt (List.mem_of_getElem? hr'), _, rfl, ?_⟩
        have et : (t.take (i + 1)).filter (Kh302.keeps st) = (t.take i).filter (Kh302.keeps st) ++ (if Kh302.keeps st r = true then [r] else []) := by
          rw [take_snoc hr', List.filter_append, List.filter_cons, List.filter_nil]
        refine itb (fun hk => ?_) (fun hk => ?_)
        · refine ⟨_, rfl, _, hD', small hB ?_, bs ++ [b], ?_, ?_, Same.put sm hD⟩
          · refine Nat.le_trans (List.length_filter_le ..) ?_
            rw [List.length_take]
            exact Nat.le_trans (Nat.min_le_right _ _) hn
          · rw [upd_same, List.map_append]; rfl
          · rw [et, if_pos hk]
            exact Rows.upd (Paired.snoc hB hrow') hD'
        · refine ⟨bs, hD', ?_, sm⟩
          rw [et, if_neg (by rw [hk]; decide), List.append_nil]
          exact hB
      · rintro H' ⟨bs, hD', hB, sm⟩
        rw [List.length_map, hlen, List.take_length] at hB
        exact k H' D ⟨bs, hD', by rw [sh]; exact hB⟩ hD sm
    have hc : 1 ≤ st.col ∧ st.col ≤ 4 := by omega
    -- hide
    refine ⟨_, rfl, a, C, dx, _, _, rfl, ha, T.cl, T.nKind, sf_kind st, rfl, _, rfl, ?_⟩
    rw [dec_cell]
    have step : ∀ {D : Addr} {i : Nat} {bs : List Addr} {H' H4 : Hp} {g : Kh302.Row → Kh302.Row} {r : Kh302.Row} {p : Addr}, H D = Option.none → H' D = some (.lst (bs.map V.ref)) → Rows H' bs ((t.take i).map g) → Same H H' → t[i]? = some r → RowAt H4 p (g r) → Same H' H4 →
        ∃ acc, H4 D = some (.lst acc) ∧ acc.length < sizeLine ∧ ∃ cs : List Addr, upd H4 D (.lst (acc ++ [V.ref p])) D = some (.lst (cs.map V.ref)) ∧ Rows (upd H4 D (.lst (acc ++ [V.ref p]))) cs ((t.take (i + 1)).map g) ∧ Same H (upd H4 D (.lst (acc ++ [V.ref p]))) :=
      fun {D i bs H' H4 g r p} hD hD' hB sm hr' hp s4 => by
        refine ⟨_, s4 _ _ hD', small hB ?_, bs ++ [p], ?_, ?_, Same.put (sm.trans s4) hD⟩
        · rw [List.length_map, List.length_take]
          exact Nat.le_trans (Nat.min_le_right _ _) hn
        · rw [upd_same, List.map_append]; rfl
        · rw [take_snoc hr', List.map_append]
          exact Rows.upd (Paired.snoc (hB.same s4) hp) (s4 _ _ hD')
    refine itd (fun h1 => ?_) (fun h1 => ?_)
    · have sh : Kh302.shows st t = t.map fun r => r.set st.col 0 := by unfold Kh302.shows; rw [if_neg (by omega), if_pos (by omega)]
      refine ⟨_, rfl, l, rfl, ⟨_, SqL.of hl⟩, fun D hD => lc_list (K := K) (a := l) (xs := as.map V.ref)
        (fun i H' => ∃ bs : List Addr, H' D = some (.lst (bs.map V.ref)) ∧ Rows H' bs ((t.take i).map fun r => r.set st.col 0) ∧ Same H H') ⟨[], upd_same, .nil, Same.new hD⟩
        (fun i H' _ ⟨_, _, _, sm⟩ => SqL.of (sm _ _ hl)) ?_ ?_⟩
      · rintro i x H' hx ⟨bs, hD', hB, sm⟩
        obtain ⟨b, hb, rfl⟩ := map_get hx
        obtain ⟨r, hr', hrow⟩ := paired_get hA hb
        have hrow' : RowAt H' b r := sm _ _ hrow
        refine ⟨rfl, tyes ?_⟩
        refine ⟨_, rfl, _, rfl, a, C, dx, _, _, rfl, sm _ _ ha, T.cl, T.nCol, sf_col st, b, r, st.col, 0, rfl, hrow', hc.1, hc.2, width rt (List.mem_of_getElem? hr'), fun H4 p hp s4 => ?_⟩
        exact step (g := fun r => r.set st.col 0) hD hD' hB sm hr' hp s4
      · rintro H' ⟨bs, hD', hB, sm⟩
        rw [List.length_map, hlen, List.take_length] at hB
        exact k H' D ⟨bs, hD', by rw [sh]; exact hB⟩ hD sm
    -- shift
    have sh : Kh302.shows st t = t.map fun r => r.set st.col ((r.col st.col + st.value) % Kh302.W) := by unfold Kh302.shows; rw [if_neg (by omega), if_neg (by omega)]
    refine ⟨_, rfl, l, rfl, ⟨_, SqL.of hl⟩, fun D hD => lc_list (K := K) (a := l) (xs := as.map V.ref)
      (fun i H' => ∃ bs : List Addr, H' D = some (.lst (bs.map V.ref)) ∧ Rows H' bs ((t.take i).map fun r => r.set st.col ((r.col st.col + st.value) % Kh302.W)) ∧ Same H H') ⟨[], upd_same, .nil, Same.new hD⟩
      (fun i H' _ ⟨_, _, _, sm⟩ => SqL.of (sm _ _ hl)) ?_ ?_⟩
    · rintro i x H' hx ⟨bs, hD', hB, sm⟩
      obtain ⟨b, hb, rfl⟩ := map_get hx
      obtain ⟨r, hr', hrow⟩ := paired_get hA hb
      have hrow' : RowAt H' b r := sm _ _ hrow
      have hw := width rt (List.mem_of_getElem? hr')
      have ha' := sm _ _ ha
      refine ⟨rfl, tyes ?_⟩
      refine ⟨_, rfl, _, rfl, a, C, dx, _, _, rfl, ha', T.cl, T.nCol, sf_col st, ?_⟩
      refine ⟨_, rfl, _, rfl, a, C, dx, _, _, rfl, ha', T.cl, T.nCol, sf_col st, b, _, _, _, rfl, rfl, SqT.of hrow', at_of (j := st.col) rfl (rowV_at hw hc.2), ?_⟩
      refine ⟨_, rfl, a, C, dx, _, _, rfl, ha', T.cl, T.nValue, sf_value st, _, _, rfl, rfl, _, _, rfl, rfl, (by show (0 : Int) < 4294967296; decide), ?_⟩
      refine ⟨b, r, st.col, (r.col st.col + st.value) % Kh302.W, ?_, hrow', hc.1, hc.2, hw, fun H4 p hp s4 => ?_⟩
      · show [V.ref b, V.int (st.col : Int), V.int (((r.col st.col : Int) + (st.value : Int)) % 4294967296)] = [V.ref b, V.int (st.col : Int), V.int (((r.col st.col + st.value) % Kh302.W : Nat) : Int)]
        have hW : Kh302.W = 4294967296 := by decide
        rw [hW, show ((r.col st.col : Int) + (st.value : Int)) % 4294967296 = (((r.col st.col + st.value) % 4294967296 : Nat) : Int) by omega]
      · exact step (g := fun r => r.set st.col ((r.col st.col + st.value) % Kh302.W)) hD hD' hB sm hr' hp s4
    · rintro H' ⟨bs, hD', hB, sm⟩
      rw [List.length_map, hlen, List.take_length] at hB
      exact k H' D ⟨bs, hD', by rw [sh]; exact hB⟩ hD sm

/-! shown -/
theorem get_snoc {v : Kh302.View} {i : Nat} {s : Kh302.Step} (h : v[i]? = some s) (t : Kh302.Table) : Kh302.get (v.take (i + 1)) t = Kh302.shows s (Kh302.get (v.take i) t) := by
  rw [take_snoc h]
  unfold Kh302.get
  rw [List.foldl_append]
  rfl
theorem scShown : FnScope ["rows", "steps", "seen", "step"] ["rows", "steps"] (defScope sShown) := ⟨rfl, rfl, rfl, by decide +kernel, rfl, by decide +kernel, by decide +kernel⟩
theorem ok_shown {f C : Addr} {fd : FuncData} (F : Fun K "shown" "shown" sShown f fd) (T : Txt K mg C) (D1 : DefOk P w K mg base 2 "shown_by_step" ["rows", "step"] (spShownBy C)) : FnOk P w K mg base CX0 3 f fd ["rows", "steps"] (spShown C) := by
  refine F.ok scShown (fun vs H Q E h => ?_) (fun cdv A outer s H vs Q E hr h => ?_)
  · obtain ⟨l, a, t, v, rfl, _⟩ := h
    rfl
  · obtain ⟨l, a, t, v, rfl, ⟨as, hl, hA⟩, ⟨ss, ha, hs⟩, os, rt, hn, k⟩ := h
    refine ⟨_, pss_cons (ps_set (i := 2) scShown.nd rfl (Or.inl rfl) (pe_callTy call_list_of (by rfl) T.list PyProof.Rows.boot_list (pa_cons (pv 0) pa_nil)))
      (pss_cons (ps_for PassesOwn.never rfl (pi_list (pv 1)) (pg_name (i := 3) scShown.nd rfl (Or.inl rfl)) (pss_one (ps_set (i := 2) scShown.nd rfl (Or.inl rfl) (pe_def D1 hr rfl (pa_cons (pv 2) (pa_cons (pv 3) pa_nil))))))
      (pss_one (ps_ret (pv 2)))), ?_⟩
    have hlen := Paired.length hs
    refine ⟨_, rfl, l, _, rfl, .inl (SqL.of hl), fun p0 hp0 => ?_⟩
    have s0 : Same H (upd H p0 (.lst (as.map V.ref))) := Same.new hp0
    refine ⟨_, rfl, a, rfl, ⟨_, SqL.of (s0 _ _ ha)⟩, for_list (K := K) (a := a) (xs := ss.map V.ref)
      (fun i σ H' => ∃ (p : Addr) (u : Option V), σ = [some (.ref l), some (.ref a), some (.ref p), u] ∧ TabAt H' p (Kh302.get (v.take i) t) ∧ H p = Option.none ∧ Same H H')
      ⟨p0, Option.none, rfl, ⟨as, upd_same, hA.same s0⟩, hp0, s0⟩ (fun i σ H' _ ⟨_, _, _, _, _, sm⟩ => SqL.of (sm _ _ ha)) ?_ ?_⟩
    · rintro i x σ H' hx ⟨p, u, rfl, hT, hp, sm⟩
      obtain ⟨b, hb, rfl⟩ := map_get hx
      obtain ⟨st, hst, dx, hd⟩ := paired_get hs hb
      refine ⟨_, rfl, _, rfl, p, b, _, st, rfl, hT, ⟨dx, sm _ _ hd⟩, os st (List.mem_of_getElem? hst), get_rows rt, Nat.le_trans (get_len _ _) hn, fun H4 q hq hqn s4 => ?_⟩
      exact ⟨q, _, rfl, by rw [get_snoc hst]; exact hq, sm.free hqn, sm.trans s4⟩
    · rintro σ H' ⟨p, u, rfl, hT, hp, sm⟩
      rw [List.length_map, hlen, List.take_length] at hT
      exact ⟨_, rfl, k H' p hT hp sm⟩
end
end Vm

end
section
set_option Elab.async false
set_option linter.all false
set_option maxRecDepth 100000
set_option maxHeartbeats 2000000
namespace Vm
open PySem PySem.Spec PyProof.Rows L2

/-! ### a heap without some addresses: what no method stores into -/
def but (H : Hp) (L : List Addr) : Hp := fun b => if b ∈ L then Option.none else H b
theorem but_in {H : Hp} {L : List Addr} {b : Addr} (h : b ∈ L) : but H L b = Option.none := if_pos h
theorem but_out {H : Hp} {L : List Addr} {b : Addr} (h : b ∉ L) : but H L b = H b := if_neg h
theorem but_some {H : Hp} {L : List Addr} {b : Addr} {o : HO} (h : but H L b = some o) : b ∉ L ∧ H b = some o := by
  by_cases q : b ∈ L
  · rw [but_in q] at h; cases h
  · rw [but_out q] at h; exact ⟨q, h⟩
theorem but_same (H : Hp) (L : List Addr) : Same (but H L) H := fun b o h => (but_some h).2
theorem but_step {H H' : Hp} {L L' : List Addr} (h : ∀ b o, H b = some o → b ∉ L → H' b = some o ∧ b ∉ L') : Same (but H L) (but H' L') := fun b o e => by
  obtain ⟨h1, h2⟩ := but_some e
  obtain ⟨h3, h4⟩ := h b o h2 h1
  rw [but_out h4]; exact h3
/-- lists all -/
def Lists (H : Hp) (L : List Addr) : Prop := ∀ m ∈ L, ∃ xs, H m = some (.lst xs)
theorem Lists.tup {H : Hp} {L : List Addr} (h : Lists H L) {a : Addr} {xs : List V} (e : H a = some (.tup xs)) : a ∉ L := fun m => by
  obtain ⟨ys, q⟩ := h a m
  rw [q] at e; cases e
theorem Lists.ins {H : Hp} {L : List Addr} (h : Lists H L) {a C dx : Addr} {fs : List (Str × V)} (e : H a = some (.ins C dx fs)) : a ∉ L := fun m => by
  obtain ⟨ys, q⟩ := h a m
  rw [q] at e; cases e
theorem Lists.out {H : Hp} {L : List Addr} (h : Lists H L) {a : Addr} (e : H a = Option.none) : a ∉ L := fun m => by
  obtain ⟨ys, q⟩ := h a m
  rw [q] at e; cases e
theorem Lists.same {H H' : Hp} {L : List Addr} (h : Lists H L) (s : Same H H') : Lists H' L := fun m hm => by
  obtain ⟨xs, q⟩ := h m hm
  exact ⟨xs, s m _ q⟩
theorem Lists.upd {H : Hp} {L : List Addr} (h : Lists H L) (a : Addr) (ys : List V) : Lists (L2.upd H a (.lst ys)) L := fun m hm => by
  by_cases e : m = a
  · rw [e]; exact ⟨ys, upd_same⟩
  · rw [upd_ne e]; exact h m hm
theorem Rows.but {H : Hp} {L as : List Addr} {t : Kh302.Table} (h : Rows H as t) (hL : Lists H L) : Rows (but H L) as t := paired_mono (fun a r e => by
  have e : H a = some (.tup (rowV r)) := e
  show Vm.but H L a = _
  rw [but_out (hL.tup e)]; exact e) h
theorem TabAt.but {H : Hp} {L : List Addr} {p : Addr} {t : Kh302.Table} (h : TabAt H p t) (hL : Lists H L) (hp : p ∉ L) : TabAt (but H L) p t := by
  obtain ⟨as, h1, h2⟩ := h
  exact ⟨as, by rw [but_out hp]; exact h1, h2.but hL⟩
theorem ViewAt.but {C : Addr} {H : Hp} {L : List Addr} {p : Addr} {v : Kh302.View} (h : ViewAt C H p v) (hL : Lists H L) (hp : p ∉ L) : ViewAt C (but H L) p v := by
  obtain ⟨as, h1, h2⟩ := h
  exact ⟨as, by rw [but_out hp]; exact h1, paired_mono (fun a r ⟨dx, e⟩ => ⟨dx, by rw [but_out (hL.ins e)]; exact e⟩) h2⟩

/-! ### calls in the flat list -/
theorem Head.split {c : List (List Int)} {l t : List Int} (h : Head c l t) : ∃ u, l = u ++ t ∧ Head c u [] := by
  cases h with
  | begin_ => exact ⟨[0], rfl, .begin_ []⟩
  | view v t h4 h48 hu => exact ⟨1 :: (v.length : Int) :: (v ++ []), by simp, .view v [] h4 h48 hu⟩
  | many i t hi => exact ⟨[2, i], rfl, .many i [] hi⟩
  | row i k t hi hk => exact ⟨[3, i, k], rfl, .row i k [] hi hk⟩
  | find i k t hi hk => exact ⟨[4, i, k], rfl, .find i k [] hi hk⟩
  | write i r t hi h5 hu => exact ⟨5 :: i :: 5 :: (r ++ []), by simp, .write i r [] hi h5 hu⟩
  | drop i k t hi hk => exact ⟨[6, i, k], rfl, .drop i k [] hi hk⟩
  | back => exact ⟨[7], rfl, .back []⟩
theorem Head.pos {c : List (List Int)} {u : List Int} (h : Head c u []) : 0 < u.length := by
  cases h <;> simp
theorem cut_ints {ns : List Int} {k b : Nat} (hk : k ≤ b) (hb : b ≤ ns.length) : cutV (ns.map V.int) (some (k : Int)) (some (b : Int)) = ((ns.drop k).take (b - k)).map V.int := by
  unfold cutV
  rw [List.length_map, HT.sIx_nat, HT.sIx_nat, Nat.min_eq_left (show k ≤ ns.length by omega), Nat.min_eq_left hb, List.map_take, List.map_drop]
theorem cut_from {ns : List Int} {k : Nat} (hk : k ≤ ns.length) : cutV (ns.map V.int) (some (k : Int)) Option.none = (ns.drop k).map V.int := by
  unfold cutV
  rw [List.length_map, HT.sIx_nat, HT.sIx_none, Nat.min_eq_left hk, List.map_drop]
  exact List.take_of_length_le (by rw [List.length_drop, List.length_map]; exact Nat.le_refl _)
end Vm

end
section
set_option Elab.async false
set_option linter.all false
set_option maxRecDepth 100000
set_option maxHeartbeats 2000000
namespace Vm
open PySem PySem.Spec PyProof.Rows L2

/-! ### an exception on its way: B is the part of the heap that nothing of it touches -/
structure Fly (P : Program) (w : World) (outer : List Env) (H H' : Hp) (h B h' : Heap) : Prop where
  hok : HOk P w H' B
  keep : ∀ b o, h.get? b = some o → H b = Option.none → b ∉ frs outer → B.get? b = some o
  slot : ∀ b o, h.get? b = some o → H b = Option.none → b ∈ frs outer → ∃ sl, h'.get? b = some { o with slots := sl }
  free : ∀ b o, h.get? b = some o → H b = Option.none → H' b = Option.none
  there : ∀ b o, h.get? b = some o → b ∉ frs outer → ∃ o', B.get? b = some o'
  tups : ∀ b xs, H b = some (.tup xs) → H' b = some (.tup xs)
  frzs : ∀ b o u, H b = some (.frz o u) → H' b = some (.frz o u)
  tbls : ∀ b ps, H b = some (.tbl ps) → ∃ more, H' b = some (.tbl (ps ++ more))
def CXw (P : Program) (w : World) : CXT := fun outer H s E e s' =>
  ∃ (a : Addr) (cls a0 : Value) (B : Heap) (H' : Hp), e = .ref a ∧ E cls Option.none H' ∧ s'.os = s.os ∧ AllBare s'.gens ∧ Heap.FlyingW B outer a cls a0 s'.heap ∧ Fly P w outer H H' s.heap B s'.heap

theorem Fly.un {P : Program} {w : World} {outer : List Env} {H H' : Hp} {h B h' : Heap} (f : Fly P w outer H H' h B h') (st : B.StaysIn h') (fr : h'.FunFrames B outer) : Un (frs outer) [] H H' h h' := by
  refine ⟨fun b o e n hb _ => st b o (f.keep b o e n hb), fun b o e n hb _ => f.slot b o e n hb, fun b o e n _ => f.free b o e n, fun b o e _ => ?_, f.tups, f.frzs, f.tbls⟩
  by_cases hb : b ∈ frs outer
  · obtain ⟨_, o', ho', _⟩ := fr.mem hb
    exact ⟨o', ho'⟩
  · obtain ⟨o', ho'⟩ := f.there b o e hb
    exact ⟨o', st b o' ho'⟩
theorem Fly.hold {P : Program} {w : World} {outer : List Env} {H H' : Hp} {h B h' : Heap} (f : Fly P w outer H H' h B h') (st : B.StaysIn h') : HOk P w H' h' := f.hok.kept st
/-- the frames' slots may change once more -/
theorem Fly.on {P : Program} {w : World} {outer : List Env} {H H' : Hp} {h B h' h2 : Heap} (f : Fly P w outer H H' h B h') (fr : h'.FunFrames B outer) (sm : h'.UpToSlots h2) : Fly P w outer H H' h B h2 :=
  ⟨f.hok, f.keep, fun b o e n hb => by
    obtain ⟨sl, h1⟩ := f.slot b o e n hb
    obtain ⟨_, o', ho', hd⟩ := fr.mem hb
    rw [h1] at ho'
    cases ho'
    obtain ⟨sl2, h3⟩ := sm b _ h1 hd
    exact ⟨sl2, h3⟩, f.free, f.there, f.tups, f.frzs, f.tbls⟩

section
variable {X : Cx} {pins : List (Addr × Obj)} {σ : L2.St} {H : Hp} {s : Shared} {E : XK}
theorem frs_cons {env : Env} {l : List Env} {L b : Addr} (hf : env.frame = some L) (hb : b ∈ frs (env :: l)) : b = L ∨ b ∈ frs l := by
  unfold frs at hb
  rw [List.filterMap_cons, hf] at hb
  exact List.mem_cons.mp hb
/-- raised here -/
theorem fly_raise {M : Model} {E3 : Value → Shared → Prop} {h' : Heap} {e : Addr} {cls : Value} {args : List Value} (I : Inv X pins σ H s) (hst : X.stack = X.env :: X.outer) (hf : X.env.frame = some X.env.locals) (hex : X.ex = [])
    (hx : Heap.MadeExcOf s.heap h' e cls args) (hE : E cls Option.none H) :
    wpAny M X.A (leaving X.env (.ref e)) (fun _ s2 => CXw X.prog X.w X.outer X.H_0 X.s_0 E (.ref e) s2) E3 { s with heap := h' } := by
  have hA : X.A.frames = some (X.env :: X.outer) := by rw [← hst]; exact I.ok.frames
  have hin : ∀ env ∈ X.stack, ∀ a, env.frame = some a → a ∈ frs X.stack := fun env he a ha => List.mem_filterMap.mpr ⟨env, he, ha⟩
  have hF : s.heap.FunFrames (PySem.W.hideAll s.heap (frs X.stack)) (X.env :: X.outer) := by rw [← hst]; exact PySem.W.funFrames_hide I.stack hin
  have trk : ∀ b u, H b = some u → b ∉ frs X.stack := fun b u q hb => by
    have := I.stkFree b hb
    rw [q] at this; cases this
  have nfr : ∀ b o, X.s_0.heap.get? b = some o → b ∉ frs X.outer → b ∉ frs X.stack := fun b o q hb hm => by
    rw [hst] at hm
    rcases frs_cons hf hm with z | z
    · have h1 := Heap.lt_size q
      have h2 := I.ok.above
      rw [z] at h1
      exact absurd (Nat.lt_of_lt_of_le h1 h2) (Nat.lt_irrefl _)
    · exact hb z
  have nex : ∀ b, b ∉ X.ex := fun b hb => by rw [hex] at hb; simp at hb
  refine wpAny_leaves_madeW (base := PySem.W.hideAll s.heap (frs X.stack)) (h := s.heap) hA hf (fun b o q => PySem.W.of_hideAll _ q) hF hx fun h2 t x1 x2 x3 x4 => ?_
  refine ⟨e, cls, .ref t, _, H, rfl, hE, I.os, I.bare, x1, ⟨fun a o q => ?_, fun b o q n hb => ?_, fun b o q n hb => ?_, fun b o q n => I.base.free b o q n (nex b), fun b o q hb => ?_, I.base.tups, I.base.frzs, I.base.tbls⟩⟩
  · refine (I.hok a o q).stay (fun b u hb q2 => PySem.W.hideAll_get _ q2 ?_) (fun _ z => z) fun _ _ z => z
    rcases hb with z | z
    · rw [z]; exact trk a o q
    · exact trk b _ z
  · exact PySem.W.hideAll_get _ (I.base.keep b o q n hb (nex b)) (nfr b o q hb)
  · obtain ⟨sl, q1⟩ := I.base.slot b o q n hb (nex b)
    obtain ⟨_, o1, q2, hd⟩ := I.funs.mem hb
    rw [q1] at q2
    cases q2
    obtain ⟨sl2, q3⟩ := x4 b _ (hx.keeps b _ q1) hd
    exact ⟨sl2, q3⟩
  · obtain ⟨o1, q1⟩ := I.base.there b o q (nex b)
    exact ⟨o1, PySem.W.hideAll_get _ q1 (nfr b o q hb)⟩
/-- a callee's exception goes on through this frame -/
theorem fly_pass {E3 : Value → Shared → Prop} {e : Value} {s' : Shared} {M : Model} (I : Inv X pins σ H s) (hst : X.stack = X.env :: X.outer) (hf : X.env.frame = some X.env.locals) (hex : X.ex = [])
    (hc : CXw X.prog X.w X.stack H s E e s') : wpAny M X.A (leaving X.env e) (fun _ s2 => CXw X.prog X.w X.outer X.H_0 X.s_0 E e s2) E3 s' := by
  obtain ⟨a, cls, a0, B, H', rfl, hE, hos, hbare, hfl, f⟩ := hc
  have hA : X.A.frames = some (X.env :: X.outer) := by rw [← hst]; exact I.ok.frames
  have nfr : ∀ b o, X.s_0.heap.get? b = some o → b ∉ frs X.outer → b ∉ frs X.stack := fun b o q hb hm => by
    rw [hst] at hm
    rcases frs_cons hf hm with z | z
    · have h1 := Heap.lt_size q
      have h2 := I.ok.above
      rw [z] at h1
      exact absurd (Nat.lt_of_lt_of_le h1 h2) (Nat.lt_irrefl _)
    · exact hb z
  have inS : ∀ b, b ∈ frs X.outer → b ∈ frs X.stack := fun b hb => by
    rw [hst]
    unfold frs
    rw [List.filterMap_cons, hf]
    exact List.mem_cons_of_mem _ hb
  have nex : ∀ b, b ∉ X.ex := fun b hb => by rw [hex] at hb; simp at hb
  have fF := f.on (h2 := s'.heap) hfl.2.2.1 (Heap.UpToSlots.refl _)
  rw [hst] at hfl
  refine wpAny_leaves_onW hA hf hfl fun h2 x1 x2 => ?_
  refine ⟨a, cls, a0, B, H', rfl, hE, hos.trans I.os, hbare, x1, ⟨f.hok, fun b o q n hb => ?_, fun b o q n hb => ?_, fun b o q n => ?_, fun b o q hb => ?_, fun b xs q => f.tups b xs (I.base.tups b xs q), fun b o u q => f.frzs b o u (I.base.frzs b o u q), fun b ps q => ?_⟩⟩
  · exact f.keep b o (I.base.keep b o q n hb (nex b)) (I.base.free b o q n (nex b)) (nfr b o q hb)
  · obtain ⟨sl, q1⟩ := I.base.slot b o q n hb (nex b)
    obtain ⟨sl1, q2⟩ := f.slot b _ q1 (I.base.free b o q n (nex b)) (inS b hb)
    obtain ⟨_, o1, q3, hd⟩ := hfl.2.2.1.mem (show b ∈ (X.env :: X.outer).filterMap (·.frame) by
      have := inS b hb
      rw [hst] at this
      exact this)
    rw [q2] at q3
    cases q3
    obtain ⟨sl2, q4⟩ := x2 b _ q2 hd
    exact ⟨sl2, q4⟩
  · obtain ⟨o1, q1⟩ := I.base.there b o q (nex b)
    exact f.free b o1 q1 (I.base.free b o q n (nex b))
  · obtain ⟨o1, q1⟩ := I.base.there b o q (nex b)
    exact f.there b o1 q1 (nfr b o q hb)
  · obtain ⟨m1, e1⟩ := I.base.tbls b ps q
    obtain ⟨m2, e2⟩ := f.tbls b _ e1
    exact ⟨m1 ++ m2, by rw [e2, Array.append_assoc]⟩
end

/-! ### a def whose exceptions leave it -/
section
variable {P : Program} {w : World} {K : PySem.W.Frag} {mg : Str → Option Value} {base : Heap}
theorem Fun.okX {x qual : Str} {st : Stmt} {f : Addr} {fd : FuncData} {N ps : List Str} {k : Nat} {sp : Sp} (F : Fun K x qual st f fd) (S : FnScope N ps (defScope st)) (len : ∀ vs H Q E, sp vs H Q E → vs.length = ps.length)
    (hbody : ∀ (cdv : Value) (A : Around) (outer : List Env) (s : Shared) (H : Hp) (vs : List V) (Q : VK) (E : XK), Room k (A.deeper (envOfC qual (defScope st) s.heap.objs.size f cdv)) → sp vs H Q E →
      ∃ t, PSs (cxOf (CXw P w) P w K mg base N qual (defScope st) f cdv A outer s H E) (defBody st) t ∧ t { nx := fun _ H' => Q .non H', rt := Q } (start N vs) H) : FnOk P w K mg base (CXw P w) (k + 1) f fd ps sp := by
  obtain ⟨oc, od, kV, doc, pm, an, cdv, ct, osl, rfl, lk, hcd⟩ := F.ex
  exact fn_of lk hcd S len fun A outer s H vs Q E hr hsp => hbody cdv A outer s H vs Q E hr hsp
/-- within such a def: a callee's exception passes on -/
theorem passX {N : List Str} {qual : Str} {scope : Scope} {f : Addr} {cd : Value} {A : Around} {outer : List Env} {s : Shared} {H : Hp} {E : XK} : Passes (CXw P w) (cxOf (CXw P w) P w K mg base N qual scope f cd A outer s H E) E := fun pins σ H1 s1 e s' I hc =>
  fly_pass (X := cxOf (CXw P w) P w K mg base N qual scope f cd A outer s H E) I rfl rfl rfl hc
theorem ownX {N : List Str} {qual : Str} {scope : Scope} {f : Addr} {cd : Value} {A : Around} {outer : List Env} {s : Shared} {H : Hp} {E : XK} :
    PassesOwn (model P w) (cxOf (CXw P w) P w K mg base N qual scope f cd A outer s H E).A (cxOf (CXw P w) P w K mg base N qual scope f cd A outer s H E).env (cxOf (CXw P w) P w K mg base N qual scope f cd A outer s H E).xe := PassesOwn.leaving
def DefX (P : Program) (w : World) (K : PySem.W.Frag) (mg : Str → Option Value) (base : Heap) (k : Nat) (x : Str) (ps : List Str) (sp : Sp) : Prop :=
  ∃ (f : Addr) (fd : FuncData), mg x = some (.ref f) ∧ PySem.W.keepIn K (.ref f) = true ∧ FnOk P w K mg base (CXw P w) k f fd ps sp ∧ Binds K fd ps []
end
section
variable {X : Cx} {k : Nat} {ps : List Str} {sp : Sp} {x : Str} {p pos : Pos} {e : Expr} {es : List Expr} {t : TA} {E : XK}
theorem pe_defX (D : DefX X.prog X.w X.K X.mg X.base k x ps sp) (hx : Passes (CXw X.prog X.w) X E) (hr : Room k X.A) (hg : Gl X x) (ha : PA X (e :: es) t) (hdb : (x == ("__debug__" : Str)) = false := by decide)
    (he : starEach (e :: es) X.env = (false, eval e X.env) :: starEach es X.env := by rfl) (hpl : (backTo pos (starEach es X.env)).any (·.1) = false := by rfl) :
    PE X (.Call (.Name x p) (e :: es) [] pos) (tCall sp [] E t) :=
  let ⟨_, _, h1, h2, h3, h4⟩ := D
  pe_call h3 hr hg h1 h2 h4 .nil hx ha hdb he hpl
end

/-! ### raise C(..), C a class of one's own under ValueError -/
abbrev veMro : List Value := [.type "ValueError", .type "Exception", .type "BaseException", .type "object"]
def ExcC (K : PySem.W.Frag) (C : Addr) : Prop := PySem.W.excIn K C veMro "ValueError.__new__" = true
theorem ExcC.obj {K : PySem.W.Frag} {C : Addr} (q : ExcC K C) : ∃ bm N nm qn bs hdct sn sub ab col dd k0 k1 k2 k3 k5, K.lookup C = some (excClassObj nm qn C N bs bm hdct sn sub ab col dd k0 k1 k2 k3 k5 "ValueError.__new__") ∧
    PySem.W.nsOkIn K N = true ∧ PySem.W.nsIn K N "__init__" = some Option.none ∧ PySem.W.tailIn K veMro bm = true := by
  have q : PySem.W.excIn K C veMro "ValueError.__new__" = true := q
  unfold PySem.W.excIn at q
  split at q
  · rename_i d1 c1 l1 hlk
    split at q
    · rename_i C1 tl1 a0 a1 a2 a3 nid a5 hmro hlist
      rw [Bool.and_eq_true, Bool.and_eq_true, Bool.and_eq_true, Bool.and_eq_true, Bool.and_eq_true] at q
      obtain ⟨⟨⟨⟨⟨w1, w2⟩, w3⟩, w4⟩, w5⟩, w6⟩ := q
      cases c1 with
      | mk n1 b1 mro1 ns1 qn1 hd1 sn1 sub1 ab1 col1 del1 =>
        have w1' : C1 = C := beq_iff_eq.mp w1
        have w2' : nid = "ValueError.__new__" := beq_iff_eq.mp w2
        have w3' : del1 = false := by simpa using w3
        have hmro' : mro1 = Value.ref C1 :: tl1 := hmro
        have hl1 : l1 = #[a0, a1, a2, a3, some (.builtin nid), a5] := by
          cases l1 with
          | mk ll => exact congrArg Array.mk hlist
        subst w1' w2' w3' hmro' hl1
        exact ⟨tl1, ns1, n1, qn1, b1, hd1, sn1, sub1, ab1, col1, d1, a0, a1, a2, a3, a5, hlk, w5, beq_iff_eq.mp w6, w4⟩
    · cases q
  · cases q
section
variable {X : Cx} {x : Str} {C : Addr} {e0 : Expr} {rest : List Expr} {np cpos pos : Pos} {t : TA} {E : XK}
def tRaise (C : Addr) (E : XK) (t : TA) : TS := fun _ σ H => t σ H fun vs H1 => vs.length ≤ sizeLine ∧ E (.ref C) Option.none H1
theorem ps_raise (E : XK) (hc : X.calm = true) (hg : Gl X x) (hm : X.mg x = some (.ref C)) (q : ExcC X.K C) (ha : PA X (e0 :: rest) t)
    (hst : X.stack = X.env :: X.outer := by rfl) (hf : X.env.frame = some X.env.locals := by rfl) (hex : X.ex = [] := by rfl)
    (hxe : ∀ e s', wpAny (model X.prog X.w) X.A (leaving X.env e) (fun _ s2 => CXw X.prog X.w X.outer X.H_0 X.s_0 E e s2) (fun e2 s2 => CXw X.prog X.w X.outer X.H_0 X.s_0 E e2 s2) s' → X.xe e s' := by exact fun _ _ z => z)
    (he : starEach (e0 :: rest) X.env = (false, eval e0 X.env) :: starEach rest X.env := by rfl) (hpl : (backTo cpos (starEach rest X.env)).any (·.1) = false := by rfl) (hd : (x == ("__debug__" : Str)) = false := by decide) :
    PS X (.Raise (some (.Call (.Name x np) (e0 :: rest) [] cpos)) Option.none pos) (tRaise C E t) := by
  intro pins s σ H D I h
  obtain ⟨bm, N, nm, qn, bs, hdct, sn, sub, ab, col, dd, k0, k1, k2, k3, k5, hlk, hns, hni, htl⟩ := q.obj
  have tl : ∀ {s2 : Shared} {H2 : Hp}, Inv X pins σ H2 s2 → OwnTail s2.heap veMro bm := fun J => PySem.W.tail_of_in J.kIn htl
  refine wpAny_Raise_call_subT (C := C) (nm := nm) (q := qn) (N := N) (bs := bs) (bm := bm) (hdct := hdct) (sn := sn) (sub := sub) (ab := ab) (col := col) (dd := dd) (k0 := k0) (k1 := k1) (k2 := k2) (k3 := k3) (k5 := k5)
    PySem.F.excBase_ValueError (mN := X.base.nsMap N) ((tl I).hasType PySem.F.excBase_ValueError.hasBase) (I.ok.hd hc) ?_ (PySem.W.nsMap_none_of_in I.mod.kin hns hni) (ld_glob I hg hm ⟨rfl, ?_⟩ hd)
  · rw [he]
    show (false || (backTo cpos (starEach rest X.env)).any (·.1)) = false
    rw [hpl]; rfl
  · have hsp := ha cpos pins s σ H _ I h
    rw [he] at hsp ⊢
    refine Calls.evalArgs_plain (thn hsp fun us s2 z => ?_)
    obtain ⟨vs, H2, J, rv, hz, hE⟩ := z
    have N2 : X.base.Ns N (X.base.nsMap N) := .of_isNs (PySem.W.isNs_of_in I.mod.kin hns)
    exact ⟨rfl, by rw [← rv.length]; exact hz, J.kIn _ _ hlk, N2.keeps J.bk, tl J, fun h' e hmade => hxe _ _ (fly_raise J hst hf hex hmade hE)⟩
end

/-! ### try .. except C1: .. except C2: .. -/
section
variable {X : Cx} {pins : List (Addr × Obj)} {σ : L2.St} {H : Hp} {s : Shared}
/-- within an except suite -/
abbrev hand (X : Cx) (A' : Around) : Cx := { X with A := A', calm := false, xe := fun _ _ => False }
/-- within a try suite -/
abbrev tried (X : Cx) (pn : List (Addr × Obj)) (xe : Value → Shared → Prop) : Cx := { X with pn := pn, xe := xe }
theorem inv_hand {A' : Around} (I : Inv X pins σ H s) (hA : A'.frames = X.A.frames) : Inv (hand X A') pins σ H s :=
  have ok := I.ok
  ⟨⟨ok.mod, ok.kind, ok.glob, ok.blt, ok.above, ok.inj, ok.has, ok.cab, fun z => (by cases z), hA.trans ok.frames, ok.stk, ok.exf, ok.bs, ok.bsz, ok.noex, ok.exfs, ok.funs, ok.frf⟩, I.os, I.bare, I.base, I.loc, I.cell, I.free, I.freeC, I.pin, I.hok, I.len⟩
theorem inv_unhand {A' : Around} (ok : X.Ok) (I : Inv (hand X A') pins σ H s) : Inv X pins σ H s := ⟨ok, I.os, I.bare, I.base, I.loc, I.cell, I.free, I.freeC, I.pin, I.hok, I.len⟩
theorem inv_tried {xe : Value → Shared → Prop} (I : Inv X pins σ H s) : Inv (tried X (X.pn ++ pins) xe) [] σ H s :=
  have ok := I.ok
  ⟨⟨ok.mod, ok.kind, ok.glob, ok.blt, ok.above, ok.inj, ok.has, ok.cab, ok.hd, ok.frames, ok.stk, ok.exf, ok.bs, ok.bsz, ok.noex, ok.exfs, ok.funs, ok.frf⟩, I.os, I.bare, I.base, I.loc, I.cell, I.free, I.freeC, fun p hp => I.pin p (by simpa using hp), I.hok, I.len⟩
theorem inv_untried {xe : Value → Shared → Prop} {pins' : List (Addr × Obj)} (ok : X.Ok) (I : Inv (tried X (X.pn ++ pins) xe) pins' σ H s) : Inv X pins σ H s :=
  ⟨ok, I.os, I.bare, I.base, I.loc, I.cell, I.free, I.freeC, fun p hp => I.pin p (List.mem_append_left _ hp), I.hok, I.len⟩
theorem sp_map {Y : Cx} {pins' : List (Addr × Obj)} {D : Ends} {f : Flow} {s' : Shared} (k : ∀ σ H s, Inv Y pins' σ H s → Inv X pins σ H s) (h : SP Y pins' D f s') : SP X pins D f s' := by
  cases f with
  | next => obtain ⟨σ', H', I, q⟩ := h; exact ⟨σ', H', k _ _ _ I, q⟩
  | brk => obtain ⟨σ', H', I, q⟩ := h; exact ⟨σ', H', k _ _ _ I, q⟩
  | cont => obtain ⟨σ', H', I, q⟩ := h; exact ⟨σ', H', k _ _ _ I, q⟩
  | ret u => obtain ⟨v, σ', H', I, r, q⟩ := h; exact ⟨v, σ', H', k _ _ _ I, r, q⟩
/-- behind an exception that came out of a call: the state as it stands -/
theorem Fly.inv {B h2 : Heap} {H' : Hp} {s1 : Shared} {a : Addr} {cls a0 : Value} (I : Inv X pins σ H s) (hst : X.stack = X.env :: X.outer) (f : Fly X.prog X.w X.stack H H' s.heap B s1.heap) (hos : s1.os = s.os) (hb : AllBare s1.gens)
    (hfl : Heap.FlyingW B (X.env :: X.outer) a cls a0 s1.heap) (hfl2 : Heap.FlyingW B (X.env :: X.outer) a cls a0 h2) (sm : s1.heap.UpToSlots h2) : Inv X pins σ H' { s1 with heap := h2 } := by
  obtain ⟨hh, g, d, t, os'⟩ := s1
  obtain rfl : os' = s.os := hos
  have f2 := f.on (h2 := h2) (by rw [hst]; exact hfl.2.2.1) sm
  show Inv X pins σ H' { s with heap := h2, gens := g, drawn := d, toks := t }
  exact I.call (h' := h2) (g' := g) (d' := d) (t' := t) (ch := []) (f2.un hfl2.1 (by rw [hst]; exact hfl2.2.2.1)) (f2.hold hfl2.1) hb (fun b z => absurd z (by simp))
def tTry (tb : TS) (Ew : XK) (C1 C2 : Addr) (t1 t2 : TS) : TS := fun D σ H => tb D σ H ∧ ∀ cls a σ' H', Ew cls a H' → (cls = .ref C1 ∧ t1 D σ' H') ∨ (cls = .ref C2 ∧ t2 D σ' H')
theorem ps_try {Ew : XK} {body : List Stmt} {x1 x2 : Str} {b1 b2 : Stmt} {r1 r2 : List Stmt} {p1 p2 q1 q2 pos : Pos} {C1 C2 : Addr} {tb t1 t2 : TS}
    (hb : ∀ pn xe, Passes (CXw X.prog X.w) (tried X pn xe) Ew → PSs (tried X pn xe) body tb)
    (h1 : ∀ A', PSs (hand X A') (b1 :: r1) t1) (h2 : ∀ A', PSs (hand X A') (b2 :: r2) t2) (hg1 : Gl X x1) (hg2 : Gl X x2) (hm1 : X.mg x1 = some (.ref C1)) (hm2 : X.mg x2 = some (.ref C2))
    (e11 : PySem.W.exmOne X.K (.ref C1) (.ref C1) = some true) (e21 : PySem.W.exmOne X.K (.ref C2) (.ref C1) = some false) (e22 : PySem.W.exmOne X.K (.ref C2) (.ref C2) = some true)
    (hst : X.stack = X.env :: X.outer := by rfl) (hf : X.env.frame = some X.env.locals := by rfl) (hd1 : (x1 == ("__debug__" : Str)) = false := by decide) (hd2 : (x2 == ("__debug__" : Str)) = false := by decide) :
    PS X (.Try body [.ExceptHandler (some (.Name x1 p1)) Option.none (b1 :: r1) q1, .ExceptHandler (some (.Name x2 p2)) Option.none (b2 :: r2) q2] [] [] pos) (tTry tb Ew C1 C2 t1 t2) := by
  intro pins s σ H D I h
  obtain ⟨ht, hw⟩ := h
  have hA : X.A.frames = some (X.env :: X.outer) := by rw [← hst]; exact I.ok.frames
  refine wpAny_Try_except (wpAny_mono (hb (X.pn ++ pins) (fun e s' => ∃ σ1 H1 s1, Inv X pins σ1 H1 s1 ∧ CXw X.prog X.w X.stack H1 s1 Ew e s')
    (fun pins' σ1 H1 s1 e s' J hc => ⟨σ1, H1, s1, inv_untried I.ok J, hc⟩) [] s σ H D (inv_tried I) ht) (fun f s1 q => ?_) fun e s1 q => ?_)
  · have q2 : SP X pins D f s1 := sp_map (fun _ _ _ J => inv_untried I.ok J) q
    cases f with
    | next => exact wpAny_execs_nil q2
    | brk => exact q2
    | cont => exact q2
    | ret u => exact q2
  · obtain ⟨σ1, H1, s0, J, a, cls, a0, B, H', rfl, hE, hos, hbare, hfl, f⟩ := q
    rw [hst] at hfl
    have inv : ∀ h6, Heap.FlyingW B (X.env :: X.outer) a cls a0 h6 → s1.heap.UpToSlots h6 → Inv X pins σ1 H' { s1 with heap := h6 } := fun h6 fl6 sm6 => Fly.inv J hst f hos hbare hfl fl6 sm6
    have hmk : (X.A.mark (some (.ref a))).frames = X.A.frames := rfl
    have suite : ∀ {b0 : Stmt} {r0 : List Stmt} {q0 : Pos} {ts : TS} {h6 : Heap} {R : Result → Shared → Prop}, (∀ A', PSs (hand X A') (b0 :: r0) ts) → ts D σ1 H' → Heap.FlyingW B (X.env :: X.outer) a cls a0 h6 → s1.heap.UpToSlots h6 → (∀ fl s2, SP X pins D fl s2 → R (.ok fl) s2) →
        codeAny (model X.prog X.w) (X.A.mark (some (.ref a))) (.handlers (.ref a) [.ExceptHandler Option.none Option.none (b0 :: r0) q0] X.env) R { s1 with heap := h6 } := fun {b0 r0 q0 ts h6 R} hs hts fl6 sm6 hR => by
      refine codeAny_handlers_suite (lands_againW fl6 fun h7 fl7 sm7 => ?_)
      have J7 := inv h7 fl7 (sm6.trans sm7)
      exact wpAny_mono (hs _ pins _ σ1 H' D (inv_hand J7 hmk) hts) (fun fl s2 z => hR fl s2 (sp_map (fun _ _ _ z2 => inv_unhand J7.ok z2) z)) fun _ _ z => False.elim z
    have ty : ∀ h6, Heap.FlyingW B (X.env :: X.outer) a cls a0 h6 → PySem.W.Looks (model X.prog X.w) h6 (typeOf (.ref a)) cls := fun h6 fl6 => by
      obtain ⟨ob, hob, hobc⟩ := fl6.there
      subst hobc
      exact (PySem.W.Looks.ld hob).andThen .now
    refine wpAny_looks_onW hA hf hfl fun h4 held4 sm4 => ?_
    refine wpAny_landsW held4 fun h5 fl5 sm5 => ?_
    have sm := sm4.trans sm5
    have J5 := inv h5 fl5 sm
    have L5 := ty h5 fl5
    rcases hw cls Option.none σ1 H' hE with ⟨rfl, hts⟩ | ⟨rfl, hts⟩
    · refine wpAny_handleBy_cons (codeAny_handlers_test (ld_glob (X := hand X (X.A.mark (some (.ref a)))) (inv_hand J5 hmk) hg1 hm1 ?_ hd1)) (by intro z; cases z)
      refine PySem.W.exm_one J5.kIn L5 e11 _ _ _ _ (fun _ _ z => z) ?_
      exact suite h1 hts fl5 sm fun fl s2 z => z
    · refine wpAny_handleBy_cons (codeAny_handlers_test (ld_glob (X := hand X (X.A.mark (some (.ref a)))) (inv_hand J5 hmk) hg1 hm1 ?_ hd1)) (by intro z; cases z)
      refine PySem.W.exm_one J5.kIn L5 e21 _ _ _ _ (fun _ _ z => z) ?_
      refine wpAny_handleBy_cons (codeAny_handlers_test (ld_glob (X := hand X (X.A.mark (some (.ref a)))) (inv_hand J5 hmk) hg2 hm2 ?_ hd2)) (by intro z; cases z)
      refine PySem.W.exm_one J5.kIn L5 e22 _ _ _ _ (fun _ _ z => z) ?_
      exact suite h2 hts fl5 sm fun fl s2 z => z
end
end Vm

end
section
set_option Elab.async false
set_option linter.all false
set_option maxRecDepth 100000
set_option maxHeartbeats 4000000
namespace Vm
open PySem PySem.Spec PyProof.Rows L2

def spKeyOf : Sp := fun vs H Q _ => ∃ (a : Addr) (r : Kh302.Row), vs = [.ref a] ∧ RowAt H a r ∧ Q (cellV r.key) H

/-! ### sorted(rows, key=key_of), by hand over the library's sort -/
section
variable {X : Cx} {pins : List (Addr × Obj)} {σ : L2.St} {H : Hp} {k : Nat} {f : Addr} {fd : FuncData}
theorem key_turn {s : Shared} {a : Addr} {r : Kh302.Row} (F : FnOk X.prog X.w X.K X.mg X.base CX0 k f fd ["row"] spKeyOf) (bF : Binds X.K fd ["row"] []) (hr : Room (k + 2) X.A) (I : Inv X pins σ H s) (hrow : RowAt H a r) :
    wpAny (model X.prog X.w) X.A.in1.in1 (call (.ref f) [.ref a]) (fun u s' => (∃ t, u = .int (r.key : Int) t) ∧ Inv X pins σ H s') (fun _ _ => False) s := by
  refine wpAny_call (codeAny_mono (F.run X.A.in1.in1 X.stack s H ⟨[.ref a], []⟩ [.ref a] [.ref a] (fun v H' => v = cellV r.key ∧ H' = H) E0 hr.in1.in1 I.env0.in1.in1 (bF s [.ref a] I.kIn rfl) (.cons rfl .nil) ⟨a, r, rfl, hrow, rfl, rfl⟩) fun res s' hq => ?_)
  cases res with
  | error e => exact False.elim hq
  | ok fl =>
    cases fl with
    | ret u =>
      obtain ⟨v, H', J, rv, ev, eH⟩ := I.after hq
      subst ev eH
      exact ⟨rv, J⟩
    | next => exact False.elim hq
    | brk => exact False.elim hq
    | cont => exact False.elim hq

variable {E : Value → Shared → Prop} {P : PySem.Fin → Shared → Prop} {D S : Addr} {rows : List Value} {nums : List Int}
theorem sk_tail {s : Shared} {st : SortSt} {keys : Array Value} {e e1 : Nat} {A : Around} (I : Inv X pins σ H s) (fS : FpOk X pins H S) (fD : FpOk X pins H D) (ne : S ≠ D) (gS : s.heap.get? S = some (seqObj "list" keys e)) (gD : s.heap.get? D = some (seqObj "list" #[] e1))
    (hk : IntsAre keys.toList nums) (hlen : nums.length = rows.length) (hZ : rows.length ≤ 1000) (hp : (arrOf st).Perm (keys.zip rows.toArray)) (hs : SortedTo (arrOf st) (arrOf st).size) (hfl : failedOf st = Option.none)
    (h : ∀ (h' : Heap) out c, Inv X pins σ H { s with heap := h' } → h'.get? D = some (seqObj "list" out c) → KskOut false nums rows out.toList → P (.done (.ret .none)) { s with heap := h' }) :
    wpAny (model X.prog X.w) A (ksk_tail D false e1 (.ref S) st) P E s := by
  have big : 1000 ≤ sizeLine := by decide
  have kz : keys.size = rows.length := by
    have := hk.length
    rw [Array.length_toList] at this
    exact this.trans hlen
  have az : (arrOf st).size = rows.length := by
    rw [hp.size_eq, Array.size_zip, kz, List.size_toArray, Nat.min_self]
  have oz : ((arrOf st).map (·.2)).size = rows.length := by rw [Array.size_map]; exact az
  have gD1 : (s.heap.update S (Obj.mapSeq fun _ => (#[] : Array Value))).get? D = some (seqObj "list" #[] e1) := ((Heap.SameBut.update s.heap S (Obj.mapSeq fun _ => (#[] : Array Value))).2 D (Ne.symm ne)).trans gD
  unfold ksk_tail
  dsimp only
  refine wpAny_bind (listUpdate_at gS rfl ?_ (by rw [kz]; omega) (Nat.zero_le _))
  refine wpAny_bind (wpAny_letGo ?_)
  refine wpAny_bind (seqEpoch_at gD1 rfl ?_)
  refine wpAny_bind (listUpdate_at gD1 rfl ?_ (Nat.zero_le _) (Nat.le_trans (Nat.le_of_eq oz) (by omega)))
  rw [hfl]
  simp only [bne_self_eq_false, Bool.false_eq_true, if_false]
  refine wpAny_pure (h _ _ _ ?_ (get?_update_seq gD1 _) (ksk_out (b := false) hk hp hs))
  have J := I.turnedL (h' := ((s.heap.update S (Obj.mapSeq fun _ => (#[] : Array Value))).update D (Obj.mapSeq fun _ => (arrOf st).map (·.2)))) (t' := s.toks) (ch := [S, D]) (fun b o hb q => by
      rw [Heap.get?_update_other _ _ (fun z => hb (by simp [z])), Heap.get?_update_other _ _ (fun z => hb (by simp [z]))]
      exact q) (fun b hb => by
      rcases List.mem_cons.mp hb with z | z
      · rw [z]; exact fS
      · rw [List.mem_singleton.mp z]; exact fD)
  exact J

theorem sk_end {s : Shared} {keys : Array Value} {e e1 : Nat} {A : Around} (I : Inv X pins σ H s) (fS : FpOk X pins H S) (fD : FpOk X pins H D) (ne : S ≠ D) (gS : s.heap.get? S = some (seqObj "list" keys e)) (gD : s.heap.get? D = some (seqObj "list" #[] e1))
    (hk : IntsAre keys.toList nums) (hlen : nums.length = rows.length) (hZ : rows.length ≤ 1000)
    (h : ∀ (h' : Heap) out c, Inv X pins σ H { s with heap := h' } → h'.get? D = some (seqObj "list" out c) → KskOut false nums rows out.toList → P (.done (.ret .none)) { s with heap := h' }) :
    wpAny (model X.prog X.w) A (ksk_end D false rows.toArray e1 (.ref S) keys) P E s := by
  have kz : keys.size = rows.length := by
    have := hk.length
    rw [Array.length_toList] at this
    exact this.trans hlen
  have zz : (keys.zip rows.toArray).size = rows.length := by rw [Array.size_zip, kz, List.size_toArray, Nat.min_self]
  unfold ksk_end
  dsimp only
  rw [if_neg Bool.false_ne_true, if_neg Bool.false_ne_true]
  by_cases two : rows.toArray.size < 2
  · rw [if_pos two, if_pos two]
    refine wpAny_bind (wpAny_pure ?_)
    rw [StateT.run_pure]
    refine wpAny_bind (wpAny_pure ?_)
    dsimp only
    refine sk_tail (st := SortSt.mk' general' (keys.zip rows.toArray) #[] 7 Option.none) I fS fD ne gS gD hk hlen hZ (Array.Perm.refl _) ?_ rfl h
    intro i j hij hj
    have hj2 : j < (keys.zip rows.toArray).size := hj
    rw [zz] at hj2
    rw [List.size_toArray] at two
    have e2 : i = j := by omega
    subst e2
    exact Int.le_refl _
  · rw [if_neg two, if_neg two]
    rw [List.size_toArray] at two
    rw [ksk_kind hk (by rw [kz]; omega)]
    refine wpAny_bind (wpAny_pure ?_)
    have run := wpS_sortRunsAny (prog := X.prog) (w := X.w) (A := A) (E := E) (s := s) (κ := intKind) (a₀ := keys.zip rows.toArray) (st := SortSt.mk' oneType' (keys.zip rows.toArray) #[] 7 Option.none)
      (Q := fun _ st1 => (arrOf st1).Perm (keys.zip rows.toArray) ∧ failedOf st1 = Option.none ∧ SortedTo (arrOf st1) (keys.zip rows.toArray).size)
      intKind_oneLt (ksk_keysOfInt (ksk_intKeys hk)) ⟨Array.Perm.refl _, rfl, rfl⟩ rfl (by rw [zz]; omega) fun st1 u1 u2 u3 => ⟨u1, u2, sortedTo_of_int u3⟩
    refine wpAny_bind (wpAny_mono run ?_ fun _ _ z => z)
    rintro ⟨⟨⟩, st1⟩ s1 ⟨rfl, p1, p2, p3⟩
    dsimp only
    exact sk_tail I fS fD ne gS gD hk hlen hZ p1 (by rw [p1.size_eq]; exact p3) p2 h

theorem sk_rest {s : Shared} {e1 : Nat} {as : List Addr} {t : Kh302.Table} (F : FnOk X.prog X.w X.K X.mg X.base CX0 k f fd ["row"] spKeyOf) (bF : Binds X.K fd ["row"] []) (hr : Room (k + 2) X.A) (hR : Rows H as t)
    (I : Inv X pins σ H s) (fS : FpOk X pins H S) (fD : FpOk X pins H D) (ne : S ≠ D) (gS : s.heap.get? S = some (seqObj "list" #[] 0)) (gD : s.heap.get? D = some (seqObj "list" #[] e1)) (hZ : as.length ≤ 1000)
    (h : ∀ (s' : Shared) out c, Inv X pins σ H s' → s'.heap.get? D = some (seqObj "list" out c) → KskOut false (t.map fun r => (r.key : Int)) (as.map Value.ref) out.toList → P (.done (.ret .none)) s') :
    wpAny (model X.prog X.w) X.A.in1.in1 (ksk_rest D (.ref f) false (as.map Value.ref).toArray e1 (.ref S)) P E s := by
  have big : 1000 < sizeLine := by decide
  have len2 := Paired.length hR
  unfold ksk_rest
  refine wpAny_bind (wpAny_rule ?_)
  rw [List.forIn_toArray]
  refine wpAny_bind (ksk_fold (fun i s1 => ∃ kA e, Inv X pins σ H s1 ∧ s1.heap.get? S = some (seqObj "list" kA e) ∧ s1.heap.get? D = some (seqObj "list" #[] e1) ∧ IntsAre kA.toList ((t.map fun r => (r.key : Int)).take i)) (as.map Value.ref) 0 s
    ⟨#[], 0, I, gS, gD, by simpa using IntsAre.nil⟩ ?turn ?out)
  case turn =>
    rintro j x s1 hx ⟨kA, e, I1, gS1, gD1, hk⟩
    rw [Nat.zero_add] at hk ⊢
    obtain ⟨a, ha, rfl⟩ := map_get hx
    obtain ⟨r, hr1, hrow⟩ := paired_get hR ha
    have hj : j < as.length := (List.getElem?_eq_some_iff.mp ha).1
    have kz : kA.size ≤ 1000 := by
      have := hk.length
      rw [Array.length_toList, List.length_take] at this
      omega
    have I1p : Inv X (pins ++ [(S, seqObj "list" kA e), (D, seqObj "list" #[] e1)]) σ H s1 := I1.pins_of fun p hp => by
      rcases List.mem_append.mp hp with z | z
      · exact I1.pin p (List.mem_append_right _ z)
      · rcases List.mem_cons.mp z with z | z
        · subst z
          exact ⟨gS1, fS.1, fS.2.1, fS.2.2.1, fun v q => nomatch q⟩
        · rw [List.mem_singleton.mp z]
          exact ⟨gD1, fD.1, fD.2.1, fD.2.2.1, fun v q => nomatch q⟩
    refine wpAny_bind (wpAny_attempt (wpAny_mono (key_turn F bF hr I1p hrow) (fun u s2 z => ?_) fun _ _ z => z.elim))
    obtain ⟨⟨tk, rfl⟩, I2p⟩ := z
    have gS2 : s2.heap.get? S = some (seqObj "list" kA e) := (I2p.pin (S, _) (by simp)).1
    have gD2 : s2.heap.get? D = some (seqObj "list" #[] e1) := (I2p.pin (D, _) (by simp)).1
    have I2 : Inv X pins σ H s2 := I2p.pins_of fun p hp => I2p.pin p (List.mem_append_right _ (List.mem_append_left _ hp))
    dsimp only
    refine wpAny_bind (listUpdate_at gS2 rfl ?_ (by omega) (Nat.le_trans (Nat.le_of_eq (Array.size_push ..)) (by omega)))
    refine wpAny_pure ⟨rfl, kA.push (.int (r.key : Int) tk), _, ?_, get?_update_seq gS2 _, ?_, ?_⟩
    · have J := I2.turnedL (h' := s2.heap.update S (Obj.mapSeq (·.push (.int (r.key : Int) tk)))) (t' := s2.toks) (ch := [S]) (fun b o hb q => by
        rw [Heap.get?_update_other _ _ (fun z => hb (by simp [z]))]
        exact q) (fun b hb => by rw [List.mem_singleton.mp hb]; exact fS)
      exact J
    · show (s2.heap.update S _).get? D = _
      rw [Heap.get?_update_other _ _ ne]
      exact gD2
    · have e3 : (t.map fun r => (r.key : Int))[j]? = some (r.key : Int) := by rw [List.getElem?_map, hr1]; rfl
      have e4 : (kA.push (Value.int (r.key : Int) tk)).toList = kA.toList ++ [Value.int (r.key : Int) tk] := by simp
      rw [take_snoc e3, e4]
      exact ksk_snoc hk
  case out =>
    rintro s1 ⟨kA, e, I1, gS1, gD1, hk⟩
    have hk2 : IntsAre kA.toList (t.map fun r => (r.key : Int)) := by
      have e3 : (t.map fun r => (r.key : Int)).take (0 + (as.map Value.ref).length) = t.map fun r => (r.key : Int) := List.take_of_length_le (by rw [List.length_map, List.length_map]; omega)
      rw [e3] at hk
      exact hk
    refine wpAny_bind (listItems_at gS1 rfl ?_)
    exact sk_end I1 fS fD ne gS1 gD1 hk2 (by rw [List.length_map, List.length_map]; exact len2.symm) (by rw [List.length_map]; exact hZ) fun h' out c J g o => h _ out c J g o

theorem sk_tree {s : Shared} {n : Nat} {as : List Addr} {t : Kh302.Table} (F : FnOk X.prog X.w X.K X.mg X.base CX0 k f fd ["row"] spKeyOf) (bF : Binds X.K fd ["row"] []) (hr : Room (k + 2) X.A) (hR : Rows H as t)
    (I : Inv X pins σ H s) (fD : FpOk X pins H D) (gD : s.heap.get? D = some (seqObj "list" (as.map Value.ref).toArray n)) (hZ : as.length ≤ 1000)
    (h : ∀ (s' : Shared) out c, Inv X pins σ H s' → s'.heap.get? D = some (seqObj "list" out c) → KskOut false (t.map fun r => (r.key : Int)) (as.map Value.ref) out.toList → P (.done (.ret .none)) s') :
    wpAny (model X.prog X.w) X.A.in1.in1 (ksk_tree D (.ref f) false) P E s := by
  have big : 1000 < sizeLine := by decide
  have lz : (as.map Value.ref).length ≤ sizeLine := by rw [List.length_map]; omega
  have hD : D < s.heap.objs.size := Heap.lt_size gD
  have gD1 := get?_update_seq gD fun _ => (#[] : Array Value)
  have kS : ((s.heap.update D (Obj.mapSeq fun _ => (#[] : Array Value))).push (seqObj "tuple" (as.map Value.ref).toArray 0)).objs.size = s.heap.objs.size + 1 := by rw [size_push', Heap.size_update]
  unfold ksk_tree
  refine wpAny_bind (listItems_at gD rfl ?_)
  refine wpAny_bind (listUpdate_at gD rfl ?_ (by rw [List.size_toArray]; exact lz) (Nat.zero_le _))
  refine wpAny_bind (seqEpoch_at gD1 rfl ?_)
  refine wpAny_bind (wpAny_newTuple ?_ lz)
  refine wpAny_bind (wpAny_newList ?_ (Nat.zero_le _))
  refine wpAny_holding ?_
  have J : Inv X pins σ H { s with heap := ((s.heap.update D (Obj.mapSeq fun _ => (#[] : Array Value))).push (seqObj "tuple" (as.map Value.ref).toArray 0)).push (seqObj "list" #[] 0) } := by
    have J0 := I.turnedL (h' := ((s.heap.update D (Obj.mapSeq fun _ => (#[] : Array Value))).push (seqObj "tuple" (as.map Value.ref).toArray 0)).push (seqObj "list" #[] 0)) (t' := s.toks) (ch := [D]) (fun b o hb q => by
      refine Heap.get?_push_of_some _ (Heap.get?_push_of_some _ ?_)
      rw [Heap.get?_update_other _ _ (fun z => hb (by simp [z]))]
      exact q) (fun b hb => by rw [List.mem_singleton.mp hb]; exact fD)
    exact J0
  have fS : FpOk X pins H ((s.heap.update D (Obj.mapSeq fun _ => (#[] : Array Value))).push (seqObj "tuple" (as.map Value.ref).toArray 0)).objs.size := I.fpOk (by rw [kS]; omega) (I.hok.fresh (by rw [kS]; omega))
  exact sk_rest F bF hr hR J fS fD (by rw [kS]; exact Nat.ne_of_gt (Nat.lt_succ_of_lt hD)) (Heap.get?_push_size _ rfl) (Heap.get?_push_of_some _ (Heap.get?_push_of_some _ gD1)) hZ h

/-- rows and their addresses, in a new order -/
theorem perm_map {α β : Type} {g : α → β} : ∀ {l l' : List β}, l.Perm l' → ∀ m : List α, l' = m.map g → ∃ m' : List α, m'.Perm m ∧ l = m'.map g := by
  intro l l' hp
  induction hp with
  | nil => intro m e; exact ⟨m, .refl _, e⟩
  | @cons x l1 l2 _ ih =>
    intro m e
    cases m with
    | nil => cases e
    | cons y m =>
      rw [List.map_cons] at e
      obtain ⟨m1, h1, h2⟩ := ih m (List.cons.inj e).2
      exact ⟨y :: m1, h1.cons y, by rw [List.map_cons, ← h2, (List.cons.inj e).1]⟩
  | @swap x y l1 =>
    intro m e
    cases m with
    | nil => cases e
    | cons z m =>
      cases m with
      | nil => rw [List.map_cons, List.map_nil] at e; cases (List.cons.inj e).2
      | cons z2 m =>
        rw [List.map_cons, List.map_cons] at e
        have e1 := (List.cons.inj e).1
        have e2 := (List.cons.inj (List.cons.inj e).2).1
        have e3 := (List.cons.inj (List.cons.inj e).2).2
        exact ⟨z2 :: z :: m, .swap z z2 m, by rw [List.map_cons, List.map_cons, e1, e2, e3]⟩
  | trans _ _ ih1 ih2 =>
    intro m e
    obtain ⟨m1, h1, h2⟩ := ih2 m e
    obtain ⟨m2, h3, h4⟩ := ih1 m1 h2
    exact ⟨m2, h3.trans h1, h4⟩
theorem zip_rows : ∀ {as : List Addr} {t : Kh302.Table}, Rows H as t → (t.map fun r => (r.key : Int)).zip (as.map Value.ref) = (as.zip t).map fun p => ((p.2.key : Int), Value.ref p.1)
  | _, _, .nil => rfl
  | a :: as, r :: t, .cons _ h => by
    show ((r.key : Int), Value.ref a) :: (t.map fun r => (r.key : Int)).zip (as.map Value.ref) = _ :: _
    rw [zip_rows h]; rfl
theorem zip_ok : ∀ {as : List Addr} {t : Kh302.Table}, Rows H as t → (∀ p ∈ as.zip t, RowAt H p.1 p.2) ∧ (as.zip t).map Prod.snd = t
  | _, _, .nil => ⟨fun p hp => (by simp at hp), rfl⟩
  | a :: as, r :: t, .cons h1 h2 => by
    obtain ⟨i1, i2⟩ := zip_ok h2
    refine ⟨fun p hp => ?_, ?_⟩
    · rcases List.mem_cons.mp (show p ∈ (a, r) :: as.zip t from hp) with z | z
      · rw [z]; exact h1
      · exact i1 p z
    · show r :: (as.zip t).map Prod.snd = r :: t
      rw [i2]
theorem rows_of : ∀ (z : List (Addr × Kh302.Row)), (∀ p ∈ z, RowAt H p.1 p.2) → Rows H (z.map Prod.fst) (z.map Prod.snd)
  | [], _ => .nil
  | p :: z, h => .cons (h p (by simp)) (rows_of z fun q hq => h q (by simp [hq]))
def Up (t : Kh302.Table) : Prop := t.Pairwise fun x y => x.key ≤ y.key
theorem ksk_rows {as : List Addr} {t : Kh302.Table} {out : List Value} (hR : Rows H as t) (ko : KskOut false (t.map fun r => (r.key : Int)) (as.map Value.ref) out) :
    ∃ (cs : List Addr) (u : Kh302.Table), out = cs.map Value.ref ∧ Rows H cs u ∧ u.Perm t ∧ Up u := by
  obtain ⟨ps, hp, ho, hs⟩ := ko
  rw [zip_rows hR] at hp
  obtain ⟨z, hz, e⟩ := perm_map hp _ rfl
  obtain ⟨k1, k2⟩ := zip_ok hR
  refine ⟨z.map Prod.fst, z.map Prod.snd, ?_, rows_of z fun p h => k1 p (hz.mem_iff.mp h), ?_, ?_⟩
  · rw [ho, e, List.map_map, List.map_map]; rfl
  · have := hz.map Prod.snd
    rw [k2] at this
    exact this
  · unfold Up
    rw [List.pairwise_map]
    rw [e, List.pairwise_map] at hs
    refine hs.imp fun {a b} q => ?_
    have q : ((a.2.key : Int)) ≤ (b.2.key : Int) := by simpa using q
    omega

theorem vals_refs : ∀ cs : List Addr, Vals (cs.map V.ref) (cs.map Value.ref)
  | [] => .nil
  | _ :: cs => .cons rfl (vals_refs cs)
/-- an object of ours that was not tracked is tracked from now on -/
theorem track_new {s : Shared} {T : Addr} {ob : HO} (I : Inv X pins σ H s) (f : FpOk X pins H T) (new : ObjOk X.prog X.w (L2.upd H T ob) s.heap T ob) : Inv X pins σ (L2.upd H T ob) s := by
  refine I.step (h' := s.heap) (g' := s.gens) (d' := s.drawn) (t' := s.toks) (ch := [T]) (fun b hb => ?_) (fun b o _ _ _ e _ => e) (fun b o _ _ _ e _ => ⟨o.slots, e⟩) (fun b o hc _ n => ?_) (fun b o _ e => ⟨o, e⟩)
    (fun b xs e => ?_) (fun b o u e => ?_) (fun b ps e => ⟨#[], ?_⟩) (fun m hm => hm) (fun b u e => ?_) I.bare
  · rw [List.mem_singleton.mp hb]
    exact ⟨f.2.2.2.1, f.2.1, f.2.2.2.2.1, f.2.2.2.2.2⟩
  · rw [upd_ne (fun z => hc (by simp [z]))]; exact n
  · rw [upd_ne (ne_of_none e f.1)]; exact e
  · rw [upd_ne (ne_of_none e f.1)]; exact e
  · rw [upd_ne (ne_of_none e f.1), e]; simp
  · by_cases hb : b = T
    · subst hb
      rw [upd_same] at e
      cases e
      exact new
    · rw [upd_ne hb] at e
      exact (I.hok b u e).stay (fun _ _ _ q => q) (fun c q => by rw [upd_ne (ne_of_none q f.1)]; exact q) fun c xs q => by rw [upd_ne (ne_of_none q f.1)]; exact q

/-- sorted(e, key=x), x the module's key_of -/
def tSortK (te : TE) : TE := fun σ H Q => te σ H fun v H1 => ∃ (l : Addr) (as : List Addr) (t : Kh302.Table), v = .ref l ∧ H1 l = some (.lst (as.map V.ref)) ∧ Rows H1 as t ∧ as.length ≤ 1000 ∧
  ∀ (p : Addr) (cs : List Addr) (u : Kh302.Table), H1 p = Option.none → Rows H1 cs u → u.Perm t → Up u → Q (.ref p) (upd H1 p (.lst (cs.map V.ref)))
theorem pe_sortK {x : Str} {e : Expr} {te : TE} {p p2 kpos pos : Pos} (D1 : DefOk X.prog X.w X.K X.mg X.base k x ["row"] spKeyOf) (hr : Room (k + 2) X.A) (hg : Gl X "sorted") (hm : X.mg "sorted" = Option.none) (hgx : Gl X x) (he : PE X e te)
    (hs : starEach [e] X.env = [(false, eval e X.env)] := by rfl) (hdx : (x == ("__debug__" : Str)) = false := by decide) :
    PE X (.Call (.Name "sorted" p) [e] [⟨some "key", .Name x p2, kpos⟩] pos) (tSortK te) := by
  obtain ⟨f, fd, hmx, hkp, F, bF⟩ := D1
  intro pins s σ H Q I h
  refine wpAny_Call_Name_kw (ld_blt I hg hm (show bootBuiltins "sorted" = some (.builtin "sorted") by decide +kernel) ?_)
  refine callWith_kw (?_ : wpAny _ _ (spliced (backTo pos (starEach [e] X.env))) _ _ _) (by rw [hs]; rfl) (by rw [hs]; rfl)
  refine thn ((pa_cons he pa_nil hs) pos pins s σ H (fun vs H1 => ∃ v, vs = [v] ∧ (∃ (l : Addr) (as : List Addr) (t : Kh302.Table), v = .ref l ∧ H1 l = some (.lst (as.map V.ref)) ∧ Rows H1 as t ∧ as.length ≤ 1000 ∧
    ∀ (p : Addr) (cs : List Addr) (u : Kh302.Table), H1 p = Option.none → Rows H1 cs u → u.Perm t → Up u → Q (.ref p) (upd H1 p (.lst (cs.map V.ref))))) I ?_) fun us s1 z => ?_
  · show te σ H _
    have q : te σ H _ := h
    exact cast (by congr 1; funext v H1; simp [tNil]) q
  obtain ⟨vs, H1, I1, rv, v, rfl, l, as, t, rfl, hl, hR, hZ, q⟩ := z
  obtain rfl := Vals.ref1 rv
  refine thn ((pk_cons (pe_glob (v := V.ref f) hgx hmx rfl hdx) pk_nil) pos pins s1 σ H1 (fun zs H2 => zs = [V.ref f] ∧ H2 = H1) I1 ⟨rfl, rfl⟩) fun ks s2 z => ?_
  obtain ⟨zs, H2, I2, rz, rfl, rfl⟩ := z
  obtain rfl := Vals.ref1 rz
  show wpAny _ _ (call (.builtin "sorted") [.ref l] [(Str.ofString "key", .ref f)]) _ _ s2
  obtain ⟨hz0, its, n0, rv0, gl⟩ := I2.hok l _ hl
  have eit := refs_at rv0
  subst eit
  have isl : s2.heap.IsList l (as.map Value.ref).toArray := ⟨_, gl, rfl, n0, rfl⟩
  have big : 1000 < sizeLine := by decide
  have lz : (as.map Value.ref).length ≤ sizeLine := by rw [List.length_map]; omega
  refine call_function_entry_kw kind_sorted plain_sorted entry_sorted (ksk_s1 _ _) ?_
  unfold Builtin.«sorted»
  refine wpAny_bind (m := checkCount "sorted" 1 1 _) (wpAny_pure ?_)
  refine wpAny_bind (collect_list isl ?_ lz)
  refine wpAny_bind (wpAny_newList ?_ lz)
  have sz : ((s2.heap.push (seqObj "list" #[] 0)).update s2.heap.objs.size (Obj.mapSeq (· ++ (as.map Value.ref).toArray))).objs.size = s2.heap.objs.size + 1 := by rw [Heap.size_update, size_push']
  have kp : ∀ b o, s2.heap.get? b = some o → (((s2.heap.push (seqObj "list" #[] 0)).update s2.heap.objs.size (Obj.mapSeq (· ++ (as.map Value.ref).toArray))).push (seqObj "list" (as.map Value.ref).toArray 0)).get? b = some o := fun b o hb => by
    have lt := Heap.lt_size hb
    refine Heap.get?_push_of_some _ ?_
    rw [Heap.get?_update_other _ _ (fun z => absurd (show s2.heap.objs.size < s2.heap.objs.size by rw [z]; rw [z] at lt; exact lt) (Nat.lt_irrefl _))]
    exact Heap.get?_push_of_some _ hb
  have gD : (((s2.heap.push (seqObj "list" #[] 0)).update s2.heap.objs.size (Obj.mapSeq (· ++ (as.map Value.ref).toArray))).push (seqObj "list" (as.map Value.ref).toArray 0)).get? (s2.heap.objs.size + 1) = some (seqObj "list" (as.map Value.ref).toArray 0) := by
    rw [← sz]; exact Heap.get?_push_size _ rfl
  have I3 : Inv X pins σ H2 { s2 with heap := ((s2.heap.push (seqObj "list" #[] 0)).update s2.heap.objs.size (Obj.mapSeq (· ++ (as.map Value.ref).toArray))).push (seqObj "list" (as.map Value.ref).toArray 0) } := I2.kept (t' := s2.toks) kp
  have fD : FpOk X pins H2 (s2.heap.objs.size + 1) := I2.fpOk (Nat.le_succ _) (I2.hok.fresh (Nat.le_succ _))
  show wpAny _ _ _ _ _ { s2 with heap := ((s2.heap.push (seqObj "list" #[] 0)).update s2.heap.objs.size (Obj.mapSeq (· ++ (as.map Value.ref).toArray))).push (seqObj "list" (as.map Value.ref).toArray 0) }
  rw [sz]
  refine wpAny_bind (wpAny_holding (wpAny_call_entry_kw slot_list_sort ⟨_, gD, rfl⟩ entry_list_sort ?_ (ksk_l1 _ _)))
  show wpAny (model X.prog X.w) X.A.in1.in1 (Builtin.«list.sort» ⟨[.ref (s2.heap.objs.size + 1)], [(Str.ofString "key", .ref f)]⟩) _ _ _
  rw [ksk_t1]
  refine sk_tree F bF hr hR I3 fD gD hZ fun s4 out c J g ko => ⟨_, rfl, wpAny_pure ⟨_, rfl, ?_⟩⟩
  obtain ⟨cs, u, eo, hC, hp, hu⟩ := ksk_rows hR ko
  have cz : cs.length ≤ sizeLine := by
    have e1 := Paired.length hC
    have e2 := hp.length_eq
    have e3 := Paired.length hR
    omega
  have eo2 : out = (cs.map Value.ref).toArray := by rw [← eo]
  subst eo2
  refine ⟨V.ref (s2.heap.objs.size + 1), upd H2 (s2.heap.objs.size + 1) (.lst (cs.map V.ref)), ?_, rfl, q _ cs u fD.1 hC hp hu⟩
  exact track_new J fD ⟨by rw [List.length_map]; exact cz, cs.map Value.ref, c, vals_refs cs, g⟩
end
end Vm

end
section
set_option Elab.async false
set_option linter.all false
set_option maxRecDepth 100000
set_option maxHeartbeats 2000000
namespace Vm
open PySem PySem.Spec PyProof.Rows L2

/-! ### tables in order -/
theorem inc_ext : ∀ {a b : Kh302.Table}, Inc a → Inc b → (∀ r, r ∈ a ↔ r ∈ b) → a = b
  | [], [], _, _, _ => rfl
  | [], y :: b, _, _, h => by have := (h y).mpr (by simp); simp at this
  | x :: a, [], _, _, h => by have := (h x).mp (by simp); simp at this
  | x :: a, y :: b, ia, ib, h => by
    have ia' : (x.key :: a.map Kh302.Row.key).Pairwise (· < ·) := ia
    have ib' : (y.key :: b.map Kh302.Row.key).Pairwise (· < ·) := ib
    obtain ⟨a1, a2⟩ := List.pairwise_cons.mp ia'
    obtain ⟨b1, b2⟩ := List.pairwise_cons.mp ib'
    have exy : x = y := by
      rcases List.mem_cons.mp ((h x).mp (by simp)) with e | e
      · exact e
      · rcases List.mem_cons.mp ((h y).mpr (by simp)) with e2 | e2
        · exact e2.symm
        · have h1 := b1 x.key (List.mem_map.mpr ⟨x, e, rfl⟩)
          have h2 := a1 y.key (List.mem_map.mpr ⟨y, e2, rfl⟩)
          omega
    subst exy
    have na : x ∉ a := fun m => by
      have := a1 x.key (List.mem_map.mpr ⟨x, m, rfl⟩)
      omega
    have nb : x ∉ b := fun m => by
      have := b1 x.key (List.mem_map.mpr ⟨x, m, rfl⟩)
      omega
    rw [inc_ext (a := a) (b := b) a2 b2 fun r => ?_]
    constructor
    · intro m
      rcases List.mem_cons.mp ((h r).mp (List.mem_cons_of_mem _ m)) with e | e
      · rw [e] at m; exact absurd m na
      · exact e
    · intro m
      rcases List.mem_cons.mp ((h r).mpr (List.mem_cons_of_mem _ m)) with e | e
      · rw [e] at m; exact absurd m nb
      · exact e
theorem up_inc : ∀ {u : Kh302.Table}, Up u → (u.map Kh302.Row.key).Nodup → Inc u
  | [], _, _ => .nil
  | x :: u, h, n => by
    have h' : List.Pairwise (fun x y : Kh302.Row => x.key ≤ y.key) (x :: u) := h
    obtain ⟨h1, h2⟩ := List.pairwise_cons.mp h'
    have n' : (x.key :: u.map Kh302.Row.key).Nodup := n
    obtain ⟨n1, n2⟩ := List.nodup_cons.mp n'
    refine List.pairwise_cons.mpr ⟨fun k hk => ?_, up_inc (u := u) h2 n2⟩
    obtain ⟨y, hy, rfl⟩ := List.mem_map.mp hk
    have q := h1 y hy
    have q2 : x.key ≠ y.key := fun e => n1 (by rw [e]; exact hk)
    omega
theorem inc_nodup {t : Kh302.Table} (i : Inc t) : (t.map Kh302.Row.key).Nodup := List.Pairwise.imp (fun h => Nat.ne_of_lt h) i
theorem up_eq {u v : Kh302.Table} (h : Up u) (p : u.Perm v) (i : Inc v) : u = v := by
  have n : (u.map Kh302.Row.key).Nodup := ((p.map Kh302.Row.key).nodup_iff).mpr (inc_nodup i)
  exact inc_ext (up_inc h n) i fun r => p.mem_iff
theorem insert_perm (r : Kh302.Row) : ∀ t : Kh302.Table, (Kh302.insert r t).Perm (r :: t)
  | [] => .refl _
  | x :: l => by
    unfold Kh302.insert
    by_cases h : r.key < x.key
    · rw [if_pos h]
    · rw [if_neg h]
      exact ((insert_perm r l).cons x).trans (.swap r x l)
theorem putAll_perm : ∀ (w z : Kh302.Table), (putAll w z).Perm (w ++ z)
  | [], z => .refl _
  | r :: w, z => by
    show (putAll w (Kh302.insert r z)).Perm (r :: (w ++ z))
    refine (putAll_perm w _).trans (((insert_perm r z).append_left w).trans ?_)
    exact List.perm_middle
theorem with_perm (t : Kh302.Table) (r : Kh302.Row) : (Kh303.without t r.key ++ [r]).Perm (with_ t r) :=
  (List.perm_append_comm).trans (insert_perm r _).symm
theorem filter_sum (φ : Kh302.Row → Bool) : ∀ t : Kh302.Table, (t.filter φ).length + (t.filter fun r => !φ r).length = t.length
  | [] => rfl
  | y :: t => by
    have ih := filter_sum φ t
    rw [List.filter_cons, List.filter_cons]
    cases q : φ y with
    | true => rw [if_pos rfl, if_neg (by decide), List.length_cons, List.length_cons]; omega
    | false => rw [if_neg (by decide), if_pos (show (!false) = true from rfl), List.length_cons, List.length_cons]; omega
theorem backStep_len {s : Kh302.Step} {t w x : Kh302.Table} (h : Kh302.backStep s t w = .table x) (hw : w.length ≤ (Kh302.shows s t).length + 1) : x.length ≤ t.length + 1 := by
  by_cases h0 : s.kind = 0
  · rw [backStep_keep h0] at h
    have sh : Kh302.shows s t = t.filter (Kh302.keeps s) := by unfold Kh302.shows; rw [if_pos h0]
    rw [sh] at hw
    have hsum := filter_sum (Kh302.keeps s) t
    split at h
    · cases h
    · split at h
      · cases h
      · injection h with h
        rw [← h, putAll_len]
        omega
  · have sz : (Kh302.shows s t).length = t.length := by
      unfold Kh302.shows
      rw [if_neg h0]
      split <;> rw [List.length_map]
    rw [sz] at hw
    by_cases h1 : s.kind = 1
    · rw [backStep_hide h1] at h
      split at h
      · cases h
      · injection h with h
        rw [← h, List.length_map]; exact hw
    · rw [backStep_shift h0 h1] at h
      injection h with h
      rw [← h, List.length_map]; exact hw

/-! ### small steps of a comprehension over a table -/
theorem small_lt {n : Nat} (h : n ≤ 1000) : n < sizeLine := Nat.lt_of_le_of_lt h (by decide)
theorem map_step {H H' H4 : Hp} {D p : Addr} {i : Nat} {bs : List Addr} {t : Kh302.Table} {g : Kh302.Row → Kh302.Row} {r : Kh302.Row} (hn : t.length ≤ 1000) (hD : H D = Option.none) (hD' : H' D = some (.lst (bs.map V.ref))) (hB : Rows H' bs ((t.take i).map g)) (sm : Same H H') (hr : t[i]? = some r)
    (hp : RowAt H4 p (g r)) (s4 : Same H' H4) : ∃ acc, H4 D = some (.lst acc) ∧ acc.length < sizeLine ∧ ∃ cs : List Addr, upd H4 D (.lst (acc ++ [V.ref p])) D = some (.lst (cs.map V.ref)) ∧ Rows (upd H4 D (.lst (acc ++ [V.ref p]))) cs ((t.take (i + 1)).map g) ∧ Same H (upd H4 D (.lst (acc ++ [V.ref p]))) := by
  refine ⟨_, s4 _ _ hD', ?_, bs ++ [p], ?_, ?_, Same.put (sm.trans s4) hD⟩
  · rw [List.length_map, Paired.length hB, List.length_map, List.length_take]
    exact small_lt (Nat.le_trans (Nat.min_le_right _ _) hn)
  · rw [upd_same, List.map_append]; rfl
  · rw [take_snoc hr, List.map_append]
    exact Rows.upd (Paired.snoc (hB.same s4) hp) (s4 _ _ hD')
theorem bl_step {H H' : Hp} {D : Addr} {i : Nat} {t : Kh302.Table} {φ : Kh302.Row → Bool} {r : Kh302.Row} (hn : t.length ≤ 1000) (hD : H D = Option.none) (hD' : H' D = some (.lst (((t.take i).map φ).map V.bl))) (sm : Same H H') (hr : t[i]? = some r) :
    ∃ acc, H' D = some (.lst acc) ∧ acc.length < sizeLine ∧ upd H' D (.lst (acc ++ [V.bl (φ r)])) D = some (.lst (((t.take (i + 1)).map φ).map V.bl)) ∧ Same H (upd H' D (.lst (acc ++ [V.bl (φ r)]))) := by
  refine ⟨_, hD', ?_, ?_, Same.put sm hD⟩
  · rw [List.length_map, List.length_map, List.length_take]
    exact small_lt (Nat.le_trans (Nat.min_le_right _ _) hn)
  · rw [upd_same, take_snoc hr, List.map_append, List.map_append]; rfl
theorem filter_step {H H' : Hp} {D b : Addr} {i : Nat} {bs : List Addr} {t : Kh302.Table} {φ : Kh302.Row → Bool} {r : Kh302.Row} (hn : t.length ≤ 1000) (hD : H D = Option.none) (hD' : H' D = some (.lst (bs.map V.ref))) (hB : Rows H' bs ((t.take i).filter φ)) (sm : Same H H') (hr : t[i]? = some r)
    (hp : RowAt H' b r) (hφ : φ r = true) : ∃ acc, H' D = some (.lst acc) ∧ acc.length < sizeLine ∧ ∃ cs : List Addr, upd H' D (.lst (acc ++ [V.ref b])) D = some (.lst (cs.map V.ref)) ∧ Rows (upd H' D (.lst (acc ++ [V.ref b]))) cs ((t.take (i + 1)).filter φ) ∧ Same H (upd H' D (.lst (acc ++ [V.ref b]))) := by
  refine ⟨_, hD', ?_, bs ++ [b], ?_, ?_, Same.put sm hD⟩
  · rw [List.length_map, Paired.length hB]
    refine small_lt (Nat.le_trans (List.length_filter_le ..) ?_)
    rw [List.length_take]
    exact Nat.le_trans (Nat.min_le_right _ _) hn
  · rw [upd_same, List.map_append]; rfl
  · rw [take_snoc hr, List.filter_append, List.filter_cons, List.filter_nil, if_pos hφ]
    exact Rows.upd (Paired.snoc hB hp) hD'
theorem filter_skip {H' : Hp} {i : Nat} {bs : List Addr} {t : Kh302.Table} {φ : Kh302.Row → Bool} {r : Kh302.Row} (hB : Rows H' bs ((t.take i).filter φ)) (hr : t[i]? = some r) (hφ : φ r = false) : Rows H' bs ((t.take (i + 1)).filter φ) := by
  rw [take_snoc hr, List.filter_append, List.filter_cons, List.filter_nil, if_neg (by rw [hφ]; decide), List.append_nil]
  exact hB

/-! ### a dict of rows by key -/
def DictAt (H : Hp) (d : Addr) (t : Kh302.Table) : Prop := ∃ kvs : List (L2.Key × V), H d = some (.dK kvs) ∧ ∀ key : Nat, match Kh302.find t key with
  | some r => ∃ a, valV kvs (Sum.inl (key : Int)) = some (.ref a) ∧ RowAt H a r
  | Option.none => valV kvs (Sum.inl (key : Int)) = Option.none
theorem DictAt.same {H H' : Hp} {d : Addr} {t : Kh302.Table} (s : Same H H') (h : DictAt H d t) : DictAt H' d t := by
  obtain ⟨kvs, h1, h2⟩ := h
  refine ⟨kvs, s _ _ h1, fun key => ?_⟩
  have q := h2 key
  cases e : Kh302.find t key with
  | none => rw [e] at q; exact q
  | some r =>
    rw [e] at q
    obtain ⟨a, q1, q2⟩ := q
    exact ⟨a, q1, s _ _ q2⟩
def pairV (p : Addr × Kh302.Row) : L2.Key × V := (Sum.inl (p.2.key : Int), .ref p.1)
theorem merge_nodup : ∀ (more kvs : List (L2.Key × V)), ((kvs ++ more).map Prod.fst).Nodup → mergeK kvs more = kvs ++ more
  | [], kvs, _ => by rw [List.append_nil]; rfl
  | kv :: more, kvs, n => by
    show mergeK (putK kvs kv.1 kv.2) more = kvs ++ kv :: more
    have e : putK kvs kv.1 kv.2 = kvs ++ [kv] := by
      unfold putK
      rw [if_neg]
      intro h
      obtain ⟨x, hx, hk⟩ := List.any_eq_true.mp h
      have hk' : x.1 = kv.1 := of_decide_eq_true hk
      rw [List.map_append, List.map_cons] at n
      exact (List.nodup_append.mp n).2.2 x.1 (List.mem_map.mpr ⟨x, hx, rfl⟩) kv.1 (by simp) hk'
    rw [e, merge_nodup more (kvs ++ [kv]) (by rw [List.append_assoc]; exact n), List.append_assoc]
    rfl
theorem val_pairs {H : Hp} (key : Nat) : ∀ {as : List Addr} {t : Kh302.Table}, Rows H as t → (match Kh302.find t key with
  | some r => ∃ a, valV ((as.zip t).map pairV) (Sum.inl (key : Int)) = some (.ref a) ∧ RowAt H a r
  | Option.none => valV ((as.zip t).map pairV) (Sum.inl (key : Int)) = Option.none)
  | _, _, .nil => rfl
  | a :: as, r :: t, .cons h1 h2 => by
    have ih := val_pairs key h2
    have e1 : valV (((a :: as).zip (r :: t)).map pairV) (Sum.inl (key : Int)) = if r.key = key then some (.ref a) else valV ((as.zip t).map pairV) (Sum.inl (key : Int)) := by
      show ((((Sum.inl (r.key : Int) : L2.Key), V.ref a) :: (as.zip t).map pairV).find? fun kv => decide (kv.1 = Sum.inl (key : Int))).map (·.2) = _
      rw [List.find?_cons]
      by_cases e : r.key = key
      · rw [decide_eq_true (by rw [e]), if_pos e]; rfl
      · rw [decide_eq_false (fun q => e (by have := Sum.inl.inj q; omega)), if_neg e]; rfl
    have e2 : Kh302.find (r :: t) key = if r.key = key then some r else Kh302.find t key := by
      unfold Kh302.find
      rw [List.find?_cons]
      by_cases e : r.key = key
      · rw [beq_iff_eq.mpr e, if_pos e]
      · rw [beq_eq_false_iff_ne.mpr e, if_neg e]
    rw [e1, e2]
    by_cases e : r.key = key
    · rw [if_pos e, if_pos e]
      exact ⟨a, rfl, h1⟩
    · rw [if_neg e, if_neg e]
      exact ih
theorem fst_pairs : ∀ {as : List Addr} {t : Kh302.Table} {H : Hp}, Rows H as t → ((as.zip t).map pairV).map Prod.fst = (t.map Kh302.Row.key).map fun k : Nat => (Sum.inl (k : Int) : L2.Key)
  | _, _, _, .nil => rfl
  | a :: as, r :: t, _, .cons _ h => by
    show (Sum.inl (r.key : Int) : L2.Key) :: ((as.zip t).map pairV).map Prod.fst = Sum.inl (r.key : Int) :: _
    rw [fst_pairs h]

/-! ### the text by places, and what the module's top has written besides -/
abbrev sKeyOf : Stmt := top 23
abbrev sRising : Stmt := top 24
abbrev sByKey : Stmt := top 25
abbrev sWithout : Stmt := top 26
abbrev sWithRow : Stmt := top 27
abbrev sByKeep : Stmt := top 28
abbrev sNumber : Stmt := top 29
abbrev sByHide : Stmt := top 30
abbrev sByStep : Stmt := top 31
abbrev sTables : Stmt := top 32
abbrev sWritten : Stmt := top 33
structure TxtB (K : PySem.W.Frag) (mg : Str → Option Value) (CN CT : Addr) : Prop where
  mgN : mg "NotShowable" = some (.ref CN)
  mgT : mg "KeyTaken" = some (.ref CT)
  xN : ExcC K CN
  xT : ExcC K CT
  any : mg "any" = Option.none
  sorted : mg "sorted" = Option.none
  dict : mg "dict" = Option.none

/-! ### the promises -/
def spRising : Sp := fun vs H Q _ => ∃ (l : Addr) (t : Kh302.Table), vs = [.ref l] ∧ TabAt H l t ∧ t.length ≤ 1000 ∧ ∀ (H' : Hp) (p : Addr) (u : Kh302.Table), TabAt H' p u → u.Perm t → Up u → H p = Option.none → Same H H' → Q (.ref p) H'
def spByKey : Sp := fun vs H Q _ => ∃ (l : Addr) (t : Kh302.Table), vs = [.ref l] ∧ TabAt H l t ∧ Inc t ∧ t.length ≤ 1000 ∧ ∀ (H' : Hp) (d : Addr), DictAt H' d t → H d = Option.none → Same H H' → Q (.ref d) H'
def spWithout : Sp := fun vs H Q _ => ∃ (l : Addr) (t : Kh302.Table) (k : Nat), vs = [.ref l, cellV k] ∧ TabAt H l t ∧ t.length ≤ 1000 ∧ ∀ (H' : Hp) (p : Addr), TabAt H' p (Kh303.without t k) → H p = Option.none → Same H H' → Q (.ref p) H'
def spWithRow : Sp := fun vs H Q _ => ∃ (l b : Addr) (t : Kh302.Table) (r : Kh302.Row), vs = [.ref l, .ref b] ∧ TabAt H l t ∧ Inc t ∧ t.length ≤ 999 ∧ RowAt H b r ∧ ∀ (H' : Hp) (p : Addr), TabAt H' p (with_ t r) → H p = Option.none → Same H H' → Q (.ref p) H'
def spNumber (C : Addr) : Sp := fun vs H Q _ => ∃ (d a : Addr) (t : Kh302.Table) (s : Kh302.Step) (key : Nat), vs = [.ref d, .ref a, cellV key] ∧ DictAt H d t ∧ RowsOk t ∧ StepAt C H a s ∧ s.col ≤ 4 ∧ Q (cellV (match Kh302.find t key with
  | some x => x.col s.col
  | Option.none => s.value)) H

section
variable {P : Program} {w : World} {K : PySem.W.Frag} {mg : Str → Option Value} {base : Heap}

/-! key_of -/
theorem scKeyOf : FnScope ["row"] ["row"] (defScope sKeyOf) := ⟨rfl, rfl, rfl, by decide +kernel, rfl, by decide +kernel, by decide +kernel⟩
theorem ok_keyOf {f : Addr} {fd : FuncData} (F : Fun K "key_of" "key_of" sKeyOf f fd) : FnOk P w K mg base CX0 1 f fd ["row"] spKeyOf := by
  refine F.ok scKeyOf (fun vs H Q E h => ?_) (fun cdv A outer s H vs Q E hr h => ?_)
  · obtain ⟨a, r, rfl, _⟩ := h
    rfl
  · obtain ⟨a, r, rfl, ha, k⟩ := h
    refine ⟨_, pss_one (ps_ret (pe_ix ix_tup (pv 0) pe_int (fun _ _ => rfl))), ?_⟩
    exact ⟨_, rfl, a, _, _, _, rfl, rfl, SqT.of ha, at_of (j := 0) rfl rfl, k⟩

/-! by_rising_keys -/
theorem scRising : FnScope ["rows"] ["rows"] (defScope sRising) := ⟨rfl, rfl, rfl, by decide +kernel, rfl, by decide +kernel, by decide +kernel⟩
theorem ok_rising {f CN CT : Addr} {fd : FuncData} (F : Fun K "by_rising_keys" "by_rising_keys" sRising f fd) (T : TxtB K mg CN CT) (D1 : DefOk P w K mg base 1 "key_of" ["row"] spKeyOf) : FnOk P w K mg base CX0 4 f fd ["rows"] spRising := by
  refine F.ok scRising (fun vs H Q E h => ?_) (fun cdv A outer s H vs Q E hr h => ?_)
  · obtain ⟨l, t, rfl, _⟩ := h
    rfl
  · obtain ⟨l, t, rfl, ⟨as, hl, hA⟩, hn, k⟩ := h
    refine ⟨_, pss_one (ps_ret (pe_sortK D1 hr rfl T.sorted rfl (pv 0))), ?_⟩
    refine ⟨_, rfl, l, as, t, rfl, hl, hA, by rw [Paired.length hA]; exact hn, fun p cs u hp hC hperm hup => ?_⟩
    exact k _ p u ⟨cs, upd_same, hC.same (Same.new hp)⟩ hperm hup hp (Same.new hp)

/-! by_key -/
theorem scByKey : FnScope ["rows", "row"] ["rows"] (defScope sByKey) := ⟨rfl, rfl, rfl, by decide +kernel, rfl, by decide +kernel, by decide +kernel⟩
theorem ok_byKey {f CN CT : Addr} {fd : FuncData} (F : Fun K "by_key" "by_key" sByKey f fd) (T : TxtB K mg CN CT) (D1 : DefOk P w K mg base 1 "key_of" ["row"] spKeyOf) : FnOk P w K mg base CX0 2 f fd ["rows"] spByKey := by
  refine F.ok scByKey (fun vs H Q E h => ?_) (fun cdv A outer s H vs Q E hr h => ?_)
  · obtain ⟨l, t, rfl, _⟩ := h
    rfl
  · obtain ⟨l, t, rfl, ⟨as, hl, hA⟩, it, hn, k⟩ := h
    refine ⟨_, pss_one (ps_ret (pe_callTy (call_dictP rfl) (by rfl) T.dict PyProof.Rows.boot_dict (pa_cons (pe_lc rfl scByKey.nd (pi_list (pv 0)) (blkOk_by (own := [("row", 1)]) (by kernel_rfl)) (fun _ _ _ _ _ => pg_name (i := 1) scByKey.nd rfl (Or.inl rfl))
      (fun _ _ _ _ _ => pts_nil) (fun _ _ _ _ _ => pe_tup (pa_cons (pe_def D1 hr rfl (pa_cons (pv 1) pa_nil)) (pa_cons (pv 1) pa_nil)))) pa_nil))), ?_⟩
    have hlen := Paired.length hA
    refine ⟨_, rfl, l, rfl, ⟨_, SqL.of hl⟩, fun D hD => lc_list (K := K) (a := l) (xs := as.map V.ref)
      (fun i H' => ∃ ps : List Addr, H' D = some (.lst (ps.map V.ref)) ∧ Paired (fun p kv => H' p = some (.tup [kV kv.1, kv.2])) ps (((as.zip t).take i).map pairV) ∧ Same H H') ⟨[], upd_same, .nil, Same.new hD⟩
      (fun i H' _ ⟨_, _, _, sm⟩ => SqL.of (sm _ _ hl)) ?_ ?_⟩
    · rintro i x H' hx ⟨ps, hD', hP, sm⟩
      obtain ⟨b, hb, rfl⟩ := map_get hx
      obtain ⟨r, hr', hrow⟩ := paired_get hA hb
      have hz : (as.zip t)[i]? = some (b, r) := by
        rw [List.getElem?_zip_eq_some]
        exact ⟨hb, hr'⟩
      refine ⟨rfl, tyes ?_⟩
      refine ⟨_, rfl, b, r, rfl, sm _ _ hrow, _, rfl, (by show 2 ≤ sizeLine; decide), fun q hq => ?_⟩
      have sq : Same H' (upd H' q (.tup [cellV r.key, .ref b])) := Same.new hq
      have hDq := sq _ _ hD'
      have hzl : ps.length ≤ 1000 := by
        have e := Paired.length hP
        rw [List.length_map, List.length_take, List.length_zip] at e
        omega
      refine ⟨_, hDq, by rw [List.length_map]; exact small_lt hzl, ps ++ [q], ?_, ?_, Same.put (sm.trans sq) hD⟩
      · rw [upd_same, List.map_append]; rfl
      · rw [take_snoc hz, List.map_append]
        have up : ∀ (p : Addr) (kv : L2.Key × V), upd H' q (.tup [cellV r.key, .ref b]) p = some (.tup [kV kv.1, kv.2]) → upd (upd H' q (.tup [cellV r.key, .ref b])) D (.lst (ps.map V.ref ++ [V.ref q])) p = some (.tup [kV kv.1, kv.2]) := fun p kv e => by
          rw [upd_ne (ne_of e hDq (by intro z; cases z))]; exact e
        exact Paired.snoc (paired_mono (fun p kv e => up p kv (sq _ _ e)) hP) (up q (pairV (b, r)) upd_same)
    · rintro H' ⟨ps, hD', hP, sm⟩
      rw [List.length_map, List.take_of_length_le (by rw [List.length_zip]; omega)] at hP
      refine ⟨D, ps, _, rfl, SqL.of hD', paired_mono (fun p kv e => SqT.of e) hP, fun d hd => ?_⟩
      have sd : Same H' (upd H' d (.dK (mergeK [] ((as.zip t).map pairV)))) := Same.new hd
      have nd : (([] ++ (as.zip t).map pairV).map Prod.fst).Nodup := by
        rw [List.nil_append, fst_pairs hA]
        refine List.Pairwise.map _ (fun a b (h : a ≠ b) => ?_) (inc_nodup it)
        intro q
        have := Sum.inl.inj q
        omega
      have em := merge_nodup ((as.zip t).map pairV) [] nd
      rw [List.nil_append] at em
      exact k _ d ⟨(as.zip t).map pairV, by rw [upd_same, em], fun key => val_pairs key (hA.same (sm.trans sd))⟩ (sm.free hd) (sm.trans sd)

/-! without_key -/
theorem scWithout : FnScope ["rows", "key", "row"] ["rows", "key"] (defScope sWithout) := ⟨rfl, rfl, rfl, by decide +kernel, rfl, by decide +kernel, by decide +kernel⟩
theorem ok_without {f CN CT : Addr} {fd : FuncData} (F : Fun K "without_key" "without_key" sWithout f fd) (T : TxtB K mg CN CT) (D1 : DefOk P w K mg base 1 "key_of" ["row"] spKeyOf) : FnOk P w K mg base CX0 2 f fd ["rows", "key"] spWithout := by
  refine F.ok scWithout (fun vs H Q E h => ?_) (fun cdv A outer s H vs Q E hr h => ?_)
  · obtain ⟨l, t, k, rfl, _⟩ := h
    rfl
  · obtain ⟨l, t, k, rfl, ⟨as, hl, hA⟩, hn, kk⟩ := h
    refine ⟨_, pss_one (ps_ret (pe_lc rfl scWithout.nd (pi_list (pv 0)) (blkOk_by (own := [("row", 2)]) (by kernel_rfl)) (fun _ _ _ _ _ => pg_name (i := 2) scWithout.nd rfl (Or.inl rfl))
      (fun _ _ _ _ _ => pts_one (pt_cmpR op_ne (pe_def D1 hr rfl (pa_cons (pv 2) pa_nil)) (pv 1) (nomark _))) (fun _ _ _ _ _ => pv 2))), ?_⟩
    have hlen := Paired.length hA
    refine ⟨_, rfl, l, rfl, ⟨_, SqL.of hl⟩, fun D hD => lc_list (K := K) (a := l) (xs := as.map V.ref)
      (fun i H' => ∃ bs : List Addr, H' D = some (.lst (bs.map V.ref)) ∧ Rows H' bs ((t.take i).filter fun r => r.key != k) ∧ Same H H') ⟨[], upd_same, .nil, Same.new hD⟩
      (fun i H' _ ⟨_, _, _, sm⟩ => SqL.of (sm _ _ hl)) ?_ ?_⟩
    · rintro i x H' hx ⟨bs, hD', hB, sm⟩
      obtain ⟨b, hb, rfl⟩ := map_get hx
      obtain ⟨r, hr', hrow⟩ := paired_get hA hb
      have hrow' : RowAt H' b r := sm _ _ hrow
      refine ⟨rfl, _, rfl, b, r, rfl, hrow', _, rfl, rfl, _, rfl, ?_⟩
      have e : (!decide (cellV r.key = cellV k)) = (r.key != k) := by
        rw [Bool.eq_iff_iff]
        unfold cellV
        simp
        omega
      rw [e]
      refine itb (fun hk => ?_) (fun hk => ?_)
      · exact ⟨_, rfl, filter_step (φ := fun r => r.key != k) hn hD hD' hB sm hr' hrow' hk⟩
      · exact ⟨bs, hD', filter_skip (φ := fun r => r.key != k) hB hr' hk, sm⟩
    · rintro H' ⟨bs, hD', hB, sm⟩
      rw [List.length_map, hlen, List.take_length] at hB
      exact kk H' D ⟨bs, hD', hB⟩ hD sm

/-! with_row -/
theorem scWithRow : FnScope ["rows", "row"] ["rows", "row"] (defScope sWithRow) := ⟨rfl, rfl, rfl, by decide +kernel, rfl, by decide +kernel, by decide +kernel⟩
theorem rows_append : ∀ {H : Hp} {as bs : List Addr} {t u : Kh302.Table}, Rows H as t → Rows H bs u → Rows H (as ++ bs) (t ++ u)
  | _, _, _, _, _, .nil, h => h
  | _, _, _, _, _, .cons r t, h => .cons r (rows_append t h)
theorem ok_withRow {f CN CT : Addr} {fd : FuncData} (F : Fun K "with_row" "with_row" sWithRow f fd) (T : TxtB K mg CN CT) (D1 : DefOk P w K mg base 1 "key_of" ["row"] spKeyOf) (D2 : DefOk P w K mg base 2 "without_key" ["rows", "key"] spWithout)
    (D3 : DefOk P w K mg base 4 "by_rising_keys" ["rows"] spRising) : FnOk P w K mg base CX0 5 f fd ["rows", "row"] spWithRow := by
  refine F.ok scWithRow (fun vs H Q E h => ?_) (fun cdv A outer s H vs Q E hr h => ?_)
  · obtain ⟨l, b, t, r, rfl, _⟩ := h
    rfl
  · obtain ⟨l, b, t, r, rfl, hT, it, hn, hb, k⟩ := h
    refine ⟨_, pss_one (ps_ret (pe_def D3 hr rfl (pa_cons (pe_op op_cat (pe_def D2 (hr.mono (by omega)) rfl (pa_cons (pv 0) (pa_cons (pe_def D1 (hr.mono (by omega)) rfl (pa_cons (pv 1) pa_nil)) pa_nil))) (pe_lst (pa_cons (pv 1) pa_nil))) pa_nil))), ?_⟩
    refine ⟨_, rfl, _, rfl, b, r, rfl, hb, l, t, r.key, rfl, hT, by omega, fun H1 p1 ⟨as, h1, hA⟩ n1 s1 => ?_⟩
    refine ⟨_, rfl, (by show 1 ≤ sizeLine; decide), fun p2 h2 => ?_⟩
    have s2 : Same H1 (upd H1 p2 (.lst [.ref b])) := Same.new h2
    have hz : as.length ≤ 999 := by
      rw [Paired.length hA]
      exact Nat.le_trans (without_len t r.key) hn
    refine ⟨p1, p2, _, _, rfl, rfl, s2 _ _ h1, upd_same, ?_, fun p3 h3 => ?_⟩
    · rw [List.length_map]
      show as.length + 1 ≤ sizeLine
      exact Nat.le_of_lt (small_lt (by omega))
    have s3 : Same (upd H1 p2 (.lst [.ref b])) (upd (upd H1 p2 (.lst [.ref b])) p3 (.lst (as.map V.ref ++ [.ref b]))) := Same.new h3
    have hR : Rows (upd (upd H1 p2 (.lst [.ref b])) p3 (.lst (as.map V.ref ++ [.ref b]))) (as ++ [b]) (Kh303.without t r.key ++ [r]) := rows_append (hA.same (s2.trans s3)) (.cons ((s1.trans (s2.trans s3)) _ _ hb) .nil)
    refine ⟨p3, Kh303.without t r.key ++ [r], rfl, ⟨as ++ [b], by rw [upd_same, List.map_append]; rfl, hR⟩, ?_, fun H4 p4 u hu hperm hup n4 s4 => ?_⟩
    · rw [← Paired.length hR, List.length_append]
      show as.length + 1 ≤ 1000
      omega
    have e : u = with_ t r := up_eq hup (hperm.trans (with_perm t r)) (with_inc r it)
    subst e
    have sall := s1.trans (s2.trans s3)
    exact k H4 p4 hu (sall.free n4) (sall.trans s4)

/-! number_beneath -/
theorem scNumber : FnScope ["there", "step", "key"] ["there", "step", "key"] (defScope sNumber) := ⟨rfl, rfl, rfl, by decide +kernel, rfl, by decide +kernel, by decide +kernel⟩
theorem ok_number {f C : Addr} {fd : FuncData} (F : Fun K "number_beneath" "number_beneath" sNumber f fd) (T : Txt K mg C) : FnOk P w K mg base CX0 1 f fd ["there", "step", "key"] (spNumber C) := by
  refine F.ok scNumber (fun vs H Q E h => ?_) (fun cdv A outer s H vs Q E hr h => ?_)
  · obtain ⟨d, a, t, st, key, rfl, _⟩ := h
    rfl
  · obtain ⟨d, a, t, st, key, rfl, ⟨kvs, hd, hv⟩, rt, ⟨dx, ha⟩, hc, k⟩ := h
    refine ⟨_, pss_cons (ps_if (pt_cmp (pc_din (hu_of hr) (pv 2) (pv 0))) (pss_one (ps_ret (pe_ix ix_tup (pe_dget (hu_of hr) (pv 0) (pv 2) (fun _ _ => rfl)) (pe_fld (pv 1) rfl) (fun _ _ => rfl)))) pss_nil) (pss_one (ps_ret (pe_fld (pv 1) rfl))), ?_⟩
    have q := hv key
    refine ⟨_, rfl, _, rfl, d, _, rfl, DGet.k (k := Sum.inl (key : Int)) hd, _, rfl, ?_⟩
    cases e : Kh302.find t key with
    | some r =>
      rw [e] at q k
      obtain ⟨b, q1, q2⟩ := q
      have g := DGet.k (k := Sum.inl (key : Int)) hd
      rw [q1] at g ⊢
      rw [if_pos (show (some (V.ref b)).isSome = true from rfl)]
      refine ⟨_, rfl, _, rfl, d, _, rfl, g, _, rfl, a, C, dx, _, _, rfl, ha, T.cl, T.nCol, sf_col st, b, _, _, _, rfl, rfl, SqT.of q2, at_of (j := st.col) rfl (rowV_at (width rt (find_some e).1) hc), k⟩
    | none =>
      rw [e] at q k
      rw [q, if_neg (by decide)]
      exact ⟨_, rfl, a, C, dx, _, _, rfl, ha, T.cl, T.nValue, sf_value st, k⟩
end
end Vm

end
section
set_option Elab.async false
set_option linter.all false
set_option maxRecDepth 100000
set_option maxHeartbeats 2000000
namespace Vm
open PySem PySem.Spec PyProof.Rows L2

/-! ### what a writing back promises: a table, or one of two exceptions -/
def BackQ (CN CT : Addr) (H : Hp) (Q : VK) (E : XK) : Kh302.Back → Prop
  | .table x => ∀ (H' : Hp) (p : Addr), TabAt H' p x → H p = Option.none → Same H H' → Q (.ref p) H'
  | .unkept => ∀ H' : Hp, Same H H' → E (.ref CN) Option.none H'
  | .taken => ∀ H' : Hp, Same H H' → E (.ref CT) Option.none H'
structure BackIn (C : Addr) (H : Hp) (l a l2 : Addr) (t : Kh302.Table) (s : Kh302.Step) (w : Kh302.Table) : Prop where
  tab : TabAt H l t
  st : StepAt C H a s
  new : TabAt H l2 w
  os : Kh302.okStep s = true
  rt : RowsOk t
  it : Inc t
  rw_ : RowsOk w
  iw : Inc w
  nt : t.length ≤ 256
  nw : w.length ≤ 257
def spByStep (C CN CT : Addr) (φ : Kh302.Step → Prop) : Sp := fun vs H Q E => ∃ (l a l2 : Addr) (t : Kh302.Table) (s : Kh302.Step) (w : Kh302.Table), vs = [.ref l, .ref a, .ref l2] ∧ BackIn C H l a l2 t s w ∧ φ s ∧ BackQ CN CT H Q E (Kh302.backStep s t w)
theorem BackQ.same {CN CT : Addr} {H H1 : Hp} {Q : VK} {E : XK} {b : Kh302.Back} (s : Same H H1) (h : BackQ CN CT H Q E b) : BackQ CN CT H1 Q E b := by
  cases b with
  | table x => exact fun H' p h1 h2 h3 => h H' p h1 (s.free h2) (s.trans h3)
  | unkept => exact fun H' h3 => h H' (s.trans h3)
  | taken => exact fun H' h3 => h H' (s.trans h3)

section
variable {P : Program} {w : World} {K : PySem.W.Frag} {mg : Str → Option Value} {base : Heap}

/-! written_by_keep -/
theorem scByKeep : FnScope ["beneath", "step", "rows", "left_out", "taken", "row"] ["beneath", "step", "rows"] (defScope sByKeep) := ⟨rfl, rfl, rfl, by decide +kernel, rfl, by decide +kernel, by decide +kernel⟩
theorem taken_eq {s : Kh302.Step} {t w : Kh302.Table} (it : Inc t) : takenBy s t w = (w.map fun r => (Kh302.find (t.filter fun x => !Kh302.keeps s x) r.key).isSome).any id := by
  unfold takenBy
  rw [List.any_map]
  congr 1
  funext r
  show _ = (Kh302.find (t.filter fun x => !Kh302.keeps s x) r.key).isSome
  cases e : Kh302.find t r.key with
  | none =>
    symm
    rw [← Bool.not_eq_true]
    intro h
    obtain ⟨x, hx⟩ := Option.isSome_iff_exists.mp h
    have h1 := find_some hx
    exact find_none e x (List.mem_filter.mp h1.1).1 h1.2
  | some x =>
    obtain ⟨e1, e2⟩ := find_some e
    cases q : Kh302.keeps s x with
    | true =>
      show (!Kh302.keeps s x) = _
      rw [q]
      symm
      show _ = false
      rw [← Bool.not_eq_true]
      intro h
      obtain ⟨y, hy⟩ := Option.isSome_iff_exists.mp h
      obtain ⟨y1, y2⟩ := find_some hy
      obtain ⟨y3, y4⟩ := List.mem_filter.mp y1
      have : y = x := key_inj it y3 e1 (y2.trans e2.symm)
      subst this
      rw [q] at y4
      exact absurd y4 (by decide)
    | false =>
      show (!Kh302.keeps s x) = _
      rw [q]
      have hm : x ∈ t.filter fun x => !Kh302.keeps s x := List.mem_filter.mpr ⟨e1, by rw [q]; rfl⟩
      have := find_mem (it.filter _) hm
      rw [e2] at this
      rw [this]; rfl
theorem ok_byKeep {f C CN CT : Addr} {fd : FuncData} (F : Fun K "written_by_keep" "written_by_keep" sByKeep f fd) (T : Txt K mg C) (B : TxtB K mg CN CT) (Dk : DefOk P w K mg base 1 "keeps" ["step", "row"] (spKeeps C)) (D1 : DefOk P w K mg base 1 "key_of" ["row"] spKeyOf)
    (D2 : DefOk P w K mg base 2 "by_key" ["rows"] spByKey) (D3 : DefOk P w K mg base 4 "by_rising_keys" ["rows"] spRising) : FnOk P w K mg base (CXw P w) 5 f fd ["beneath", "step", "rows"] (spByStep C CN CT fun s => s.kind = 0) := by
  refine Fun.okX F scByKeep (fun vs H Q E h => ?_) (fun cdv A outer s H vs Q E hr h => ?_)
  · obtain ⟨l, a, l2, t, st, w, rfl, _⟩ := h
    rfl
  · obtain ⟨l, a, l2, t, st, wt, rfl, ⟨⟨as, hl, hA⟩, ⟨dx, ha⟩, ⟨bs, hl2, hB⟩, os, rt, it, rw_, iw, nt, nw⟩, k0, hQ⟩ := h
    have hr1 : Room 1 _ := hr.mono (by omega)
    have hr2 : Room 2 _ := hr.mono (by omega)
    refine ⟨_, pss_cons (ps_if (pt_not (pt_val (pe_callB (cr_all rfl) (by rfl) T.all PyProof.Rows.boot_all (pa_cons (pe_lc rfl scByKeep.nd (pi_list (pv 2)) (blkOk_by (own := [("row", 5)]) (by kernel_rfl)) (fun _ _ _ _ _ => pg_name (i := 5) scByKeep.nd rfl (Or.inl rfl)) (fun _ _ _ _ _ => pts_nil)
        (fun _ _ _ _ _ => pe_def Dk hr1 rfl (pa_cons (pv 1) (pa_cons (pv 5) pa_nil)))) pa_nil)))) (pss_one (ps_raise E rfl rfl B.mgN B.xN (pa_cons pe_str pa_nil))) pss_nil)
      (pss_cons (ps_setLc (i := 3) rfl scByKeep.nd rfl rfl (sw_true rfl rfl rfl rfl) (pi_list (pv 0)) (blkOk_by (own := [("row", 5)]) (by kernel_rfl)) (fun _ _ _ _ _ => pg_name (i := 5) scByKeep.nd rfl (Or.inl rfl))
        (fun _ _ _ _ _ => pts_one (pt_not (pt_val (pe_def Dk hr1 rfl (pa_cons (pv 1) (pa_cons (pv 5) pa_nil)))))) (fun _ _ _ _ _ => pv 5))
      (pss_cons (ps_set (i := 4) scByKeep.nd rfl (Or.inr rfl) (pe_def D2 hr2 rfl (pa_cons (pv 3) pa_nil)))
      (pss_cons (ps_if (pt_val (pe_callB (cr_any rfl) (by rfl) B.any PyProof.Rows.boot_any (pa_cons (pe_lc rfl scByKeep.nd (pi_list (pv 2)) (blkOk_by (own := [("row", 5)]) (by kernel_rfl)) (fun _ _ _ _ _ => pg_name (i := 5) scByKeep.nd rfl (Or.inl rfl)) (fun _ _ _ _ _ => pts_nil)
        (fun _ _ _ _ _ => pe_cmp (pc_din (hu_of hr) (pe_def D1 hr1 rfl (pa_cons (pv 5) pa_nil)) (pv 4)))) pa_nil))) (pss_one (ps_raise E rfl rfl B.mgT B.xT (pa_cons pe_str pa_nil))) pss_nil)
      (pss_one (ps_ret (pe_def D3 hr rfl (pa_cons (pe_op op_cat (pv 2) (pv 3)) pa_nil))))))), ?_⟩
    have hc := ((okStep_iff st).mp os).2
    have hc4 : st.col ≤ 4 := by omega
    have len1 := Paired.length hA
    have len2 := Paired.length hB
    rw [backStep_keep k0] at hQ
    -- all([keeps(step, row) for row in rows])
    refine ⟨_, rfl, l2, rfl, ⟨_, SqL.of hl2⟩, fun D hD => lc_list (K := K) (a := l2) (xs := bs.map V.ref) (fun i H' => H' D = some (.lst (((wt.take i).map (Kh302.keeps st)).map V.bl)) ∧ Same H H') ⟨upd_same, Same.new hD⟩
      (fun i H' _ ⟨_, sm⟩ => SqL.of (sm _ _ hl2)) ?_ ?_⟩
    · rintro i x H' hx ⟨hD', sm⟩
      obtain ⟨b, hb, rfl⟩ := map_get hx
      obtain ⟨r, hr', hrow⟩ := paired_get hB hb
      refine ⟨rfl, tyes ?_⟩
      refine ⟨_, rfl, _, rfl, a, b, st, r, rfl, ⟨dx, sm _ _ ha⟩, sm _ _ hrow, hc4, width rw_ (List.mem_of_getElem? hr'), ?_⟩
      exact bl_step (φ := Kh302.keeps st) (by omega) hD hD' sm hr'
    rintro H1 ⟨hD1, s1⟩
    rw [List.length_map, len2, List.take_length] at hD1
    refine ⟨D, wt.map (Kh302.keeps st), rfl, SqL.of hD1, _, rfl, ?_⟩
    have eall : (wt.map (Kh302.keeps st)).all id = wt.all (Kh302.keeps st) := by rw [List.all_map]; rfl
    rw [eall]
    refine itb (fun hk => ?_) (fun hk => ?_)
    · have hk' : wt.all (Kh302.keeps st) = false := by simpa using hk
      rw [if_pos hk'] at hQ
      exact ⟨(by show 1 ≤ sizeLine; decide), hQ H1 s1⟩
    have hk' : ¬ wt.all (Kh302.keeps st) = false := by
      have : wt.all (Kh302.keeps st) = true := by simpa using hk
      rw [this]; decide
    rw [if_neg hk'] at hQ
    -- left_out
    refine ⟨_, rfl, l, rfl, ⟨_, SqL.of (s1 _ _ hl)⟩, fun G hG => lc_list (K := K) (a := l) (xs := as.map V.ref)
      (fun i H' => ∃ cs : List Addr, H' G = some (.lst (cs.map V.ref)) ∧ Rows H' cs ((t.take i).filter fun r => !Kh302.keeps st r) ∧ Same H1 H') ⟨[], upd_same, .nil, Same.new hG⟩
      (fun i H' _ ⟨_, _, _, sm⟩ => SqL.of (sm _ _ (s1 _ _ hl))) ?_ ?_⟩
    · rintro i x H' hx ⟨cs, hG', hC, sm⟩
      obtain ⟨b, hb, rfl⟩ := map_get hx
      obtain ⟨r, hr', hrow⟩ := paired_get hA hb
      have hrow' : RowAt H' b r := sm _ _ (s1 _ _ hrow)
      refine ⟨rfl, _, rfl, _, rfl, a, b, st, r, rfl, ⟨dx, sm _ _ (s1 _ _ ha)⟩, hrow', hc4, width rt (List.mem_of_getElem? hr'), _, rfl, ?_⟩
      refine itb (fun hk => ?_) (fun hk => ?_)
      · exact ⟨_, rfl, filter_step (φ := fun r => !Kh302.keeps st r) (by omega) hG hG' hC sm hr' hrow' hk⟩
      · exact ⟨cs, hG', filter_skip (φ := fun r => !Kh302.keeps st r) hC hr' hk, sm⟩
    rintro H2 ⟨cs, hG2, hC2, s2⟩
    rw [List.length_map, len1, List.take_length] at hC2
    -- taken
    have s12 := s1.trans s2
    have nlo : (t.filter fun r => !Kh302.keeps st r).length ≤ 256 := Nat.le_trans (List.length_filter_le ..) nt
    refine ⟨_, rfl, G, t.filter fun r => !Kh302.keeps st r, rfl, ⟨cs, hG2, hC2⟩, it.filter _, by omega, fun H3 d hd dn s3 => ?_⟩
    have s13 := s12.trans s3
    refine ⟨_, rfl, l2, rfl, ⟨_, SqL.of (s13 _ _ hl2)⟩, fun J hJ => lc_list (K := K) (a := l2) (xs := bs.map V.ref) (fun i H' => H' J = some (.lst (((wt.take i).map fun r => (Kh302.find (t.filter fun x => !Kh302.keeps st x) r.key).isSome).map V.bl)) ∧ Same H3 H') ⟨upd_same, Same.new hJ⟩
      (fun i H' _ ⟨_, sm⟩ => SqL.of (sm _ _ (s13 _ _ hl2))) ?_ ?_⟩
    · rintro i x H' hx ⟨hJ', sm⟩
      obtain ⟨b, hb, rfl⟩ := map_get hx
      obtain ⟨r, hr', hrow⟩ := paired_get hB hb
      refine ⟨rfl, tyes ?_⟩
      obtain ⟨kvs, hd1, hd2⟩ := hd.same sm
      refine ⟨_, rfl, b, r, rfl, sm _ _ (s13 _ _ hrow), _, rfl, d, _, rfl, DGet.k (k := Sum.inl (r.key : Int)) hd1, ?_⟩
      have e : (valV kvs (Sum.inl (r.key : Int))).isSome = (Kh302.find (t.filter fun x => !Kh302.keeps st x) r.key).isSome := by
        have q := hd2 r.key
        cases e : Kh302.find (t.filter fun x => !Kh302.keeps st x) r.key with
        | none => rw [e] at q; rw [q]; rfl
        | some y =>
          rw [e] at q
          obtain ⟨_, q1, _⟩ := q
          rw [q1]; rfl
      rw [e]
      exact bl_step (φ := fun r => (Kh302.find (t.filter fun x => !Kh302.keeps st x) r.key).isSome) (by omega) hJ hJ' sm hr'
    rintro H4 ⟨hJ4, s4⟩
    rw [List.length_map, len2, List.take_length] at hJ4
    refine ⟨J, _, rfl, SqL.of hJ4, _, rfl, ?_⟩
    rw [← taken_eq it]
    have s14 := s13.trans s4
    refine itb (fun hk => ?_) (fun hk => ?_)
    · rw [if_pos hk] at hQ
      exact ⟨(by show 1 ≤ sizeLine; decide), hQ H4 s14⟩
    rw [if_neg (by rw [hk]; decide)] at hQ
    have s24 := s3.trans s4
    have hzc : cs.length ≤ 256 := by rw [Paired.length hC2]; exact nlo
    refine ⟨_, rfl, _, rfl, l2, G, _, _, rfl, rfl, s14 _ _ hl2, s24 _ _ hG2, ?_, fun p hp => ?_⟩
    · rw [List.length_map, List.length_map]
      exact Nat.le_of_lt (small_lt (by omega))
    have s5 : Same H4 (upd H4 p (.lst (bs.map V.ref ++ cs.map V.ref))) := Same.new hp
    have hR : Rows (upd H4 p (.lst (bs.map V.ref ++ cs.map V.ref))) (bs ++ cs) (wt ++ t.filter fun r => !Kh302.keeps st r) := rows_append (hB.same (s14.trans s5)) (hC2.same (s24.trans s5))
    refine ⟨p, wt ++ t.filter fun r => !Kh302.keeps st r, rfl, ⟨bs ++ cs, by rw [upd_same, List.map_append], hR⟩, ?_, fun H6 q u hu hperm hup n6 s6 => ?_⟩
    · rw [List.length_append]; omega
    have inc : Inc (putAll wt (t.filter fun r => !Kh302.keeps st r)) := putAll_inc iw (it.filter _) fun x hx y hy e => by
      obtain ⟨y1, y2⟩ := List.mem_filter.mp hy
      exact not_taken (s := st) hk x hx y y1 (by simpa using y2) e it
    have e : u = putAll wt (t.filter fun r => !Kh302.keeps st r) := up_eq hup (hperm.trans (putAll_perm _ _).symm) inc
    subst e
    have sall := s14.trans s5
    exact hQ H6 q hu (sall.free n6) (sall.trans s6)
end
end Vm

end
section
set_option Elab.async false
set_option linter.all false
set_option maxRecDepth 100000
set_option maxHeartbeats 2000000
namespace Vm
open PySem PySem.Spec PyProof.Rows L2

def spTables (C : Addr) : Sp := fun vs H Q _ => ∃ (l a : Addr) (t : Kh302.Table) (v : Kh302.View), vs = [.ref l, .ref a] ∧ TabAt H l t ∧ ViewAt C H a v ∧ (∀ s ∈ v, Kh302.okStep s = true) ∧ RowsOk t ∧ t.length ≤ 256 ∧ v.length ≤ 8 ∧
  ∀ (H' : Hp) (p : Addr) (ps : List Addr), H' p = some (.lst (ps.map V.ref)) → ps.length = v.length → (∀ j q, ps[j]? = some q → TabAt H' q (Kh302.get (v.take j) t)) → H p = Option.none → Same H H' → Q (.ref p) H'
def spWritten (C CN CT : Addr) : Sp := fun vs H Q E => ∃ (l a l2 : Addr) (t : Kh302.Table) (v : Kh302.View) (w : Kh302.Table), vs = [.ref l, .ref a, .ref l2] ∧ TabAt H l t ∧ ViewAt C H a v ∧ TabAt H l2 w ∧ (∀ s ∈ v, Kh302.okStep s = true) ∧ v.length ≤ 8 ∧
  RowsOk t ∧ Inc t ∧ RowsOk w ∧ Inc w ∧ t.length ≤ 256 ∧ w.length ≤ (Kh302.get v t).length + 1 ∧ BackQ CN CT H Q E (Kh302.back v t w)
theorem TabAt.upd {H : Hp} {l D : Addr} {t : Kh302.Table} {xs ys : List V} (h : TabAt H l t) (hD : H D = some (.lst xs)) (ne : l ≠ D) : TabAt (L2.upd H D (.lst ys)) l t := by
  obtain ⟨as, h1, h2⟩ := h
  exact ⟨as, by rw [upd_ne ne]; exact h1, h2.upd hD⟩
theorem back_stop {v : Kh302.View} {t w : Kh302.Table} : ∀ (m : Nat), m ≤ v.length → (∀ x, Kh302.back (v.drop m) (Kh302.get (v.take m) t) w ≠ .table x) → Kh302.back v t w = Kh302.back (v.drop m) (Kh302.get (v.take m) t) w
  | 0, _, _ => rfl
  | m + 1, hm, h => by
    obtain ⟨s, hs⟩ : ∃ s, v[m]? = some s := ⟨_, List.getElem?_eq_getElem (by omega)⟩
    have ed : v.drop m = s :: v.drop (m + 1) := by
      rw [List.drop_eq_getElem_cons (by omega)]
      congr 1
      exact (List.getElem?_eq_some_iff.mp hs).2
    have e : Kh302.back (v.drop m) (Kh302.get (v.take m) t) w = Kh302.back (v.drop (m + 1)) (Kh302.get (v.take (m + 1)) t) w := by
      rw [ed, get_snoc hs]
      rw [get_snoc hs] at h
      show (match Kh302.back (v.drop (m + 1)) (Kh302.shows s (Kh302.get (v.take m) t)) w with
        | .table x => Kh302.backStep s (Kh302.get (v.take m) t) x
        | b => b) = Kh302.back (v.drop (m + 1)) (Kh302.shows s (Kh302.get (v.take m) t)) w
      cases q : Kh302.back (v.drop (m + 1)) (Kh302.shows s (Kh302.get (v.take m) t)) w with
      | table x => exact absurd q (h x)
      | unkept => rfl
      | taken => rfl
    rw [back_stop m (by omega) (fun x => by rw [e]; exact h x), e]
theorem back_step {v : Kh302.View} {t w x : Kh302.Table} {m : Nat} {s : Kh302.Step} (hs : v[m]? = some s) (h : Kh302.back (v.drop (m + 1)) (Kh302.get (v.take (m + 1)) t) w = .table x) :
    Kh302.back (v.drop m) (Kh302.get (v.take m) t) w = Kh302.backStep s (Kh302.get (v.take m) t) x := by
  have hm : m < v.length := (List.getElem?_eq_some_iff.mp hs).1
  have ed : v.drop m = s :: v.drop (m + 1) := by
    rw [List.drop_eq_getElem_cons hm]
    congr 1
    exact (List.getElem?_eq_some_iff.mp hs).2
  rw [get_snoc hs] at h
  rw [ed]
  show (match Kh302.back (v.drop (m + 1)) (Kh302.shows s (Kh302.get (v.take m) t)) w with
    | .table x => Kh302.backStep s (Kh302.get (v.take m) t) x
    | b => b) = _
  rw [h]

section
variable {P : Program} {w : World} {K : PySem.W.Frag} {mg : Str → Option Value} {base : Heap}

/-! written_by_hide -/
theorem scByHide : FnScope ["beneath", "step", "rows", "there", "row"] ["beneath", "step", "rows"] (defScope sByHide) := ⟨rfl, rfl, rfl, by decide +kernel, rfl, by decide +kernel, by decide +kernel⟩
theorem any_not_all (φ : Kh302.Row → Bool) : ∀ wt : Kh302.Table, ((wt.map fun r => !φ r).any id) = !(wt.all φ)
  | [] => rfl
  | r :: wt => by
    rw [List.map_cons, List.any_cons, List.all_cons, any_not_all φ wt, Bool.not_and]; rfl
theorem ok_byHide {f C CN CT : Addr} {fd : FuncData} (F : Fun K "written_by_hide" "written_by_hide" sByHide f fd) (T : Txt K mg C) (B : TxtB K mg CN CT) (Dw : DefOk P w K mg base 1 "with_number" ["row", "col", "number"] spWith) (D1 : DefOk P w K mg base 1 "key_of" ["row"] spKeyOf)
    (D2 : DefOk P w K mg base 2 "by_key" ["rows"] spByKey) (Dn : DefOk P w K mg base 1 "number_beneath" ["there", "step", "key"] (spNumber C)) : FnOk P w K mg base (CXw P w) 3 f fd ["beneath", "step", "rows"] (spByStep C CN CT fun s => s.kind = 1) := by
  refine Fun.okX F scByHide (fun vs H Q E h => ?_) (fun cdv A outer s H vs Q E hr h => ?_)
  · obtain ⟨l, a, l2, t, st, w, rfl, _⟩ := h
    rfl
  · obtain ⟨l, a, l2, t, st, wt, rfl, ⟨⟨as, hl, hA⟩, ⟨dx, ha⟩, ⟨bs, hl2, hB⟩, os, rt, it, rw_, iw, nt, nw⟩, k1, hQ⟩ := h
    have hr1 : Room 1 _ := hr.mono (by omega)
    refine ⟨_, pss_cons (ps_if (pt_val (pe_callB (cr_any rfl) (by rfl) B.any PyProof.Rows.boot_any (pa_cons (pe_lc rfl scByHide.nd (pi_list (pv 2)) (blkOk_by (own := [("row", 4)]) (by kernel_rfl)) (fun _ _ _ _ _ => pg_name (i := 4) scByHide.nd rfl (Or.inl rfl)) (fun _ _ _ _ _ => pts_nil)
        (fun _ _ _ _ _ => pe_cmpR op_ne (pixT K (pv 4) (pfK K (pv 1))) pe_int (nomark _))) pa_nil))) (pss_one (ps_raise E rfl rfl B.mgN B.xN (pa_cons pe_str pa_nil))) pss_nil)
      (pss_cons (ps_set (i := 3) scByHide.nd rfl (Or.inr rfl) (pe_def D2 hr rfl (pa_cons (pv 0) pa_nil)))
      (pss_one (ps_ret (pe_lc rfl scByHide.nd (pi_list (pv 2)) (blkOk_by (own := [("row", 4)]) (by kernel_rfl)) (fun _ _ _ _ _ => pg_name (i := 4) scByHide.nd rfl (Or.inl rfl)) (fun _ _ _ _ _ => pts_nil)
        (fun _ _ _ _ _ => pe_def Dw hr1 rfl (pa_cons (pv 4) (pa_cons (pfK K (pv 1)) (pa_cons (pe_def Dn hr1 rfl (pa_cons (pv 3) (pa_cons (pv 1) (pa_cons (pe_def D1 hr1 rfl (pa_cons (pv 4) pa_nil)) pa_nil)))) pa_nil)))))))), ?_⟩
    have hc := ((okStep_iff st).mp os).2
    have hc4 : 1 ≤ st.col ∧ st.col ≤ 4 := by omega
    have len2 := Paired.length hB
    rw [backStep_hide k1] at hQ
    refine ⟨_, rfl, l2, rfl, ⟨_, SqL.of hl2⟩, fun D hD => lc_list (K := K) (a := l2) (xs := bs.map V.ref) (fun i H' => H' D = some (.lst (((wt.take i).map fun r => !(r.col st.col == 0)).map V.bl)) ∧ Same H H') ⟨upd_same, Same.new hD⟩
      (fun i H' _ ⟨_, sm⟩ => SqL.of (sm _ _ hl2)) ?_ ?_⟩
    · rintro i x H' hx ⟨hD', sm⟩
      obtain ⟨b, hb, rfl⟩ := map_get hx
      obtain ⟨r, hr', hrow⟩ := paired_get hB hb
      refine ⟨rfl, tyes ?_⟩
      refine ⟨_, rfl, _, rfl, a, C, dx, _, _, rfl, sm _ _ ha, T.cl, T.nCol, sf_col st, b, _, _, _, rfl, rfl, SqT.of (sm _ _ hrow), at_of (j := st.col) rfl (rowV_at (width rw_ (List.mem_of_getElem? hr')) hc4.2), rfl, ?_⟩
      have e : (!decide (cellV (r.col st.col) = V.int 0)) = !(r.col st.col == 0) := by
        rw [dec_cell]
        congr 1
        rw [Bool.eq_iff_iff]
        simp
      rw [e]
      exact bl_step (φ := fun r => !(r.col st.col == 0)) (by omega) hD hD' sm hr'
    rintro H1 ⟨hD1, s1⟩
    rw [List.length_map, len2, List.take_length] at hD1
    refine ⟨D, _, rfl, SqL.of hD1, _, rfl, ?_⟩
    rw [any_not_all (fun r => r.col st.col == 0)]
    refine itb (fun hk => ?_) (fun hk => ?_)
    · have hk' : (wt.all fun r => r.col st.col == 0) = false := by simpa using hk
      rw [if_pos hk'] at hQ
      exact ⟨(by show 1 ≤ sizeLine; decide), hQ H1 s1⟩
    have hk' : ¬ (wt.all fun r => r.col st.col == 0) = false := by
      intro z
      rw [z] at hk
      exact absurd hk (by decide)
    rw [if_neg hk'] at hQ
    refine ⟨_, rfl, l, t, rfl, ⟨as, s1 _ _ hl, hA.same s1⟩, it, by omega, fun H2 d hd dn s2 => ?_⟩
    have s12 := s1.trans s2
    refine ⟨_, rfl, l2, rfl, ⟨_, SqL.of (s12 _ _ hl2)⟩, fun G hG => lc_list (K := K) (a := l2) (xs := bs.map V.ref)
      (fun i H' => ∃ cs : List Addr, H' G = some (.lst (cs.map V.ref)) ∧ Rows H' cs ((wt.take i).map fun r => r.set st.col (match Kh302.find t r.key with
        | some x => x.col st.col
        | Option.none => st.value)) ∧ Same H2 H') ⟨[], upd_same, .nil, Same.new hG⟩
      (fun i H' _ ⟨_, _, _, sm⟩ => SqL.of (sm _ _ (s12 _ _ hl2))) ?_ ?_⟩
    · rintro i x H' hx ⟨cs, hG', hC, sm⟩
      obtain ⟨b, hb, rfl⟩ := map_get hx
      obtain ⟨r, hr', hrow⟩ := paired_get hB hb
      have hrow' : RowAt H' b r := sm _ _ (s12 _ _ hrow)
      have ha' := sm _ _ (s12 _ _ ha)
      refine ⟨rfl, tyes ?_⟩
      refine ⟨_, rfl, _, rfl, a, C, dx, _, _, rfl, ha', T.cl, T.nCol, sf_col st, _, rfl, _, rfl, _, rfl, b, r, rfl, hrow', d, a, t, st, r.key, rfl, hd.same sm, rt, ⟨dx, ha'⟩, hc4.2, ?_⟩
      refine ⟨b, r, st.col, _, rfl, hrow', hc4.1, hc4.2, width rw_ (List.mem_of_getElem? hr'), fun H4 p hp s4 => ?_⟩
      exact map_step (g := fun r => r.set st.col (match Kh302.find t r.key with
        | some x => x.col st.col
        | Option.none => st.value)) (by omega) hG hG' hC sm hr' hp s4
    · rintro H3 ⟨cs, hG3, hC3, s3⟩
      rw [List.length_map, len2, List.take_length] at hC3
      exact hQ H3 G ⟨cs, hG3, hC3⟩ (s12.free hG) (s12.trans s3)

/-! written_by_step -/
theorem scByStep : FnScope ["beneath", "step", "rows", "row"] ["beneath", "step", "rows"] (defScope sByStep) := ⟨rfl, rfl, rfl, by decide +kernel, rfl, by decide +kernel, by decide +kernel⟩
theorem ok_byStep {f C CN CT : Addr} {fd : FuncData} (F : Fun K "written_by_step" "written_by_step" sByStep f fd) (T : Txt K mg C) (Dw : DefOk P w K mg base 1 "with_number" ["row", "col", "number"] spWith)
    (Dk : DefX P w K mg base 5 "written_by_keep" ["beneath", "step", "rows"] (spByStep C CN CT fun s => s.kind = 0)) (Dh : DefX P w K mg base 3 "written_by_hide" ["beneath", "step", "rows"] (spByStep C CN CT fun s => s.kind = 1)) :
    FnOk P w K mg base (CXw P w) 6 f fd ["beneath", "step", "rows"] (spByStep C CN CT fun _ => True) := by
  refine Fun.okX F scByStep (fun vs H Q E h => ?_) (fun cdv A outer s H vs Q E hr h => ?_)
  · obtain ⟨l, a, l2, t, st, w, rfl, _⟩ := h
    rfl
  · obtain ⟨l, a, l2, t, st, wt, rfl, hin, _, hQ⟩ := h
    have hr1 : Room 1 _ := hr.mono (by omega)
    have hr3 : Room 3 _ := hr.mono (by omega)
    refine ⟨_, pss_cons (ps_if (pt_cmpR op_eq (pfK K (pv 1)) (pe_cst rfl T.keep) (nomark _)) (pss_one (ps_ret (pe_defX Dk passX hr rfl (pa_cons (pv 0) (pa_cons (pv 1) (pa_cons (pv 2) pa_nil)))))) pss_nil)
      (pss_cons (ps_if (pt_cmpR op_eq (pfK K (pv 1)) (pe_cst rfl T.hide) (nomark _)) (pss_one (ps_ret (pe_defX Dh passX hr3 rfl (pa_cons (pv 0) (pa_cons (pv 1) (pa_cons (pv 2) pa_nil)))))) pss_nil)
      (pss_one (ps_ret (pe_lc rfl scByStep.nd (pi_list (pv 2)) (blkOk_by (own := [("row", 3)]) (by kernel_rfl)) (fun _ _ _ _ _ => pg_name (i := 3) scByStep.nd rfl (Or.inl rfl)) (fun _ _ _ _ _ => pts_nil)
        (fun _ _ _ _ _ => pe_def Dw hr1 rfl (pa_cons (pv 3) (pa_cons (pfK K (pv 1)) (pa_cons (pe_op op_mod (pe_op op_sub (pixT K (pv 3) (pfK K (pv 1))) (pfK K (pv 1))) (pe_cst rfl T.modu)) pa_nil)))))))), ?_⟩
    obtain ⟨⟨as, hl, hA⟩, ⟨dx, ha⟩, ⟨bs, hl2, hB⟩, os, rt, it, rw_, iw, nt, nw⟩ := id hin
    have hc := (okStep_iff st).mp os
    refine ⟨_, rfl, a, C, dx, _, _, rfl, ha, T.cl, T.nKind, sf_kind st, rfl, _, rfl, ?_⟩
    rw [dec_cell]
    refine itd (fun h0 => ?_) (fun h0 => ?_)
    · exact ⟨_, rfl, _, rfl, _, rfl, l, a, l2, t, st, wt, rfl, hin, by omega, hQ⟩
    refine ⟨_, rfl, a, C, dx, _, _, rfl, ha, T.cl, T.nKind, sf_kind st, rfl, _, rfl, ?_⟩
    rw [dec_cell]
    refine itd (fun h1 => ?_) (fun h1 => ?_)
    · exact ⟨_, rfl, _, rfl, _, rfl, l, a, l2, t, st, wt, rfl, hin, by omega, hQ⟩
    have hc4 : 1 ≤ st.col ∧ st.col ≤ 4 := by omega
    have len2 := Paired.length hB
    rw [backStep_shift (by omega) (by omega)] at hQ
    have hW : Kh302.W = 4294967296 := by decide
    refine ⟨_, rfl, l2, rfl, ⟨_, SqL.of hl2⟩, fun G hG => lc_list (K := K) (a := l2) (xs := bs.map V.ref)
      (fun i H' => ∃ cs : List Addr, H' G = some (.lst (cs.map V.ref)) ∧ Rows H' cs ((wt.take i).map fun r => r.set st.col ((r.col st.col + (Kh302.W - st.value)) % Kh302.W)) ∧ Same H H') ⟨[], upd_same, .nil, Same.new hG⟩
      (fun i H' _ ⟨_, _, _, sm⟩ => SqL.of (sm _ _ hl2)) ?_ ?_⟩
    · rintro i x H' hx ⟨cs, hG', hC, sm⟩
      obtain ⟨b, hb, rfl⟩ := map_get hx
      obtain ⟨r, hr', hrow⟩ := paired_get hB hb
      have hrow' : RowAt H' b r := sm _ _ hrow
      have hw := width rw_ (List.mem_of_getElem? hr')
      have ha' := sm _ _ ha
      refine ⟨rfl, tyes ?_⟩
      refine ⟨_, rfl, _, rfl, a, C, dx, _, _, rfl, ha', T.cl, T.nCol, sf_col st, ?_⟩
      refine ⟨_, rfl, _, rfl, a, C, dx, _, _, rfl, ha', T.cl, T.nCol, sf_col st, b, _, _, _, rfl, rfl, SqT.of hrow', at_of (j := st.col) rfl (rowV_at hw hc4.2), ?_⟩
      refine ⟨_, rfl, a, C, dx, _, _, rfl, ha', T.cl, T.nValue, sf_value st, _, _, rfl, rfl, _, _, rfl, rfl, (by show (0 : Int) < 4294967296; decide), ?_⟩
      refine ⟨b, r, st.col, (r.col st.col + (Kh302.W - st.value)) % Kh302.W, ?_, hrow', hc4.1, hc4.2, hw, fun H4 p hp s4 => ?_⟩
      · show [V.ref b, V.int (st.col : Int), V.int (((r.col st.col : Int) - (st.value : Int)) % 4294967296)] = [V.ref b, V.int (st.col : Int), V.int (((r.col st.col + (Kh302.W - st.value)) % Kh302.W : Nat) : Int)]
        have hv := hc.1
        rw [hW] at hv ⊢
        rw [show ((r.col st.col : Int) - (st.value : Int)) % 4294967296 = (((r.col st.col + (4294967296 - st.value)) % 4294967296 : Nat) : Int) by omega]
      · exact map_step (g := fun r => r.set st.col ((r.col st.col + (Kh302.W - st.value)) % Kh302.W)) (by omega) hG hG' hC sm hr' hp s4
    · rintro H3 ⟨cs, hG3, hC3, s3⟩
      rw [List.length_map, len2, List.take_length] at hC3
      exact hQ H3 G ⟨cs, hG3, hC3⟩ hG s3

/-! tables_beneath -/
theorem scTables : FnScope ["rows", "steps", "tables", "seen", "step"] ["rows", "steps"] (defScope sTables) := ⟨rfl, rfl, rfl, by decide +kernel, rfl, by decide +kernel, by decide +kernel⟩
theorem ok_tables {f C : Addr} {fd : FuncData} (F : Fun K "tables_beneath" "tables_beneath" sTables f fd) (T : Txt K mg C) (D1 : DefOk P w K mg base 2 "shown_by_step" ["rows", "step"] (spShownBy C)) : FnOk P w K mg base CX0 3 f fd ["rows", "steps"] (spTables C) := by
  refine F.ok scTables (fun vs H Q E h => ?_) (fun cdv A outer s H vs Q E hr h => ?_)
  · obtain ⟨l, a, t, v, rfl, _⟩ := h
    rfl
  · obtain ⟨l, a, t, v, rfl, ⟨as, hl, hA⟩, ⟨ss, ha, hs⟩, os, rt, hn, h8, k⟩ := h
    refine ⟨_, pss_cons (ps_set (i := 2) scTables.nd rfl (Or.inl rfl) (pe_lst pa_nil)) (pss_cons (ps_set (i := 3) scTables.nd rfl (Or.inl rfl) (pe_callTy call_list_of (by rfl) T.list PyProof.Rows.boot_list (pa_cons (pv 0) pa_nil)))
      (pss_cons (ps_for PassesOwn.never rfl (pi_list (pv 1)) (pg_name (i := 4) scTables.nd rfl (Or.inl rfl))
        (pss_cons (ps_expr (pe_bm PySem.F.plainAttrs_list PySem.F.slot_list_append PySem.F.type_list_append mt_append (pv 2) (pa_cons (pv 3) pa_nil)))
        (pss_one (ps_set (i := 3) scTables.nd rfl (Or.inl rfl) (pe_def D1 hr rfl (pa_cons (pv 3) (pa_cons (pv 4) pa_nil)))))))
      (pss_one (ps_ret (pv 2))))), ?_⟩
    have hlen := Paired.length hs
    refine ⟨Nat.zero_le _, fun g hg => ?_⟩
    have sg : Same H (upd H g (.lst [])) := Same.new hg
    refine ⟨_, rfl, l, _, rfl, .inl (SqL.of (sg _ _ hl)), fun p0 hp0 => ?_⟩
    have s0 : Same (upd H g (.lst [])) (upd (upd H g (.lst [])) p0 (.lst (as.map V.ref))) := Same.new hp0
    have ng : p0 ≠ g := fun e => by rw [e, upd_same] at hp0; cases hp0
    have sg0 := sg.trans s0
    refine ⟨_, rfl, a, rfl, ⟨_, SqL.of (sg0 _ _ ha)⟩, for_list (K := K) (a := a) (xs := ss.map V.ref)
      (fun i σ H' => ∃ (ps : List Addr) (p : Addr) (u : Option V), σ = [some (.ref l), some (.ref a), some (.ref g), some (.ref p), u] ∧ H' g = some (.lst (ps.map V.ref)) ∧ ps.length = i ∧ (∀ j q, ps[j]? = some q → TabAt H' q (Kh302.get (v.take j) t) ∧ q ≠ g) ∧
        TabAt H' p (Kh302.get (v.take i) t) ∧ p ≠ g ∧ Same H H')
      ⟨[], p0, Option.none, rfl, s0 _ _ upd_same, rfl, fun j q e => (by simp at e), ⟨as, upd_same, hA.same sg0⟩, ng, sg0⟩ (fun i σ H' _ ⟨_, _, _, _, _, _, _, _, _, sm⟩ => SqL.of (sm _ _ ha)) ?_ ?_⟩
    · rintro i x σ H' hx ⟨ps, p, u, rfl, hG, hpl, hall, hT, hne, sm⟩
      obtain ⟨b, hb, rfl⟩ := map_get hx
      obtain ⟨st, hst, dx, hd⟩ := paired_get hs hb
      have hi : i < v.length := (List.getElem?_eq_some_iff.mp hst).1
      refine ⟨_, rfl, .inl ⟨rfl, _, SqL.of hG⟩, _, rfl, g, _, _, rfl, rfl, hG, ?_, ?_⟩
      · rw [List.length_map]; exact small_lt (by omega)
      have sm1 : Same H (upd H' g (.lst (ps.map V.ref ++ [V.ref p]))) := Same.put sm hg
      have hT1 : TabAt (upd H' g (.lst (ps.map V.ref ++ [V.ref p]))) p (Kh302.get (v.take i) t) := hT.upd hG hne
      refine ⟨_, rfl, _, rfl, p, b, _, st, rfl, hT1, ⟨dx, sm1 _ _ hd⟩, os st (List.mem_of_getElem? hst), get_rows rt, Nat.le_trans (get_len _ _) (by omega), fun H4 q hq hqn s4 => ?_⟩
      refine ⟨ps ++ [p], q, _, rfl, ?_, by rw [List.length_append]; show ps.length + 1 = i + 1; omega, fun j z e => ?_, by rw [get_snoc hst]; exact hq, ?_, sm1.trans s4⟩
      · refine s4 _ _ ?_
        rw [upd_same, List.map_append]; rfl
      · by_cases hj : j < ps.length
        · rw [List.getElem?_append_left hj] at e
          obtain ⟨e1, e2⟩ := hall j z e
          exact ⟨(e1.upd hG e2).same s4, e2⟩
        · have hj' : j = ps.length := by
            have : j < (ps ++ [p]).length := (List.getElem?_eq_some_iff.mp e).1
            rw [List.length_append] at this
            have e1 : [p].length = 1 := rfl
            omega
          subst hj'
          rw [List.getElem?_append_right (Nat.le_refl _), Nat.sub_self] at e
          have e' : p = z := Option.some.inj e
          subst e'
          rw [hpl]
          exact ⟨hT1.same s4, hne⟩
      · intro e
        rw [e, upd_same] at hqn; cases hqn
    · rintro σ H' ⟨ps, p, u, rfl, hG, hpl, hall, hT, hne, sm⟩
      rw [List.length_map, hlen] at hpl
      exact ⟨_, rfl, k H' g ps hG hpl (fun j q e => (hall j q e).1) hg sm⟩

/-! written_back -/
theorem scWritten : FnScope ["table", "steps", "rows", "tables", "written", "place"] ["table", "steps", "rows"] (defScope sWritten) := ⟨rfl, rfl, rfl, by decide +kernel, rfl, by decide +kernel, by decide +kernel⟩
theorem ok_written {f C CN CT : Addr} {fd : FuncData} (F : Fun K "written_back" "written_back" sWritten f fd) (T : Txt K mg C) (D1 : DefOk P w K mg base 3 "tables_beneath" ["rows", "steps"] (spTables C))
    (Ds : DefX P w K mg base 6 "written_by_step" ["beneath", "step", "rows"] (spByStep C CN CT fun _ => True)) : FnOk P w K mg base (CXw P w) 7 f fd ["table", "steps", "rows"] (spWritten C CN CT) := by
  refine Fun.okX F scWritten (fun vs H Q E h => ?_) (fun cdv A outer s H vs Q E hr h => ?_)
  · obtain ⟨l, a, l2, t, v, w, rfl, _⟩ := h
    rfl
  · obtain ⟨l, a, l2, t, v, wt, rfl, hT, hV, hWt, os, h8, rt, it, rw_, iw, nt, nw, hQ⟩ := h
    have hr3 : Room 3 _ := hr.mono (by omega)
    refine ⟨_, pss_cons (ps_set (i := 3) scWritten.nd rfl (Or.inl rfl) (pe_def D1 hr3 rfl (pa_cons (pv 0) (pa_cons (pv 1) pa_nil))))
      (pss_cons (ps_set (i := 4) scWritten.nd rfl (Or.inl rfl) (pe_callTy call_list_of (by rfl) T.list PyProof.Rows.boot_list (pa_cons (pv 2) pa_nil)))
      (pss_cons (ps_for ownX rfl (pi_range3 (by rfl) T.range (pa_cons (pe_op op_sub (pe_callB call_len_seq (by rfl) T.len PySem.boot_len (pa_cons (pv 1) pa_nil)) pe_int) (pa_cons (pe_un un_neg pe_int) (pa_cons (pe_un un_neg pe_int) pa_nil)))) (pg_name (i := 5) scWritten.nd rfl (Or.inl rfl))
        (pss_one (ps_set (i := 4) scWritten.nd rfl (Or.inl rfl) (pe_defX Ds passX hr rfl (pa_cons (pe_ix ix_list (pv 3) (pv 5) (fun _ _ => rfl)) (pa_cons (pe_ix ix_list (pv 1) (pv 5) (fun _ _ => rfl)) (pa_cons (pv 4) pa_nil)))))))
      (pss_one (ps_ret (pv 4))))), ?_⟩
    refine ⟨_, rfl, _, rfl, l, a, t, v, rfl, hT, hV, os, rt, nt, h8, fun H1 g ps hG hpl hall hgn s1 => ?_⟩
    obtain ⟨bs, hl2, hB⟩ := hWt
    refine ⟨_, rfl, l2, _, rfl, .inl (SqL.of (s1 _ _ hl2)), fun p0 hp0 => ?_⟩
    have s0 : Same H1 (upd H1 p0 (.lst (bs.map V.ref))) := Same.new hp0
    have s10 := s1.trans s0
    obtain ⟨ss, ha, hs⟩ := hV
    have hlen := Paired.length hs
    refine ⟨_, rfl, a, _, rfl, .inl (SqL.of (s10 _ _ ha)), _, _, rfl, rfl, _, rfl, _, rfl, (v.length : Int) - 1, -1, -1, v.length, ?_, ?_, for_rangeC
      (fun i σ H' => ∃ (p : Addr) (u : Option V) (x : Kh302.Table), σ = [some (.ref l), some (.ref a), some (.ref l2), some (.ref g), some (.ref p), u] ∧ TabAt H' p x ∧ Kh302.back (v.drop (v.length - i)) (Kh302.get (v.take (v.length - i)) t) wt = .table x ∧
        RowsOk x ∧ Inc x ∧ x.length ≤ (Kh302.get (v.take (v.length - i)) t).length + 1 ∧ H p = Option.none ∧ Same (upd H1 p0 (.lst (bs.map V.ref))) H')
      ⟨p0, Option.none, wt, rfl, ⟨bs, upd_same, hB.same s10⟩, ?_, rw_, iw, ?_, s1.free hp0, Same.refl _⟩ ?_ ?_⟩
    · show [V.int (((ss.map V.ref).length : Int) - 1), V.int (-1), V.int (-1)] = [V.int ((v.length : Int) - 1), V.int (-1), V.int (-1)]
      rw [List.length_map, hlen]
    · have q := RgC.neg (i := (v.length : Int) - 1) (j := -1) (by omega) (by omega) (by decide) (by decide)
      rw [show ((v.length : Int) - 1 - -1).toNat = v.length by omega] at q
      exact q
    · rw [Nat.sub_zero, List.drop_length]; rfl
    · rw [Nat.sub_zero, List.take_length]; exact nw
    · rintro i σ H' hi ⟨p, u, x, rfl, hX, hb, rx, ix, hx, hpn, sm⟩
      have hm : v.length - i = (v.length - 1 - i) + 1 := by omega
      rw [hm] at hb hx
      obtain ⟨st, hst⟩ : ∃ st, v[v.length - 1 - i]? = some st := ⟨_, List.getElem?_eq_getElem (by omega)⟩
      obtain ⟨sa, hsa, dx, hsd⟩ := paired_get' hs hst
      obtain ⟨q, hq⟩ : ∃ q, ps[v.length - 1 - i]? = some q := ⟨_, List.getElem?_eq_getElem (by omega)⟩
      have ep : ((v.length : Int) - 1 + (i : Nat) * -1) = ((v.length - 1 - i : Nat) : Int) := by omega
      have s1m := s0.trans sm
      have hg' : H' g = some (.lst (ps.map V.ref)) := s1m _ _ hG
      have ha' : H' a = some (.lst (ss.map V.ref)) := sm _ _ (s10 _ _ ha)
      have hbs := back_step hst hb
      refine ⟨_, rfl, _, rfl, g, _, _, _, rfl, rfl, SqL.of hg', at_of (j := v.length - 1 - i) ep (by rw [List.getElem?_map, hq]; rfl), ?_⟩
      refine ⟨_, rfl, _, rfl, a, _, _, _, rfl, rfl, SqL.of ha', at_of (j := v.length - 1 - i) ep (by rw [List.getElem?_map, hsa]; rfl), ?_⟩
      have nt' : (Kh302.get (v.take (v.length - 1 - i)) t).length ≤ 256 := Nat.le_trans (get_len _ _) nt
      refine ⟨_, rfl, q, sa, p, Kh302.get (v.take (v.length - 1 - i)) t, st, x, rfl, ⟨(hall _ _ hq).same s1m, ⟨dx, sm _ _ (s10 _ _ hsd)⟩, hX, os st (List.mem_of_getElem? hst), get_rows rt, get_inc it, rx, ix, nt', ?_⟩, trivial, ?_⟩
      · rw [get_snoc hst] at hx
        have := shows_len st (Kh302.get (v.take (v.length - 1 - i)) t)
        omega
      have sall := s10.trans sm
      cases e : Kh302.backStep st (Kh302.get (v.take (v.length - 1 - i)) t) x with
      | table y =>
        intro H4 p4 h4 n4 s4
        obtain ⟨ry, iy, _⟩ := backStep_ok e (os st (List.mem_of_getElem? hst)) (get_rows rt) (get_inc it) rx ix
        have em : v.length - (i + 1) = v.length - 1 - i := by omega
        refine ⟨p4, _, y, rfl, h4, ?_, ry, iy, ?_, sall.free n4, sm.trans s4⟩
        · rw [em, hbs, e]
        · rw [em]
          rw [get_snoc hst] at hx
          exact backStep_len e hx
      | unkept =>
        intro H4 s4
        have eb : Kh302.back v t wt = .unkept := by
          rw [back_stop (v.length - 1 - i) (by omega) (fun y => by rw [hbs, e]; intro z; cases z), hbs, e]
        rw [eb] at hQ
        exact hQ H4 (sall.trans s4)
      | taken =>
        intro H4 s4
        have eb : Kh302.back v t wt = .taken := by
          rw [back_stop (v.length - 1 - i) (by omega) (fun y => by rw [hbs, e]; intro z; cases z), hbs, e]
        rw [eb] at hQ
        exact hQ H4 (sall.trans s4)
    · rintro σ H' ⟨p, u, x, rfl, hX, hb, rx, ix, hx, hpn, sm⟩
      rw [Nat.sub_self, List.drop_zero, List.take_zero] at hb
      have hb' : Kh302.back v t wt = .table x := hb
      rw [hb'] at hQ
      exact ⟨_, rfl, hQ H' p hX hpn (s10.trans sm)⟩
end
end Vm

end
section
set_option Elab.async false
set_option linter.all false
set_option maxRecDepth 100000
set_option maxHeartbeats 2000000
namespace Vm
open PySem PySem.Spec PyProof.Rows L2

/-- what a method leaves: all but the desk and its own lists; its own lists are the old ones or new -/
structure Left (H H' : Hp) (d : Addr) (M M' : List Addr) : Prop where
  keep : ∀ b o, H b = some o → b ≠ d → b ∉ M → H' b = some o
  own : ∀ m ∈ M', m ∈ M ∨ H m = Option.none
  desk : H d ≠ Option.none → H' d ≠ Option.none
theorem Left.refl (H : Hp) (d : Addr) (M : List Addr) : Left H H d M M := ⟨fun _ _ h _ _ => h, fun _ h => .inl h, fun h => h⟩
theorem Left.of_same {H H' : Hp} {d : Addr} {M : List Addr} (s : Same H H') : Left H H' d M M := ⟨fun b o h _ _ => s b o h, fun _ h => .inl h, fun h e => h (s.free e)⟩
theorem Left.trans {H H1 H2 : Hp} {d : Addr} {M M1 M2 : List Addr} (x : Left H H1 d M M1) (y : Left H1 H2 d M1 M2) : Left H H2 d M M2 := by
  refine ⟨fun b o h hd hm => ?_, fun m hm => ?_, fun h => y.desk (x.desk h)⟩
  · refine y.keep b o (x.keep b o h hd hm) hd fun q => ?_
    rcases x.own b q with e | e
    · exact hm e
    · rw [h] at e; cases e
  · rcases y.own m hm with e | e
    · exact x.own m e
    · by_cases q : m ∈ M
      · exact .inl q
      · cases z : H m with
        | none => exact .inr rfl
        | some o =>
          by_cases md : m = d
          · subst md
            exact absurd e (x.desk (by rw [z]; simp))
          · rw [x.keep m o z md q] at e; cases e

/-- a desk: the heap, its address, its own lists, lists of others, what it stands for -/
abbrev DkT := Hp → Addr → List Addr → List Addr → Kh303.Abs → Prop
structure DkOk (Dk : DkT) : Prop where
  lists : ∀ {H d M X a}, Dk H d M X a → Lists H (M ++ X)
  ok : ∀ {H d M X a}, Dk H d M X a → Kh303.Ok a
  inst : ∀ {H d M X a}, Dk H d M X a → ∃ C dx fs, H d = some (.ins C dx fs)
  apart : ∀ {H d M X a}, Dk H d M X a → ∀ m ∈ M, m ∉ X
  same : ∀ {H H' d M X a}, Dk H d M X a → Same H H' → Dk H' d M X a
  other : ∀ {H d M X a} {g : Addr} {ys : List V}, Dk H d M X a → g ∈ X → Dk (upd H g (.lst ys)) d M X a
  adopt : ∀ {H d M X a} {g : Addr} {ys : List V}, Dk H d M X a → H g = Option.none → Dk (upd H g (.lst ys)) d M (g :: X) a
def spAnswerOf (Dk : DkT) : Sp := fun vs H Q _ => ∃ (d l : Addr) (M X : List Addr) (a : Kh303.Abs) (c : List (List Int)) (u : List Int), vs = [.ref d, .ref l] ∧ Dk H d M X a ∧ H l = some (.lst (u.map V.int)) ∧ Head c u [] ∧
  ∀ (H' : Hp) (p : Addr) (M' : List Addr), Dk H' d M' X (Kh303Neutral.step a c).1 → H' p = some (.lst ((Kh303Neutral.step a c).2.map V.int)) → H p = Option.none → Left H H' d M M' → Q (.ref p) H'
def spLengthOf (K : PySem.W.Frag) : Sp := fun vs H Q _ => ∃ (l : Addr) (ns : List Int) (k : Nat) (c : List (List Int)) (u t : List Int), vs = [.ref l, cellV k] ∧ SqL K H l (ns.map V.int) ∧ ns.drop k = u ++ t ∧ Head c u [] ∧ ∀ H' : Hp, Same H H' → Q (cellV u.length) H'
/-- a list that is handed in: nothing stores into it -/
def Handed (K : PySem.W.Frag) (H : Hp) (l : Addr) (xs : List V) : Prop := (∃ o, H l = some (.frz o (.lst xs))) ∨ ∀ H', SqL K H' l xs
theorem Handed.seq {K : PySem.W.Frag} {H : Hp} {l : Addr} {xs : List V} (h : Handed K H l xs) : SqL K H l xs := by
  rcases h with ⟨o, h⟩ | h
  · exact .inl (.inr ⟨o, h⟩)
  · exact h H
theorem Handed.keep {K : PySem.W.Frag} {H H' : Hp} {l : Addr} {xs : List V} (h : Handed K H l xs) (k : ∀ o u, H l = some (.frz o u) → H' l = some (.frz o u)) : Handed K H' l xs := by
  rcases h with ⟨o, h⟩ | h
  · exact .inl ⟨o, k _ _ h⟩
  · exact .inr h
def spAnswersOf (K : PySem.W.Frag) (Dk : DkT) : Sp := fun vs H Q _ => ∃ (d l : Addr) (M : List Addr) (ns : List Int) (a : Kh303.Abs) (cs : List (List (List Int))), vs = [.ref d, .ref l] ∧ Dk H d M [] a ∧ Handed K H l (ns.map V.int) ∧ Calls cs ns ∧ ns.length ≤ 30000 ∧ cs.length ≤ 400 ∧
  ∀ (H' : Hp) (p : Addr), H' p = some (.lst ((PyFlat.told (PyFlat.played Kh303Neutral.step a cs)).map V.int)) → Q (.ref p) H'


abbrev sLengthOf : Stmt := top 55
abbrev sAnswerOf : Stmt := top 56
abbrev sAnswersOf : Stmt := top 57
abbrev sAnswers : Stmt := top 58
theorem calls_nil {cs : List (List (List Int))} {l : List Int} (h : Calls cs l) (e : l = []) : cs = [] := by
  cases h with
  | nil => rfl
  | cons h r => subst e; cases h
theorem calls_cons {cs : List (List (List Int))} {l : List Int} (h : Calls cs l) (e : l ≠ []) : ∃ c cs' u t, cs = c :: cs' ∧ l = u ++ t ∧ Head c u [] ∧ Calls cs' t := by
  cases h with
  | nil => exact absurd rfl e
  | cons h r =>
    obtain ⟨u, h1, h2⟩ := h.split
    exact ⟨_, _, u, _, rfl, h1, h2, r⟩
/-- where the loop stands -/
def leftV (n : Nat) : Option (Option V) → Nat
  | some (some (V.int i)) => n - i.toNat
  | _ => 0
def left (n : Nat) (σ : L2.St) : Nat := leftV n σ[3]?
section
variable {P : Program} {w : World} {K : PySem.W.Frag} {mg : Str → Option Value} {base : Heap} {Dk : DkT}
theorem scAnswersOf : FnScope ["desk", "calls", "given", "place", "behind", "answer"] ["desk", "calls"] (defScope sAnswersOf) := ⟨rfl, rfl, rfl, by decide +kernel, rfl, by decide +kernel, by decide +kernel⟩
theorem ok_answersOf {f : Addr} {fd : FuncData} {n : Nat} (F : Fun K "answers_of" "answers_of" sAnswersOf f fd) (hlen : mg "len" = Option.none) (O : DkOk Dk) (D1 : DefOk P w K mg base 1 "length_of_call" ["calls", "place"] (spLengthOf K))
    (D2 : DefOk P w K mg base (n + 1) "answer_of" ["desk", "call"] (spAnswerOf Dk)) : FnOk P w K mg base CX0 (n + 2) f fd ["desk", "calls"] (spAnswersOf K Dk) := by
  refine F.ok scAnswersOf (fun vs H Q E h => ?_) (fun cdv A outer s H vs Q E hr h => ?_)
  · obtain ⟨d, l, M, ns, a, cs, rfl, _⟩ := h
    rfl
  · obtain ⟨d, l, M, ns, a, cs, rfl, hD, hL, hC, hn, h400, kk⟩ := h
    have hr1 : Room 1 _ := hr.mono (by omega)
    refine ⟨_, pss_cons (ps_set (i := 2) scAnswersOf.nd rfl (Or.inl rfl) (pe_lst pa_nil)) (pss_cons (ps_set (i := 3) scAnswersOf.nd rfl (Or.inl rfl) pe_int)
      (pss_cons (ps_while PassesOwn.never (pt_cmpR op_lt (pv 3) (pe_callB call_len_seq (by rfl) hlen PySem.boot_len (pa_cons (pv 1) pa_nil)) (nomark _))
        (pss_cons (ps_set (i := 4) scAnswersOf.nd rfl (Or.inl rfl) (pe_op op_add (pv 3) (pe_def D1 hr1 rfl (pa_cons (pv 1) (pa_cons (pv 3) pa_nil)))))
        (pss_cons (ps_set (i := 5) scAnswersOf.nd rfl (Or.inl rfl) (pe_def D2 hr rfl (pa_cons (pv 0) (pa_cons (pe_slice sl_list (pv 1) (po_some (pv 3)) (po_some (pv 4))) pa_nil))))
        (pss_cons (ps_expr (pe_bm PySem.F.plainAttrs_list PySem.F.slot_list_append PySem.F.type_list_append mt_append (pv 2) (pa_cons (pe_callB call_len_seq (by rfl) hlen PySem.boot_len (pa_cons (pv 5) pa_nil)) pa_nil)))
        (pss_cons (ps_expr (pe_bm PySem.F.plainAttrs_list PySem.F.slot_list_extend PySem.F.type_list_extend mt_extend (pv 2) (pa_cons (pv 5) pa_nil)))
        (pss_one (ps_set (i := 3) scAnswersOf.nd rfl (Or.inl rfl) (pv 4))))))))
      (pss_one (ps_ret (pv 2))))), ?_⟩
    refine ⟨Nat.zero_le _, fun g hg => ?_⟩
    refine while_by (fun σ H' => ∃ (k : Nat) (b v : Option V) (out : List Int) (M' : List Addr) (a' : Kh303.Abs) (cs' : List (List (List Int))), σ = [some (.ref d), some (.ref l), some (.ref g), some (cellV k), b, v] ∧
        Dk H' d M' [g] a' ∧ Handed K H' l (ns.map V.int) ∧ Calls cs' (ns.drop k) ∧ k ≤ ns.length ∧ PyFlat.told (PyFlat.played Kh303Neutral.step a cs) = out ++ PyFlat.told (PyFlat.played Kh303Neutral.step a' cs') ∧
        H' g = some (.lst (out.map V.int)) ∧ out.length + 7 * cs'.length ≤ 2800) (fun σ _ => left ns.length σ) ?_ ?_ ?_
    · exact ⟨0, Option.none, Option.none, [], M, a, cs, rfl, O.adopt hD hg, hL.keep fun o u e => (Same.new hg) _ _ e, hC, Nat.zero_le _, rfl, upd_same, by show 0 + 7 * cs.length ≤ 2800; omega⟩
    · rintro σ H' ⟨k, b, v, out, M', a', cs', rfl, hD', hL', hC', hk, heq, hG, hz⟩
      refine ⟨_, rfl, _, rfl, l, _, rfl, .inl hL'.seq, _, _, rfl, rfl, _, rfl, ?_⟩
      rw [List.length_map]
      refine itd (fun hlt => ?_) (fun hge => ?_)
      · have hlt' : k < ns.length := by omega
        obtain ⟨c, cs2, u, t, rfl, hu, hh, hC2⟩ := calls_cons hC' (by
          intro e
          have := congrArg List.length e
          rw [List.length_drop] at this
          have e0 : ([] : List Int).length = 0 := rfl
          omega)
        have hul : u.length + t.length = ns.length - k := by
          have := congrArg List.length hu
          rw [List.length_drop, List.length_append] at this
          omega
        have hup := hh.pos
        have hcut : cutV (ns.map V.int) (some (k : Int)) (some ((k : Int) + (u.length : Int))) = u.map V.int := by
          rw [show ((k : Int) + (u.length : Int)) = ((k + u.length : Nat) : Int) by omega, cut_ints (by omega) (by omega), hu, show k + u.length - k = u.length by omega, List.take_left]
        have hgd : g ≠ d := by
          obtain ⟨C, dx, fs, e⟩ := O.inst hD'
          exact ne_of hG e (by intro z; cases z)
        have hgM : g ∉ M' := fun m => O.apart hD' g m (List.mem_singleton.mpr rfl)
        refine ⟨_, rfl, _, rfl, _, rfl, l, ns, k, c, u, t, rfl, hL'.seq, hu, hh, fun H0 s0 => ⟨_, _, rfl, rfl, ?_⟩⟩
        replace hD' := O.same hD' s0
        replace hL' := hL'.keep fun o x e => s0 _ _ e
        replace hG := s0 _ _ hG
        refine ⟨_, rfl, _, rfl, _, rfl, _, rfl, _, rfl, _, rfl, l, _, rfl, hL'.seq, fun q hq => ?_⟩
        have hsm : Same H0 (upd H0 q (.lst (u.map V.int))) := Same.new hq
        rw [hcut]
        refine ⟨d, q, M', [g], a', c, u, rfl, O.same hD' hsm, upd_same, hh, fun H2 p M2 hD2 hp hpn lf => ?_⟩
        have hg1 := hsm _ _ hG
        have hg2 := lf.keep g _ hg1 hgd hgM
        have hpg : p ≠ g := fun e => by rw [e, hg1] at hpn; cases hpn
        obtain ⟨_, hs6⟩ := step_ok (O.ok hD') hh
        rw [List.length_cons] at hz
        refine ⟨_, rfl, .inl ⟨rfl, _, SqL.of hg2⟩, _, rfl, p, _, rfl, .inl (SqL.of hp), g, _, _, rfl, rfl, hg2, ?_, ?_⟩
        · rw [List.length_map]
          exact Nat.lt_of_le_of_lt (show out.length ≤ 2800 by omega) (by decide)
        refine ⟨_, rfl, .inl ⟨rfl, _, SqL.of upd_same⟩, _, rfl, g, p, _, _, rfl, rfl, upd_same, (by rw [upd_ne hpg]; exact hp), ?_, ?_⟩
        · rw [List.length_append, List.length_map, List.length_map]
          show out.length + 1 + _ ≤ sizeLine
          exact Nat.le_trans (show _ ≤ 2800 by omega) (by decide)
        refine ⟨_, rfl, ⟨k + u.length, some (V.int ((k : Int) + (u.length : Int))), some (V.ref p), out ++ (((Kh303Neutral.step a' c).2.length : Int) :: (Kh303Neutral.step a' c).2), M2, _, cs2, ?_, O.other (O.other hD2 (List.mem_singleton.mpr rfl)) (List.mem_singleton.mpr rfl), ?_, ?_, by omega, ?_, ?_, ?_⟩, ?_⟩
        · show [some (V.ref d), some (V.ref l), some (V.ref g), some (V.int ((k : Int) + (u.length : Int))), some (V.int ((k : Int) + (u.length : Int))), some (V.ref p)] = [some (V.ref d), some (V.ref l), some (V.ref g), some (V.int ((k + u.length : Nat) : Int)), some (V.int ((k : Int) + (u.length : Int))), some (V.ref p)]
          rw [show ((k + u.length : Nat) : Int) = ((k : Int) + (u.length : Int)) by omega]
        · refine hL'.keep fun o x e => ?_
          have nlg : l ≠ g := ne_of e hG (by intro z; cases z)
          have nld : l ≠ d := by
            obtain ⟨C, dx, fs, e2⟩ := O.inst hD'
            exact ne_of e e2 (by intro z; cases z)
          have nlM : l ∉ M' := fun m => by
            obtain ⟨xs, e2⟩ := O.lists hD' l (List.mem_append_left _ m)
            rw [e] at e2; cases e2
          rw [upd_ne nlg, upd_ne nlg]
          exact lf.keep l _ (hsm _ _ e) nld nlM
        · have e : ns.drop (k + u.length) = t := by
            rw [← List.drop_drop, hu, List.drop_left]
          rw [e]; exact hC2
        · rw [heq, played_cons, List.append_assoc]
        · rw [upd_same, List.map_append, List.map_cons, List.length_map, List.append_assoc]; rfl
        · rw [List.length_append, List.length_cons]; omega
        · show left ns.length [_, _, _, some (V.int ((k : Int) + (u.length : Int))), _, _] < left ns.length [_, _, _, some (V.int (k : Int)), _, _]
          show ns.length - ((k : Int) + (u.length : Int)).toNat < ns.length - (k : Int).toNat
          omega
      · have hke : k = ns.length := by omega
        have e0 : cs' = [] := calls_nil hC' (by rw [hke]; exact List.drop_length)
        subst e0
        refine ⟨_, rfl, kk H' g ?_⟩
        rw [hG, heq]
        show some (HO.lst (out.map V.int)) = some (HO.lst ((out ++ []).map V.int))
        rw [List.append_nil]
    · rintro σ H' R R' hq ⟨v, e1, v', e2, p, ys, e3, e4, i, j, e5, e6, k, e7, q⟩
      exact ⟨v, e1, v', e2, p, ys, e3, e4, i, j, e5, e6, k, e7, hq _ _ q⟩
end
end Vm

end
section
set_option Elab.async false
set_option linter.all false
set_option maxRecDepth 100000
set_option maxHeartbeats 2000000
namespace Vm
open PySem PySem.Spec PyProof.Rows L2

/-! ### the desk -/
def df (lr lv lc : Addr) : List (Str × V) := putF "changes" (.ref lc) (putF "views" (.ref lv) (putF "rows" (.ref lr) []))
theorem df_eq (lr lv lc : Addr) : df lr lv lc = ([(("rows" : Str), V.ref lr), (("views" : Str), V.ref lv), (("changes" : Str), V.ref lc)] : List (Str × V)) := by
  unfold df
  have e1 : putF "views" (V.ref lv) (putF "rows" (V.ref lr) []) = ([(("rows" : Str), V.ref lr), (("views" : Str), V.ref lv)] : List (Str × V)) := by
    show (if ("rows" : Str) = "views" then _ else (("rows" : Str), V.ref lr) :: [(("views" : Str), V.ref lv)]) = _
    rw [if_neg (by decide +kernel)]
  rw [e1]
  show (if ("rows" : Str) = "changes" then _ else (("rows" : Str), V.ref lr) :: (if ("views" : Str) = "changes" then _ else (("views" : Str), V.ref lv) :: [(("changes" : Str), V.ref lc)])) = _
  rw [if_neg (by decide +kernel), if_neg (by decide +kernel)]
theorem df_rows (lr lv lc : Addr) : (df lr lv lc).lookup ("rows" : Str) = some (.ref lr) := by
  unfold df
  rw [lookup_putF, if_neg (by decide +kernel), lookup_putF, if_neg (by decide +kernel), lookup_putF, if_pos rfl]
theorem df_views (lr lv lc : Addr) : (df lr lv lc).lookup ("views" : Str) = some (.ref lv) := by
  unfold df
  rw [lookup_putF, if_neg (by decide +kernel), lookup_putF, if_pos rfl]
theorem df_changes (lr lv lc : Addr) : (df lr lv lc).lookup ("changes" : Str) = some (.ref lc) := by
  unfold df
  rw [lookup_putF, if_pos rfl]
theorem df_no (lr lv lc : Addr) {m : Str} (h1 : ¬ m = "rows") (h2 : ¬ m = "views") (h3 : ¬ m = "changes") : (df lr lv lc).lookup m = Option.none := by
  unfold df
  rw [lookup_putF, if_neg h3, lookup_putF, if_neg h2, lookup_putF, if_neg h1]
  rfl
theorem df_put_rows (lr lv lc x : Addr) : putF "rows" (.ref x) (df lr lv lc) = df x lv lc := by
  rw [df_eq, df_eq]
  show (if ("rows" : Str) = "rows" then (("rows" : Str), V.ref x) :: [(("views" : Str), V.ref lv), (("changes" : Str), V.ref lc)] else _) = _
  rw [if_pos rfl]
theorem df_put_views (lr lv lc x : Addr) : putF "views" (.ref x) (df lr lv lc) = df lr x lc := by
  rw [df_eq, df_eq]
  show (if ("rows" : Str) = "views" then _ else (("rows" : Str), V.ref lr) :: (if ("views" : Str) = "views" then (("views" : Str), V.ref x) :: [(("changes" : Str), V.ref lc)] else _)) = _
  rw [if_neg (by decide +kernel), if_pos rfl]
theorem df_put_changes (lr lv lc x : Addr) : putF "changes" (.ref x) (df lr lv lc) = df lr lv x := by
  rw [df_eq, df_eq]
  show (if ("rows" : Str) = "changes" then _ else (("rows" : Str), V.ref lr) :: (if ("views" : Str) = "changes" then _ else (("views" : Str), V.ref lv) :: (if ("changes" : Str) = "changes" then (("changes" : Str), V.ref x) :: [] else _))) = _
  rw [if_neg (by decide +kernel), if_neg (by decide +kernel), if_pos rfl]
theorem df_len (lr lv lc : Addr) : (df lr lv lc).length < 1000 := by
  rw [df_eq]
  show 3 < 1000
  decide
/-- the desk at d: its own lists M (the views', the changes'), others' lists X, what it stands for -/
structure DeskAt (C CD : Addr) (H : Hp) (d : Addr) (M X : List Addr) (a : Kh303.Abs) (dx lr lv lc : Addr) (ls ts : List Addr) : Prop where
  own : M = [lv, lc]
  obj : H d = some (.ins CD dx (df lr lv lc))
  lv_ : H lv = some (.lst (ls.map V.ref))
  lc_ : H lc = some (.lst (ts.map V.ref))
  two : lv ≠ lc
  apart : ∀ m ∈ M, m ∉ X
  lists : Lists H X
  tab : TabAt (but H (M ++ X)) lr a.t
  vs : Paired (ViewAt C (but H (M ++ X))) ls a.views
  cs : Paired (TabAt (but H (M ++ X))) ts a.before.reverse
  ok : Kh303.Ok a
def Desk (C CD : Addr) : DkT := fun H d M X a => ∃ (dx lr lv lc : Addr) (ls ts : List Addr), DeskAt C CD H d M X a dx lr lv lc ls ts
section
variable {C CD : Addr} {H H' : Hp} {d : Addr} {M X : List Addr} {a : Kh303.Abs} {dx lr lv lc : Addr} {ls ts : List Addr}
theorem DeskAt.all (h : DeskAt C CD H d M X a dx lr lv lc ls ts) : Lists H (M ++ X) := fun m hm => by
  rcases List.mem_append.mp hm with q | q
  · rw [h.own] at q
    rcases List.mem_cons.mp q with q | q
    · rw [q]; exact ⟨_, h.lv_⟩
    · rw [List.mem_singleton.mp q]; exact ⟨_, h.lc_⟩
  · exact h.lists m q
theorem DeskAt.mv (h : DeskAt C CD H d M X a dx lr lv lc ls ts) : lv ∈ M := by rw [h.own]; simp
theorem DeskAt.mc (h : DeskAt C CD H d M X a dx lr lv lc ls ts) : lc ∈ M := by rw [h.own]; simp
theorem DeskAt.nd (h : DeskAt C CD H d M X a dx lr lv lc ls ts) : d ∉ M ++ X := h.all.ins h.obj
/-- another heap that keeps what the desk leans on -/
theorem DeskAt.move {X' : List Addr} (h : DeskAt C CD H d M X a dx lr lv lc ls ts) (o : H' d = some (.ins CD dx (df lr lv lc))) (v : H' lv = some (.lst (ls.map V.ref))) (c : H' lc = some (.lst (ts.map V.ref))) (ap : ∀ m ∈ M, m ∉ X') (hl : Lists H' X')
    (b : Same (but H (M ++ X)) (but H' (M ++ X'))) : DeskAt C CD H' d M X' a dx lr lv lc ls ts :=
  ⟨h.own, o, v, c, h.two, ap, hl, h.tab.same b, paired_mono (fun _ _ q => q.same b) h.vs, paired_mono (fun _ _ q => q.same b) h.cs, h.ok⟩
end
theorem desk_ok (C CD : Addr) : DkOk (Desk C CD) where
  lists := fun ⟨_, _, _, _, _, _, h⟩ => h.all
  ok := fun ⟨_, _, _, _, _, _, h⟩ => h.ok
  inst := fun ⟨_, _, _, _, _, _, h⟩ => ⟨_, _, _, h.obj⟩
  apart := fun ⟨_, _, _, _, _, _, h⟩ m hm => h.apart m hm
  same := fun {H H' d M X a} ⟨dx, lr, lv, lc, ls, ts, h⟩ s => by
    have b : Same (but H (M ++ X)) (but H' (M ++ X)) := but_step fun b o e n => ⟨s b o e, n⟩
    exact ⟨dx, lr, lv, lc, ls, ts, h.move (s _ _ h.obj) (s _ _ h.lv_) (s _ _ h.lc_) h.apart (h.lists.same s) b⟩
  other := fun {H d M X a g ys} ⟨dx, lr, lv, lc, ls, ts, h⟩ hg => by
    have ng : ∀ b, b ∉ M ++ X → b ≠ g := fun b n e => n (by rw [e]; exact List.mem_append_right _ hg)
    have b : Same (but H (M ++ X)) (but (L2.upd H g (.lst ys)) (M ++ X)) := but_step fun b o e n => ⟨by rw [upd_ne (ng b n)]; exact e, n⟩
    have n1 : d ≠ g := ng d h.nd
    have n2 : ∀ m ∈ M, m ≠ g := fun m hm e => h.apart m hm (by rw [e]; exact hg)
    exact ⟨dx, lr, lv, lc, ls, ts, h.move (by rw [upd_ne n1]; exact h.obj) (by rw [upd_ne (n2 lv h.mv)]; exact h.lv_) (by rw [upd_ne (n2 lc h.mc)]; exact h.lc_) h.apart (h.lists.upd g ys) b⟩
  adopt := fun {H d M X a g ys} ⟨dx, lr, lv, lc, ls, ts, h⟩ hg => by
    have b : Same (but H (M ++ X)) (but (L2.upd H g (.lst ys)) (M ++ (g :: X))) := but_step fun b o e n => by
      have nb : b ≠ g := ne_of_none e hg
      refine ⟨by rw [upd_ne nb]; exact e, fun m => ?_⟩
      rcases List.mem_append.mp m with q | q
      · exact n (List.mem_append_left _ q)
      · rcases List.mem_cons.mp q with q | q
        · exact nb q
        · exact n (List.mem_append_right _ q)
    have n1 : d ≠ g := ne_of_none h.obj hg
    have n2 : ∀ m ∈ M, m ≠ g := fun m hm e => by
      obtain ⟨xs, q⟩ := h.all m (List.mem_append_left _ hm)
      rw [e, hg] at q; cases q
    refine ⟨dx, lr, lv, lc, ls, ts, h.move (by rw [upd_ne n1]; exact h.obj) (by rw [upd_ne (n2 lv h.mv)]; exact h.lv_) (by rw [upd_ne (n2 lc h.mc)]; exact h.lc_) (fun m hm q => ?_) (fun m hm => ?_) b⟩
    · rcases List.mem_cons.mp q with q | q
      · exact n2 m hm q
      · exact h.apart m hm q
    · rcases List.mem_cons.mp hm with q | q
      · rw [q]; exact ⟨ys, upd_same⟩
      · exact h.lists.upd g ys m q

/-! ### what a call promises -/
def Post (Dk : DkT) (H : Hp) (d : Addr) (M X : List Addr) (r : Kh303.Abs × List Int) (Q : VK) : Prop :=
  ∀ (H' : Hp) (p : Addr) (M' : List Addr), Dk H' d M' X r.1 → H' p = some (.lst (r.2.map V.int)) → H p = Option.none → Left H H' d M M' → Q (.ref p) H'
theorem post_same {Dk : DkT} (O : DkOk Dk) {H H1 : Hp} {d : Addr} {M X : List Addr} {a : Kh303.Abs} {r : Kh303.Abs × List Int} {ns : List Int} {Q : VK} (k : Post Dk H d M X r Q) (e : r = (a, ns)) (hD : Dk H d M X a) (sm : Same H H1) {p : Addr} (hp : H1 p = Option.none) :
    Q (.ref p) (upd H1 p (.lst (ns.map V.int))) := by
  subst e
  have hn := sm.free hp
  have s2 : Same H (upd H1 p (.lst (ns.map V.int))) := Same.put sm hn
  exact k _ p M (O.same hD s2) upd_same hn (Left.of_same s2)
theorem tell_many {a : Kh303.Abs} {i : Nat} {v : Kh302.View} (e : a.views[i]? = some v) : tell (Kh303.doing a (.many i)) = (a, [((Kh302.get v a.t).length : Int)]) := by
  show tell (a, match a.views[i]? with | Option.none => Kh303.say (-22) | some v => Kh303.say (a.shows v).length) = _
  rw [e]; rfl
theorem tell_many0 {a : Kh303.Abs} {i : Nat} (e : a.views[i]? = Option.none) : tell (Kh303.doing a (.many i)) = (a, [-22]) := by
  show tell (a, match a.views[i]? with | Option.none => Kh303.say (-22) | some v => Kh303.say (a.shows v).length) = _
  rw [e]; rfl
theorem tell_row0 {a : Kh303.Abs} {i k : Nat} (e : a.views[i]? = Option.none) : tell (Kh303.doing a (.row i k)) = (a, [-22]) := by
  show tell (a, match a.views[i]? with | Option.none => Kh303.say (-22) | some v => match (a.shows v)[k]? with | Option.none => Kh303.say (-2) | some r => (⟨0, [r]⟩ : Kh303.Ans)) = _
  rw [e]; rfl
theorem tell_row1 {a : Kh303.Abs} {i k : Nat} {v : Kh302.View} (e : a.views[i]? = some v) (e2 : (Kh302.get v a.t)[k]? = Option.none) : tell (Kh303.doing a (.row i k)) = (a, [-2]) := by
  show tell (a, match a.views[i]? with | Option.none => Kh303.say (-22) | some v => match (Kh302.get v a.t)[k]? with | Option.none => Kh303.say (-2) | some r => (⟨0, [r]⟩ : Kh303.Ans)) = _
  rw [e]
  show tell (a, match (Kh302.get v a.t)[k]? with | Option.none => Kh303.say (-2) | some r => (⟨0, [r]⟩ : Kh303.Ans)) = _
  rw [e2]; rfl
theorem tell_row2 {a : Kh303.Abs} {i k : Nat} {v : Kh302.View} {r : Kh302.Row} (e : a.views[i]? = some v) (e2 : (Kh302.get v a.t)[k]? = some r) : tell (Kh303.doing a (.row i k)) = (a, 0 :: (r.key :: r.cols).map Int.ofNat) := by
  show tell (a, match a.views[i]? with | Option.none => Kh303.say (-22) | some v => match (Kh302.get v a.t)[k]? with | Option.none => Kh303.say (-2) | some r => (⟨0, [r]⟩ : Kh303.Ans)) = _
  rw [e]
  show tell (a, match (Kh302.get v a.t)[k]? with | Option.none => Kh303.say (-2) | some r => (⟨0, [r]⟩ : Kh303.Ans)) = _
  rw [e2]
  show (a, (0 : Int) :: List.map Int.ofNat ((r.key :: r.cols) ++ [])) = _
  rw [List.append_nil]
theorem rowV_ints (r : Kh302.Row) : rowV r = ((r.key :: r.cols).map Int.ofNat).map V.int := by
  rw [List.map_map]
  rfl

/-! ### the methods -/
abbrev sDesk : Stmt := top 54
abbrev sDeskInit : Stmt := inClass sDesk 0
abbrev sBegin : Stmt := inClass sDesk 1
abbrev sView : Stmt := inClass sDesk 2
abbrev sHasView : Stmt := inClass sDesk 3
abbrev sRowsThrough : Stmt := inClass sDesk 4
abbrev sMany : Stmt := inClass sDesk 5
abbrev sRow : Stmt := inClass sDesk 6
structure TxtD (K : PySem.W.Frag) (mg : Str → Option Value) (CD : Addr) : Prop where
  cl : Cls K CD
  nRows : NoAttr K CD "rows"
  nViews : NoAttr K CD "views"
  nChanges : NoAttr K CD "changes"
  mgC : mg "Desk" = some (.ref CD)
  invalid : ∃ t, mg "INVALID" = some (.int (-22) t)
  absent : ∃ t, mg "ABSENT" = some (.int (-2) t)
  full : ∃ t, mg "FULL" = some (.int (-28) t)
  most : ∃ t, mg "MOST_VIEWS" = some (.int 16 t)
  taken : ∃ t, mg "TAKEN" = some (.int (-17) t)
  unshow : ∃ t, mg "UNSHOWABLE" = some (.int (-33) t)
  added : ∃ t, mg "ADDED" = some (.int 1 t)
  replaced : ∃ t, mg "REPLACED" = some (.int 2 t)
  mostR : ∃ t, mg "MOST_ROWS" = some (.int 256 t)
  mostC : ∃ t, mg "MOST_CHANGES" = some (.int 32 t)
  len : mg "len" = Option.none
  list : mg "list" = Option.none
def spHasView (C CD : Addr) : Sp := fun vs H Q _ => ∃ (d : Addr) (M X : List Addr) (a : Kh303.Abs) (i : Nat), vs = [.ref d, cellV i] ∧ Desk C CD H d M X a ∧ Q (.bl (decide (i < a.views.length))) H
def spRowsThrough (C CD : Addr) : Sp := fun vs H Q _ => ∃ (d : Addr) (M X : List Addr) (a : Kh303.Abs) (i : Nat) (v : Kh302.View), vs = [.ref d, cellV i] ∧ Desk C CD H d M X a ∧ a.views[i]? = some v ∧
  ∀ (H' : Hp) (p : Addr), TabAt H' p (Kh302.get v a.t) → H p = Option.none → Same H H' → Q (.ref p) H'
def spMany (C CD : Addr) : Sp := fun vs H Q _ => ∃ (d : Addr) (M X : List Addr) (a : Kh303.Abs) (i : Nat), vs = [.ref d, cellV i] ∧ Desk C CD H d M X a ∧ Post (Desk C CD) H d M X (tell (Kh303.doing a (.many i))) Q
def spRow (C CD : Addr) : Sp := fun vs H Q _ => ∃ (d : Addr) (M X : List Addr) (a : Kh303.Abs) (i k : Nat), vs = [.ref d, cellV i, cellV k] ∧ Desk C CD H d M X a ∧ Post (Desk C CD) H d M X (tell (Kh303.doing a (.row i k))) Q

section
variable {P : Program} {w : World} {K : PySem.W.Frag} {mg : Str → Option Value} {base : Heap}
theorem scHasView : FnScope ["self", "view_number"] ["self", "view_number"] (defScope sHasView) := ⟨rfl, rfl, rfl, by decide +kernel, rfl, by decide +kernel, by decide +kernel⟩
theorem ok_hasView {f C CD : Addr} {fd : FuncData} (F : Fun K "has_view" "Desk.has_view" sHasView f fd) (T : TxtD K mg CD) : FnOk P w K mg base CX0 1 f fd ["self", "view_number"] (spHasView C CD) := by
  refine F.ok scHasView (fun vs H Q E h => ?_) (fun cdv A outer s H vs Q E hr h => ?_)
  · obtain ⟨d, M, X, a, i, rfl, _⟩ := h
    rfl
  · obtain ⟨d, M, X, a, i, rfl, ⟨dx, lr, lv, lc, ls, ts, h⟩, k⟩ := h
    refine ⟨_, pss_one (ps_ret (pe_cmpR op_lt (pv 1) (pe_callB call_len_seq (by rfl) T.len PySem.boot_len (pa_cons (pe_fld (pv 0) rfl) pa_nil)) (nomark _))), ?_⟩
    refine ⟨_, rfl, _, rfl, d, CD, dx, _, _, rfl, h.obj, T.cl, T.nViews, df_views lr lv lc, lv, _, rfl, .inl (SqL.of h.lv_), _, _, rfl, rfl, ?_⟩
    have e := Paired.length h.vs
    rw [List.length_map, e]
    have q := k
    rw [show decide (i < a.views.length) = decide ((i : Int) < (a.views.length : Int)) from decc (by omega)] at q
    exact q
theorem scRowsThrough : FnScope ["self", "view_number"] ["self", "view_number"] (defScope sRowsThrough) := ⟨rfl, rfl, rfl, by decide +kernel, rfl, by decide +kernel, by decide +kernel⟩
theorem ok_rowsThrough {f C CD : Addr} {fd : FuncData} (F : Fun K "rows_through" "Desk.rows_through" sRowsThrough f fd) (T : TxtD K mg CD) (D1 : DefOk P w K mg base 3 "shown" ["rows", "steps"] (spShown C)) : FnOk P w K mg base CX0 4 f fd ["self", "view_number"] (spRowsThrough C CD) := by
  refine F.ok scRowsThrough (fun vs H Q E h => ?_) (fun cdv A outer s H vs Q E hr h => ?_)
  · obtain ⟨d, M, X, a, i, v, rfl, _⟩ := h
    rfl
  · obtain ⟨d, M, X, a, i, v, rfl, ⟨dx, lr, lv, lc, ls, ts, h⟩, hv, k⟩ := h
    refine ⟨_, pss_one (ps_ret (pe_def D1 hr rfl (pa_cons (pe_fld (pv 0) rfl) (pa_cons (pe_ix ix_list (pe_fld (pv 0) rfl) (pv 1) (fun _ _ => rfl)) pa_nil)))), ?_⟩
    obtain ⟨l, hl, hV⟩ := paired_get' h.vs hv
    have ot := (okTable_iff _).mp h.ok.1
    have ov := (okView_iff _).mp (h.ok.2.2.1 v (List.mem_of_getElem? hv))
    refine ⟨_, rfl, d, CD, dx, _, _, rfl, h.obj, T.cl, T.nRows, df_rows lr lv lc, _, rfl, d, CD, dx, _, _, rfl, h.obj, T.cl, T.nViews, df_views lr lv lc, _, rfl, lv, _, _, _, rfl, rfl, SqL.of h.lv_, at_of (j := i) rfl (by rw [List.getElem?_map, hl]; rfl), ?_⟩
    exact ⟨lr, l, a.t, v, rfl, h.tab.same (but_same _ _), hV.same (but_same _ _), ov.2, ot.2.1, Nat.le_trans ot.1 (by decide), k⟩
theorem scMany : FnScope ["self", "view_number"] ["self", "view_number"] (defScope sMany) := ⟨rfl, rfl, rfl, by decide +kernel, rfl, by decide +kernel, by decide +kernel⟩
theorem ok_many {f C CD : Addr} {fd : FuncData} (F : Fun K "many" "Desk.many" sMany f fd) (T : TxtD K mg CD) (M1 : MethOk P w K mg base 1 CD "has_view" ["self", "view_number"] (spHasView C CD))
    (M2 : MethOk P w K mg base 4 CD "rows_through" ["self", "view_number"] (spRowsThrough C CD)) : FnOk P w K mg base CX0 5 f fd ["self", "view_number"] (spMany C CD) := by
  refine F.ok scMany (fun vs H Q E h => ?_) (fun cdv A outer s H vs Q E hr h => ?_)
  · obtain ⟨d, M, X, a, i, rfl, _⟩ := h
    rfl
  · obtain ⟨d, M, X, a, i, rfl, hD, k⟩ := h
    have hr1 : Room 1 _ := hr.mono (by decide)
    refine ⟨_, pss_cons (ps_if (pt_not (pt_val (pe_mth M1 (pv 0) T.cl hr1 (pa_cons (pv 1) pa_nil)))) (pss_one (ps_ret (pe_lst (pa_cons (pe_cst rfl T.invalid) pa_nil)))) pss_nil)
      (pss_one (ps_ret (pe_lst (pa_cons (pe_callB call_len_seq (by rfl) T.len PySem.boot_len (pa_cons (pe_mth M2 (pv 0) T.cl hr (pa_cons (pv 1) pa_nil)) pa_nil)) pa_nil)))), ?_⟩
    obtain ⟨dx, lr, lv, lc, ls, ts, h⟩ := id hD
    have O := desk_ok C CD
    refine ⟨_, rfl, d, dx, _, rfl, h.obj, df_no lr lv lc (by decide +kernel) (by decide +kernel) (by decide +kernel), _, rfl, d, M, X, a, i, rfl, hD, _, rfl, ?_⟩
    refine itb (fun hc => ?_) (fun hc => ?_)
    · have e : a.views[i]? = Option.none := List.getElem?_eq_none_iff.mpr (by simpa using hc)
      exact ⟨(by show 1 ≤ sizeLine; decide), fun p hp => post_same O k (tell_many0 e) hD (Same.refl H) hp⟩
    · have hi : i < a.views.length := by simpa using hc
      have e : a.views[i]? = some a.views[i] := List.getElem?_eq_getElem hi
      refine ⟨_, rfl, d, dx, _, rfl, h.obj, df_no lr lv lc (by decide +kernel) (by decide +kernel) (by decide +kernel), _, rfl, d, M, X, a, i, _, rfl, hD, e, fun H1 p ⟨as, hp, hA⟩ hpn sm => ?_⟩
      refine ⟨p, _, rfl, .inl (SqL.of hp), (by show 1 ≤ sizeLine; decide), fun q hq => ?_⟩
      have el := Paired.length hA
      rw [List.length_map, el]
      exact post_same O k (tell_many e) hD sm hq
theorem scRow : FnScope ["self", "view_number", "k", "seen"] ["self", "view_number", "k"] (defScope sRow) := ⟨rfl, rfl, rfl, by decide +kernel, rfl, by decide +kernel, by decide +kernel⟩
theorem ok_row {f C CD : Addr} {fd : FuncData} (F : Fun K "row" "Desk.row" sRow f fd) (T : TxtD K mg CD) (M1 : MethOk P w K mg base 1 CD "has_view" ["self", "view_number"] (spHasView C CD))
    (M2 : MethOk P w K mg base 4 CD "rows_through" ["self", "view_number"] (spRowsThrough C CD)) : FnOk P w K mg base CX0 5 f fd ["self", "view_number", "k"] (spRow C CD) := by
  refine F.ok scRow (fun vs H Q E h => ?_) (fun cdv A outer s H vs Q E hr h => ?_)
  · obtain ⟨d, M, X, a, i, k, rfl, _⟩ := h
    rfl
  · obtain ⟨d, M, X, a, i, n, rfl, hD, k⟩ := h
    have hr1 : Room 1 _ := hr.mono (by decide)
    refine ⟨_, pss_cons (ps_if (pt_not (pt_val (pe_mth M1 (pv 0) T.cl hr1 (pa_cons (pv 1) pa_nil)))) (pss_one (ps_ret (pe_lst (pa_cons (pe_cst rfl T.invalid) pa_nil)))) pss_nil)
      (pss_cons (ps_set (i := 3) scRow.nd rfl (Or.inl rfl) (pe_mth M2 (pv 0) T.cl hr (pa_cons (pv 1) pa_nil)))
      (pss_cons (ps_if (pt_cmpR op_le (pe_callB call_len_seq (by rfl) T.len PySem.boot_len (pa_cons (pv 3) pa_nil)) (pv 2) (nomark _)) (pss_one (ps_ret (pe_lst (pa_cons (pe_cst rfl T.absent) pa_nil)))) pss_nil)
      (pss_one (ps_ret (pe_op op_cat (pe_lst (pa_cons pe_int pa_nil)) (pe_callTy call_list_of (by rfl) T.list PyProof.Rows.boot_list (pa_cons (pe_ix ix_list (pv 3) (pv 2) (fun _ _ => rfl)) pa_nil))))))), ?_⟩
    obtain ⟨dx, lr, lv, lc, ls, ts, h⟩ := id hD
    have O := desk_ok C CD
    refine ⟨_, rfl, d, dx, _, rfl, h.obj, df_no lr lv lc (by decide +kernel) (by decide +kernel) (by decide +kernel), _, rfl, d, M, X, a, i, rfl, hD, _, rfl, ?_⟩
    refine itb (fun hc => ?_) (fun hc => ?_)
    · have e : a.views[i]? = Option.none := List.getElem?_eq_none_iff.mpr (by simpa using hc)
      exact ⟨(by show 1 ≤ sizeLine; decide), fun p hp => post_same O k (tell_row0 e) hD (Same.refl H) hp⟩
    · have hi : i < a.views.length := by simpa using hc
      have e : a.views[i]? = some a.views[i] := List.getElem?_eq_getElem hi
      refine ⟨_, rfl, d, dx, _, rfl, h.obj, df_no lr lv lc (by decide +kernel) (by decide +kernel) (by decide +kernel), _, rfl, d, M, X, a, i, _, rfl, hD, e, fun H1 p ⟨as, hp, hA⟩ hpn sm => ?_⟩
      have el := Paired.length hA
      refine ⟨_, rfl, p, _, rfl, .inl (SqL.of hp), _, rfl, _, _, rfl, rfl, _, rfl, ?_⟩
      rw [List.length_map, el]
      refine itd (fun hle => ?_) (fun hgt => ?_)
      · have e2 : (Kh302.get a.views[i] a.t)[n]? = Option.none := List.getElem?_eq_none_iff.mpr (by omega)
        exact ⟨(by show 1 ≤ sizeLine; decide), fun q hq => post_same O k (tell_row1 e e2) hD sm hq⟩
      · have hlt : n < (Kh302.get a.views[i] a.t).length := by omega
        have e2 : (Kh302.get a.views[i] a.t)[n]? = some (Kh302.get a.views[i] a.t)[n] := List.getElem?_eq_getElem hlt
        obtain ⟨b, hb, hrow⟩ := paired_get' hA e2
        refine ⟨(by show 1 ≤ sizeLine; decide), fun q hq => ?_⟩
        have s1 : Same H1 (upd H1 q (.lst [.int 0])) := Same.new hq
        refine ⟨_, rfl, _, rfl, p, _, _, _, rfl, rfl, SqL.of (s1 _ _ hp), at_of (j := n) rfl (by rw [List.getElem?_map, hb]; rfl), b, _, rfl, .inr (SqT.of (s1 _ _ hrow)), fun u hu => ?_⟩
        have nqu : q ≠ u := fun z => by rw [← z, upd_same] at hu; cases hu
        have ot := (okTable_iff _).mp h.ok.1
        have hw := width (get_rows (v := a.views[i]) ot.2.1) (List.mem_of_getElem? e2)
        refine ⟨q, u, _, _, rfl, rfl, (by rw [upd_ne nqu]; exact upd_same), upd_same, ?_, fun x hx => ?_⟩
        · rw [rowV_len hw]; show 1 + 5 ≤ sizeLine; decide
        · rw [rowV_ints]
          have s2 : Same H (upd (upd H1 q (.lst [.int 0])) u (.lst (((((Kh302.get a.views[i] a.t)[n]).key :: ((Kh302.get a.views[i] a.t)[n]).cols).map Int.ofNat).map V.int))) := Same.put (sm.trans s1) ((sm.trans s1).free hu)
          rw [rowV_ints] at hx
          exact post_same O k (tell_row2 e e2) hD s2 hx
end
end Vm

end
section
set_option Elab.async false
set_option linter.all false
set_option maxRecDepth 100000
set_option maxHeartbeats 2000000
namespace Vm
open PySem PySem.Spec PyProof.Rows L2

theorem view_long {ns : List Int} (h4 : ns.length % 4 = 0) (h : ¬ ns.length ≤ 32) : Kh302.okView (Kh303Neutral.view ns) = false := by
  have e := view_len ns h4
  unfold Kh302.okView
  rw [decide_eq_false (by omega), Bool.false_and]
def viewCall (ns : List Int) : Kh303.Call := .view (if ns.length ≤ 32 then some (Kh303Neutral.view ns) else Option.none)
theorem tell_view0 {a : Kh303.Abs} {ns : List Int} (h : Kh302.okView (Kh303Neutral.view ns) = false) : tell (Kh303.doing a (viewCall ns)) = (a, [-22]) := by
  unfold viewCall
  split
  · show tell (if Kh302.okView (Kh303Neutral.view ns) = false then (a, Kh303.say (-22)) else if 16 ≤ a.views.length then (a, Kh303.say (-28)) else ({ a with views := a.views ++ [Kh303Neutral.view ns] }, Kh303.say a.views.length)) = _
    rw [if_pos h]; rfl
  · rfl
theorem tell_view1 {a : Kh303.Abs} {ns : List Int} (h4 : ns.length % 4 = 0) (h : Kh302.okView (Kh303Neutral.view ns) = true) (hf : 16 ≤ a.views.length) : tell (Kh303.doing a (viewCall ns)) = (a, [-28]) := by
  unfold viewCall
  by_cases c : ns.length ≤ 32
  · rw [if_pos c]
    show tell (if Kh302.okView (Kh303Neutral.view ns) = false then (a, Kh303.say (-22)) else if 16 ≤ a.views.length then (a, Kh303.say (-28)) else ({ a with views := a.views ++ [Kh303Neutral.view ns] }, Kh303.say a.views.length)) = _
    rw [if_neg (by rw [h]; decide), if_pos hf]; rfl
  · rw [view_long h4 c] at h; cases h
theorem tell_view2 {a : Kh303.Abs} {ns : List Int} (h4 : ns.length % 4 = 0) (h : Kh302.okView (Kh303Neutral.view ns) = true) (hf : ¬ 16 ≤ a.views.length) : tell (Kh303.doing a (viewCall ns)) = ({ a with views := a.views ++ [Kh303Neutral.view ns] }, [(a.views.length : Int)]) := by
  unfold viewCall
  by_cases c : ns.length ≤ 32
  · rw [if_pos c]
    show tell (if Kh302.okView (Kh303Neutral.view ns) = false then (a, Kh303.say (-22)) else if 16 ≤ a.views.length then (a, Kh303.say (-28)) else ({ a with views := a.views ++ [Kh303Neutral.view ns] }, Kh303.say a.views.length)) = _
    rw [if_neg (by rw [h]; decide), if_neg hf]; rfl
  · rw [view_long h4 c] at h; cases h
def spView (K : PySem.W.Frag) (C CD : Addr) : Sp := fun vs H Q _ => ∃ (d l : Addr) (M X : List Addr) (a : Kh303.Abs) (ns : List Int), vs = [.ref d, .ref l] ∧ Desk C CD H d M X a ∧ SqL K H l (ns.map V.int) ∧ ns.length % 4 = 0 ∧ ns.length ≤ 48 ∧ (∀ z ∈ ns, U32 z) ∧
  Post (Desk C CD) H d M X (tell (Kh303.doing a (viewCall ns))) Q
def spBegin (C CD : Addr) : Sp := fun vs H Q _ => ∃ (d : Addr) (M X : List Addr) (a : Kh303.Abs), vs = [.ref d] ∧ Desk C CD H d M X a ∧ Post (Desk C CD) H d M X (tell (Kh303.doing a .begin_)) Q
def spDeskInit (C CD : Addr) : Sp := fun vs H Q _ => ∃ (d dx : Addr), vs = [.ref d] ∧ H d = some (.ins CD dx []) ∧ ∀ (H' : Hp) (M : List Addr), Desk C CD H' d M [] Kh303.empty → (∀ b o, H b = some o → b ≠ d → H' b = some o) → Q .non H'

section
variable {P : Program} {w : World} {K : PySem.W.Frag} {mg : Str → Option Value} {base : Heap}
theorem scView : FnScope ["self", "numbers", "steps"] ["self", "numbers"] (defScope sView) := ⟨rfl, rfl, rfl, by decide +kernel, rfl, by decide +kernel, by decide +kernel⟩
theorem ok_view {f C CD : Addr} {fd : FuncData} (F : Fun K "view" "Desk.view" sView f fd) (T : TxtD K mg CD) (D1 : DefOk P w K mg base 4 "steps_of" ["numbers"] (spStepsOf K C)) (D2 : DefOk P w K mg base 2 "is_view" ["steps"] (spIsView C)) :
    FnOk P w K mg base CX0 5 f fd ["self", "numbers"] (spView K C CD) := by
  refine F.ok scView (fun vs H Q E h => ?_) (fun cdv A outer s H vs Q E hr h => ?_)
  · obtain ⟨d, l, M, X, a, ns, rfl, _⟩ := h
    rfl
  · obtain ⟨d, l, M, X, a, ns, rfl, hD, hS, h4, h48, hU, k⟩ := h
    have hr2 : Room 2 _ := hr.mono (by decide)
    refine ⟨_, pss_cons (ps_set (i := 2) scView.nd rfl (Or.inl rfl) (pe_def D1 hr rfl (pa_cons (pv 1) pa_nil)))
      (pss_cons (ps_if (pt_not (pt_val (pe_def D2 hr2 rfl (pa_cons (pv 2) pa_nil)))) (pss_one (ps_ret (pe_lst (pa_cons (pe_cst rfl T.invalid) pa_nil)))) pss_nil)
      (pss_cons (ps_if (pt_cmpR op_ge (pe_callB call_len_seq (by rfl) T.len PySem.boot_len (pa_cons (pe_fld (pv 0) rfl) pa_nil)) (pe_cst rfl T.most) (nomark _)) (pss_one (ps_ret (pe_lst (pa_cons (pe_cst rfl T.full) pa_nil)))) pss_nil)
      (pss_cons (ps_expr (pe_bm PySem.F.plainAttrs_list PySem.F.slot_list_append PySem.F.type_list_append mt_append (pe_fld (pv 0) rfl) (pa_cons (pv 2) pa_nil)))
      (pss_one (ps_ret (pe_lst (pa_cons (pe_op op_sub (pe_callB call_len_seq (by rfl) T.len PySem.boot_len (pa_cons (pe_fld (pv 0) rfl) pa_nil)) pe_int) pa_nil))))))), ?_⟩
    obtain ⟨dx, lr, lv, lc, ls, ts, h⟩ := id hD
    have O := desk_ok C CD
    have hvl := view_len ns h4
    refine ⟨_, rfl, l, ns, rfl, hS, h4, h48, fun z hz => (hU z hz).1, fun H1 p hV hpn s1 => ?_⟩
    refine ⟨_, rfl, p, _, rfl, hV, by omega, view_lt hU, fun H2 s2 => ⟨_, rfl, ?_⟩⟩
    have s12 := s1.trans s2
    refine itb (fun hc => ?_) (fun hc => ?_)
    · exact ⟨(by show 1 ≤ sizeLine; decide), fun q hq => post_same O k (tell_view0 (by simpa using hc)) hD s12 hq⟩
    have hok : Kh302.okView (Kh303Neutral.view ns) = true := by simpa using hc
    have hls := Paired.length h.vs
    refine ⟨_, rfl, d, CD, dx, _, _, rfl, s12 _ _ h.obj, T.cl, T.nViews, df_views lr lv lc, lv, _, rfl, .inl (SqL.of (s12 _ _ h.lv_)), _, _, rfl, rfl, _, rfl, ?_⟩
    rw [List.length_map, hls]
    refine itd (fun hf => ?_) (fun hf => ?_)
    · exact ⟨(by show 1 ≤ sizeLine; decide), fun q hq => post_same O k (tell_view1 h4 hok (by omega)) hD s12 hq⟩
    have hf' : ¬ 16 ≤ a.views.length := by omega
    have n1 : d ≠ lv := ne_of h.obj h.lv_ (by intro z; cases z)
    refine ⟨_, rfl, d, CD, dx, _, _, rfl, s12 _ _ h.obj, T.cl, T.nViews, df_views lr lv lc, .inl ⟨rfl, _, SqL.of (s12 _ _ h.lv_)⟩, _, rfl, lv, _, _, rfl, rfl, s12 _ _ h.lv_, ?_, ?_⟩
    · rw [List.length_map, hls]
      exact Nat.lt_of_lt_of_le (show a.views.length < 16 by omega) (by decide)
    refine ⟨_, rfl, d, CD, dx, _, _, rfl, (by rw [upd_ne n1]; exact s12 _ _ h.obj), T.cl, T.nViews, df_views lr lv lc, lv, _, rfl, .inl (SqL.of upd_same), _, _, rfl, rfl, (by show 1 ≤ sizeLine; decide), fun q hq => ?_⟩
    rw [tell_view2 h4 hok hf'] at k
    -- the heap behind the append
    have hL2 : Lists H2 (M ++ X) := h.all.same s12
    have hpo : p ∉ M ++ X := h.all.out hpn
    have lvM : lv ∈ M := h.mv
    have b1 : Same (but H2 (M ++ X)) (but (upd H2 lv (.lst (ls.map V.ref ++ [V.ref p]))) (M ++ X)) := but_step fun b o e n => ⟨by rw [upd_ne (fun z => n (by rw [z]; exact List.mem_append_left _ lvM))]; exact e, n⟩
    have b0 : Same (but H (M ++ X)) (but H2 (M ++ X)) := but_step fun b o e n => ⟨s12 b o e, n⟩
    have hV2 : ViewAt C (but H2 (M ++ X)) p (Kh303Neutral.view ns) := (hV.same s2).but hL2 hpo
    have b01 := b0.trans b1
    have hq2 : H2 q = Option.none := by
      cases z : H2 q with
      | none => rfl
      | some o =>
        by_cases e : q = lv
        · rw [e, upd_same] at hq; cases hq
        · rw [upd_ne e, z] at hq; cases hq
    have hok2 : Kh303.Ok { a with views := a.views ++ [Kh303Neutral.view ns] } := by
      have q2 := doing_ok (c := .view (some (Kh303Neutral.view ns))) h.ok trivial
      have e : Kh303.doing a (.view (some (Kh303Neutral.view ns))) = ({ a with views := a.views ++ [Kh303Neutral.view ns] }, Kh303.say a.views.length) := by
        show (if Kh302.okView (Kh303Neutral.view ns) = false then (a, Kh303.say (-22)) else if 16 ≤ a.views.length then (a, Kh303.say (-28)) else ({ a with views := a.views ++ [Kh303Neutral.view ns] }, Kh303.say a.views.length)) = _
        rw [if_neg (by rw [hok]; decide), if_neg hf']
      rw [e] at q2; exact q2
    have dk : Desk C CD (upd H2 lv (.lst (ls.map V.ref ++ [V.ref p]))) d M X { a with views := a.views ++ [Kh303Neutral.view ns] } :=
      ⟨dx, lr, lv, lc, ls ++ [p], ts, h.own, by rw [upd_ne n1]; exact s12 _ _ h.obj, by rw [upd_same, List.map_append]; rfl, by rw [upd_ne (Ne.symm h.two)]; exact s12 _ _ h.lc_, h.two, h.apart, (h.lists.same s12).upd _ _, h.tab.same b01, Paired.snoc (paired_mono (fun _ _ z => z.same b01) h.vs) (hV2.same b1), paired_mono (fun _ _ z => z.same b01) h.cs, hok2⟩
    refine k _ q M (O.same dk (Same.new hq)) ?_ (s12.free hq2) ⟨fun b o e nd nM => ?_, fun m hm => .inl hm, fun _ => ?_⟩
    · rw [upd_same]
      show some (HO.lst [V.int (((ls.map V.ref ++ [V.ref p]).length : Int) - 1)]) = some (HO.lst [V.int (a.views.length : Int)])
      rw [List.length_append, List.length_map, hls]
      show some (HO.lst [V.int (((a.views.length + 1 : Nat) : Int) - 1)]) = _
      rw [show ((a.views.length + 1 : Nat) : Int) - 1 = (a.views.length : Int) by omega]
    · have e2 := s12 b o e
      rw [upd_ne (ne_of_none e2 hq2), upd_ne (fun z => nM (by rw [z]; exact lvM))]
      exact e2
    · have e2 := s12 _ _ h.obj
      rw [upd_ne (ne_of_none e2 hq2), upd_ne n1, e2]
      simp

theorem upd_none {H : Hp} {x b : Addr} {o : HO} (h : upd H x o b = Option.none) : b ≠ x ∧ H b = Option.none := by
  by_cases e : b = x
  · rw [e, upd_same] at h; cases h
  · exact ⟨e, by rw [upd_ne e] at h; exact h⟩
/-- a desk as new: its three lists empty -/
theorem desk_new {C CD : Addr} {H : Hp} {d dx p1 p2 p3 : Addr} {X : List Addr} (hd : H d = some (.ins CD dx (df p1 p2 p3))) (h1 : H p1 = some (.lst [])) (h2 : H p2 = some (.lst [])) (h3 : H p3 = some (.lst [])) (n12 : p1 ≠ p2) (n13 : p1 ≠ p3) (n23 : p2 ≠ p3)
    (x1 : p1 ∉ X) (x2 : p2 ∉ X) (x3 : p3 ∉ X) (hL : Lists H X) : Desk C CD H d [p2, p3] X Kh303.empty := by
  refine ⟨dx, p1, p2, p3, [], [], rfl, hd, h2, h3, n23, fun m hm => ?_, hL, ⟨[], ?_, .nil⟩, .nil, .nil, empty_ok⟩
  · rcases List.mem_cons.mp hm with q | q
    · rw [q]; exact x2
    · rw [List.mem_singleton.mp q]; exact x3
  · rw [but_out]
    · exact h1
    · intro m
      rcases List.mem_append.mp m with q | q
      · rcases List.mem_cons.mp q with q | q
        · exact n12 q
        · exact n13 (List.mem_singleton.mp q)
      · exact x1 q
theorem scDeskInit : FnScope ["self"] ["self"] (defScope sDeskInit) := ⟨rfl, rfl, rfl, by decide +kernel, rfl, by decide +kernel, by decide +kernel⟩
theorem ok_deskInit {f C CD : Addr} {fd : FuncData} (F : Fun K "__init__" "Desk.__init__" sDeskInit f fd) (T : TxtD K mg CD) : FnOk P w K mg base CX0 1 f fd ["self"] (spDeskInit C CD) := by
  refine F.ok scDeskInit (fun vs H Q E h => ?_) (fun cdv A outer s H vs Q E hr h => ?_)
  · obtain ⟨d, dx, rfl, _⟩ := h
    rfl
  · obtain ⟨d, dx, rfl, hd, k⟩ := h
    refine ⟨_, pss_cons (ps_fld (pv 0) (pe_lst pa_nil) rfl) (pss_cons (ps_fld (pv 0) (pe_lst pa_nil) rfl) (pss_one (ps_fld (pv 0) (pe_lst pa_nil) rfl))), ?_⟩
    refine ⟨Nat.zero_le _, fun p1 hp1 => ?_⟩
    have n1 : d ≠ p1 := ne_of_none hd hp1
    refine ⟨_, rfl, d, CD, dx, _, rfl, (by rw [upd_ne n1]; exact hd), T.cl, T.nRows, (by show 0 < 1000; decide), ?_⟩
    refine ⟨Nat.zero_le _, fun p2 hp2 => ?_⟩
    obtain ⟨m2, hp2'⟩ := upd_none hp2
    obtain ⟨n12, hp2''⟩ := upd_none hp2'
    refine ⟨_, rfl, d, CD, dx, _, rfl, (by rw [upd_ne (Ne.symm m2)]; exact upd_same), T.cl, T.nViews, (by show 1 < 1000; decide), ?_⟩
    refine ⟨Nat.zero_le _, fun p3 hp3 => ?_⟩
    obtain ⟨m3, hp3a⟩ := upd_none hp3
    obtain ⟨n23, hp3b⟩ := upd_none hp3a
    obtain ⟨_, hp3c⟩ := upd_none hp3b
    obtain ⟨n13, hp3d⟩ := upd_none hp3c
    refine ⟨_, rfl, d, CD, dx, _, rfl, (by rw [upd_ne (Ne.symm m3)]; exact upd_same), T.cl, T.nChanges, ?_, ?_⟩
    · have l1 := length_putF "rows" (V.ref p1) []
      have l2 := length_putF "views" (V.ref p2) (putF "rows" (V.ref p1) [])
      have l0 : ([] : List (Str × V)).length = 0 := rfl
      omega
    refine k _ [p2, p3] (desk_new (dx := dx) (p1 := p1) upd_same ?_ ?_ ?_ (Ne.symm n12) (Ne.symm n13) (Ne.symm n23) (by simp) (by simp) (by simp) (fun m hm => by simp at hm)) fun b o e nb => ?_
    · rw [upd_ne (Ne.symm n1), upd_ne (Ne.symm n13), upd_ne (Ne.symm n1), upd_ne (Ne.symm n12), upd_ne (Ne.symm n1), upd_same]
    · rw [upd_ne m2, upd_ne (Ne.symm n23), upd_ne m2, upd_same]
    · rw [upd_ne m3, upd_same]
    · rw [upd_ne nb, upd_ne (ne_of_none e hp3d), upd_ne nb, upd_ne (ne_of_none e hp2''), upd_ne nb, upd_ne (ne_of_none e hp1)]
      exact e
theorem scBegin : FnScope ["self"] ["self"] (defScope sBegin) := ⟨rfl, rfl, rfl, by decide +kernel, rfl, by decide +kernel, by decide +kernel⟩
theorem ok_begin {f C CD : Addr} {fd : FuncData} (F : Fun K "begin" "Desk.begin" sBegin f fd) (T : TxtD K mg CD) : FnOk P w K mg base CX0 1 f fd ["self"] (spBegin C CD) := by
  refine F.ok scBegin (fun vs H Q E h => ?_) (fun cdv A outer s H vs Q E hr h => ?_)
  · obtain ⟨d, M, X, a, rfl, _⟩ := h
    rfl
  · obtain ⟨d, M, X, a, rfl, ⟨dx, lr, lv, lc, ls, ts, h⟩, k⟩ := h
    refine ⟨_, pss_cons (ps_fld (pv 0) (pe_lst pa_nil) rfl) (pss_cons (ps_fld (pv 0) (pe_lst pa_nil) rfl) (pss_cons (ps_fld (pv 0) (pe_lst pa_nil) rfl) (pss_one (ps_ret (pe_lst (pa_cons pe_int pa_nil)))))), ?_⟩
    have hd := h.obj
    refine ⟨Nat.zero_le _, fun p1 hp1 => ?_⟩
    have n1 : d ≠ p1 := ne_of_none hd hp1
    refine ⟨_, rfl, d, CD, dx, _, rfl, (by rw [upd_ne n1]; exact hd), T.cl, T.nRows, df_len lr lv lc, ?_⟩
    rw [df_put_rows]
    refine ⟨Nat.zero_le _, fun p2 hp2 => ?_⟩
    obtain ⟨m2, hp2'⟩ := upd_none hp2
    obtain ⟨n12, hp2''⟩ := upd_none hp2'
    refine ⟨_, rfl, d, CD, dx, _, rfl, (by rw [upd_ne (Ne.symm m2)]; exact upd_same), T.cl, T.nViews, df_len p1 lv lc, ?_⟩
    rw [df_put_views]
    refine ⟨Nat.zero_le _, fun p3 hp3 => ?_⟩
    obtain ⟨m3, hp3a⟩ := upd_none hp3
    obtain ⟨n23, hp3b⟩ := upd_none hp3a
    obtain ⟨_, hp3c⟩ := upd_none hp3b
    obtain ⟨n13, hp3d⟩ := upd_none hp3c
    refine ⟨_, rfl, d, CD, dx, _, rfl, (by rw [upd_ne (Ne.symm m3)]; exact upd_same), T.cl, T.nChanges, df_len p1 p2 lc, ?_⟩
    rw [df_put_changes]
    refine ⟨(by show 1 ≤ sizeLine; decide), fun q hq => ?_⟩
    obtain ⟨md, hqa⟩ := upd_none hq
    obtain ⟨mq3, hqb⟩ := upd_none hqa
    obtain ⟨_, hqc⟩ := upd_none hqb
    obtain ⟨mq2, hqd⟩ := upd_none hqc
    obtain ⟨_, hqe⟩ := upd_none hqd
    obtain ⟨mq1, hq'⟩ := upd_none hqe
    have keep : ∀ b o, H b = some o → b ≠ d → b ≠ q → upd (upd (upd (upd (upd (upd (upd H p1 (.lst [])) d (.ins CD dx (df p1 lv lc))) p2 (.lst [])) d (.ins CD dx (df p1 p2 lc))) p3 (.lst [])) d (.ins CD dx (df p1 p2 p3))) q (.lst [.int 0]) b = some o := fun b o e nb nq => by
      rw [upd_ne nq, upd_ne nb, upd_ne (ne_of_none e hp3d), upd_ne nb, upd_ne (ne_of_none e hp2''), upd_ne nb, upd_ne (ne_of_none e hp1)]
      exact e
    have dX : d ∉ X := fun z => h.nd (List.mem_append_right _ z)
    refine k _ q [p2, p3] (desk_new (dx := dx) (p1 := p1) ?_ ?_ ?_ ?_ (Ne.symm n12) (Ne.symm n13) (Ne.symm n23) (h.lists.out hp1) (h.lists.out hp2'') (h.lists.out hp3d) ?_) upd_same hq' ⟨fun b o e nb _ => keep b o e nb (ne_of_none e hq'), fun m hm => .inr ?_, fun _ => ?_⟩
    · rw [upd_ne (Ne.symm md), upd_same]
    · rw [upd_ne (Ne.symm mq1), upd_ne (Ne.symm n1), upd_ne (Ne.symm n13), upd_ne (Ne.symm n1), upd_ne (Ne.symm n12), upd_ne (Ne.symm n1), upd_same]
    · rw [upd_ne (Ne.symm mq2), upd_ne m2, upd_ne (Ne.symm n23), upd_ne m2, upd_same]
    · rw [upd_ne (Ne.symm mq3), upd_ne m3, upd_same]
    · intro m hm
      obtain ⟨xs, e⟩ := h.lists m hm
      exact ⟨xs, keep m _ e (fun z => dX (by rw [← z]; exact hm)) (ne_of_none e hq')⟩
    · rcases List.mem_cons.mp hm with z | z
      · rw [z]; exact hp2''
      · rw [List.mem_singleton.mp z]; exact hp3d
    · rw [upd_ne (Ne.symm md), upd_same]
      simp
end
end Vm

end
section
set_option Elab.async false
set_option linter.all false
set_option maxRecDepth 100000
set_option maxHeartbeats 2000000
namespace Vm
open PySem PySem.Spec PyProof.Rows L2

/-! ### tables as data: when two are the same -/
def rowD (r : Kh302.Row) : PyData := .tuple (((r.key :: r.cols).map Int.ofNat).map PyData.int)
def tabD (t : Kh302.Table) : PyData := .list (t.map rowD)
theorem dp_ints {K : PySem.W.Frag} {H : Hp} : ∀ ns : List Int, DpAll K H (ns.map V.int) (ns.map PyData.int)
  | [] => .nil
  | n :: ns => .cons (.int n) (dp_ints ns)
theorem dp_rows {K : PySem.W.Frag} {H : Hp} : ∀ {as : List Addr} {t : Kh302.Table}, Rows H as t → DpAll K H (as.map V.ref) (t.map rowD)
  | _, _, .nil => .nil
  | a :: as, r :: t, .cons h1 h2 => by
    have h1 : H a = some (.tup (rowV r)) := h1
    rw [rowV_ints] at h1
    exact .cons (.tup (SqT.of h1) (dp_ints _)) (dp_rows h2)
theorem dp_tab {K : PySem.W.Frag} {H : Hp} {l : Addr} {t : Kh302.Table} (h : TabAt H l t) : Dp K H (.ref l) (tabD t) := by
  obtain ⟨as, h1, h2⟩ := h
  exact .lst (SqL.of h1) (dp_rows h2)
theorem ofNat_inj : ∀ {l m : List Nat}, l.map Int.ofNat = m.map Int.ofNat → l = m
  | [], [], _ => rfl
  | [], _ :: _, h => by simp at h
  | _ :: _, [], h => by simp at h
  | a :: l, b :: m, h => by
    rw [List.map_cons, List.map_cons] at h
    have h1 := (List.cons.inj h).1
    rw [ofNat_inj (List.cons.inj h).2, Int.ofNat.inj h1]
theorem eqv_row (r x : Kh302.Row) : PyData.eqv (rowD r) (rowD x) = decide (r = x) := by
  show PyData.eqvAll _ _ = _
  rw [PySem.W.ked_eqvAll]
  refine decc ⟨fun h => ?_, fun h => by rw [h]⟩
  have := ofNat_inj h
  cases r
  cases x
  have h1 := (List.cons.inj this).1
  have h2 := (List.cons.inj this).2
  dsimp only at h1 h2
  rw [h1, h2]
theorem eqv_rows : ∀ t u : Kh302.Table, PyData.eqvAll (t.map rowD) (u.map rowD) = decide (t = u)
  | [], [] => by simp [PyData.eqvAll]
  | [], _ :: _ => by simp [PyData.eqvAll]
  | _ :: _, [] => by simp [PyData.eqvAll]
  | r :: t, x :: u => by
    show (PyData.eqv (rowD r) (rowD x) && PyData.eqvAll (t.map rowD) (u.map rowD)) = _
    rw [eqv_row, eqv_rows t u]
    by_cases h1 : r = x <;> by_cases h2 : t = u <;> simp [h1, h2]
theorem eqv_tab (t u : Kh302.Table) : PyData.eqv (tabD t) (tabD u) = decide (t = u) := eqv_rows t u
theorem lay_ints : ∀ ns : List Int, PyData.canLayAll0 (ns.map PyData.int) = true ∧ PyData.depthAll (ns.map PyData.int) = 0
  | [] => ⟨by simp [PyData.canLayAll0], by simp [PyData.depthAll]⟩
  | n :: ns => by
    obtain ⟨h1, h2⟩ := lay_ints ns
    exact ⟨by simp [PyData.canLayAll0, PyData.canLay0, h1], by simp [PyData.depthAll, PyData.depth, h2]⟩
theorem lay_rows : ∀ t : Kh302.Table, PyData.canLayAll0 (t.map rowD) = true ∧ PyData.depthAll (t.map rowD) ≤ 1
  | [] => ⟨by simp [PyData.canLayAll0], by simp [PyData.depthAll]⟩
  | r :: t => by
    obtain ⟨h1, h2⟩ := lay_rows t
    obtain ⟨k1, k2⟩ := lay_ints ((r.key :: r.cols).map Int.ofNat)
    have e1 : PyData.canLay0 (rowD r) = true := by unfold rowD; rw [PyData.canLay0]; exact k1
    have e2 : PyData.depth (rowD r) = 1 := by unfold rowD; rw [PyData.depth, k2]
    refine ⟨?_, ?_⟩
    · rw [List.map_cons, PyData.canLayAll0, e1, h1]; rfl
    · rw [List.map_cons, PyData.depthAll, e2]; omega
theorem shaped_tab (t : Kh302.Table) : SeqAt.shaped (tabD t) = true := by
  obtain ⟨h1, h2⟩ := lay_rows t
  unfold SeqAt.shaped tabD
  rw [Bool.and_eq_true, decide_eq_true_eq]
  refine ⟨by rw [PyData.canLay0]; exact h1, ?_⟩
  rw [PyData.depth]
  omega

/-! ### the desk's own object changed -/
theorem tab_off {H : Hp} {L : List Addr} {d l CD dx : Addr} {fs : List (Str × V)} {t : Kh302.Table} (h : TabAt (but H L) l t) (hd : H d = some (.ins CD dx fs)) : TabAt (but H (d :: L)) l t := by
  have key : ∀ b o, but H L b = some o → (∀ C' x' f', o ≠ HO.ins C' x' f') → but H (d :: L) b = some o := fun b o e n => by
    obtain ⟨h1, h2⟩ := but_some e
    have nb : b ≠ d := fun z => by
      rw [z, hd] at h2
      exact n _ _ _ (Option.some.inj h2).symm
    rw [but_out (fun m => (List.mem_cons.mp m).elim nb h1)]
    exact h2
  obtain ⟨as, h1, h2⟩ := h
  exact ⟨as, key _ _ h1 (by intro _ _ _ z; cases z), paired_mono (fun a r e => key _ _ e (by intro _ _ _ z; cases z)) h2⟩
theorem view_off {C : Addr} {H : Hp} {L : List Addr} {d l CD dx : Addr} {fs : List (Str × V)} {v : Kh302.View} (h : ViewAt C (but H L) l v) (hd : H d = some (.ins CD dx fs)) (hf : fs.lookup ("kind" : Str) = Option.none) : ViewAt C (but H (d :: L)) l v := by
  have key : ∀ b o, but H L b = some o → o ≠ HO.ins CD dx fs → but H (d :: L) b = some o := fun b o e n => by
    obtain ⟨h1, h2⟩ := but_some e
    have nb : b ≠ d := fun z => by
      rw [z, hd] at h2
      exact n (Option.some.inj h2).symm
    rw [but_out (fun m => (List.mem_cons.mp m).elim nb h1)]
    exact h2
  obtain ⟨as, h1, h2⟩ := h
  refine ⟨as, key _ _ h1 (by intro z; cases z), paired_mono (fun a s ⟨x, e⟩ => ⟨x, key _ _ e fun z => ?_⟩) h2⟩
  injection z with z1 z2 z3
  have q := sf_kind s
  rw [z3, hf] at q
  cases q
theorem paired_tail {α β : Type} {F : α → β → Prop} : ∀ {l : List α} {m : List β}, Paired F l m → Paired F l.tail m.tail
  | _, _, .nil => .nil
  | _, _, .cons _ t => t
theorem paired_last {α β : Type} {F : α → β → Prop} : ∀ {l : List α} {m : List β} {b : β}, Paired F l (m ++ [b]) → ∃ l' a, l = l' ++ [a] ∧ Paired F l' m ∧ F a b
  | _, [], _, .cons r t => by
    cases t
    exact ⟨[], _, rfl, .nil, r⟩
  | _, _ :: m, _, .cons r t => by
    obtain ⟨l', a, e, h1, h2⟩ := paired_last (m := m) t
    exact ⟨_ :: l', a, by rw [e]; rfl, .cons r h1, h2⟩
section
variable {C CD : Addr} {H H' : Hp} {d : Addr} {M X : List Addr} {a : Kh303.Abs} {dx lr lv lc : Addr} {ls ts : List Addr}
/-- the table and the changes are others now -/
theorem DeskAt.turn {a' : Kh303.Abs} {lr' : Addr} {ts' : List Addr} (h : DeskAt C CD H d M X a dx lr lv lc ls ts) (o : H' d = some (.ins CD dx (df lr' lv lc))) (hc : H' lc = some (.lst (ts'.map V.ref))) (k : ∀ b o, H b = some o → b ≠ d → b ≠ lc → H' b = some o)
    (hv : a'.views = a.views) (ht : TabAt (but H (M ++ X)) lr' a'.t) (hcs : Paired (TabAt (but H (M ++ X))) ts' a'.before.reverse) (ok : Kh303.Ok a') : DeskAt C CD H' d M X a' dx lr' lv lc ls ts' := by
  have b : Same (but H (d :: (M ++ X))) (but H' (M ++ X)) := but_step fun b o e n => by
    have n1 : b ≠ d := fun z => n (by rw [z]; simp)
    have n2 : b ∉ M ++ X := fun z => n (List.mem_cons_of_mem _ z)
    exact ⟨k b o e n1 fun z => n2 (by rw [z]; exact List.mem_append_left _ h.mc), n2⟩
  have nd := h.nd
  refine ⟨h.own, o, ?_, hc, h.two, h.apart, fun m hm => ?_, (tab_off ht h.obj).same b, ?_, paired_mono (fun _ _ q => (tab_off q h.obj).same b) hcs, ok⟩
  · exact k _ _ h.lv_ (fun z => nd (by rw [← z]; exact List.mem_append_left _ h.mv)) h.two
  · obtain ⟨xs, e⟩ := h.lists m hm
    exact ⟨xs, k _ _ e (fun z => nd (by rw [← z]; exact List.mem_append_right _ hm)) fun z => h.apart lc h.mc (by rw [← z]; exact hm)⟩
  · rw [hv]
    exact paired_mono (fun _ _ q => (view_off q h.obj (df_no lr lv lc (by decide +kernel) (by decide +kernel) (by decide +kernel))).same b) h.vs
end
theorem before_full {a : Kh303.Abs} {x : Kh302.Table} (hx : x ≠ a.t) : a.becomes x = { a with t := x, before := (a.t :: a.before).take 32 } := by
  unfold Kh303.Abs.becomes
  rw [if_neg hx]
  rfl

/-! ### what is answered, call by call -/
theorem tell_find0 {a : Kh303.Abs} {i k : Nat} (e : a.views[i]? = Option.none) : tell (Kh303.doing a (.find i k)) = (a, [-22]) := by
  show tell (a, match a.views[i]? with | Option.none => Kh303.say (-22) | some v => match Kh302.find (a.shows v) k with | Option.none => Kh303.say (-2) | some r => (⟨0, [r]⟩ : Kh303.Ans)) = _
  rw [e]; rfl
theorem tell_find1 {a : Kh303.Abs} {i k : Nat} {v : Kh302.View} (e : a.views[i]? = some v) (e2 : Kh302.find (Kh302.get v a.t) k = Option.none) : tell (Kh303.doing a (.find i k)) = (a, [-2]) := by
  show tell (a, match a.views[i]? with | Option.none => Kh303.say (-22) | some v => match Kh302.find (Kh302.get v a.t) k with | Option.none => Kh303.say (-2) | some r => (⟨0, [r]⟩ : Kh303.Ans)) = _
  rw [e]
  show tell (a, match Kh302.find (Kh302.get v a.t) k with | Option.none => Kh303.say (-2) | some r => (⟨0, [r]⟩ : Kh303.Ans)) = _
  rw [e2]; rfl
theorem tell_find2 {a : Kh303.Abs} {i k : Nat} {v : Kh302.View} {r : Kh302.Row} (e : a.views[i]? = some v) (e2 : Kh302.find (Kh302.get v a.t) k = some r) : tell (Kh303.doing a (.find i k)) = (a, 0 :: (r.key :: r.cols).map Int.ofNat) := by
  show tell (a, match a.views[i]? with | Option.none => Kh303.say (-22) | some v => match Kh302.find (Kh302.get v a.t) k with | Option.none => Kh303.say (-2) | some r => (⟨0, [r]⟩ : Kh303.Ans)) = _
  rw [e]
  show tell (a, match Kh302.find (Kh302.get v a.t) k with | Option.none => Kh303.say (-2) | some r => (⟨0, [r]⟩ : Kh303.Ans)) = _
  rw [e2]
  show (a, (0 : Int) :: List.map Int.ofNat ((r.key :: r.cols) ++ [])) = _
  rw [List.append_nil]
theorem tell_write0 {a : Kh303.Abs} {i : Nat} {r : Kh302.Row} (e : a.views[i]? = Option.none) : tell (Kh303.doing a (.write i r)) = (a, [-22]) := by
  rw [doing_write, e]; rfl
theorem doing_write1 {a : Kh303.Abs} {i : Nat} {r : Kh302.Row} {v : Kh302.View} (e : a.views[i]? = some v) : Kh303.doing a (.write i r) = a.put v (with_ (Kh302.get v a.t) r) (if (Kh302.find (Kh302.get v a.t) r.key).isSome then 2 else 1) := by
  rw [doing_write, e]
theorem put_unkept {a : Kh303.Abs} {v : Kh302.View} {w : Kh302.Table} {n : Int} (h : Kh302.back v a.t w = .unkept) : tell (a.put v w n) = (a, [-33]) := by
  unfold Kh303.Abs.put
  rw [h]; rfl
theorem put_taken {a : Kh303.Abs} {v : Kh302.View} {w : Kh302.Table} {n : Int} (h : Kh302.back v a.t w = .taken) : tell (a.put v w n) = (a, [-17]) := by
  unfold Kh303.Abs.put
  rw [h]; rfl
theorem put_full {a : Kh303.Abs} {v : Kh302.View} {w x : Kh302.Table} {n : Int} (h : Kh302.back v a.t w = .table x) (hx : 256 < x.length) : tell (a.put v w n) = (a, [-28]) := by
  unfold Kh303.Abs.put
  rw [h]
  show tell (if 256 < w.length ∨ 256 < x.length then (a, Kh303.say (-28)) else (a.becomes x, Kh303.say n)) = _
  rw [if_pos (.inr hx)]; rfl
theorem put_done {a : Kh303.Abs} {v : Kh302.View} {w x : Kh302.Table} {n : Int} (h : Kh302.back v a.t w = .table x) (hx : ¬ 256 < x.length) (hw : w.length ≤ x.length) : tell (a.put v w n) = (a.becomes x, [n]) := by
  unfold Kh303.Abs.put
  rw [h]
  show tell (if 256 < w.length ∨ 256 < x.length then (a, Kh303.say (-28)) else (a.becomes x, Kh303.say n)) = _
  rw [if_neg (by omega)]; rfl
theorem tell_drop0 {a : Kh303.Abs} {i k : Nat} (e : a.views[i]? = Option.none) : tell (Kh303.doing a (.drop i k)) = (a, [-22]) := by
  rw [doing_drop, e]; rfl
theorem tell_drop1 {a : Kh303.Abs} {i k : Nat} {v : Kh302.View} (e : a.views[i]? = some v) (e2 : Kh302.find (Kh302.get v a.t) k = Option.none) : tell (Kh303.doing a (.drop i k)) = (a, [-2]) := by
  rw [doing_drop, e]
  show tell (if (Kh302.find (Kh302.get v a.t) k).isNone = true then (a, Kh303.say (-2)) else _) = _
  rw [e2, if_pos (show (Option.none : Option Kh302.Row).isNone = true from rfl)]; rfl
theorem doing_drop2 {a : Kh303.Abs} {i k : Nat} {v : Kh302.View} {r : Kh302.Row} (e : a.views[i]? = some v) (e2 : Kh302.find (Kh302.get v a.t) k = some r) : Kh303.doing a (.drop i k) = a.put v (Kh303.without (Kh302.get v a.t) k) 0 := by
  rw [doing_drop, e]
  show (if (Kh302.find (Kh302.get v a.t) k).isNone = true then (a, Kh303.say (-2)) else a.put v (Kh303.without (Kh302.get v a.t) k) 0) = _
  rw [e2, if_neg (show ¬ (some r).isNone = true by simp)]
theorem tell_back0 {a : Kh303.Abs} (e : a.before = []) : tell (Kh303.doing a .back) = (a, [-2]) := by
  rw [doing_back, e]; rfl
theorem tell_back1 {a : Kh303.Abs} {t : Kh302.Table} {l : List Kh302.Table} (e : a.before = t :: l) : tell (Kh303.doing a .back) = ({ a with t := t, before := l }, [(l.length : Int)]) := by
  rw [doing_back, e]; rfl

/-! ### what a method leaves -/
theorem Left.free {Dk : DkT} (O : DkOk Dk) {H H' : Hp} {d q : Addr} {M M' X : List Addr} {a : Kh303.Abs} (l : Left H H' d M M') (hd : H d ≠ Option.none) (hm : ∀ m ∈ M, H' m ≠ Option.none) (hq : H' q = Option.none) : H q = Option.none := by
  cases z : H q with
  | none => rfl
  | some o =>
    by_cases e1 : q = d
    · exact absurd hq (by rw [e1]; exact l.desk hd)
    · by_cases e2 : q ∈ M
      · exact absurd hq (hm q e2)
      · rw [l.keep q o z e1 e2] at hq; cases hq
theorem Left.tab {H H' : Hp} {d l CD dx : Addr} {M M' : List Addr} {fs : List (Str × V)} {t : Kh302.Table} (f : Left H H' d M M') (hd : H d = some (.ins CD dx fs)) (hM : Lists H M) (h : TabAt H l t) (hl : l ∉ M) : TabAt H' l t := by
  obtain ⟨as, h1, h2⟩ := h
  refine ⟨as, f.keep _ _ h1 (ne_of h1 hd (by intro z; cases z)) hl, paired_mono (fun a r e => ?_) h2⟩
  have e : H a = some (.tup (rowV r)) := e
  exact f.keep _ _ e (ne_of e hd (by intro z; cases z)) (hM.tup e)

/-! ### the promises -/
abbrev sFind : Stmt := inClass sDesk 7
abbrev sChange : Stmt := inClass sDesk 8
abbrev sWrite : Stmt := inClass sDesk 9
abbrev sDrop : Stmt := inClass sDesk 10
abbrev sBack : Stmt := inClass sDesk 11
def spFind (C CD : Addr) : Sp := fun vs H Q _ => ∃ (d : Addr) (M X : List Addr) (a : Kh303.Abs) (i k : Nat), vs = [.ref d, cellV i, cellV k] ∧ Desk C CD H d M X a ∧ Post (Desk C CD) H d M X (tell (Kh303.doing a (.find i k))) Q
def spChange (C CD : Addr) : Sp := fun vs H Q _ => ∃ (d p : Addr) (M X : List Addr) (a : Kh303.Abs) (x : Kh302.Table), vs = [.ref d, .ref p] ∧ Desk C CD H d M X a ∧ TabAt H p x ∧ p ∉ M ++ X ∧ Kh302.okTable x = true ∧
  ∀ H' : Hp, Desk C CD H' d M X (a.becomes x) → Left H H' d M M → Q .non H'
def spWrite (C CD : Addr) : Sp := fun vs H Q _ => ∃ (d b : Addr) (M X : List Addr) (a : Kh303.Abs) (i : Nat) (r : Kh302.Row), vs = [.ref d, cellV i, .ref b] ∧ Desk C CD H d M X a ∧ RowAt H b r ∧ Kh302.okRow r = true ∧ Post (Desk C CD) H d M X (tell (Kh303.doing a (.write i r))) Q
def spDrop (C CD : Addr) : Sp := fun vs H Q _ => ∃ (d : Addr) (M X : List Addr) (a : Kh303.Abs) (i k : Nat), vs = [.ref d, cellV i, cellV k] ∧ Desk C CD H d M X a ∧ Post (Desk C CD) H d M X (tell (Kh303.doing a (.drop i k))) Q
def spBack (C CD : Addr) : Sp := fun vs H Q _ => ∃ (d : Addr) (M X : List Addr) (a : Kh303.Abs), vs = [.ref d] ∧ Desk C CD H d M X a ∧ Post (Desk C CD) H d M X (tell (Kh303.doing a .back)) Q
theorem passN {X : Cx} {P : Program} {w : World} : Passes (CXw P w) X E0 := fun _ _ _ _ _ _ _ h => by
  obtain ⟨_, _, _, _, _, _, h, _⟩ := h
  exact h.elim

section
variable {P : Program} {w : World} {K : PySem.W.Frag} {mg : Str → Option Value} {base : Heap}

/-! find -/
theorem scFind : FnScope ["self", "view_number", "key", "seen"] ["self", "view_number", "key"] (defScope sFind) := ⟨rfl, rfl, rfl, by decide +kernel, rfl, by decide +kernel, by decide +kernel⟩
theorem ok_find {f C CD : Addr} {fd : FuncData} (F : Fun K "find" "Desk.find" sFind f fd) (T : TxtD K mg CD) (M1 : MethOk P w K mg base 1 CD "has_view" ["self", "view_number"] (spHasView C CD))
    (M2 : MethOk P w K mg base 4 CD "rows_through" ["self", "view_number"] (spRowsThrough C CD)) (D2 : DefOk P w K mg base 2 "by_key" ["rows"] spByKey) : FnOk P w K mg base CX0 5 f fd ["self", "view_number", "key"] (spFind C CD) := by
  refine F.ok scFind (fun vs H Q E h => ?_) (fun cdv A outer s H vs Q E hr h => ?_)
  · obtain ⟨d, M, X, a, i, k, rfl, _⟩ := h
    rfl
  · obtain ⟨d, M, X, a, i, n, rfl, hD, k⟩ := h
    have hr1 : Room 1 _ := hr.mono (by decide)
    have hr2 : Room 2 _ := hr.mono (by decide)
    refine ⟨_, pss_cons (ps_if (pt_not (pt_val (pe_mth M1 (pv 0) T.cl hr1 (pa_cons (pv 1) pa_nil)))) (pss_one (ps_ret (pe_lst (pa_cons (pe_cst rfl T.invalid) pa_nil)))) pss_nil)
      (pss_cons (ps_set (i := 3) scFind.nd rfl (Or.inl rfl) (pe_def D2 hr2 rfl (pa_cons (pe_mth M2 (pv 0) T.cl hr (pa_cons (pv 1) pa_nil)) pa_nil)))
      (pss_cons (ps_if (pt_cmp (pc_dnotin (hu_of hr) (pv 2) (pv 3))) (pss_one (ps_ret (pe_lst (pa_cons (pe_cst rfl T.absent) pa_nil)))) pss_nil)
      (pss_one (ps_ret (pe_op op_cat (pe_lst (pa_cons pe_int pa_nil)) (pe_callTy call_list_of (by rfl) T.list PyProof.Rows.boot_list (pa_cons (pe_dget (hu_of hr) (pv 3) (pv 2) (fun _ _ => rfl)) pa_nil))))))), ?_⟩
    obtain ⟨dx, lr, lv, lc, ls, ts, h⟩ := id hD
    have O := desk_ok C CD
    have no := fun (m : Str) (h1 : ¬ m = "rows") (h2 : ¬ m = "views") (h3 : ¬ m = "changes") => df_no lr lv lc h1 h2 h3
    refine ⟨_, rfl, d, dx, _, rfl, h.obj, no _ (by decide +kernel) (by decide +kernel) (by decide +kernel), _, rfl, d, M, X, a, i, rfl, hD, _, rfl, ?_⟩
    refine itb (fun hc => ?_) (fun hc => ?_)
    · have e : a.views[i]? = Option.none := List.getElem?_eq_none_iff.mpr (by simpa using hc)
      exact ⟨(by show 1 ≤ sizeLine; decide), fun p hp => post_same O k (tell_find0 e) hD (Same.refl H) hp⟩
    · have hi : i < a.views.length := by simpa using hc
      have e : a.views[i]? = some a.views[i] := List.getElem?_eq_getElem hi
      have ot := (okTable_iff _).mp h.ok.1
      refine ⟨_, rfl, d, dx, _, rfl, h.obj, no _ (by decide +kernel) (by decide +kernel) (by decide +kernel), _, rfl, d, M, X, a, i, _, rfl, hD, e, fun H1 p hT hpn s1 => ?_⟩
      refine ⟨p, _, rfl, hT, get_inc ot.2.2, Nat.le_trans (get_len _ _) (by omega), fun H2 g hG hgn s2 => ?_⟩
      have s12 := s1.trans s2
      obtain ⟨kvs, hg, hv⟩ := hG
      have q := hv n
      refine ⟨_, rfl, _, rfl, g, _, rfl, DGet.k (k := Sum.inl (n : Int)) hg, _, rfl, ?_⟩
      cases e2 : Kh302.find (Kh302.get a.views[i] a.t) n with
      | none =>
        rw [e2] at q
        rw [q, if_pos (show (!(Option.none : Option V).isSome) = true from rfl)]
        exact ⟨(by show 1 ≤ sizeLine; decide), fun z hz => post_same O k (tell_find1 e e2) hD s12 hz⟩
      | some r =>
        rw [e2] at q
        obtain ⟨b, q1, q2⟩ := q
        have gg := DGet.k (k := Sum.inl (n : Int)) hg
        rw [q1] at gg ⊢
        rw [if_neg (show ¬ (!(some (V.ref b)).isSome) = true by simp)]
        refine ⟨(by show 1 ≤ sizeLine; decide), fun u hu => ?_⟩
        have s3 : Same H2 (upd H2 u (.lst [.int 0])) := Same.new hu
        have gg3 : DGet (upd H2 u (.lst [.int 0])) g (cellV n) (some (.ref b)) := by
          have := DGet.k (k := Sum.inl (n : Int)) (s3 _ _ hg)
          rw [q1] at this
          exact this
        refine ⟨_, rfl, _, rfl, g, _, rfl, gg3, b, _, rfl, .inr (SqT.of (s3 _ _ q2)), fun z hz => ?_⟩
        have nuz : u ≠ z := fun y => by rw [← y, upd_same] at hz; cases hz
        have hw := width (get_rows (v := a.views[i]) ot.2.1) (find_some e2).1
        refine ⟨u, z, _, _, rfl, rfl, (by rw [upd_ne nuz]; exact upd_same), upd_same, ?_, fun x hx => ?_⟩
        · rw [rowV_len hw]; show 1 + 5 ≤ sizeLine; decide
        · rw [rowV_ints] at hx ⊢
          have s4 : Same H (upd (upd H2 u (.lst [.int 0])) z (.lst (((r.key :: r.cols).map Int.ofNat).map V.int))) := Same.put (s12.trans s3) ((s12.trans s3).free hz)
          exact post_same O k (tell_find2 e e2) hD s4 hx

/-! change_to -/
theorem scChange : FnScope ["self", "rows"] ["self", "rows"] (defScope sChange) := ⟨rfl, rfl, rfl, by decide +kernel, rfl, by decide +kernel, by decide +kernel⟩
theorem ok_change {f C CD : Addr} {fd : FuncData} (F : Fun K "change_to" "Desk.change_to" sChange f fd) (T : TxtD K mg CD) : FnOk P w K mg base CX0 1 f fd ["self", "rows"] (spChange C CD) := by
  refine F.ok scChange (fun vs H Q E h => ?_) (fun cdv A outer s H vs Q E hr h => ?_)
  · obtain ⟨d, p, M, X, a, x, rfl, _⟩ := h
    rfl
  · obtain ⟨d, p, M, X, a, x, rfl, hD, hT, hp, hx, k⟩ := h
    refine ⟨_, pss_cons (ps_if (pt_cmpR (op_eqD hr.units) (pv 1) (pe_fld (pv 0) rfl) (nomark _)) (pss_one ps_retN) pss_nil)
      (pss_cons (ps_expr (pe_bm PySem.F.plainAttrs_list PySem.F.slot_list_append PySem.F.type_list_append mt_append (pe_fld (pv 0) rfl) (pa_cons (pe_fld (pv 0) rfl) pa_nil)))
      (pss_cons (ps_if (pt_cmpR op_gt (pe_callB call_len_seq (by rfl) T.len PySem.boot_len (pa_cons (pe_fld (pv 0) rfl) pa_nil)) (pe_cst rfl T.mostC) (nomark _))
        (pss_one (ps_expr (pe_bm PySem.F.plainAttrs_list PySem.F.slot_list_pop PySem.F.type_list_pop mt_popAt (pe_fld (pv 0) rfl) (pa_cons pe_int pa_nil)))) pss_nil)
      (pss_one (ps_fld (pv 0) (pv 1) rfl)))), ?_⟩
    obtain ⟨dx, lr, lv, lc, ls, ts, h⟩ := id hD
    have fr : ∀ {H' : Hp}, H' d = some (.ins CD dx (df lr lv lc)) → H' d = some (.ins CD dx (df lr lv lc)) := fun e => e
    refine ⟨_, rfl, _, rfl, d, CD, dx, _, _, rfl, h.obj, T.cl, T.nRows, df_rows lr lv lc, tabD x, tabD a.t, dp_tab hT, dp_tab (h.tab.same (but_same _ _)), shaped_tab _, shaped_tab _, _, rfl, ?_⟩
    rw [eqv_tab]
    refine itd (fun he => ?_) (fun he => ?_)
    · have e : a.becomes x = a := by unfold Kh303.Abs.becomes; rw [if_pos he]
      exact k H (by rw [e]; exact hD) (Left.refl H d M)
    have ndc : d ≠ lc := ne_of h.obj h.lc_ (by intro z; cases z)
    have hlen := Paired.length h.cs
    rw [List.length_reverse] at hlen
    have h32 : a.before.length ≤ 32 := h.ok.2.2.2.1
    have okx := becomes_ok h.ok hx
    rw [before_full he] at okx k
    have ht : TabAt (but H (M ++ X)) p x := hT.but h.all hp
    refine ⟨_, rfl, d, CD, dx, _, _, rfl, h.obj, T.cl, T.nChanges, df_changes lr lv lc, .inl ⟨rfl, _, SqL.of h.lc_⟩, _, rfl, d, CD, dx, _, _, rfl, h.obj, T.cl, T.nRows, df_rows lr lv lc, lc, _, _, rfl, rfl, h.lc_, ?_, ?_⟩
    · rw [List.length_map]; exact small_lt (by omega)
    refine ⟨_, rfl, d, CD, dx, _, _, rfl, (by rw [upd_ne ndc]; exact h.obj), T.cl, T.nChanges, df_changes lr lv lc, lc, _, rfl, .inl (SqL.of upd_same), _, _, rfl, rfl, _, rfl, ?_⟩
    have e1 : (ts.map V.ref ++ [V.ref lr]).length = a.before.length + 1 := by rw [List.length_append, List.length_map, hlen]; rfl
    rw [e1]
    have snoc : Paired (TabAt (but H (M ++ X))) (ts ++ [lr]) (a.t :: a.before).reverse := by
      rw [List.reverse_cons]
      exact Paired.snoc h.cs h.tab
    have em : ts.map V.ref ++ [V.ref lr] = (ts ++ [lr]).map V.ref := by rw [List.map_append]; rfl
    refine itd (fun hf => ?_) (fun hf => ?_)
    · have hb : a.before.length = 32 := by omega
      have hpos : (ts.map V.ref ++ [V.ref lr]).length = 33 := by rw [e1, hb]
      obtain ⟨y, hy⟩ : ∃ y, (ts.map V.ref ++ [V.ref lr])[0]? = some y := ⟨_, List.getElem?_eq_getElem (by omega)⟩
      refine ⟨_, rfl, d, CD, dx, _, _, rfl, (by rw [upd_ne ndc]; exact h.obj), T.cl, T.nChanges, df_changes lr lv lc, .inl ⟨rfl, _, SqL.of upd_same⟩, lc, _, 0, 0, y, rfl, rfl, upd_same, (by decide), (by decide), ?_, hy, ?_⟩
      · rw [hpos]; decide
      refine ⟨_, rfl, _, rfl, d, CD, dx, _, rfl, (by rw [upd_ne ndc, upd_ne ndc]; exact h.obj), T.cl, T.nRows, df_len lr lv lc, ?_⟩
      rw [df_put_rows]
      have et : (ts.map V.ref ++ [V.ref lr]).eraseIdx 0 = (ts ++ [lr]).tail.map V.ref := by
        rw [em, List.map_tail, List.eraseIdx_zero]
      have eb : ((a.t :: a.before).take 32).reverse = (a.t :: a.before).reverse.tail := by
        rw [List.tail_reverse, List.dropLast_eq_take]
        show _ = ((a.t :: a.before).take (a.before.length + 1 - 1)).reverse
        rw [hb]
      refine k _ ⟨dx, p, lv, lc, ls, (ts ++ [lr]).tail, h.turn upd_same ?_ (fun b o e n1 n2 => ?_) rfl ht ?_ okx⟩ ⟨fun b o e n1 n2 => ?_, fun m hm => .inl hm, fun _ => ?_⟩
      · rw [upd_ne (Ne.symm ndc), upd_same, et]
      · rw [upd_ne n1, upd_ne n2, upd_ne n2]; exact e
      · show Paired _ _ ((a.t :: a.before).take 32).reverse
        rw [eb]
        exact paired_tail snoc
      · have n3 : b ≠ lc := fun z => n2 (by rw [z]; exact h.mc)
        rw [upd_ne n1, upd_ne n3, upd_ne n3]; exact e
      · rw [upd_same]; simp
    · refine ⟨_, rfl, _, rfl, d, CD, dx, _, rfl, (by rw [upd_ne ndc]; exact h.obj), T.cl, T.nRows, df_len lr lv lc, ?_⟩
      rw [df_put_rows]
      have eb : (a.t :: a.before).take 32 = a.t :: a.before := List.take_of_length_le (by rw [List.length_cons]; omega)
      refine k _ ⟨dx, p, lv, lc, ls, ts ++ [lr], h.turn upd_same ?_ (fun b o e n1 n2 => ?_) rfl ht ?_ okx⟩ ⟨fun b o e n1 n2 => ?_, fun m hm => .inl hm, fun _ => ?_⟩
      · rw [upd_ne (Ne.symm ndc), upd_same, em]
      · rw [upd_ne n1, upd_ne n2]; exact e
      · show Paired _ _ ((a.t :: a.before).take 32).reverse
        rw [eb]
        exact snoc
      · have n3 : b ≠ lc := fun z => n2 (by rw [z]; exact h.mc)
        rw [upd_ne n1, upd_ne n3]; exact e
      · rw [upd_same]; simp

/-! back -/
theorem scBack : FnScope ["self"] ["self"] (defScope sBack) := ⟨rfl, rfl, rfl, by decide +kernel, rfl, by decide +kernel, by decide +kernel⟩
theorem ok_back {f C CD : Addr} {fd : FuncData} (F : Fun K "back" "Desk.back" sBack f fd) (T : TxtD K mg CD) : FnOk P w K mg base CX0 1 f fd ["self"] (spBack C CD) := by
  refine F.ok scBack (fun vs H Q E h => ?_) (fun cdv A outer s H vs Q E hr h => ?_)
  · obtain ⟨d, M, X, a, rfl, _⟩ := h
    rfl
  · obtain ⟨d, M, X, a, rfl, hD, k⟩ := h
    refine ⟨_, pss_cons (ps_if (pt_cmpR op_eq (pe_callB call_len_seq (by rfl) T.len PySem.boot_len (pa_cons (pe_fld (pv 0) rfl) pa_nil)) pe_int (nomark _)) (pss_one (ps_ret (pe_lst (pa_cons (pe_cst rfl T.absent) pa_nil)))) pss_nil)
      (pss_cons (ps_fld (pv 0) (pe_bm0 PySem.F.plainAttrs_list PySem.F.slot_list_pop PySem.F.type_list_pop mt_pop (pe_fld (pv 0) rfl)) rfl)
      (pss_one (ps_ret (pe_lst (pa_cons (pe_callB call_len_seq (by rfl) T.len PySem.boot_len (pa_cons (pe_fld (pv 0) rfl) pa_nil)) pa_nil))))), ?_⟩
    obtain ⟨dx, lr, lv, lc, ls, ts, h⟩ := id hD
    have O := desk_ok C CD
    have ndc : d ≠ lc := ne_of h.obj h.lc_ (by intro z; cases z)
    have hlen := Paired.length h.cs
    rw [List.length_reverse] at hlen
    refine ⟨_, rfl, d, CD, dx, _, _, rfl, h.obj, T.cl, T.nChanges, df_changes lr lv lc, lc, _, rfl, .inl (SqL.of h.lc_), rfl, _, rfl, ?_⟩
    rw [List.length_map, hlen, dec_int2]
    cases eb : a.before with
    | nil =>
      rw [if_pos (by rw [decide_eq_true_eq]; rfl)]
      exact ⟨(by show 1 ≤ sizeLine; decide), fun p hp => post_same O k (tell_back0 eb) hD (Same.refl H) hp⟩
    | cons t l =>
      rw [if_neg (by rw [decide_eq_true_eq, List.length_cons]; omega)]
      have hcs := h.cs
      rw [eb, List.reverse_cons] at hcs
      obtain ⟨ts', p, rfl, hts, hp⟩ := paired_last hcs
      have em : (ts' ++ [p]).map V.ref = ts'.map V.ref ++ [V.ref p] := by rw [List.map_append]; rfl
      have hlc := h.lc_
      rw [em] at hlc
      have l' := Paired.length hts
      rw [List.length_reverse] at l'
      have ok2 : Kh303.Ok { a with t := t, before := l } := by
        have q := doing_ok (c := .back) h.ok trivial
        rw [doing_back, eb] at q
        exact q
      refine ⟨_, rfl, d, CD, dx, _, _, rfl, h.obj, T.cl, T.nChanges, df_changes lr lv lc, .inl ⟨rfl, _, SqL.of hlc⟩, lc, _, V.ref p, rfl, rfl, hlc, ?_, ?_⟩
      · rw [List.length_append, List.length_map]
        show (ts'.map V.ref ++ [V.ref p])[ts'.length + 1 - 1]? = _
        rw [Nat.add_sub_cancel, List.getElem?_append_right (by rw [List.length_map]; exact Nat.le_refl _), List.length_map, Nat.sub_self]
        rfl
      rw [List.dropLast_concat]
      refine ⟨_, rfl, d, CD, dx, _, rfl, (by rw [upd_ne ndc]; exact h.obj), T.cl, T.nRows, df_len lr lv lc, ?_⟩
      rw [df_put_rows]
      refine ⟨_, rfl, d, CD, dx, _, _, rfl, upd_same, T.cl, T.nChanges, df_changes p lv lc, lc, _, rfl, .inl (SqL.of (by rw [upd_ne (Ne.symm ndc)]; exact upd_same)), (by show 1 ≤ sizeLine; decide), fun q hq => ?_⟩
      obtain ⟨nqd, hq1⟩ := upd_none hq
      obtain ⟨nqc, hq2⟩ := upd_none hq1
      have dk : Desk C CD (upd (upd H lc (.lst (ts'.map V.ref))) d (.ins CD dx (df p lv lc))) d M X { a with t := t, before := l } :=
        ⟨dx, p, lv, lc, ls, ts', h.turn upd_same (by rw [upd_ne (Ne.symm ndc)]; exact upd_same) (fun b o e n1 n2 => by rw [upd_ne n1, upd_ne n2]; exact e) rfl hp hts ok2⟩
      rw [tell_back1 eb] at k
      refine k _ q M (O.same dk (Same.new hq)) ?_ hq2 ⟨fun b o e n1 n2 => ?_, fun m hm => .inl hm, fun _ => ?_⟩
      · rw [upd_same, List.length_map, l']; rfl
      · have n3 : b ≠ lc := fun z => n2 (by rw [z]; exact h.mc)
        rw [upd_ne (ne_of_none e hq2), upd_ne n1, upd_ne n3]; exact e
      · rw [upd_ne (Ne.symm nqd), upd_same]; simp
end
end Vm

end
section
set_option Elab.async false
set_option linter.all false
set_option maxRecDepth 100000
set_option maxHeartbeats 2000000
namespace Vm
open PySem PySem.Spec PyProof.Rows L2
structure TxtX (K : PySem.W.Frag) (CN CT : Addr) : Prop where
  e11 : PySem.W.exmOne K (.ref CN) (.ref CN) = some true
  e21 : PySem.W.exmOne K (.ref CT) (.ref CN) = some false
  e22 : PySem.W.exmOne K (.ref CT) (.ref CT) = some true
section
variable {P : Program} {w : World} {K : PySem.W.Frag} {mg : Str → Option Value} {base : Heap}

/-! drop -/
theorem scDrop : FnScope ["self", "view_number", "key", "seen"] ["self", "view_number", "key"] (defScope sDrop) := ⟨rfl, rfl, rfl, by decide +kernel, rfl, by decide +kernel, by decide +kernel⟩
theorem ok_drop {f C CD CN CT : Addr} {fd : FuncData} (F : Fun K "drop" "Desk.drop" sDrop f fd) (T : TxtD K mg CD) (M1 : MethOk P w K mg base 1 CD "has_view" ["self", "view_number"] (spHasView C CD))
    (M2 : MethOk P w K mg base 4 CD "rows_through" ["self", "view_number"] (spRowsThrough C CD)) (Mc : MethOk P w K mg base 1 CD "change_to" ["self", "rows"] (spChange C CD)) (D2 : DefOk P w K mg base 2 "by_key" ["rows"] spByKey)
    (Dr : DefOk P w K mg base 2 "without_key" ["rows", "key"] spWithout) (Dw : DefX P w K mg base 7 "written_back" ["table", "steps", "rows"] (spWritten C CN CT)) : FnOk P w K mg base CX0 8 f fd ["self", "view_number", "key"] (spDrop C CD) := by
  refine F.ok scDrop (fun vs H Q E h => ?_) (fun cdv A outer s H vs Q E hr h => ?_)
  · obtain ⟨d, M, X, a, i, k, rfl, _⟩ := h
    rfl
  · obtain ⟨d, M, X, a, i, n, rfl, hD, k⟩ := h
    have hr1 : Room 1 _ := hr.mono (by decide)
    have hr2 : Room 2 _ := hr.mono (by decide)
    have hr4 : Room 4 _ := hr.mono (by decide)
    refine ⟨_, pss_cons (ps_if (pt_not (pt_val (pe_mth M1 (pv 0) T.cl hr1 (pa_cons (pv 1) pa_nil)))) (pss_one (ps_ret (pe_lst (pa_cons (pe_cst rfl T.invalid) pa_nil)))) pss_nil)
      (pss_cons (ps_set (i := 3) scDrop.nd rfl (Or.inl rfl) (pe_mth M2 (pv 0) T.cl hr4 (pa_cons (pv 1) pa_nil)))
      (pss_cons (ps_if (pt_cmp (pc_dnotin (hu_of hr) (pv 2) (pe_def D2 hr2 rfl (pa_cons (pv 3) pa_nil)))) (pss_one (ps_ret (pe_lst (pa_cons (pe_cst rfl T.absent) pa_nil)))) pss_nil)
      (pss_cons (ps_expr (pe_mth Mc (pv 0) T.cl hr1 (pa_cons (pe_defX (E := E0) Dw passN hr rfl (pa_cons (pe_fld (pv 0) rfl) (pa_cons (pe_ix ix_list (pe_fld (pv 0) rfl) (pv 1) (fun _ _ => rfl)) (pa_cons (pe_def Dr hr2 rfl (pa_cons (pv 3) (pa_cons (pv 2) pa_nil))) pa_nil)))) pa_nil)))
      (pss_one (ps_ret (pe_lst (pa_cons pe_int pa_nil))))))), ?_⟩
    obtain ⟨dx, lr, lv, lc, ls, ts, h⟩ := id hD
    have O := desk_ok C CD
    have no := fun (m : Str) (h1 : ¬ m = "rows") (h2 : ¬ m = "views") (h3 : ¬ m = "changes") => df_no lr lv lc h1 h2 h3
    refine ⟨_, rfl, d, dx, _, rfl, h.obj, no _ (by decide +kernel) (by decide +kernel) (by decide +kernel), _, rfl, d, M, X, a, i, rfl, hD, _, rfl, ?_⟩
    refine itb (fun hc => ?_) (fun hc => ?_)
    · have e : a.views[i]? = Option.none := List.getElem?_eq_none_iff.mpr (by simpa using hc)
      exact ⟨(by show 1 ≤ sizeLine; decide), fun p hp => post_same O k (tell_drop0 e) hD (Same.refl H) hp⟩
    have hi : i < a.views.length := by simpa using hc
    obtain ⟨v, e⟩ : ∃ v, a.views[i]? = some v := ⟨_, List.getElem?_eq_getElem hi⟩
    have ot := (okTable_iff _).mp h.ok.1
    have ov := h.ok.2.2.1 v (List.mem_of_getElem? e)
    have ov2 := (okView_iff _).mp ov
    refine ⟨_, rfl, d, dx, _, rfl, h.obj, no _ (by decide +kernel) (by decide +kernel) (by decide +kernel), _, rfl, d, M, X, a, i, v, rfl, hD, e, fun H1 p hT hpn s1 => ?_⟩
    refine ⟨_, rfl, _, rfl, p, _, rfl, hT, get_inc ot.2.2, Nat.le_trans (get_len _ _) (by omega), fun H2 g hG hgn s2 => ?_⟩
    have s12 := s1.trans s2
    obtain ⟨kvs, hg, hv⟩ := hG
    have q := hv n
    refine ⟨g, _, rfl, DGet.k (k := Sum.inl (n : Int)) hg, _, rfl, ?_⟩
    cases e2 : Kh302.find (Kh302.get v a.t) n with
    | none =>
      rw [e2] at q
      rw [q, if_pos (show (!(Option.none : Option V).isSome) = true from rfl)]
      exact ⟨(by show 1 ≤ sizeLine; decide), fun z hz => post_same O k (tell_drop1 e e2) hD s12 hz⟩
    | some r =>
      rw [e2] at q
      obtain ⟨b, q1, q2⟩ := q
      rw [q1, if_neg (show ¬ (!(some (V.ref b)).isSome) = true by simp)]
      obtain ⟨x, ex, wx, xx, okx⟩ := drop_can (v := v) (t := a.t) n ov h.ok.1
      obtain ⟨la, hla, hV⟩ := paired_get' h.vs e
      have hob := s12 _ _ h.obj
      refine ⟨_, rfl, d, dx, _, rfl, hob, no _ (by decide +kernel) (by decide +kernel) (by decide +kernel), ?_⟩
      refine ⟨_, rfl, d, CD, dx, _, _, rfl, hob, T.cl, T.nRows, df_rows lr lv lc, _, rfl, d, CD, dx, _, _, rfl, hob, T.cl, T.nViews, df_views lr lv lc, _, rfl, lv, _, _, _, rfl, rfl, SqL.of (s12 _ _ h.lv_), at_of (j := i) rfl (by rw [List.getElem?_map, hla]; rfl), ?_⟩
      refine ⟨_, rfl, _, rfl, p, Kh302.get v a.t, n, rfl, hT.same s2, Nat.le_trans (get_len _ _) (by omega), fun H3 p3 hT3 n3 s3 => ?_⟩
      have s13 := s12.trans s3
      have bs := (but_same H (M ++ X)).trans s13
      have rt := get_rows (v := v) ot.2.1
      refine ⟨lr, la, p3, a.t, v, _, rfl, h.tab.same bs, hV.same bs, hT3, ov2.2, ov2.1, ot.2.1, ot.2.2, fun y hy => rt y ((without_mem _ _ _).mp hy).1, without_inc _ (get_inc ot.2.2), ot.1, Nat.le_trans (without_len _ _) (Nat.le_succ _), ?_⟩
      rw [ex]
      intro H4 p4 hT4 n4 s4
      have s14 := s13.trans s4
      have hp4 : H p4 = Option.none := s13.free n4
      refine ⟨d, p4, M, X, a, x, rfl, O.same hD s14, hT4, h.all.out hp4, okx, fun H5 hD5 l5 => ?_⟩
      refine ⟨(by show 1 ≤ sizeLine; decide), fun z hz => ?_⟩
      obtain ⟨x1, x2, x3⟩ := back_ok ex ov2.2 ot.2.1 ot.2.2 (fun y hy => rt y ((without_mem _ _ _).mp hy).1) (without_inc _ (get_inc ot.2.2))
      have et : tell (Kh303.doing a (.drop i n)) = (a.becomes x, [0]) := by
        rw [doing_drop2 e e2]
        exact put_done ex (by omega) x3
      rw [et] at k
      have l45 : Left H H5 d M M := (Left.of_same s14).trans l5
      have hzn : H z = Option.none := Left.free (X := X) (a := a) O l45 (by rw [h.obj]; simp) (fun m hm => by
        obtain ⟨xs, q⟩ := O.lists hD5 m (List.mem_append_left _ hm)
        rw [q]; simp) hz
      exact k _ z M (O.same hD5 (Same.new hz)) upd_same hzn (l45.trans (Left.of_same (Same.new hz)))

/-! write -/
theorem scWrite : FnScope ["self", "view_number", "row", "seen", "rows"] ["self", "view_number", "row"] (defScope sWrite) := ⟨rfl, rfl, rfl, by decide +kernel, rfl, by decide +kernel, by decide +kernel⟩
def wrote (a : Kh303.Abs) (i : Nat) (r : Kh302.Row) : Kh302.Back := match a.views[i]? with
  | some v => Kh302.back v a.t (with_ (Kh302.get v a.t) r)
  | Option.none => .table []
def wishW (CN CT : Addr) (H : Hp) (a : Kh303.Abs) (i : Nat) (r : Kh302.Row) : XK := fun cls _ H' => Same H H' ∧ ((cls = .ref CN ∧ wrote a i r = .unkept) ∨ (cls = .ref CT ∧ wrote a i r = .taken))
theorem ok_write {f C CD CN CT : Addr} {fd : FuncData} (F : Fun K "write" "Desk.write" sWrite f fd) (T : TxtD K mg CD) (B : TxtB K mg CN CT) (Y : TxtX K CN CT) (M1 : MethOk P w K mg base 1 CD "has_view" ["self", "view_number"] (spHasView C CD))
    (M2 : MethOk P w K mg base 4 CD "rows_through" ["self", "view_number"] (spRowsThrough C CD)) (Mc : MethOk P w K mg base 1 CD "change_to" ["self", "rows"] (spChange C CD)) (D2 : DefOk P w K mg base 2 "by_key" ["rows"] spByKey)
    (Dr : DefOk P w K mg base 5 "with_row" ["rows", "row"] spWithRow) (Dw : DefX P w K mg base 7 "written_back" ["table", "steps", "rows"] (spWritten C CN CT)) : FnOk P w K mg base CX0 8 f fd ["self", "view_number", "row"] (spWrite C CD) := by
  refine F.ok scWrite (fun vs H Q E h => ?_) (fun cdv A outer s H vs Q E hr h => ?_)
  · obtain ⟨d, b, M, X, a, i, r, rfl, _⟩ := h
    rfl
  · obtain ⟨d, b, M, X, a, i, r, rfl, hD, hb, okr, k⟩ := h
    have hr1 : Room 1 _ := hr.mono (by decide)
    have hr2 : Room 2 _ := hr.mono (by decide)
    have hr4 : Room 4 _ := hr.mono (by decide)
    have hr5 : Room 5 _ := hr.mono (by decide)
    refine ⟨_, pss_cons (ps_if (pt_not (pt_val (pe_mth M1 (pv 0) T.cl hr1 (pa_cons (pv 1) pa_nil)))) (pss_one (ps_ret (pe_lst (pa_cons (pe_cst rfl T.invalid) pa_nil)))) pss_nil)
      (pss_cons (ps_set (i := 3) scWrite.nd rfl (Or.inl rfl) (pe_mth M2 (pv 0) T.cl hr4 (pa_cons (pv 1) pa_nil)))
      (pss_cons (ps_try (Ew := wishW CN CT H a i r) (fun pn xe hp => pss_one (ps_set (i := 4) scWrite.nd rfl (Or.inl rfl) (pe_defX Dw hp hr rfl (pa_cons (pfK K (pv 0)) (pa_cons (pixL K (pfK K (pv 0)) (pv 1)) (pa_cons (pe_def Dr hr5 rfl (pa_cons (pv 3) (pa_cons (pv 2) pa_nil))) pa_nil))))))
        (fun _ => pss_one (ps_ret (pe_lst (pa_cons (pe_cst rfl T.unshow) pa_nil)))) (fun _ => pss_one (ps_ret (pe_lst (pa_cons (pe_cst rfl T.taken) pa_nil)))) rfl rfl B.mgN B.mgT Y.e11 Y.e21 Y.e22)
      (pss_cons (ps_if (pt_cmpR op_gt (pe_callB call_len_seq (by rfl) T.len PySem.boot_len (pa_cons (pv 4) pa_nil)) (pe_cst rfl T.mostR) (nomark _)) (pss_one (ps_ret (pe_lst (pa_cons (pe_cst rfl T.full) pa_nil)))) pss_nil)
      (pss_cons (ps_expr (pe_mth Mc (pv 0) T.cl hr1 (pa_cons (pv 4) pa_nil)))
      (pss_one (ps_ret (pe_lst (pa_cons (pe_ifExp (pt_cmp (pc_din (hu_of hr) (pe_ix ix_tup (pv 2) pe_int (fun _ _ => rfl)) (pe_def D2 hr2 rfl (pa_cons (pv 3) pa_nil)))) (pe_cst rfl T.replaced) (pe_cst rfl T.added)) pa_nil)))))))), ?_⟩
    obtain ⟨dx, lr, lv, lc, ls, ts, h⟩ := id hD
    have O := desk_ok C CD
    have no := fun (m : Str) (h1 : ¬ m = "rows") (h2 : ¬ m = "views") (h3 : ¬ m = "changes") => df_no lr lv lc h1 h2 h3
    refine ⟨_, rfl, d, dx, _, rfl, h.obj, no _ (by decide +kernel) (by decide +kernel) (by decide +kernel), _, rfl, d, M, X, a, i, rfl, hD, _, rfl, ?_⟩
    refine itb (fun hc => ?_) (fun hc => ?_)
    · have e : a.views[i]? = Option.none := List.getElem?_eq_none_iff.mpr (by simpa using hc)
      exact ⟨(by show 1 ≤ sizeLine; decide), fun p hp => post_same O k (tell_write0 e) hD (Same.refl H) hp⟩
    have hi : i < a.views.length := by simpa using hc
    obtain ⟨v, e⟩ : ∃ v, a.views[i]? = some v := ⟨_, List.getElem?_eq_getElem hi⟩
    have ew : wrote a i r = Kh302.back v a.t (with_ (Kh302.get v a.t) r) := by unfold wrote; rw [e]
    have ot := (okTable_iff _).mp h.ok.1
    have ov := h.ok.2.2.1 v (List.mem_of_getElem? e)
    have ov2 := (okView_iff _).mp ov
    have rt := get_rows (v := v) ot.2.1
    have it := get_inc (v := v) ot.2.2
    rw [doing_write1 e] at k
    refine ⟨_, rfl, d, dx, _, rfl, h.obj, no _ (by decide +kernel) (by decide +kernel) (by decide +kernel), _, rfl, d, M, X, a, i, v, rfl, hD, e, fun H1 p hT hpn s1 => ?_⟩
    refine ⟨?_, fun cls ad σ' H' hE => ?_⟩
    rotate_left
    · obtain ⟨sm, hE⟩ := hE
      rw [ew] at hE
      rcases hE with ⟨rfl, eb⟩ | ⟨rfl, eb⟩
      · exact .inl ⟨rfl, (by show 1 ≤ sizeLine; decide), fun z hz => post_same O k (put_unkept eb) hD sm hz⟩
      · exact .inr ⟨rfl, (by show 1 ≤ sizeLine; decide), fun z hz => post_same O k (put_taken eb) hD sm hz⟩
    obtain ⟨la, hla, hV⟩ := paired_get' h.vs e
    have hob := s1 _ _ h.obj
    refine ⟨_, rfl, d, CD, dx, _, _, rfl, hob, T.cl, T.nRows, df_rows lr lv lc, _, rfl, d, CD, dx, _, _, rfl, hob, T.cl, T.nViews, df_views lr lv lc, _, rfl, lv, _, _, _, rfl, rfl, SqL.of (s1 _ _ h.lv_), at_of (j := i) rfl (by rw [List.getElem?_map, hla]; rfl), ?_⟩
    have gl := get_len v a.t
    refine ⟨_, rfl, _, rfl, p, b, Kh302.get v a.t, r, rfl, hT, it, by omega, s1 _ _ hb, fun H2 p2 hT2 n2 s2 => ?_⟩
    have s12 := s1.trans s2
    have bs := (but_same H (M ++ X)).trans s12
    have rw2 : RowsOk (with_ (Kh302.get v a.t) r) := with_rows okr rt
    have iw2 : Inc (with_ (Kh302.get v a.t) r) := with_inc r it
    have lw2 : (with_ (Kh302.get v a.t) r).length ≤ (Kh302.get v a.t).length + 1 := by
      unfold with_
      rw [insert_len]
      exact Nat.succ_le_succ (without_len _ _)
    refine ⟨lr, la, p2, a.t, v, _, rfl, h.tab.same bs, hV.same bs, hT2, ov2.2, ov2.1, ot.2.1, ot.2.2, rw2, iw2, ot.1, lw2, ?_⟩
    cases eb : Kh302.back v a.t (with_ (Kh302.get v a.t) r) with
    | unkept => exact fun H3 s3 => ⟨s12.trans s3, .inl ⟨rfl, ew.trans eb⟩⟩
    | taken => exact fun H3 s3 => ⟨s12.trans s3, .inr ⟨rfl, ew.trans eb⟩⟩
    | table x =>
      intro H3 p3 hT3 n3 s3
      have s13 := s12.trans s3
      have hp3 : H p3 = Option.none := s12.free n3
      obtain ⟨x1, x2, x3⟩ := back_ok eb ov2.2 ot.2.1 ot.2.2 rw2 iw2
      obtain ⟨as3, h3, hA3⟩ := id hT3
      refine ⟨_, rfl, p3, _, rfl, .inl (SqL.of h3), _, _, rfl, rfl, _, rfl, ?_⟩
      rw [List.length_map, Paired.length hA3]
      refine itd (fun hf => ?_) (fun hf => ?_)
      · exact ⟨(by show 1 ≤ sizeLine; decide), fun z hz => post_same O k (put_full eb (by omega)) hD s13 hz⟩
      have okx : Kh302.okTable x = true := (okTable_iff x).mpr ⟨by omega, x1, x2⟩
      have hD3 := O.same hD s13
      have hob3 := s13 _ _ h.obj
      refine ⟨_, rfl, d, dx, _, rfl, hob3, no _ (by decide +kernel) (by decide +kernel) (by decide +kernel), _, rfl, d, p3, M, X, a, x, rfl, hD3, hT3, h.all.out hp3, okx, fun H4 hD4 l4 => ?_⟩
      have hM3 : Lists H3 M := fun m hm => (h.all.same s13) m (List.mem_append_left _ hm)
      have hpM : p ∉ M := fun m => h.all.out hpn (List.mem_append_left _ m)
      have hrow3 : H3 b = some (.tup (rowV r)) := s13 _ _ hb
      have hrow4 : H4 b = some (.tup (rowV r)) := l4.keep _ _ hrow3 (ne_of hrow3 hob3 (by intro z; cases z)) (hM3.tup hrow3)
      have hT4 : TabAt H4 p (Kh302.get v a.t) := l4.tab hob3 hM3 (hT.same (s2.trans s3)) hpM
      refine ⟨_, rfl, b, _, _, _, rfl, rfl, SqT.of hrow4, at_of (j := 0) rfl rfl, _, rfl, p, _, rfl, hT4, it, by omega, fun H5 g hG hgn s5 => ?_⟩
      obtain ⟨kvs, hg, hv⟩ := hG
      have q := hv r.key
      refine ⟨g, _, rfl, DGet.k (k := Sum.inl (r.key : Int)) hg, _, rfl, ?_⟩
      show (if (valV kvs (Sum.inl (r.key : Int))).isSome = true then _ else _)
      have l05 : Left H H5 d M M := ((Left.of_same s13).trans l4).trans (Left.of_same s5)
      have hD5 := O.same hD4 s5
      rw [put_done eb (by omega) x3] at k
      have fin : ∀ (z : Addr) (n : Int), H5 z = Option.none → (if (Kh302.find (Kh302.get v a.t) r.key).isSome then 2 else 1) = n → Q (.ref z) (upd H5 z (.lst [.int n])) := fun z n hz en => by
        have hzn : H z = Option.none := Left.free (X := X) (a := a) O l05 (by rw [h.obj]; simp) (fun m hm => by
          obtain ⟨xs, q⟩ := O.lists hD5 m (List.mem_append_left _ hm)
          rw [q]; simp) hz
        refine k _ z M (O.same hD5 (Same.new hz)) ?_ hzn (l05.trans (Left.of_same (Same.new hz)))
        rw [upd_same, en]; rfl
      cases e2 : Kh302.find (Kh302.get v a.t) r.key with
      | none =>
        rw [e2] at q
        rw [q, if_neg (show ¬ (Option.none : Option V).isSome = true by simp)]
        exact ⟨(by show 1 ≤ sizeLine; decide), fun z hz => fin z 1 hz (by rw [e2]; rfl)⟩
      | some y =>
        rw [e2] at q
        obtain ⟨b', q1, q2⟩ := q
        rw [q1, if_pos (show (some (V.ref b')).isSome = true from rfl)]
        exact ⟨(by show 1 ≤ sizeLine; decide), fun z hz => fin z 2 hz (by rw [e2]; rfl)⟩
end
end Vm

end
section
set_option Elab.async false
set_option linter.all false
set_option maxRecDepth 100000
set_option maxHeartbeats 2000000
namespace Vm
open PySem PySem.Spec PyProof.Rows L2
structure TxtN (mg : Str → Option Value) : Prop where
  begin_ : ∃ t, mg "BEGIN" = some (.int 0 t)
  view : ∃ t, mg "VIEW" = some (.int 1 t)
  many : ∃ t, mg "MANY" = some (.int 2 t)
  row : ∃ t, mg "ROW" = some (.int 3 t)
  find : ∃ t, mg "FIND" = some (.int 4 t)
  write : ∃ t, mg "WRITE" = some (.int 5 t)
  drop : ∃ t, mg "DROP" = some (.int 6 t)
  back : ∃ t, mg "BACK" = some (.int 7 t)
  tuple : mg "tuple" = Option.none
theorem itN {b : Bool} {A B : Prop} (h : b = false) (q : B) : if b = true then A else B := by
  rw [h]; exact iteF q
theorem itY {b : Bool} {A B : Prop} (h : b = true) (q : A) : if b = true then A else B := by
  rw [h]; exact iteT q
theorem cell_of {i : Int} (h : U32 i) : V.int i = cellV i.toNat := by
  unfold cellV
  rw [Int.toNat_of_nonneg h.1]
theorem post_from {Dk : DkT} {H H1 : Hp} {d : Addr} {M X : List Addr} {r : Kh303.Abs × List Int} {Q : VK} (k : Post Dk H d M X r Q) (s : Same H H1) : Post Dk H1 d M X r Q :=
  fun H' p M' h1 h2 h3 h4 => k H' p M' h1 h2 (s.free h3) ((Left.of_same s).trans h4)
section
variable {P : Program} {w : World} {K : PySem.W.Frag} {mg : Str → Option Value} {base : Heap}
/-! answer_of -/
theorem scAnswerOf : FnScope ["desk", "call", "number"] ["desk", "call"] (defScope sAnswerOf) := ⟨rfl, rfl, rfl, by decide +kernel, rfl, by decide +kernel, by decide +kernel⟩
theorem ok_answerOf {f C CD : Addr} {fd : FuncData} (F : Fun K "answer_of" "answer_of" sAnswerOf f fd) (T : TxtD K mg CD) (N : TxtN mg) (B0 : MethOk P w K mg base 1 CD "begin" ["self"] (spBegin C CD)) (B1 : MethOk P w K mg base 5 CD "view" ["self", "numbers"] (spView K C CD))
    (B2 : MethOk P w K mg base 5 CD "many" ["self", "view_number"] (spMany C CD)) (B3 : MethOk P w K mg base 5 CD "row" ["self", "view_number", "k"] (spRow C CD)) (B4 : MethOk P w K mg base 5 CD "find" ["self", "view_number", "key"] (spFind C CD))
    (B5 : MethOk P w K mg base 8 CD "write" ["self", "view_number", "row"] (spWrite C CD)) (B6 : MethOk P w K mg base 8 CD "drop" ["self", "view_number", "key"] (spDrop C CD)) (B7 : MethOk P w K mg base 1 CD "back" ["self"] (spBack C CD)) :
    FnOk P w K mg base CX0 9 f fd ["desk", "call"] (spAnswerOf (Desk C CD)) := by
  refine F.ok scAnswerOf (fun vs H Q E h => ?_) (fun cdv A outer s H vs Q E hr h => ?_)
  · obtain ⟨d, l, M, X, a, c, u, rfl, _⟩ := h
    rfl
  · obtain ⟨d, l, M, X, a, c, u, rfl, hD, hl, hh, k⟩ := h
    have hr1 : Room 1 _ := hr.mono (by decide)
    have hr5 : Room 5 _ := hr.mono (by decide)
    refine ⟨_, pss_cons (ps_set (i := 2) scAnswerOf.nd rfl (Or.inl rfl) (pe_ix ix_list (pv 1) pe_int (fun _ _ => rfl)))
      (pss_cons (ps_if (pt_cmpR op_eq (pv 2) (pe_cst rfl N.begin_) (nomark _)) (pss_one (ps_ret (pe_mth0 B0 (pv 0) T.cl hr1))) pss_nil)
      (pss_cons (ps_if (pt_cmpR op_eq (pv 2) (pe_cst rfl N.view) (nomark _)) (pss_one (ps_ret (pe_mth B1 (pv 0) T.cl hr5 (pa_cons (pe_slice sl_list (pv 1) (po_some pe_int) po_none) pa_nil)))) pss_nil)
      (pss_cons (ps_if (pt_cmpR op_eq (pv 2) (pe_cst rfl N.many) (nomark _)) (pss_one (ps_ret (pe_mth B2 (pv 0) T.cl hr5 (pa_cons (pe_ix ix_list (pv 1) pe_int (fun _ _ => rfl)) pa_nil)))) pss_nil)
      (pss_cons (ps_if (pt_cmpR op_eq (pv 2) (pe_cst rfl N.row) (nomark _)) (pss_one (ps_ret (pe_mth B3 (pv 0) T.cl hr5 (pa_cons (pe_ix ix_list (pv 1) pe_int (fun _ _ => rfl)) (pa_cons (pe_ix ix_list (pv 1) pe_int (fun _ _ => rfl)) pa_nil))))) pss_nil)
      (pss_cons (ps_if (pt_cmpR op_eq (pv 2) (pe_cst rfl N.find) (nomark _)) (pss_one (ps_ret (pe_mth B4 (pv 0) T.cl hr5 (pa_cons (pe_ix ix_list (pv 1) pe_int (fun _ _ => rfl)) (pa_cons (pe_ix ix_list (pv 1) pe_int (fun _ _ => rfl)) pa_nil))))) pss_nil)
      (pss_cons (ps_if (pt_cmpR op_eq (pv 2) (pe_cst rfl N.write) (nomark _)) (pss_one (ps_ret (pe_mth B5 (pv 0) T.cl hr (pa_cons (pe_ix ix_list (pv 1) pe_int (fun _ _ => rfl)) (pa_cons (pe_callTy call_tuple_of (by rfl) N.tuple PyProof.Rows.boot_tuple (pa_cons (pe_slice sl_list (pv 1) (po_some pe_int) po_none) pa_nil)) pa_nil))))) pss_nil)
      (pss_cons (ps_if (pt_cmpR op_eq (pv 2) (pe_cst rfl N.drop) (nomark _)) (pss_one (ps_ret (pe_mth B6 (pv 0) T.cl hr (pa_cons (pe_ix ix_list (pv 1) pe_int (fun _ _ => rfl)) (pa_cons (pe_ix ix_list (pv 1) pe_int (fun _ _ => rfl)) pa_nil))))) pss_nil)
      (pss_cons (ps_if (pt_cmpR op_eq (pv 2) (pe_cst rfl N.back) (nomark _)) (pss_one (ps_ret (pe_mth0 B7 (pv 0) T.cl hr1))) pss_nil)
      (pss_one ps_never))))))))), ?_⟩
    obtain ⟨dx, lr, lv, lc, ls, ts, h⟩ := id hD
    have O := desk_ok C CD
    have no := fun (m : Str) (h1 : ¬ m = "rows") (h2 : ¬ m = "views") (h3 : ¬ m = "changes") => df_no lr lv lc h1 h2 h3
    replace k : Post (Desk C CD) H d M X (Kh303Neutral.step a c) Q := k
    cases hh with
    | begin_ _ =>
      refine ⟨_, rfl, l, _, _, _, rfl, rfl, SqL.of hl, at_of (j := 0) rfl rfl, ?_⟩
      refine ⟨_, rfl, rfl, _, rfl, ?_⟩
      refine itY (by decide) ?_
      exact ⟨_, rfl, d, dx, _, rfl, h.obj, no _ (by decide +kernel) (by decide +kernel) (by decide +kernel), d, M, X, a, rfl, hD, k⟩
    | view v _ h4 h48 hU =>
      refine ⟨_, rfl, l, _, _, _, rfl, rfl, SqL.of hl, at_of (j := 0) rfl rfl, ?_⟩
      refine ⟨_, rfl, rfl, _, rfl, ?_⟩
      refine itN (by decide) ?_
      refine ⟨_, rfl, rfl, _, rfl, ?_⟩
      refine itY (by decide) ?_
      refine ⟨_, rfl, d, dx, _, rfl, h.obj, no _ (by decide +kernel) (by decide +kernel) (by decide +kernel), _, rfl, _, rfl, l, _, rfl, SqL.of hl, fun q hq => ?_⟩
      have sq : Same H (upd H q (.lst (cutV ((1 :: (v.length : Int) :: (v ++ [])).map V.int) (some 2) Option.none))) := Same.new hq
      have ec : cutV ((1 :: (v.length : Int) :: (v ++ [])).map V.int) (some ((2 : Nat) : Int)) Option.none = v.map V.int := by
        rw [cut_from (by simp)]
        show (v ++ []).map V.int = _
        rw [List.append_nil]
      have ec' : cutV ((1 :: (v.length : Int) :: (v ++ [])).map V.int) (some 2) Option.none = v.map V.int := ec
      exact ⟨d, q, M, X, a, v, rfl, O.same hD sq, SqL.of (by rw [upd_same, ec']), h4, h48, hU, post_from k sq⟩
    | many i _ hi =>
      refine ⟨_, rfl, l, _, _, _, rfl, rfl, SqL.of hl, at_of (j := 0) rfl rfl, ?_⟩
      refine ⟨_, rfl, rfl, _, rfl, ?_⟩
      refine itN (by decide) ?_
      refine ⟨_, rfl, rfl, _, rfl, ?_⟩
      refine itN (by decide) ?_
      refine ⟨_, rfl, rfl, _, rfl, ?_⟩
      refine itY (by decide) ?_
      exact ⟨_, rfl, d, dx, _, rfl, h.obj, no _ (by decide +kernel) (by decide +kernel) (by decide +kernel), _, rfl, l, _, _, _, rfl, rfl, SqL.of hl, at_of (j := 1) rfl rfl, d, M, X, a, i.toNat, by rw [cell_of hi]; rfl, hD, k⟩
    | row i n _ hi hn =>
      refine ⟨_, rfl, l, _, _, _, rfl, rfl, SqL.of hl, at_of (j := 0) rfl rfl, ?_⟩
      refine ⟨_, rfl, rfl, _, rfl, ?_⟩
      refine itN (by decide) ?_
      refine ⟨_, rfl, rfl, _, rfl, ?_⟩
      refine itN (by decide) ?_
      refine ⟨_, rfl, rfl, _, rfl, ?_⟩
      refine itN (by decide) ?_
      refine ⟨_, rfl, rfl, _, rfl, ?_⟩
      refine itY (by decide) ?_
      exact ⟨_, rfl, d, dx, _, rfl, h.obj, no _ (by decide +kernel) (by decide +kernel) (by decide +kernel), _, rfl, l, _, _, _, rfl, rfl, SqL.of hl, at_of (j := 1) rfl rfl, _, rfl, l, _, _, _, rfl, rfl, SqL.of hl, at_of (j := 2) rfl rfl, d, M, X, a, i.toNat, n.toNat, by rw [cell_of hi, cell_of hn]; rfl, hD, k⟩
    | find i n _ hi hn =>
      refine ⟨_, rfl, l, _, _, _, rfl, rfl, SqL.of hl, at_of (j := 0) rfl rfl, ?_⟩
      refine ⟨_, rfl, rfl, _, rfl, ?_⟩
      refine itN (by decide) ?_
      refine ⟨_, rfl, rfl, _, rfl, ?_⟩
      refine itN (by decide) ?_
      refine ⟨_, rfl, rfl, _, rfl, ?_⟩
      refine itN (by decide) ?_
      refine ⟨_, rfl, rfl, _, rfl, ?_⟩
      refine itN (by decide) ?_
      refine ⟨_, rfl, rfl, _, rfl, ?_⟩
      refine itY (by decide) ?_
      exact ⟨_, rfl, d, dx, _, rfl, h.obj, no _ (by decide +kernel) (by decide +kernel) (by decide +kernel), _, rfl, l, _, _, _, rfl, rfl, SqL.of hl, at_of (j := 1) rfl rfl, _, rfl, l, _, _, _, rfl, rfl, SqL.of hl, at_of (j := 2) rfl rfl, d, M, X, a, i.toNat, n.toNat, by rw [cell_of hi, cell_of hn]; rfl, hD, k⟩
    | write i r _ hi h5 hU =>
      refine ⟨_, rfl, l, _, _, _, rfl, rfl, SqL.of hl, at_of (j := 0) rfl rfl, ?_⟩
      refine ⟨_, rfl, rfl, _, rfl, ?_⟩
      refine itN (by decide) ?_
      refine ⟨_, rfl, rfl, _, rfl, ?_⟩
      refine itN (by decide) ?_
      refine ⟨_, rfl, rfl, _, rfl, ?_⟩
      refine itN (by decide) ?_
      refine ⟨_, rfl, rfl, _, rfl, ?_⟩
      refine itN (by decide) ?_
      refine ⟨_, rfl, rfl, _, rfl, ?_⟩
      refine itN (by decide) ?_
      refine ⟨_, rfl, rfl, _, rfl, ?_⟩
      refine itY (by decide) ?_
      refine ⟨_, rfl, d, dx, _, rfl, h.obj, no _ (by decide +kernel) (by decide +kernel) (by decide +kernel), _, rfl, l, _, _, _, rfl, rfl, SqL.of hl, at_of (j := 1) rfl rfl, _, rfl, _, rfl, l, _, rfl, SqL.of hl, fun q hq => ?_⟩
      have ec : cutV ((5 :: i :: 5 :: (r ++ [])).map V.int) (some ((3 : Nat) : Int)) Option.none = r.map V.int := by
        rw [cut_from (by simp)]
        show (r ++ []).map V.int = _
        rw [List.append_nil]
      have ec' : cutV ((5 :: i :: 5 :: (r ++ [])).map V.int) (some 3) Option.none = r.map V.int := ec
      have sq : Same H (upd H q (.lst (cutV ((5 :: i :: 5 :: (r ++ [])).map V.int) (some 3) Option.none))) := Same.new hq
      refine ⟨q, _, rfl, .inl ⟨SqL.of upd_same, fun b hb => ?_⟩⟩
      obtain ⟨rw_, e1, e2, e3⟩ := table_row h5 hU
      have sb : Same H (upd (upd H q (.lst (cutV ((5 :: i :: 5 :: (r ++ [])).map V.int) (some 3) Option.none))) b (.tup (cutV ((5 :: i :: 5 :: (r ++ [])).map V.int) (some 3) Option.none))) := sq.trans (Same.new hb)
      refine ⟨d, b, M, X, a, i.toNat, rw_, by rw [cell_of hi]; rfl, O.same hD sb, ?_, e2, ?_⟩
      · show upd _ b _ b = _
        rw [upd_same, ec', rowV_ints, ← e3]
      · have k2 := post_from k sb
        rw [step_write, e1] at k2
        exact k2
    | drop i n _ hi hn =>
      refine ⟨_, rfl, l, _, _, _, rfl, rfl, SqL.of hl, at_of (j := 0) rfl rfl, ?_⟩
      refine ⟨_, rfl, rfl, _, rfl, ?_⟩
      refine itN (by decide) ?_
      refine ⟨_, rfl, rfl, _, rfl, ?_⟩
      refine itN (by decide) ?_
      refine ⟨_, rfl, rfl, _, rfl, ?_⟩
      refine itN (by decide) ?_
      refine ⟨_, rfl, rfl, _, rfl, ?_⟩
      refine itN (by decide) ?_
      refine ⟨_, rfl, rfl, _, rfl, ?_⟩
      refine itN (by decide) ?_
      refine ⟨_, rfl, rfl, _, rfl, ?_⟩
      refine itN (by decide) ?_
      refine ⟨_, rfl, rfl, _, rfl, ?_⟩
      refine itY (by decide) ?_
      exact ⟨_, rfl, d, dx, _, rfl, h.obj, no _ (by decide +kernel) (by decide +kernel) (by decide +kernel), _, rfl, l, _, _, _, rfl, rfl, SqL.of hl, at_of (j := 1) rfl rfl, _, rfl, l, _, _, _, rfl, rfl, SqL.of hl, at_of (j := 2) rfl rfl, d, M, X, a, i.toNat, n.toNat, by rw [cell_of hi, cell_of hn]; rfl, hD, k⟩
    | back _ =>
      refine ⟨_, rfl, l, _, _, _, rfl, rfl, SqL.of hl, at_of (j := 0) rfl rfl, ?_⟩
      refine ⟨_, rfl, rfl, _, rfl, ?_⟩
      refine itN (by decide) ?_
      refine ⟨_, rfl, rfl, _, rfl, ?_⟩
      refine itN (by decide) ?_
      refine ⟨_, rfl, rfl, _, rfl, ?_⟩
      refine itN (by decide) ?_
      refine ⟨_, rfl, rfl, _, rfl, ?_⟩
      refine itN (by decide) ?_
      refine ⟨_, rfl, rfl, _, rfl, ?_⟩
      refine itN (by decide) ?_
      refine ⟨_, rfl, rfl, _, rfl, ?_⟩
      refine itN (by decide) ?_
      refine ⟨_, rfl, rfl, _, rfl, ?_⟩
      refine itN (by decide) ?_
      refine ⟨_, rfl, rfl, _, rfl, ?_⟩
      refine itY (by decide) ?_
      exact ⟨_, rfl, d, dx, _, rfl, h.obj, no _ (by decide +kernel) (by decide +kernel) (by decide +kernel), d, M, X, a, rfl, hD, k⟩

/-! length_of_call -/
theorem scLengthOf : FnScope ["calls", "place", "number"] ["calls", "place"] (defScope sLengthOf) := ⟨rfl, rfl, rfl, by decide +kernel, rfl, by decide +kernel, by decide +kernel⟩
theorem ok_lengthOf {f : Addr} {fd : FuncData} (F : Fun K "length_of_call" "length_of_call" sLengthOf f fd) (N : TxtN mg) : FnOk P w K mg base CX0 1 f fd ["calls", "place"] (spLengthOf K) := by
  refine F.ok scLengthOf (fun vs H Q E h => ?_) (fun cdv A outer s H vs Q E hr h => ?_)
  · obtain ⟨l, ns, n, c, u, t, rfl, _⟩ := h
    rfl
  · obtain ⟨l, ns, n, c, u, t, rfl, hS, hd, hh, k⟩ := h
    refine ⟨_, pss_cons (ps_set (i := 2) scLengthOf.nd rfl (Or.inl rfl) (pe_ix ix_list (pv 0) (pv 1) (fun _ _ => rfl)))
      (pss_cons (ps_if (pt_cmpR op_eq (pv 2) (pe_cst rfl N.view) (nomark _)) (pss_one (ps_ret (pe_op op_add pe_int (pe_ix ix_list (pv 0) (pe_op op_add (pv 1) pe_int) (fun _ _ => rfl))))) pss_nil)
      (pss_cons (ps_if (pt_cmpR op_eq (pv 2) (pe_cst rfl N.write) (nomark _)) (pss_one (ps_ret (pe_op op_add pe_int (pe_ix ix_list (pv 0) (pe_op op_add (pv 1) pe_int) (fun _ _ => rfl))))) pss_nil)
      (pss_cons (ps_if (pt_cmpR op_eq (pv 2) (pe_cst rfl N.many) (nomark _)) (pss_one (ps_ret pe_int)) pss_nil)
      (pss_cons (ps_if (pt_cmpR op_in_seq (pv 2) (pe_tup (pa_cons (pe_cst rfl N.row) (pa_cons (pe_cst rfl N.find) (pa_cons (pe_cst rfl N.drop) pa_nil)))) (by rfl)) (pss_one (ps_ret pe_int)) pss_nil)
      (pss_one (ps_ret pe_int)))))), ?_⟩
    have at0 : ∀ {j : Nat} {z : Int}, u[j]? = some z → (ns.map V.int)[n + j]? = some (V.int z) := fun {j z} e => by
      have e2 : (u ++ t)[j]? = some z := by rw [List.getElem?_append_left (List.getElem?_eq_some_iff.mp e).1]; exact e
      rw [← hd, List.getElem?_drop] at e2
      rw [List.getElem?_map, e2]; rfl
    obtain ⟨z, hz, f1, f5, f2, f3, f0⟩ : ∃ z : Int, u[0]? = some z ∧ (z = 1 → ∃ y : Int, u[1]? = some y ∧ (u.length : Int) = 2 + y) ∧ (z = 5 → ∃ y : Int, u[2]? = some y ∧ (u.length : Int) = 3 + y) ∧ (z = 2 → (u.length : Int) = 2) ∧
        ((z = 3 ∨ z = 4 ∨ z = 6) → (u.length : Int) = 3) ∧ (z ≠ 1 → z ≠ 5 → z ≠ 2 → ¬ (z = 3 ∨ z = 4 ∨ z = 6) → (u.length : Int) = 1) := by
      cases hh with
      | begin_ _ => exact ⟨0, rfl, fun e => by omega, fun e => by omega, fun e => by omega, fun e => by omega, fun _ _ _ _ => rfl⟩
      | view v _ h4 h48 hU => exact ⟨1, rfl, fun _ => ⟨_, rfl, by simp; omega⟩, fun e => by omega, fun e => by omega, fun e => by omega, fun e => by omega⟩
      | many i _ hi => exact ⟨2, rfl, fun e => by omega, fun e => by omega, fun _ => rfl, fun e => by omega, fun _ _ e => by omega⟩
      | row i m _ hi hm => exact ⟨3, rfl, fun e => by omega, fun e => by omega, fun e => by omega, fun _ => rfl, fun _ _ _ e => by omega⟩
      | find i m _ hi hm => exact ⟨4, rfl, fun e => by omega, fun e => by omega, fun e => by omega, fun _ => rfl, fun _ _ _ e => by omega⟩
      | write i r _ hi h5 hU => exact ⟨5, rfl, fun e => by omega, fun _ => ⟨5, rfl, by simp; omega⟩, fun e => by omega, fun e => by omega, fun _ e => by omega⟩
      | drop i m _ hi hm => exact ⟨6, rfl, fun e => by omega, fun e => by omega, fun e => by omega, fun _ => rfl, fun _ _ _ e => by omega⟩
      | back _ => exact ⟨7, rfl, fun e => by omega, fun e => by omega, fun e => by omega, fun e => by omega, fun _ _ _ _ => rfl⟩
    have kk : ∀ (H' : Hp) (y : Int), Same H H' → (u.length : Int) = y → Q (V.int y) H' := fun H' y s e => by
      have := k H' s
      unfold cellV at this
      rw [e] at this
      exact this
    refine ⟨_, rfl, _, rfl, l, _, _, _, rfl, rfl, hS, at_of (j := n) rfl (at0 hz), ?_⟩
    refine ⟨_, rfl, rfl, _, rfl, ?_⟩
    rw [dec_int2]
    refine itd (fun h1 => ?_) (fun h1 => ?_)
    · obtain ⟨y, hy, e⟩ := f1 h1
      exact ⟨_, rfl, _, rfl, _, _, rfl, rfl, l, _, _, _, rfl, rfl, hS, at_of (j := n + 1) (by omega) (at0 hy), _, _, rfl, rfl, kk H _ (Same.refl H) e⟩
    refine ⟨_, rfl, rfl, _, rfl, ?_⟩
    rw [dec_int2]
    refine itd (fun h5 => ?_) (fun h5 => ?_)
    · obtain ⟨y, hy, e⟩ := f5 h5
      exact ⟨_, rfl, _, rfl, _, _, rfl, rfl, l, _, _, _, rfl, rfl, hS, at_of (j := n + 2) (by omega) (at0 hy), _, _, rfl, rfl, kk H _ (Same.refl H) e⟩
    refine ⟨_, rfl, rfl, _, rfl, ?_⟩
    rw [dec_int2]
    refine itd (fun h2 => ?_) (fun h2 => ?_)
    · exact kk H _ (Same.refl H) (f2 h2)
    refine ⟨_, rfl, (by show 3 ≤ sizeLine; decide), fun p hp => ?_⟩
    refine ⟨p, _, rfl, .inr (SqT.of upd_same), rfl, rfl, _, rfl, ?_⟩
    have ein : inV (V.int z) [V.int 3, V.int 4, V.int 6] = decide (z = 3 ∨ z = 4 ∨ z = 6) := by
      rw [Bool.eq_iff_iff, decide_eq_true_eq]
      show (((3 : Int) == z) || (((4 : Int) == z) || (((6 : Int) == z) || false))) = true ↔ _
      rw [Bool.or_eq_true, Bool.or_eq_true, Bool.or_eq_true, beq_iff_eq, beq_iff_eq, beq_iff_eq]
      constructor
      · rintro (e | e | e | e)
        · exact .inl e.symm
        · exact .inr (.inl e.symm)
        · exact .inr (.inr e.symm)
        · cases e
      · rintro (e | e | e)
        · exact .inl e.symm
        · exact .inr (.inl e.symm)
        · exact .inr (.inr (.inl e.symm))
    show (if inV (V.int z) [V.int 3, V.int 4, V.int 6] = true then _ else _)
    rw [ein]
    refine itd (fun h3 => ?_) (fun h3 => ?_)
    · exact kk _ _ (Same.new hp) (f3 h3)
    · exact kk _ _ (Same.new hp) (f0 h1 h5 h2 h3)
end
end Vm

end
section
set_option Elab.async false
set_option linter.all false
set_option maxRecDepth 100000
set_option maxHeartbeats 2000000
namespace Vm
open PySem PySem.Spec PyProof.Rows L2
/-! ### what the top has written -/
def ModDef (K : PySem.W.Frag) (x : Str) (st : Stmt) : Prop := ∃ (f : Addr) (fd : FuncData), PySem.W.nsIn K mainGlobals x = some (some (.ref f)) ∧ Fun K x x st f fd
theorem modDef {K : PySem.W.Frag} {x : Str} {st : Stmt} {f : Addr} {oc : Value} {od an : Option Addr} {sl : Array (Option Value)} {kV dc pm cd ct : Value}
    (a : PySem.W.nsIn K mainGlobals x = some (some (.ref f))) (l : K.lookup f = some ⟨oc, od, .func (PySem.W.fnOf x x (defArgs st) (defBody st) (defScope st) .none kV dc pm an cd ct), sl⟩)
    (c : PySem.W.codeIn K cd x = true) (k : PySem.W.keepIn K (.ref f) = true) : ModDef K x st := ⟨f, _, a, fun_mk l c k⟩
def ModMeth (K : PySem.W.Frag) (C : Addr) (m qual : Str) (st : Stmt) : Prop := ∃ (f : Addr) (fd : FuncData), Meth K C m f ∧ Fun K m qual st f fd
theorem modMeth {K : PySem.W.Frag} {C : Addr} {m qual : Str} {st : Stmt} {f : Addr} {oc : Value} {od an : Option Addr} {sl : Array (Option Value)} {kV dc pm cd ct : Value}
    (a : PySem.W.findIn K (.ref C) m = some (some (.ref f))) (i : PySem.W.isFn K (.ref f) = true) (l : K.lookup f = some ⟨oc, od, .func (PySem.W.fnOf m qual (defArgs st) (defBody st) (defScope st) .none kV dc pm an cd ct), sl⟩)
    (c : PySem.W.codeIn K cd qual = true) (k : PySem.W.keepIn K (.ref f) = true) : ModMeth K C m qual st := ⟨f, _, ⟨a, i, k⟩, fun_mk l c k⟩
structure ModCls (K : PySem.W.Frag) (C : Addr) : Prop where
  cl : Cls K C
  makes : PySem.W.makesIn K C = true
  kp : PySem.W.keepIn K (.ref C) = true
theorem modCls {K : PySem.W.Frag} {C : Addr} (pg : PySem.W.plainGet K C Str.empty = true) (hd : PySem.W.hasDictIn K C = true) (po : PySem.W.plainOver K C = true) (sa : PySem.W.findIn K (.ref C) "__setattr__" = some (some (.builtin "object.__setattr__")))
    (mk : PySem.W.makesIn K C = true) (kc : PySem.W.keepIn K (.ref C) = true) : ModCls K C := ⟨⟨pg, hd, po, sa⟩, mk, kc⟩
/-- a number of the top -/
def ModInt (K : PySem.W.Frag) (x : Str) (i : Int) : Prop := ∃ t, PySem.W.nsIn K mainGlobals x = some (some (.int i t))
theorem modInt {K : PySem.W.Frag} {x : Str} {i : Int} {t : Tok} (a : PySem.W.nsIn K mainGlobals x = some (some (.int i t))) : ModInt K x i := ⟨t, a⟩

def spAnswers (K : PySem.W.Frag) : Sp := fun vs H Q _ => ∃ (l : Addr) (ns : List Int), vs = [.ref l] ∧ Handed K H l (ns.map V.int) ∧ PyKh303.answers_asked ns = true ∧ ns.length ≤ 30000 ∧ ∀ (H' : Hp) (p : Addr), H' p = some (.lst ((PyKh303.answers ns).map V.int)) → Q (.ref p) H'

section
variable {P : Program} {w : World} {K : PySem.W.Frag} {mg : Str → Option Value} {base : Heap}
theorem defOk {k : Nat} {x : Str} {st : Stmt} {f : Addr} {fd : FuncData} {ps : List Str} {sp : Sp} (m : mg x = some (.ref f)) (F : Fun K x x st f fd) (o : FnOk P w K mg base CX0 k f fd ps sp) (b : Binds K fd ps []) : DefOk P w K mg base k x ps sp := ⟨f, fd, m, F.kp, o, b⟩
theorem defX {k : Nat} {x : Str} {st : Stmt} {f : Addr} {fd : FuncData} {ps : List Str} {sp : Sp} (m : mg x = some (.ref f)) (F : Fun K x x st f fd) (o : FnOk P w K mg base (CXw P w) k f fd ps sp) (b : Binds K fd ps []) : DefX P w K mg base k x ps sp := ⟨f, fd, m, F.kp, o, b⟩
theorem binds1 {x qual : Str} {st : Stmt} {f : Addr} {fd : FuncData} {ps : List Str} (F : Fun K x qual st f fd) (hp : ps.length = 1)
    (h : ∀ (kV doc pm : Value) (an : Option Addr) (cdv ct : Value) (a : Value), bindArgs (PySem.W.fnOf x qual (defArgs st) (defBody st) (defScope st) .none kV doc pm an cdv ct) ⟨[a], []⟩ = pure (ps.zip [a])) : Binds K fd ps [] :=
  F.binds fun kV doc pm an cdv ct us hl => match us, hl.trans hp with
    | [a], _ => h kV doc pm an cdv ct a
theorem binds2 {x qual : Str} {st : Stmt} {f : Addr} {fd : FuncData} {ps : List Str} (F : Fun K x qual st f fd) (hp : ps.length = 2)
    (h : ∀ (kV doc pm : Value) (an : Option Addr) (cdv ct : Value) (a b : Value), bindArgs (PySem.W.fnOf x qual (defArgs st) (defBody st) (defScope st) .none kV doc pm an cdv ct) ⟨[a, b], []⟩ = pure (ps.zip [a, b])) : Binds K fd ps [] :=
  F.binds fun kV doc pm an cdv ct us hl => match us, hl.trans hp with
    | [a, b], _ => h kV doc pm an cdv ct a b
theorem binds3 {x qual : Str} {st : Stmt} {f : Addr} {fd : FuncData} {ps : List Str} (F : Fun K x qual st f fd) (hp : ps.length = 3)
    (h : ∀ (kV doc pm : Value) (an : Option Addr) (cdv ct : Value) (a b c : Value), bindArgs (PySem.W.fnOf x qual (defArgs st) (defBody st) (defScope st) .none kV doc pm an cdv ct) ⟨[a, b, c], []⟩ = pure (ps.zip [a, b, c])) : Binds K fd ps [] :=
  F.binds fun kV doc pm an cdv ct us hl => match us, hl.trans hp with
    | [a, b, c], _ => h kV doc pm an cdv ct a b c
theorem binds5 {x qual : Str} {st : Stmt} {f : Addr} {fd : FuncData} {ps : List Str} (F : Fun K x qual st f fd) (hp : ps.length = 5)
    (h : ∀ (kV doc pm : Value) (an : Option Addr) (cdv ct : Value) (a b c d e : Value), bindArgs (PySem.W.fnOf x qual (defArgs st) (defBody st) (defScope st) .none kV doc pm an cdv ct) ⟨[a, b, c, d, e], []⟩ = pure (ps.zip [a, b, c, d, e])) : Binds K fd ps [] :=
  F.binds fun kV doc pm an cdv ct us hl => match us, hl.trans hp with
    | [a, b, c, d, e], _ => h kV doc pm an cdv ct a b c d e
theorem one_arg {Q : List Value → Prop} (us : List Value) (h : us.length = 1) (k : ∀ a, Q [a]) : Q us := match us, h with
  | [a], _ => k a
/-! answers -/
theorem scAnswers : FnScope ["calls"] ["calls"] (defScope sAnswers) := ⟨rfl, rfl, rfl, by decide +kernel, rfl, by decide +kernel, by decide +kernel⟩
theorem ok_answers {f C CD : Addr} {fd : FuncData} (F : Fun K "answers" "answers" sAnswers f fd) (D1 : DefOk P w K mg base 10 "answers_of" ["desk", "calls"] (spAnswersOf K (Desk C CD))) (MD : MakeOk P w K mg base 1 "Desk" CD ["self"] (spDeskInit C CD)) :
    FnOk P w K mg base CX0 11 f fd ["calls"] (spAnswers K) := by
  refine F.ok scAnswers (fun vs H Q E h => ?_) (fun cdv A outer s H vs Q E hr h => ?_)
  · obtain ⟨l, ns, rfl, _⟩ := h
    rfl
  · obtain ⟨l, ns, rfl, hL, hask, hn, k⟩ := h
    refine ⟨_, pss_one (ps_ret (pe_def D1 hr rfl (pa_cons (pe_mk0 MD (hr.mono (by decide)) rfl) (pa_cons (pv 0) pa_nil)))), ?_⟩
    obtain ⟨cs, hC, h400, ea⟩ := asked_calls hask
    intro x dx nx ndx nex
    refine ⟨x, dx, rfl, upd_same, fun H1 M hD keep => ⟨rfl, _, rfl, x, l, M, ns, Kh303.empty, cs, rfl, hD, hL.keep fun o u e => ?_, hC, hn, h400, fun H' p hp => k H' p (by rw [ea]; exact hp)⟩⟩
    have n1 : l ≠ x := ne_of_none e nx
    have n2 : l ≠ dx := ne_of_none e ndx
    exact keep l _ (by rw [upd_ne n1, upd_ne n2]; exact e) n1
end
theorem all_mk {P : Program} {w : World} {K : PySem.W.Frag} {h : Heap} {mg : Str → Option Value} {fa C CD CN CT : Addr} (X : K.In h) (G : h.Ns mainGlobals mg) (hfa : mg "answers" = some (.ref fa))
    (aC : PySem.W.nsIn K mainGlobals "Step" = some (some (.ref C)))
    (cC : ModCls K C)
    (iC : ModMeth K C "__init__" "Step.__init__" sStepInit)
    (nC0 : PySem.W.findIn K (.ref C) "kind" = some Option.none)
    (nC1 : PySem.W.findIn K (.ref C) "col" = some Option.none)
    (nC2 : PySem.W.findIn K (.ref C) "how" = some Option.none)
    (nC3 : PySem.W.findIn K (.ref C) "value" = some Option.none)
    (aD : PySem.W.nsIn K mainGlobals "Desk" = some (some (.ref CD)))
    (cD : ModCls K CD)
    (iD : ModMeth K CD "__init__" "Desk.__init__" sDeskInit)
    (nD0 : PySem.W.findIn K (.ref CD) "rows" = some Option.none)
    (nD1 : PySem.W.findIn K (.ref CD) "views" = some Option.none)
    (nD2 : PySem.W.findIn K (.ref CD) "changes" = some Option.none)
    (aN : PySem.W.nsIn K mainGlobals "NotShowable" = some (some (.ref CN)))
    (aT : PySem.W.nsIn K mainGlobals "KeyTaken" = some (some (.ref CT)))
    (xN : PySem.W.excIn K CN [.type "ValueError", .type "Exception", .type "BaseException", .type "object"] "ValueError.__new__" = true)
    (xT : PySem.W.excIn K CT [.type "ValueError", .type "Exception", .type "BaseException", .type "object"] "ValueError.__new__" = true)
    (e11 : PySem.W.exmOne K (.ref CN) (.ref CN) = some true)
    (e21 : PySem.W.exmOne K (.ref CT) (.ref CN) = some false)
    (e22 : PySem.W.exmOne K (.ref CT) (.ref CT) = some true)
    (iKEEP : ModInt K "KEEP" 0)
    (iHIDE : ModInt K "HIDE" 1)
    (iSHIFT : ModInt K "SHIFT" 2)
    (iLESS : ModInt K "LESS" 0)
    (iSAME : ModInt K "SAME" 1)
    (iMORE : ModInt K "MORE" 2)
    (iOTHER : ModInt K "OTHER" 3)
    (iLAST_COLUMN : ModInt K "LAST_COLUMN" 4)
    (iMOST_STEPS : ModInt K "MOST_STEPS" 8)
    (iNUMBERS_OF_A_STEP : ModInt K "NUMBERS_OF_A_STEP" 4)
    (iMODULUS : ModInt K "MODULUS" 4294967296)
    (iBEGIN : ModInt K "BEGIN" 0)
    (iVIEW : ModInt K "VIEW" 1)
    (iMANY : ModInt K "MANY" 2)
    (iROW : ModInt K "ROW" 3)
    (iFIND : ModInt K "FIND" 4)
    (iWRITE : ModInt K "WRITE" 5)
    (iDROP : ModInt K "DROP" 6)
    (iBACK : ModInt K "BACK" 7)
    (iABSENT : ModInt K "ABSENT" (-2))
    (iTAKEN : ModInt K "TAKEN" (-17))
    (iINVALID : ModInt K "INVALID" (-22))
    (iFULL : ModInt K "FULL" (-28))
    (iUNSHOWABLE : ModInt K "UNSHOWABLE" (-33))
    (iADDED : ModInt K "ADDED" 1)
    (iREPLACED : ModInt K "REPLACED" 2)
    (iMOST_VIEWS : ModInt K "MOST_VIEWS" 16)
    (iMOST_ROWS : ModInt K "MOST_ROWS" 256)
    (iMOST_CHANGES : ModInt K "MOST_CHANGES" 32)
    (b_len : PySem.W.nsIn K mainGlobals "len" = some Option.none)
    (b_range : PySem.W.nsIn K mainGlobals "range" = some Option.none)
    (b_list : PySem.W.nsIn K mainGlobals "list" = some Option.none)
    (b_all : PySem.W.nsIn K mainGlobals "all" = some Option.none)
    (b_any : PySem.W.nsIn K mainGlobals "any" = some Option.none)
    (b_sorted : PySem.W.nsIn K mainGlobals "sorted" = some Option.none)
    (b_dict : PySem.W.nsIn K mainGlobals "dict" = some Option.none)
    (b_tuple : PySem.W.nsIn K mainGlobals "tuple" = some Option.none)
    (d_step_at : ModDef K "step_at" sStepAt)
    (d_steps_of : ModDef K "steps_of" sStepsOf)
    (d_is_step : ModDef K "is_step" sIsStep)
    (d_is_view : ModDef K "is_view" sIsView)
    (d_keeps : ModDef K "keeps" sKeeps)
    (d_with_number : ModDef K "with_number" sWith)
    (d_shown_by_step : ModDef K "shown_by_step" sShownBy)
    (d_shown : ModDef K "shown" sShown)
    (d_key_of : ModDef K "key_of" sKeyOf)
    (d_by_rising_keys : ModDef K "by_rising_keys" sRising)
    (d_by_key : ModDef K "by_key" sByKey)
    (d_without_key : ModDef K "without_key" sWithout)
    (d_with_row : ModDef K "with_row" sWithRow)
    (d_written_by_keep : ModDef K "written_by_keep" sByKeep)
    (d_number_beneath : ModDef K "number_beneath" sNumber)
    (d_written_by_hide : ModDef K "written_by_hide" sByHide)
    (d_written_by_step : ModDef K "written_by_step" sByStep)
    (d_tables_beneath : ModDef K "tables_beneath" sTables)
    (d_written_back : ModDef K "written_back" sWritten)
    (d_length_of_call : ModDef K "length_of_call" sLengthOf)
    (d_answer_of : ModDef K "answer_of" sAnswerOf)
    (d_answers_of : ModDef K "answers_of" sAnswersOf)
    (d_answers : ModDef K "answers" sAnswers)
    (m_begin : ModMeth K CD "begin" "Desk.begin" sBegin)
    (m_view : ModMeth K CD "view" "Desk.view" sView)
    (m_has_view : ModMeth K CD "has_view" "Desk.has_view" sHasView)
    (m_rows_through : ModMeth K CD "rows_through" "Desk.rows_through" sRowsThrough)
    (m_many : ModMeth K CD "many" "Desk.many" sMany)
    (m_row : ModMeth K CD "row" "Desk.row" sRow)
    (m_find : ModMeth K CD "find" "Desk.find" sFind)
    (m_change_to : ModMeth K CD "change_to" "Desk.change_to" sChange)
    (m_write : ModMeth K CD "write" "Desk.write" sWrite)
    (m_drop : ModMeth K CD "drop" "Desk.drop" sDrop)
    (m_back : ModMeth K CD "back" "Desk.back" sBack) :
    ∃ fd : FuncData, (∀ (s : Shared) (us : List Value), us.length = (["calls"] : List Str).length → BindsTo s fd ⟨us, []⟩ ((["calls"] : List Str).zip us)) ∧ ∀ base : Heap, K.In base → base.Ns mainGlobals mg → FnOk P w K mg base CX0 11 fa fd ["calls"] (spAnswers K) := by
  obtain ⟨f_step_at, fd_step_at, a_step_at, F_step_at⟩ := d_step_at
  obtain ⟨f_steps_of, fd_steps_of, a_steps_of, F_steps_of⟩ := d_steps_of
  obtain ⟨f_is_step, fd_is_step, a_is_step, F_is_step⟩ := d_is_step
  obtain ⟨f_is_view, fd_is_view, a_is_view, F_is_view⟩ := d_is_view
  obtain ⟨f_keeps, fd_keeps, a_keeps, F_keeps⟩ := d_keeps
  obtain ⟨f_with_number, fd_with_number, a_with_number, F_with_number⟩ := d_with_number
  obtain ⟨f_shown_by_step, fd_shown_by_step, a_shown_by_step, F_shown_by_step⟩ := d_shown_by_step
  obtain ⟨f_shown, fd_shown, a_shown, F_shown⟩ := d_shown
  obtain ⟨f_key_of, fd_key_of, a_key_of, F_key_of⟩ := d_key_of
  obtain ⟨f_by_rising_keys, fd_by_rising_keys, a_by_rising_keys, F_by_rising_keys⟩ := d_by_rising_keys
  obtain ⟨f_by_key, fd_by_key, a_by_key, F_by_key⟩ := d_by_key
  obtain ⟨f_without_key, fd_without_key, a_without_key, F_without_key⟩ := d_without_key
  obtain ⟨f_with_row, fd_with_row, a_with_row, F_with_row⟩ := d_with_row
  obtain ⟨f_written_by_keep, fd_written_by_keep, a_written_by_keep, F_written_by_keep⟩ := d_written_by_keep
  obtain ⟨f_number_beneath, fd_number_beneath, a_number_beneath, F_number_beneath⟩ := d_number_beneath
  obtain ⟨f_written_by_hide, fd_written_by_hide, a_written_by_hide, F_written_by_hide⟩ := d_written_by_hide
  obtain ⟨f_written_by_step, fd_written_by_step, a_written_by_step, F_written_by_step⟩ := d_written_by_step
  obtain ⟨f_tables_beneath, fd_tables_beneath, a_tables_beneath, F_tables_beneath⟩ := d_tables_beneath
  obtain ⟨f_written_back, fd_written_back, a_written_back, F_written_back⟩ := d_written_back
  obtain ⟨f_length_of_call, fd_length_of_call, a_length_of_call, F_length_of_call⟩ := d_length_of_call
  obtain ⟨f_answer_of, fd_answer_of, a_answer_of, F_answer_of⟩ := d_answer_of
  obtain ⟨f_answers_of, fd_answers_of, a_answers_of, F_answers_of⟩ := d_answers_of
  obtain ⟨f_answers, fd_answers, a_answers, F_answers⟩ := d_answers
  obtain ⟨g_begin, gd_begin, t_begin, G_begin⟩ := m_begin
  obtain ⟨g_view, gd_view, t_view, G_view⟩ := m_view
  obtain ⟨g_has_view, gd_has_view, t_has_view, G_has_view⟩ := m_has_view
  obtain ⟨g_rows_through, gd_rows_through, t_rows_through, G_rows_through⟩ := m_rows_through
  obtain ⟨g_many, gd_many, t_many, G_many⟩ := m_many
  obtain ⟨g_row, gd_row, t_row, G_row⟩ := m_row
  obtain ⟨g_find, gd_find, t_find, G_find⟩ := m_find
  obtain ⟨g_change_to, gd_change_to, t_change_to, G_change_to⟩ := m_change_to
  obtain ⟨g_write, gd_write, t_write, G_write⟩ := m_write
  obtain ⟨g_drop, gd_drop, t_drop, G_drop⟩ := m_drop
  obtain ⟨g_back, gd_back, t_back, G_back⟩ := m_back
  obtain ⟨fI, fdI, tI, FI⟩ := iC
  obtain ⟨fJ, fdJ, tJ, FJ⟩ := iD
  have int : ∀ {x : Str} {i : Int}, ModInt K x i → ∃ t, mg x = some (.int i t) := fun ⟨t, e⟩ => ⟨t, PySem.W.mg_of X G e⟩
  have non : ∀ {x : Str}, PySem.W.nsIn K mainGlobals x = some Option.none → mg x = Option.none := fun e => PySem.W.ns_none_of X G e
  have efa : f_answers = fa := by
    have q := PySem.W.mg_of X G a_answers
    rw [hfa] at q
    injection q with q
    injection q with q
    exact q.symm
  subst efa
  have T : Txt K mg C := ⟨cC.cl, nC0, nC1, nC2, nC3, PySem.W.mg_of X G aC, int iKEEP, int iHIDE, int iSHIFT, int iLESS, int iSAME, int iMORE, int iOTHER, int iLAST_COLUMN, int iMOST_STEPS, int iNUMBERS_OF_A_STEP, int iMODULUS, non b_len, non b_range, non b_list, non b_all⟩
  have TB : TxtB K mg CN CT := ⟨PySem.W.mg_of X G aN, PySem.W.mg_of X G aT, xN, xT, non b_any, non b_sorted, non b_dict⟩
  have TX : TxtX K CN CT := ⟨e11, e21, e22⟩
  have TD : TxtD K mg CD := ⟨cD.cl, nD0, nD1, nD2, PySem.W.mg_of X G aD, int iINVALID, int iABSENT, int iFULL, int iMOST_VIEWS, int iTAKEN, int iUNSHOWABLE, int iADDED, int iREPLACED, int iMOST_ROWS, int iMOST_CHANGES, non b_len, non b_list⟩
  have TN : TxtN mg := ⟨int iBEGIN, int iVIEW, int iMANY, int iROW, int iFIND, int iWRITE, int iDROP, int iBACK, non b_tuple⟩
  refine ⟨fd_answers, fun s us hl => ?_, fun base hK hG => ?_⟩
  · obtain ⟨oc, od, kV, doc, pm, an, cdv, ct, osl, rfl, lk, hcd⟩ := F_answers.ex
    exact one_arg (Q := fun us => BindsTo s _ ⟨us, []⟩ (((["calls"] : List Str)).zip us)) us hl fun _ => BindsTo.of_eq rfl
  · have MI : Mk K C fI := ⟨cC.makes, tI.1, tI.2, cC.kp⟩
    have MJ : MakeOk P w K mg base 1 "Desk" CD ["self"] (spDeskInit C CD) := ⟨fJ, fdJ, ⟨cD.makes, tJ.1, tJ.2, cD.kp⟩, PySem.W.mg_of X G aD, ok_deskInit FJ TD, (binds1 FJ rfl fun _ _ _ _ _ _ _ => rfl)⟩
    have D_step_at := defOk (P := P) (w := w) (base := base) (PySem.W.mg_of X G a_step_at) F_step_at (ok_stepAt F_step_at T MI (ok_stepInit FI T) (binds5 FI rfl fun _ _ _ _ _ _ _ _ _ _ _ => rfl)) (binds2 F_step_at rfl fun _ _ _ _ _ _ _ _ => rfl)
    have D_steps_of := defOk (P := P) (w := w) (base := base) (PySem.W.mg_of X G a_steps_of) F_steps_of (ok_stepsOf F_steps_of T D_step_at) (binds1 F_steps_of rfl fun _ _ _ _ _ _ _ => rfl)
    have D_is_step := defOk (P := P) (w := w) (base := base) (PySem.W.mg_of X G a_is_step) F_is_step (ok_isStep F_is_step T) (binds1 F_is_step rfl fun _ _ _ _ _ _ _ => rfl)
    have D_is_view := defOk (P := P) (w := w) (base := base) (PySem.W.mg_of X G a_is_view) F_is_view (ok_isView F_is_view T D_is_step) (binds1 F_is_view rfl fun _ _ _ _ _ _ _ => rfl)
    have D_keeps := defOk (P := P) (w := w) (base := base) (PySem.W.mg_of X G a_keeps) F_keeps (ok_keeps F_keeps T) (binds2 F_keeps rfl fun _ _ _ _ _ _ _ _ => rfl)
    have D_with_number := defOk (P := P) (w := w) (base := base) (PySem.W.mg_of X G a_with_number) F_with_number (ok_with (C := C) F_with_number T) (binds3 F_with_number rfl fun _ _ _ _ _ _ _ _ _ => rfl)
    have D_shown_by_step := defOk (P := P) (w := w) (base := base) (PySem.W.mg_of X G a_shown_by_step) F_shown_by_step (ok_shownBy F_shown_by_step T D_keeps D_with_number) (binds2 F_shown_by_step rfl fun _ _ _ _ _ _ _ _ => rfl)
    have D_shown := defOk (P := P) (w := w) (base := base) (PySem.W.mg_of X G a_shown) F_shown (ok_shown F_shown T D_shown_by_step) (binds2 F_shown rfl fun _ _ _ _ _ _ _ _ => rfl)
    have D_key_of := defOk (P := P) (w := w) (base := base) (PySem.W.mg_of X G a_key_of) F_key_of (ok_keyOf F_key_of) (binds1 F_key_of rfl fun _ _ _ _ _ _ _ => rfl)
    have D_by_rising_keys := defOk (P := P) (w := w) (base := base) (PySem.W.mg_of X G a_by_rising_keys) F_by_rising_keys (ok_rising F_by_rising_keys TB D_key_of) (binds1 F_by_rising_keys rfl fun _ _ _ _ _ _ _ => rfl)
    have D_by_key := defOk (P := P) (w := w) (base := base) (PySem.W.mg_of X G a_by_key) F_by_key (ok_byKey F_by_key TB D_key_of) (binds1 F_by_key rfl fun _ _ _ _ _ _ _ => rfl)
    have D_without_key := defOk (P := P) (w := w) (base := base) (PySem.W.mg_of X G a_without_key) F_without_key (ok_without F_without_key TB D_key_of) (binds2 F_without_key rfl fun _ _ _ _ _ _ _ _ => rfl)
    have D_with_row := defOk (P := P) (w := w) (base := base) (PySem.W.mg_of X G a_with_row) F_with_row (ok_withRow F_with_row TB D_key_of D_without_key D_by_rising_keys) (binds2 F_with_row rfl fun _ _ _ _ _ _ _ _ => rfl)
    have D_number_beneath := defOk (P := P) (w := w) (base := base) (PySem.W.mg_of X G a_number_beneath) F_number_beneath (ok_number F_number_beneath T) (binds3 F_number_beneath rfl fun _ _ _ _ _ _ _ _ _ => rfl)
    have D_written_by_keep := defX (P := P) (w := w) (base := base) (PySem.W.mg_of X G a_written_by_keep) F_written_by_keep (ok_byKeep F_written_by_keep T TB D_keeps D_key_of D_by_key D_by_rising_keys) (binds3 F_written_by_keep rfl fun _ _ _ _ _ _ _ _ _ => rfl)
    have D_written_by_hide := defX (P := P) (w := w) (base := base) (PySem.W.mg_of X G a_written_by_hide) F_written_by_hide (ok_byHide F_written_by_hide T TB D_with_number D_key_of D_by_key D_number_beneath) (binds3 F_written_by_hide rfl fun _ _ _ _ _ _ _ _ _ => rfl)
    have D_written_by_step := defX (P := P) (w := w) (base := base) (PySem.W.mg_of X G a_written_by_step) F_written_by_step (ok_byStep F_written_by_step T D_with_number D_written_by_keep D_written_by_hide) (binds3 F_written_by_step rfl fun _ _ _ _ _ _ _ _ _ => rfl)
    have D_tables_beneath := defOk (P := P) (w := w) (base := base) (PySem.W.mg_of X G a_tables_beneath) F_tables_beneath (ok_tables F_tables_beneath T D_shown_by_step) (binds2 F_tables_beneath rfl fun _ _ _ _ _ _ _ _ => rfl)
    have D_written_back := defX (P := P) (w := w) (base := base) (PySem.W.mg_of X G a_written_back) F_written_back (ok_written F_written_back T D_tables_beneath D_written_by_step) (binds3 F_written_back rfl fun _ _ _ _ _ _ _ _ _ => rfl)
    have M_has_view : MethOk P w K mg base _ CD "has_view" _ _ := ⟨g_has_view, gd_has_view, t_has_view, ok_hasView (C := C) G_has_view TD, (binds2 G_has_view rfl fun _ _ _ _ _ _ _ _ => rfl)⟩
    have M_rows_through : MethOk P w K mg base _ CD "rows_through" _ _ := ⟨g_rows_through, gd_rows_through, t_rows_through, ok_rowsThrough G_rows_through TD D_shown, (binds2 G_rows_through rfl fun _ _ _ _ _ _ _ _ => rfl)⟩
    have M_many : MethOk P w K mg base _ CD "many" _ _ := ⟨g_many, gd_many, t_many, ok_many G_many TD M_has_view M_rows_through, (binds2 G_many rfl fun _ _ _ _ _ _ _ _ => rfl)⟩
    have M_row : MethOk P w K mg base _ CD "row" _ _ := ⟨g_row, gd_row, t_row, ok_row G_row TD M_has_view M_rows_through, (binds3 G_row rfl fun _ _ _ _ _ _ _ _ _ => rfl)⟩
    have M_find : MethOk P w K mg base _ CD "find" _ _ := ⟨g_find, gd_find, t_find, ok_find G_find TD M_has_view M_rows_through D_by_key, (binds3 G_find rfl fun _ _ _ _ _ _ _ _ _ => rfl)⟩
    have M_change_to : MethOk P w K mg base _ CD "change_to" _ _ := ⟨g_change_to, gd_change_to, t_change_to, ok_change (C := C) G_change_to TD, (binds2 G_change_to rfl fun _ _ _ _ _ _ _ _ => rfl)⟩
    have M_write : MethOk P w K mg base _ CD "write" _ _ := ⟨g_write, gd_write, t_write, ok_write G_write TD TB TX M_has_view M_rows_through M_change_to D_by_key D_with_row D_written_back, (binds3 G_write rfl fun _ _ _ _ _ _ _ _ _ => rfl)⟩
    have M_drop : MethOk P w K mg base _ CD "drop" _ _ := ⟨g_drop, gd_drop, t_drop, ok_drop G_drop TD M_has_view M_rows_through M_change_to D_by_key D_without_key D_written_back, (binds3 G_drop rfl fun _ _ _ _ _ _ _ _ _ => rfl)⟩
    have M_back : MethOk P w K mg base _ CD "back" _ _ := ⟨g_back, gd_back, t_back, ok_back (C := C) G_back TD, (binds1 G_back rfl fun _ _ _ _ _ _ _ => rfl)⟩
    have M_begin : MethOk P w K mg base _ CD "begin" _ _ := ⟨g_begin, gd_begin, t_begin, ok_begin (C := C) G_begin TD, (binds1 G_begin rfl fun _ _ _ _ _ _ _ => rfl)⟩
    have M_view : MethOk P w K mg base _ CD "view" _ _ := ⟨g_view, gd_view, t_view, ok_view G_view TD D_steps_of D_is_view, (binds2 G_view rfl fun _ _ _ _ _ _ _ _ => rfl)⟩
    have D_length_of_call := defOk (P := P) (w := w) (base := base) (PySem.W.mg_of X G a_length_of_call) F_length_of_call (ok_lengthOf F_length_of_call TN) (binds2 F_length_of_call rfl fun _ _ _ _ _ _ _ _ => rfl)
    have D_answer_of := defOk (P := P) (w := w) (base := base) (PySem.W.mg_of X G a_answer_of) F_answer_of (ok_answerOf F_answer_of TD TN M_begin M_view M_many M_row M_find M_write M_drop M_back) (binds2 F_answer_of rfl fun _ _ _ _ _ _ _ _ => rfl)
    have D_answers_of := defOk (P := P) (w := w) (base := base) (PySem.W.mg_of X G a_answers_of) F_answers_of (ok_answersOf F_answers_of TD.len (desk_ok C CD) D_length_of_call D_answer_of) (binds2 F_answers_of rfl fun _ _ _ _ _ _ _ _ => rfl)
    exact ok_answers F_answers D_answers_of MJ
end Vm

end
section
set_option Elab.async false
set_option linter.all false
open PySem PySem.W PyProof.Rows
set_option maxRecDepth 100000 in
set_option maxHeartbeats 0 in
theorem PySem.Challenge.cw_viewstable_s01_answers_holds : PySem.Challenge.rw_viewstable_s01_answers.Holds := by
  w_on; k_headS; (case hw => exact ⟨[.list []], by decide +kernel, by decide +kernel⟩)
  k_fillS
  refine L2.walk_specK (r := PySem.Challenge.rw_viewstable_s01_answers) (k := 11) (CX := L2.CX0) (ps := ["calls"]) (sp := Vm.spAnswers) (by decide +kernel) rfl rfl ⟨rfl, by decide, by decide⟩ (fun w h Y => PySem.W.kIn_of Y) ?F ?S (fun _ _ _ _ z => z)
  case F =>
    intro w mg fa h Y KX G hmg
    refine' Vm.all_mk KX G hmg ?aC ?cC ?iC ?nC0 ?nC1 ?nC2 ?nC3 ?aD ?cD ?iD ?nD0 ?nD1 ?nD2 ?aN ?aT ?xN ?xT ?e11 ?e21 ?e22 ?iKEEP ?iHIDE ?iSHIFT ?iLESS ?iSAME ?iMORE ?iOTHER ?iLAST_COLUMN ?iMOST_STEPS ?iNUMBERS_OF_A_STEP ?iMODULUS ?iBEGIN ?iVIEW ?iMANY ?iROW ?iFIND ?iWRITE ?iDROP ?iBACK ?iABSENT ?iTAKEN ?iINVALID ?iFULL ?iUNSHOWABLE ?iADDED ?iREPLACED ?iMOST_VIEWS ?iMOST_ROWS ?iMOST_CHANGES ?b_len ?b_range ?b_list ?b_all ?b_any ?b_sorted ?b_dict ?b_tuple ?d_step_at ?d_steps_of ?d_is_step ?d_is_view ?d_keeps ?d_with_number ?d_shown_by_step ?d_shown ?d_key_of ?d_by_rising_keys ?d_by_key ?d_without_key ?d_with_row ?d_written_by_keep ?d_number_beneath ?d_written_by_hide ?d_written_by_step ?d_tables_beneath ?d_written_back ?d_length_of_call ?d_answer_of ?d_answers_of ?d_answers ?m_begin ?m_view ?m_has_view ?m_rows_through ?m_many ?m_row ?m_find ?m_change_to ?m_write ?m_drop ?m_back
    (case aC => k_is)
    (case cC => refine' Vm.modCls ?_ ?_ ?_ ?_ ?_ ?_; k_is; k_is; k_is; k_is; k_is; k_is)
    (case iC => refine' Vm.modMeth ?a ?i ?l ?c ?k; (case a => k_is); (case i => k_is); (case l => k_is); (case c => k_is); (case k => k_is))
    (case nC0 => k_is)
    (case nC1 => k_is)
    (case nC2 => k_is)
    (case nC3 => k_is)
    (case aD => k_is)
    (case cD => refine' Vm.modCls ?_ ?_ ?_ ?_ ?_ ?_; k_is; k_is; k_is; k_is; k_is; k_is)
    (case iD => refine' Vm.modMeth ?a ?i ?l ?c ?k; (case a => k_is); (case i => k_is); (case l => k_is); (case c => k_is); (case k => k_is))
    (case nD0 => k_is)
    (case nD1 => k_is)
    (case nD2 => k_is)
    (case aN => k_is)
    (case aT => k_is)
    (case xN => k_exc)
    (case xT => k_exc)
    (case e11 => kts_exm)
    (case e21 => kts_exm)
    (case e22 => kts_exm)
    (case iKEEP => refine' Vm.modInt ?a; (case a => k_is))
    (case iHIDE => refine' Vm.modInt ?a; (case a => k_is))
    (case iSHIFT => refine' Vm.modInt ?a; (case a => k_is))
    (case iLESS => refine' Vm.modInt ?a; (case a => k_is))
    (case iSAME => refine' Vm.modInt ?a; (case a => k_is))
    (case iMORE => refine' Vm.modInt ?a; (case a => k_is))
    (case iOTHER => refine' Vm.modInt ?a; (case a => k_is))
    (case iLAST_COLUMN => refine' Vm.modInt ?a; (case a => k_is))
    (case iMOST_STEPS => refine' Vm.modInt ?a; (case a => k_is))
    (case iNUMBERS_OF_A_STEP => refine' Vm.modInt ?a; (case a => k_is))
    (case iMODULUS => refine' Vm.modInt ?a; (case a => k_is))
    (case iBEGIN => refine' Vm.modInt ?a; (case a => k_is))
    (case iVIEW => refine' Vm.modInt ?a; (case a => k_is))
    (case iMANY => refine' Vm.modInt ?a; (case a => k_is))
    (case iROW => refine' Vm.modInt ?a; (case a => k_is))
    (case iFIND => refine' Vm.modInt ?a; (case a => k_is))
    (case iWRITE => refine' Vm.modInt ?a; (case a => k_is))
    (case iDROP => refine' Vm.modInt ?a; (case a => k_is))
    (case iBACK => refine' Vm.modInt ?a; (case a => k_is))
    (case iABSENT => refine' Vm.modInt ?a; (case a => k_is))
    (case iTAKEN => refine' Vm.modInt ?a; (case a => k_is))
    (case iINVALID => refine' Vm.modInt ?a; (case a => k_is))
    (case iFULL => refine' Vm.modInt ?a; (case a => k_is))
    (case iUNSHOWABLE => refine' Vm.modInt ?a; (case a => k_is))
    (case iADDED => refine' Vm.modInt ?a; (case a => k_is))
    (case iREPLACED => refine' Vm.modInt ?a; (case a => k_is))
    (case iMOST_VIEWS => refine' Vm.modInt ?a; (case a => k_is))
    (case iMOST_ROWS => refine' Vm.modInt ?a; (case a => k_is))
    (case iMOST_CHANGES => refine' Vm.modInt ?a; (case a => k_is))
    (case b_len => k_is)
    (case b_range => k_is)
    (case b_list => k_is)
    (case b_all => k_is)
    (case b_any => k_is)
    (case b_sorted => k_is)
    (case b_dict => k_is)
    (case b_tuple => k_is)
    (case d_step_at => refine' Vm.modDef ?a ?l ?c ?k; (case a => k_is); (case l => k_is); (case c => k_is); (case k => k_is))
    (case d_steps_of => refine' Vm.modDef ?a ?l ?c ?k; (case a => k_is); (case l => k_is); (case c => k_is); (case k => k_is))
    (case d_is_step => refine' Vm.modDef ?a ?l ?c ?k; (case a => k_is); (case l => k_is); (case c => k_is); (case k => k_is))
    (case d_is_view => refine' Vm.modDef ?a ?l ?c ?k; (case a => k_is); (case l => k_is); (case c => k_is); (case k => k_is))
    (case d_keeps => refine' Vm.modDef ?a ?l ?c ?k; (case a => k_is); (case l => k_is); (case c => k_is); (case k => k_is))
    (case d_with_number => refine' Vm.modDef ?a ?l ?c ?k; (case a => k_is); (case l => k_is); (case c => k_is); (case k => k_is))
    (case d_shown_by_step => refine' Vm.modDef ?a ?l ?c ?k; (case a => k_is); (case l => k_is); (case c => k_is); (case k => k_is))
    (case d_shown => refine' Vm.modDef ?a ?l ?c ?k; (case a => k_is); (case l => k_is); (case c => k_is); (case k => k_is))
    (case d_key_of => refine' Vm.modDef ?a ?l ?c ?k; (case a => k_is); (case l => k_is); (case c => k_is); (case k => k_is))
    (case d_by_rising_keys => refine' Vm.modDef ?a ?l ?c ?k; (case a => k_is); (case l => k_is); (case c => k_is); (case k => k_is))
    (case d_by_key => refine' Vm.modDef ?a ?l ?c ?k; (case a => k_is); (case l => k_is); (case c => k_is); (case k => k_is))
    (case d_without_key => refine' Vm.modDef ?a ?l ?c ?k; (case a => k_is); (case l => k_is); (case c => k_is); (case k => k_is))
    (case d_with_row => refine' Vm.modDef ?a ?l ?c ?k; (case a => k_is); (case l => k_is); (case c => k_is); (case k => k_is))
    (case d_written_by_keep => refine' Vm.modDef ?a ?l ?c ?k; (case a => k_is); (case l => k_is); (case c => k_is); (case k => k_is))
    (case d_number_beneath => refine' Vm.modDef ?a ?l ?c ?k; (case a => k_is); (case l => k_is); (case c => k_is); (case k => k_is))
    (case d_written_by_hide => refine' Vm.modDef ?a ?l ?c ?k; (case a => k_is); (case l => k_is); (case c => k_is); (case k => k_is))
    (case d_written_by_step => refine' Vm.modDef ?a ?l ?c ?k; (case a => k_is); (case l => k_is); (case c => k_is); (case k => k_is))
    (case d_tables_beneath => refine' Vm.modDef ?a ?l ?c ?k; (case a => k_is); (case l => k_is); (case c => k_is); (case k => k_is))
    (case d_written_back => refine' Vm.modDef ?a ?l ?c ?k; (case a => k_is); (case l => k_is); (case c => k_is); (case k => k_is))
    (case d_length_of_call => refine' Vm.modDef ?a ?l ?c ?k; (case a => k_is); (case l => k_is); (case c => k_is); (case k => k_is))
    (case d_answer_of => refine' Vm.modDef ?a ?l ?c ?k; (case a => k_is); (case l => k_is); (case c => k_is); (case k => k_is))
    (case d_answers_of => refine' Vm.modDef ?a ?l ?c ?k; (case a => k_is); (case l => k_is); (case c => k_is); (case k => k_is))
    (case d_answers => refine' Vm.modDef ?a ?l ?c ?k; (case a => k_is); (case l => k_is); (case c => k_is); (case k => k_is))
    (case m_begin => refine' Vm.modMeth ?a ?i ?l ?c ?k; (case a => k_is); (case i => k_is); (case l => k_is); (case c => k_is); (case k => k_is))
    (case m_view => refine' Vm.modMeth ?a ?i ?l ?c ?k; (case a => k_is); (case i => k_is); (case l => k_is); (case c => k_is); (case k => k_is))
    (case m_has_view => refine' Vm.modMeth ?a ?i ?l ?c ?k; (case a => k_is); (case i => k_is); (case l => k_is); (case c => k_is); (case k => k_is))
    (case m_rows_through => refine' Vm.modMeth ?a ?i ?l ?c ?k; (case a => k_is); (case i => k_is); (case l => k_is); (case c => k_is); (case k => k_is))
    (case m_many => refine' Vm.modMeth ?a ?i ?l ?c ?k; (case a => k_is); (case i => k_is); (case l => k_is); (case c => k_is); (case k => k_is))
    (case m_row => refine' Vm.modMeth ?a ?i ?l ?c ?k; (case a => k_is); (case i => k_is); (case l => k_is); (case c => k_is); (case k => k_is))
    (case m_find => refine' Vm.modMeth ?a ?i ?l ?c ?k; (case a => k_is); (case i => k_is); (case l => k_is); (case c => k_is); (case k => k_is))
    (case m_change_to => refine' Vm.modMeth ?a ?i ?l ?c ?k; (case a => k_is); (case i => k_is); (case l => k_is); (case c => k_is); (case k => k_is))
    (case m_write => refine' Vm.modMeth ?a ?i ?l ?c ?k; (case a => k_is); (case i => k_is); (case l => k_is); (case c => k_is); (case k => k_is))
    (case m_drop => refine' Vm.modMeth ?a ?i ?l ?c ?k; (case a => k_is); (case i => k_is); (case l => k_is); (case c => k_is); (case k => k_is))
    (case m_back => refine' Vm.modMeth ?a ?i ?l ?c ?k; (case a => k_is); (case i => k_is); (case l => k_is); (case c => k_is); (case k => k_is))
  case S =>
    intro K H xs a hO hwi hask hx
    cases hx with
    | cons h1 h2 =>
      cases h2
      cases h1 with
      | lst hs ha =>
        have e := L2.ints_dw a.1 _ ha
        subst e
        have q : ((Codec.inLen 0 30000 a.1 && a.1.all (Codec.inInt 0 4294967295)) && true) = true := hwi
        rw [Bool.and_eq_true, Bool.and_eq_true] at q
        refine ⟨_, a.1, rfl, ?_, hask, (Codec.inNat_iff.mp q.1.1).2, fun H' p hp => .lst (L2.SqL.of hp) (L2.dw_ints _)⟩
        rcases hs with (hs | ⟨o, hs⟩) | hs
        · rcases hO _ with z | ⟨ob, u3, z⟩
          · rw [hs] at z; cases z
          · rw [hs] at z; cases z
        · exact .inl ⟨o, hs⟩
        · exact .inr fun H' => .inr hs

end
