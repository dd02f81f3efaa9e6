import PyProof.Rows.All
import Wide.All
import OpenK.AllK
import Wide.FinOn
import PyProof.EqAt
import PyProof.EqKinds
import PyProof.TupleCall
import KE.BitLaws
import Open.SpecLaws
import KE.OsHead
import KE.OsGo
import LfTable
import PyProof.ExcBaseAll.Exception
import PyProof.ExcAttrAll.Exception
import PyProof.InstStore
import PyProof.InstStoreFacts
import PyProof.StationsW
import PyProof.RulesAs
import PyProof.PassesOwn
import OpenK.KMake
import PyProof.Rows.FStr
import PyProof.FString
import PyWqlfta
import KE.KIntText
import PyProof.Rows.FactsN_abs
import PyProof.Rows.FactsT3
import PySem.Challenge.RW_offsettables_s01_answers
section
-- CHANGE: your row's module here, as the last of these rows
set_option Elab.async false
set_option linter.all false
set_option maxRecDepth 100000
/-! THE HAND LAYER, for ints, bools, texts, own classes, lists, tuples, dicts, comprehensions, walks over dicts, enumerate, zip, reversed, texts, calls, loops. Paste it whole ahead of your own text; what your proof does not reach may be deleted. -/
namespace L2
open PySem PySem.Spec PyProof.Rows

/-- a key: an int or a str -/
abbrev Key := Sum Int Str
def keyIs : Key → Value → Bool
  | .inl k, v => Value.isInt k v
  | .inr x, v => Value.isStrOf x v
def keyH (w : World) : Key → Int
  | .inl k => hashInt k
  | .inr x => hashStr w x
theorem keyIs_shape : ∀ {k : Key} {v : Value}, keyIs k v = true → (∃ i t, k = Sum.inl i ∧ v = Value.int i t) ∨ (∃ x t, k = Sum.inr x ∧ v = Value.str x t)
  | .inl i, v, h => by
    obtain ⟨t, e⟩ := Value.isInt_shape (k := i) (v := v) h
    exact .inl ⟨i, t, rfl, e⟩
  | .inr x, v, h => by
    obtain ⟨t, e⟩ := Value.isStrOf_shape (x := x) (v := v) h
    exact .inr ⟨x, t, rfl, e⟩
theorem key_ll (a b : Int) : decide ((Sum.inl a : Key) = Sum.inl b) = (a == b) := by
  by_cases e : a = b
  · subst e; simp
  · have h : ¬ (Sum.inl a : Key) = Sum.inl b := fun q => e (Sum.inl.inj q)
    rw [decide_eq_false h]
    exact (beq_eq_false_iff_ne.mpr e).symm
theorem key_rr (a b : Str) : decide ((Sum.inr a : Key) = Sum.inr b) = decide (a = b) := by
  by_cases e : a = b
  · subst e; simp
  · have h : ¬ (Sum.inr a : Key) = Sum.inr b := fun q => e (Sum.inr.inj q)
    rw [decide_eq_false h, decide_eq_false e]
theorem key_lr (a : Int) (b : Str) : decide ((Sum.inl a : Key) = Sum.inr b) = false := decide_eq_false (fun q => nomatch q)
theorem key_rl (a : Str) (b : Int) : decide ((Sum.inr a : Key) = Sum.inl b) = false := decide_eq_false (fun q => nomatch q)

def mixKind (prog : Program) (w : World) : PySem.KeyKind prog w Key where
  is := keyIs
  hash := keyH w
  inj := fun v a b ha hb => by
    rcases keyIs_shape ha with ⟨i, t, rfl, rfl⟩ | ⟨x, t, rfl, rfl⟩
    · rcases keyIs_shape hb with ⟨j, u, rfl, e⟩ | ⟨y, u, rfl, e⟩
      · injection e with e1 _; rw [e1]
      · exact nomatch e
    · rcases keyIs_shape hb with ⟨j, u, rfl, e⟩ | ⟨y, u, rfl, e⟩
      · exact nomatch e
      · injection e with e1 _; rw [e1]
  byValue := fun k v h => by
    rcases keyIs_shape h with ⟨i, t, rfl, rfl⟩ | ⟨x, t, rfl, rfl⟩ <;> rfl
  pyHash := fun hv h => by
    rcases keyIs_shape hv with ⟨i, t, rfl, rfl⟩ | ⟨x, t, rfl, rfl⟩
    · exact wpAny_pyHash_int h
    · exact wpAny_pyHash_str h
  eqBool := fun hu hv h => by
    rcases keyIs_shape hu with ⟨i, t, rfl, rfl⟩ | ⟨x, t, rfl, rfl⟩
    · rcases keyIs_shape hv with ⟨j, u, rfl, rfl⟩ | ⟨y, u, rfl, rfl⟩
      · rw [key_ll] at h; exact wpAny_eqBool_int h
      · rw [key_lr] at h; exact SeqAt.EqAt.int_str i t y u _ _ _ _ h
    · rcases keyIs_shape hv with ⟨j, u, rfl, rfl⟩ | ⟨y, u, rfl, rfl⟩
      · rw [key_rl] at h; exact SeqAt.EqAt.str_int x t j u _ _ _ _ h
      · rw [key_rr] at h; exact wpAny_eqBool_str h
  «strs» := fun k x t v h => by
    rcases keyIs_shape h with ⟨i, u, rfl, e⟩ | ⟨y, u, rfl, e⟩
    · exact nomatch e
    · injection e with e1 _
      subst e1
      cases v <;> rfl

end L2

namespace L2
open PySem PySem.Spec PyProof.Rows

/-- a value, without the heap -/
inductive V where
  | non | bl (b : Bool) | int (i : Int) | str (x : Str) | byt (b : Array UInt8) | flt (b : UInt64) | ref (a : Addr) | ty (n : String)
  deriving DecidableEq

def RelV : V → Value → Prop
  | .non, u => u = Value.none
  | .bl b, u => u = Value.bool b
  | .int i, u => ∃ t, u = Value.int i t
  | .str x, u => ∃ t, u = Value.str x t
  | .byt b, u => ∃ t, u = Value.bytes b t
  | .flt b, u => ∃ t, u = Value.float b t
  | .ref a, u => u = Value.ref a
  | .ty n, u => u = Value.type n

abbrev Vals : List V → List Value → Prop := Paired RelV
theorem Vals.length {xs : List V} {us : List Value} (r : Vals xs us) : xs.length = us.length := Paired.length r
theorem Vals.get : ∀ {xs : List V} {us : List Value} {i : Nat} {x : V}, Vals xs us → xs[i]? = some x → ∃ u, us[i]? = some u ∧ RelV x u
  | _, _, _, _, .nil, e => by simp at e
  | _, _, 0, _, .cons r _, e => by simp at e; subst e; exact ⟨_, rfl, r⟩
  | _, _, i + 1, x, .cons _ t, e => by
    obtain ⟨u, h1, h2⟩ := Vals.get (i := i) (x := x) t (by simpa using e)
    exact ⟨u, by simpa using h1, h2⟩
theorem Vals.set {x : V} {u : Value} (r : RelV x u) : ∀ {xs : List V} {us : List Value} (i : Nat), Vals xs us → Vals (xs.set i x) (us.set i u)
  | _, _, _, .nil => .nil
  | _, _, 0, .cons _ t => .cons r t
  | _, _, i + 1, .cons q t => .cons q (Vals.set r i t)
theorem Vals.append : ∀ {xs ys : List V} {us ws : List Value}, Vals xs us → Vals ys ws → Vals (xs ++ ys) (us ++ ws)
  | _, _, _, _, .nil, s => s
  | _, _, _, _, .cons r t, s => .cons r (Vals.append t s)
theorem Vals.take : ∀ {xs : List V} {us : List Value} (n : Nat), Vals xs us → Vals (xs.take n) (us.take n)
  | _, _, 0, _ => .nil
  | _, _, _ + 1, .nil => .nil
  | _, _, n + 1, .cons r t => .cons r (Vals.take n t)
theorem Vals.drop : ∀ {xs : List V} {us : List Value} (n : Nat), Vals xs us → Vals (xs.drop n) (us.drop n)
  | _, _, 0, r => r
  | _, _, _ + 1, .nil => .nil
  | _, _, n + 1, .cons _ t => Vals.drop n t

def RelO : Option V → Option Value → Prop
  | some v, some u => RelV v u
  | none, none => True
  | _, _ => False
def KV {κ : Type} : List (κ × V) → List (κ × Value) → Prop := Paired fun (p : κ × V) (q : κ × Value) => p.1 = q.1 ∧ RelV p.2 q.2

/-- a key of a dict (00_mix): an int or a text -/
def kV : Key → V
  | .inl i => .int i
  | .inr x => .str x

/-- what stands at a tracked address -/
inductive HO where
  /-- a list -/
  | lst (xs : List V)
  /-- a tuple (never changes) -/
  | tup (xs : List V)
  /-- a dict whose keys are ints and texts; one whose keys are tuples of ints and texts (the empty one is both) -/
  | dK (kvs : List (Key × V)) | dT (kvs : List (List Key × V))
  /-- a set of ints: its members, its size -/
  | set (S : Int → Bool) (n : Nat)
  /-- an instance of the class at C, its dict at dx, its attributes -/
  | ins (C dx : Addr) (fs : List (Str × V))
  /-- the dict of the instance at x -/
  | own (x : Addr)
  /-- the dict of an exception -/
  | xd (fs : List (Str × V))
  /-- a bound method, f of x -/
  | met (f x : Addr)
  /-- a range object lo, lo + 1, .. below hi -/
  | rng (lo hi : Int)
  /-- a thing that is known to the object (the script; a dict while a loop walks it): read, never written while it is so -/
  | frz (o : Obj) (u : HO)
  /-- a code object's table -/
  | tbl (ps : Array Value)
  /-- any other thing, by what is true of its one object (a def of one's own: SetO a S n := HO.ext fun h => ..) -/
  | ext (φ : Heap → Prop)

abbrev Hp := Addr → Option HO
def upd (H : Hp) (a : Addr) (o : HO) : Hp := fun b => if b = a then some o else H b
theorem upd_same {H : Hp} {a : Addr} {o : HO} : upd H a o a = some o := by unfold upd; rw [if_pos rfl]
theorem upd_ne {H : Hp} {a b : Addr} {o : HO} (h : b ≠ a) : upd H a o b = H b := by unfold upd; rw [if_neg h]
/-- two objects of different content stand apart -/
theorem ne_of {H : Hp} {a b : Addr} {o u : HO} (h : H a = some o) (h' : H b = some u) (d : o ≠ u) : a ≠ b := by
  intro e; subst e; rw [h] at h'; exact d (Option.some.inj h')
theorem ne_of_none {H : Hp} {a b : Addr} {o : HO} (h : H a = some o) (h' : H b = none) : a ≠ b := by
  intro e; subst e; rw [h] at h'; cases h'

section
variable (P : Program) (w : World)
def ObjOk (H : Hp) (h : Heap) (a : Addr) : HO → Prop
  | .lst xs => xs.length ≤ sizeLine ∧ ∃ (its : List Value) (n : Nat), Vals xs its ∧ h.get? a = some { cls := .type "list", data := .seq its.toArray n }
  | .tup xs => xs.length ≤ sizeLine ∧ ∃ its : List Value, Vals xs its ∧ IsTup h a its.toArray
  | .dK kvs => kvs.length ≤ sizeLine ∧ (a == sysModules) = false ∧ ∃ vs, KV kvs vs ∧ h.DictOf (mixKind P w) a vs
  | .dT kvs => kvs.length ≤ sizeLine ∧ (a == sysModules) = false ∧ ∃ xs : List (List Key × Addr × Value),
      Paired (fun (p : List Key × V) (q : List Key × Addr × Value) => p.1 = q.1 ∧ H q.2.1 = some (.tup (p.1.map kV)) ∧ RelV p.2 q.2.2) kvs xs ∧
      ∃ o es ep, h.get? a = some o ∧ o.ExactDict ∧ o.data = .dict es ep ∧ es.toList = xs.map (entryOfKey (tupleKind (mixKind P w))) ∧ (xs.map (·.1)).Nodup
  | .set S n => h.SetOf (intKind P w) a S n
  | .ins C dx fs => H dx = some (.own a) ∧ fs.length ≤ 1000 ∧ dx ≠ a ∧ h.get? a = some (PySem.W.instObj C dx) ∧
      ∃ mA, h.Ns1 dx mA ∧ (∀ f, RelO (fs.lookup f) (mA f)) ∧ PySem.Within mA (fs.map (·.1))
  | .own _ => ∃ o, h.get? a = some o
  | .xd fs => ∃ mA, h.Ns1 a mA ∧ ∀ f, RelO (fs.lookup f) (mA f)
  | .rng lo hi => ∃ t u v, h.get? a = some { cls := .type "range", data := .fields #[.int lo t, .int hi u, .int 1 v] }
  | .frz o u => h.get? a = some o ∧ ObjOk H h a u
  | .tbl ps => h.get? a = some { cls := .none, data := .fields ps }
  | .met f x => h.get? a = some (PySem.W.methodObj (.ref f) (.ref x))
  | .ext φ => φ h ∧ (∃ o, h.get? a = some o) ∧ ∀ h1 h2 : Heap, φ h1 → (∀ o, h1.get? a = some o → h2.get? a = some o) → φ h2
/-- the abstract heap is held -/
def HOk (H : Hp) (h : Heap) : Prop := ∀ a o, H a = some o → ObjOk P w H h a o
end

section
variable {P : Program} {w : World} {H H' : Hp} {h h' : Heap} {a : Addr} {o : HO}
theorem ObjOk.lt (x : ObjOk P w H h a o) : a < h.objs.size := by
  cases o with
  | lst xs => obtain ⟨_, _, _, _, e⟩ := x; exact Heap.lt_size e
  | tup xs => obtain ⟨_, _, _, p⟩ := x; exact p.lt
  | dK kvs => obtain ⟨_, _, _, _, o, _, _, e, _⟩ := x; exact Heap.lt_size e
  | dT kvs => obtain ⟨_, _, _, _, o, _, _, e, _⟩ := x; exact Heap.lt_size e
  | set S n => obtain ⟨o, _, _, _, e, _⟩ := x; exact Heap.lt_size e
  | ins C dx fs => obtain ⟨_, _, _, e, _⟩ := x; exact Heap.lt_size e
  | own y => obtain ⟨_, e⟩ := x; exact Heap.lt_size e
  | xd fs => obtain ⟨_, ⟨_, _, _, e, _⟩, _⟩ := x; exact Heap.lt_size e
  | rng lo hi => obtain ⟨_, _, _, e⟩ := x; exact Heap.lt_size e
  | frz ob u => obtain ⟨e, _⟩ := x; exact Heap.lt_size e
  | tbl ps => exact Heap.lt_size (show h.get? a = some _ from x)
  | met f y => exact Heap.lt_size (show h.get? a = some _ from x)
  | ext φ => obtain ⟨_, ⟨_, e⟩, _⟩ := x; exact Heap.lt_size e
theorem Paired.mapP {α β : Type} {F G : α → β → Prop} : ∀ {l₁ : List α} {l₂ : List β}, Paired F l₁ l₂ → (∀ a b, F a b → G a b) → Paired G l₁ l₂
  | _, _, .nil, _ => .nil
  | _, _, .cons r t, f => .cons (f _ _ r) (Paired.mapP t f)
/-- what an object's description leans on: its own object, its own dict, the tuples -/
theorem ObjOk.stay (x : ObjOk P w H h a o) (k : ∀ b u, (b = a ∨ H b = some (.own a)) → h.get? b = some u → h'.get? b = some u)
    (ho : ∀ b, H b = some (.own a) → H' b = some (.own a)) (ht : ∀ b xs, H b = some (.tup xs) → H' b = some (.tup xs)) : ObjOk P w H' h' a o := by
  induction o with
  | lst xs => obtain ⟨z, its, n, r, e⟩ := x; exact ⟨z, its, n, r, k _ _ (.inl rfl) e⟩
  | tup xs => obtain ⟨z, its, r, ob, e, c⟩ := x; exact ⟨z, its, r, ob, k _ _ (.inl rfl) e, c⟩
  | dK kvs => obtain ⟨z, y, vs, r, ob, es, ep, e, c⟩ := x; exact ⟨z, y, vs, r, ob, es, ep, k _ _ (.inl rfl) e, c⟩
  | dT kvs =>
    obtain ⟨z, y, xs, r, ob, es, ep, e, c⟩ := x
    exact ⟨z, y, xs, Paired.mapP r fun p q z => ⟨z.1, ht _ _ z.2.1, z.2.2⟩, ob, es, ep, k _ _ (.inl rfl) e, c⟩
  | set S n => obtain ⟨ob, es, ep, t, e, c⟩ := x; exact ⟨ob, es, ep, t, k _ _ (.inl rfl) e, c⟩
  | ins C dx fs =>
    obtain ⟨d, z, ne, e, mA, ⟨od, es, ep, e2, c⟩, r⟩ := x
    exact ⟨ho _ d, z, ne, k _ _ (.inl rfl) e, mA, ⟨od, es, ep, k _ _ (.inr d) e2, c⟩, r⟩
  | own y => obtain ⟨ob, e⟩ := x; exact ⟨ob, k _ _ (.inl rfl) e⟩
  | xd fs => obtain ⟨mA, ⟨od, es, ep, e, c⟩, r⟩ := x; exact ⟨mA, ⟨od, es, ep, k _ _ (.inl rfl) e, c⟩, r⟩
  | rng lo hi => obtain ⟨t, u, v, e⟩ := x; exact ⟨t, u, v, k _ _ (.inl rfl) e⟩
  | frz ob u ih => obtain ⟨e, q⟩ := x; exact ⟨k _ _ (.inl rfl) e, ih q⟩
  | tbl ps =>
    have e : h.get? a = some { cls := .none, data := .fields ps } := x
    show h'.get? a = some { cls := .none, data := .fields ps }
    exact k a _ (.inl rfl) e
  | met f y =>
    have e : h.get? a = some (PySem.W.methodObj (.ref f) (.ref y)) := x
    show h'.get? a = some (PySem.W.methodObj (.ref f) (.ref y))
    exact k a _ (.inl rfl) e
  | ext φ => obtain ⟨p, ⟨o, e⟩, st⟩ := x; exact ⟨st _ _ p fun o q => k _ _ (.inl rfl) q, ⟨o, k _ _ (.inl rfl) e⟩, st⟩
theorem HOk.lt (x : HOk P w H h) (e : H a = some o) : a < h.objs.size := (x a o e).lt
theorem HOk.fresh (x : HOk P w H h) (e : h.objs.size ≤ a) : H a = none := by
  cases q : H a with
  | none => rfl
  | some u => exact absurd (Nat.lt_of_lt_of_le (x.lt q) e) (Nat.lt_irrefl _)
/-- every object of the heap is kept -/
theorem HOk.kept (x : HOk P w H h) (k : ∀ b u, h.get? b = some u → h'.get? b = some u) : HOk P w H h' := fun a o e =>
  (x a o e).stay (fun b u _ q => k b u q) (fun _ q => q) fun _ _ q => q
/-- a new object is laid and tracked -/
theorem HOk.laid (x : HOk P w H h) (k : ∀ b u, h.get? b = some u → h'.get? b = some u) (hp : h.objs.size ≤ a) (new : ObjOk P w (upd H a o) h' a o) : HOk P w (upd H a o) h' := fun b u e => by
  have hn := x.fresh hp
  by_cases hb : b = a
  · subst hb; rw [upd_same] at e; cases e; exact new
  · rw [upd_ne hb] at e
    exact (x b u e).stay (fun c v _ q => k c v q) (fun c q => by rw [upd_ne (ne_of_none q hn)]; exact q) fun c xs q => by rw [upd_ne (ne_of_none q hn)]; exact q
end

/-- what may be read as u: it is u, or a known u -/
def Rd (H : Hp) (a : Addr) (u : HO) : Prop := H a = some u ∨ ∃ o, H a = some (.frz o u)
theorem Rd.ok {P : Program} {w : World} {H : Hp} {h : Heap} {a : Addr} {u : HO} (r : Rd H a u) (x : HOk P w H h) : ObjOk P w H h a u := by
  rcases r with r | ⟨o, r⟩
  · exact x a u r
  · obtain ⟨_, q⟩ := x a _ r
    exact q
/-- what may be written -/
def Mut : Option HO → Prop
  | some (.lst _) => True
  | some (.dK _) => True
  | some (.dT _) => True
  | some (.set _ _) => True
  | some (.ins _ _ _) => True
  | some (.ext _) => True
  | _ => False
section
variable {P : Program} {w : World} {H : Hp} {h h' : Heap} {x e : Addr} {o' : HO}
/-- the object at e is changed: x itself, or the dict of the instance x -/
theorem HOk.write (ok : HOk P w H h) (mu : Mut (H x)) (he : e = x ∨ H e = some (.own x)) (k : ∀ b u, b ≠ e → h.get? b = some u → h'.get? b = some u) (heo : ∃ u, h'.get? e = some u)
    (new : ObjOk P w (upd H x o') h' x o') : HOk P w (upd H x o') h' := fun b u q => by
  have nown : ∀ c y, H c = some (.own y) → c ≠ x := fun c y r z => by subst z; rw [r] at mu; exact mu
  have ntup : ∀ c xs, H c = some (.tup xs) → c ≠ x := fun c xs r z => by subst z; rw [r] at mu; exact mu
  by_cases hb : b = x
  · subst hb; rw [upd_same] at q; cases q; exact new
  · rw [upd_ne hb] at q
    by_cases hbe : b = e
    · have q' : H b = some (.own x) := by
        rcases he with z | z
        · exact absurd (hbe.trans z) hb
        · rw [hbe]; exact z
      rw [q] at q'; cases q'
      obtain ⟨v, hv⟩ := heo
      exact ⟨v, by rw [hbe]; exact hv⟩
    · refine (ok b u q).stay (fun c v hc r => k c v ?_ r) (fun c r => by rw [upd_ne (nown c b r)]; exact r) fun c xs r => by rw [upd_ne (ntup c xs r)]; exact r
      rcases hc with rfl | hc
      · exact hbe
      · rintro rfl
        rcases he with z | z
        · exact nown c b hc z
        · rw [hc] at z; cases z; exact hb rfl
end

/-! ### kept unless tracked; of the frames at fs (the callers') the slots may change (an exception that passes writes there); of the records at ex (iterators) nothing is said -/
structure Un (fs ex : List Addr) (H H' : Hp) (h h' : Heap) : Prop where
  keep : ∀ b o, h.get? b = some o → H b = none → b ∉ fs → b ∉ ex → h'.get? b = some o
  slot : ∀ b o, h.get? b = some o → H b = none → b ∈ fs → b ∉ ex → ∃ sl, h'.get? b = some { o with slots := sl }
  free : ∀ b o, h.get? b = some o → H b = none → b ∉ ex → H' b = none
  there : ∀ b o, h.get? b = some o → b ∉ ex → ∃ o', h'.get? b = some o'
  tups : ∀ b xs, H b = some (.tup xs) → H' b = some (.tup xs)
  frzs : ∀ b o u, H b = some (.frz o u) → H' b = some (.frz o u)
  tbls : ∀ b ps, H b = some (.tbl ps) → ∃ more, H' b = some (.tbl (ps ++ more))
section
variable {fs fs' ex ex' : List Addr} {H H1 H2 : Hp} {h h1 h2 h' : Heap} {a x e : Addr} {o : HO}
theorem Un.any (u : Un fs ex H H1 h h1) {b : Addr} {ob : Obj} (q : h.get? b = some ob) (n : H b = none) (hx : b ∉ ex) : ∃ sl, h1.get? b = some { ob with slots := sl } := by
  by_cases hb : b ∈ fs
  · exact u.slot b ob q n hb hx
  · exact ⟨ob.slots, u.keep b ob q n hb hx⟩
theorem Un.kept (k : ∀ b u, h.get? b = some u → h'.get? b = some u) : Un fs ex H H h h' :=
  ⟨fun b ob q _ _ _ => k b ob q, fun b ob q _ _ _ => ⟨ob.slots, k b ob q⟩, fun _ _ _ n _ => n, fun b ob q _ => ⟨ob, k b ob q⟩, fun _ _ q => q, fun _ _ _ q => q, fun _ ps q => ⟨#[], by rw [q]; simp⟩⟩
theorem Un.refl : Un fs ex H H h h := Un.kept fun _ _ q => q
theorem Un.laid (k : ∀ b u, h.get? b = some u → h'.get? b = some u) (hp : h.objs.size ≤ a) (hn : H a = none) : Un fs ex H (upd H a o) h h' where
  keep := fun b u q _ _ _ => k b u q
  slot := fun b u q _ _ _ => ⟨u.slots, k b u q⟩
  free := fun b u q n _ => by rw [upd_ne (Nat.ne_of_lt (Nat.lt_of_lt_of_le (Heap.lt_size q) hp))]; exact n
  there := fun b u q _ => ⟨u, k b u q⟩
  tups := fun b xs q => by rw [upd_ne (ne_of_none q hn)]; exact q
  frzs := fun b u xs q => by rw [upd_ne (ne_of_none q hn)]; exact q
  tbls := fun b ps q => ⟨#[], by rw [upd_ne (ne_of_none q hn), q]; simp⟩
theorem Un.write (mu : Mut (H x)) (he : e = x ∨ H e = some (.own x)) (k : ∀ b u, b ≠ e → h.get? b = some u → h'.get? b = some u) (heo : ∃ u, h'.get? e = some u) : Un fs ex H (upd H x o) h h' := by
  have hx : ∀ b, H b = none → b ≠ x := fun b n z => by subst z; rw [n] at mu; exact mu
  have hb : ∀ b, H b = none → b ≠ e := fun b n z => by
    subst z
    rcases he with r | r
    · exact hx b n r
    · rw [n] at r; cases r
  have hm : ∀ b u, H b = some u → ¬ Mut (some u) → b ≠ x := fun b u q nm z => by subst z; rw [q] at mu; exact nm mu
  refine ⟨fun b u q n _ _ => k b u (hb b n) q, fun b u q n _ _ => ⟨u.slots, k b u (hb b n) q⟩, fun b u q n _ => by rw [upd_ne (hx b n)]; exact n, fun b u q _ => ?_,
    fun b xs q => by rw [upd_ne (hm b _ q fun z => z)]; exact q, fun b u xs q => by rw [upd_ne (hm b _ q fun z => z)]; exact q, fun b ps q => ⟨#[], by rw [upd_ne (hm b _ q fun z => z), q]; simp⟩⟩
  by_cases hbe : b = e
  · subst hbe; exact heo
  · exact ⟨u, k b u hbe q⟩
end

/-! ### the heap without what is tracked -/
def trk (h : Heap) (H : Hp) : List Addr := (List.range h.objs.size).filter fun a => (H a).isSome
def hidT (h : Heap) (H : Hp) : Heap := PySem.W.hideAll h (trk h H)
theorem hidT_size (h : Heap) (H : Hp) : (hidT h H).objs.size = h.objs.size := PySem.W.hideAll_size _ _
theorem hidT_get {h : Heap} {H : Hp} {b : Addr} {o : Obj} (e : h.get? b = some o) (n : H b = none) : (hidT h H).get? b = some o :=
  PySem.W.hideAll_get _ e fun hm => by
    have q : (H b).isSome = true := (List.mem_filter.mp hm).2
    rw [n] at q; simp at q
theorem of_hidT {h : Heap} {H : Hp} {b : Addr} {o : Obj} (e : (hidT h H).get? b = some o) : h.get? b = some o ∧ H b = none := by
  have e' : h.get? b = some o := PySem.W.of_hideAll (trk h H) e
  refine ⟨e', ?_⟩
  cases q : H b with
  | none => rfl
  | some x =>
    have hm : b ∈ trk h H := List.mem_filter.mpr ⟨List.mem_range.mpr (Heap.lt_size e'), by simp [q]⟩
    have z : (hidT h H).get? b = none := PySem.W.hideAll_none (trk h H) hm
    rw [z] at e; cases e

/-! ### OpenK's ledger, filled with every new object but one -/
end L2

namespace L2
open PySem PySem.Spec PyProof.Rows

/-- the module's facts, over the base: the heap at the law's entry without what is tracked there -/
structure Mod (K : PySem.W.Frag) (mg : Str → Option Value) (base : Heap) : Prop where
  kin : K.In base
  glob : base.Ns mainGlobals mg
  blt : ∃ mb, base.Ns builtinsNs mb ∧ ∀ x : Str, x ≠ "__name__" → mb x = bootBuiltins x
  nolimit : base.NoLimit

/-- the context: a def's body (or a comprehension's block) running. base: fixed through the whole law; s₀, H₀: the entry; outer: the frames whose slots others may change (a def's callers); stack: all frames that run;
   ex: iterators that were made ahead of the entry and are walked here (a comprehension's); fn: the names whose cells were made at the entry (a def: all; a comprehension's block: its own); calm: not within an except suite; pn: pins that every state bears; xe: what is wanted of an exception that leaves the code -/
structure Cx where
  prog : Program
  w : World
  K : PySem.W.Frag
  mg : Str → Option Value
  base : Heap
  A : Around
  N : List Str
  s_0 : Shared
  H_0 : Hp
  env : Env
  outer : List Env
  stack : List Env
  ex : List Addr
  fn : Str → Bool
  calm : Bool
  pn : List (Addr × Obj)
  xe : Value → Shared → Prop
/-- the callers' frames -/
def frs (l : List Env) : List Addr := l.filterMap (·.frame)
abbrev Cx.fs (X : Cx) : List Addr := frs X.outer

def Vis (sc : Scope) (x : Str) : Prop := sc.names.lookup x = some .local ∨ sc.names.lookup x = some .cell ∨ sc.names.lookup x = some .free
def Loc (sc : Scope) (x : Str) : Prop := sc.names.lookup x = some .local ∨ sc.names.lookup x = some .cell
def Look (env : Env) (h : Heap) (m : Str → Option Value) (x : Str) (u : Value) : Prop :=
  (env.kindOf x = some .local ∧ m x = some u) ∨ ((env.kindOf x = some .cell ∨ env.kindOf x = some .free) ∧ ∃ c, env.cells.lookup x = some c ∧ h.IsCell c (some u))

structure Cx.Ok (X : Cx) : Prop where
  mod : Mod X.K X.mg X.base
  kind : X.env.scope.kind = .function
  glob : X.env.globals = mainGlobals
  blt : X.env.builtins = builtinsNs
  above : X.s_0.heap.objs.size ≤ X.env.locals
  inj : ∀ x y c, X.env.cells.lookup x = some c → X.env.cells.lookup y = some c → x = y
  has : ∀ x, (X.env.kindOf x = some .cell ∨ X.env.kindOf x = some .free) → ∃ c, X.env.cells.lookup x = some c
  cab : ∀ x c, X.fn x = true → X.env.cells.lookup x = some c → X.s_0.heap.objs.size ≤ c
  hd : X.calm = true → X.A.handled = none
  frames : X.A.frames = some X.stack
  stk : X.stack = X.outer ∨ (X.stack = X.env :: X.outer ∧ X.env.frame = some X.env.locals)
  exf : ∀ b ∈ X.ex, b ≠ X.env.locals ∧ ∀ x c, X.env.cells.lookup x = some c → c ≠ b
  bs : ∀ b o, X.base.get? b = some o → X.s_0.heap.get? b = some o ∧ X.H_0 b = none
  bsz : X.base.objs.size ≤ X.s_0.heap.objs.size
  noex : ∀ b o, X.base.get? b = some o → b ∉ X.ex
  exfs : ∀ b ∈ X.ex, b ∉ X.fs
  funs : X.s_0.heap.FunFrames X.base X.outer
  frf : ∀ b ∈ X.fs, X.H_0 b = none

structure Inv (X : Cx) (pins : List (Addr × Obj)) (σ : List (Option V)) (H : Hp) (s : Shared) : Prop where
  ok : X.Ok
  os : s.os = X.s_0.os
  bare : AllBare s.gens
  base : Un X.fs X.ex X.H_0 H X.s_0.heap s.heap
  loc : ∃ m, s.heap.Ns X.env.locals m ∧ ∀ (i : Nat) (x : Str) (v : V), X.N[i]? = some x → σ[i]? = some (some v) → Vis X.env.scope x → ∃ u, RelV v u ∧ Look X.env s.heap m x u
  cell : ∀ x c, X.env.cells.lookup x = some c → ∃ v, s.heap.IsCell c v
  free : H X.env.locals = none
  freeC : ∀ x c, X.env.cells.lookup x = some c → H c = none
  pin : ∀ p ∈ X.pn ++ pins, s.heap.get? p.1 = some p.2 ∧ H p.1 = none ∧ p.1 ≠ X.env.locals ∧ p.1 ∉ X.fs ∧ ∀ v, p.2.data ≠ .cell v
  hok : HOk X.prog X.w H s.heap
  len : σ.length = X.N.length

section
variable {X : Cx} {pins : List (Addr × Obj)} {σ : List (Option V)} {H H' : Hp} {s : Shared} {h' : Heap}

theorem Cx.Ok.nofr (ok : X.Ok) {b : Addr} {o : Obj} (e : X.base.get? b = some o) : b ∉ X.fs := fun hb => by
  have := (ok.funs.mem hb).1
  rw [e] at this; cases this
theorem Inv.bs (I : Inv X pins σ H s) : ∀ b o, X.base.get? b = some o → s.heap.get? b = some o ∧ H b = none := fun b o e =>
  ⟨I.base.keep b o (I.ok.bs b o e).1 (I.ok.bs b o e).2 (I.ok.nofr e) (I.ok.noex b o e), I.base.free b o (I.ok.bs b o e).1 (I.ok.bs b o e).2 (I.ok.noex b o e)⟩
theorem Inv.bk (I : Inv X pins σ H s) : ∀ b o, X.base.get? b = some o → s.heap.get? b = some o := fun b o e => (I.bs b o e).1
theorem Inv.mod (I : Inv X pins σ H s) : Mod X.K X.mg X.base := I.ok.mod
theorem Inv.kIn (I : Inv X pins σ H s) : X.K.In s.heap := I.ok.mod.kin.keeps I.bk
/-- the frame over the base: for OpenK's rules (K.In X.base is I.mod.kin) -/
theorem Inv.fr (I : Inv X pins σ H s) : ∃ m, Fr X.base X.env.locals s.heap m :=
  let ⟨m, hn, _⟩ := I.loc
  ⟨m, hn, I.bk, Nat.le_trans I.ok.bsz I.ok.above⟩
theorem Inv.lt (I : Inv X pins σ H s) : X.env.locals < s.heap.objs.size := let ⟨_, hn, _⟩ := I.loc; hn.lt
theorem Inv.sz (I : Inv X pins σ H s) : X.s_0.heap.objs.size ≤ s.heap.objs.size := Nat.le_trans I.ok.above (Nat.le_of_lt I.lt)
theorem Inv.nofs (I : Inv X pins σ H s) {a : Addr} (h : s.heap.objs.size ≤ a) : a ∉ X.fs := fun hb => by
  obtain ⟨_, o, ho, _⟩ := I.ok.funs.mem hb
  exact absurd (Nat.lt_of_lt_of_le (Heap.lt_size ho) (Nat.le_trans I.sz h)) (Nat.lt_irrefl _)
theorem Inv.cne (I : Inv X pins σ H s) : ∀ x c, X.env.cells.lookup x = some c → c ≠ X.env.locals := fun x c e z => by
  obtain ⟨v, o, ho, hd⟩ := I.cell x c e
  obtain ⟨m, ⟨o', es, ep, ho', hd', _⟩, _⟩ := I.loc
  rw [z, ho'] at ho; cases ho; rw [hd'] at hd; cases hd
theorem Inv.funs (I : Inv X pins σ H s) : s.heap.FunFrames X.base X.outer := by
  have all : ∀ (l : List Env), (∀ b ∈ frs l, b ∈ X.fs) → X.s_0.heap.FunFrames X.base l → s.heap.FunFrames X.base l := by
    intro l
    induction l with
    | nil => intro _ _; trivial
    | cons env r ih =>
      intro hs hl
      obtain ⟨hk, ⟨L, o, hf, hn, ho, hd⟩, hr⟩ := hl
      have hL : L ∈ X.fs := hs L (by unfold frs; rw [List.filterMap_cons, hf]; exact List.mem_cons_self)
      obtain ⟨sl, e⟩ := I.base.slot L o ho (I.ok.frf L hL) hL fun z => I.ok.exfs L z hL
      exact ⟨hk, ⟨L, _, hf, hn, e, hd⟩, ih (fun b hb => hs b (by unfold frs; rw [List.filterMap_cons, hf]; exact List.mem_cons_of_mem _ hb)) hr⟩
  exact all X.outer (fun _ hb => hb) I.ok.funs

/-- the frames that run, for a call -/
theorem Inv.stack (I : Inv X pins σ H s) : s.heap.FunFrames X.base X.stack := by
  rcases I.ok.stk with e | ⟨e, hf⟩
  · rw [e]; exact I.funs
  · rw [e]
    obtain ⟨m, hn, _⟩ := I.loc
    refine .cons (by rw [I.ok.kind]; decide) hf hn ?_ I.funs
    exact Heap.get?_none_of_le (Nat.le_trans I.ok.bsz I.ok.above)
theorem Inv.stkSub (I : Inv X pins σ H s) : ∀ b ∈ frs X.stack, b ∈ X.env.locals :: X.fs := fun b hb => by
  rcases I.ok.stk with e | ⟨e, hf⟩
  · rw [e] at hb; exact List.mem_cons_of_mem _ hb
  · rw [e] at hb
    unfold frs at hb
    rw [List.filterMap_cons, hf] at hb
    exact hb
theorem Inv.stkFree (I : Inv X pins σ H s) : ∀ b ∈ frs X.stack, H b = none := fun b hb => by
  rcases List.mem_cons.mp (I.stkSub b hb) with e | hb
  · rw [e]; exact I.free
  · obtain ⟨_, o, ho, _⟩ := I.ok.funs.mem hb
    exact I.base.free b o ho (I.ok.frf b hb) fun z => I.ok.exfs b z hb

/-- THE STEP: the untracked objects but the frame and the records at ch are kept (the callers' frames up to slots), the frame's map is kept, the new abstract heap is held -/
theorem Inv.step {g' : Array GenState} {t' : Nat} {d' : Drawn} {ch : List Addr} (I : Inv X pins σ H s)
    (hch : ∀ b ∈ ch, (b ∈ X.ex ∨ X.s_0.heap.objs.size ≤ b) ∧ b ≠ X.env.locals ∧ (∀ x c, X.env.cells.lookup x = some c → c ≠ b) ∧ ∀ p ∈ X.pn ++ pins, p.1 ≠ b)
    (keep : ∀ b o, b ≠ X.env.locals → b ∉ X.fs → b ∉ ch → s.heap.get? b = some o → H b = none → h'.get? b = some o)
    (slot : ∀ b o, b ≠ X.env.locals → b ∈ X.fs → b ∉ ch → s.heap.get? b = some o → H b = none → ∃ sl, h'.get? b = some { o with slots := sl }) (free : ∀ b o, b ∉ ch → s.heap.get? b = some o → H b = none → H' b = none)
    (there : ∀ b o, b ∉ ch → s.heap.get? b = some o → ∃ o', h'.get? b = some o')
    (tups : ∀ b xs, H b = some (.tup xs) → H' b = some (.tup xs)) (frzs : ∀ b o u, H b = some (.frz o u) → H' b = some (.frz o u)) (tbls : ∀ b ps, H b = some (.tbl ps) → ∃ more, H' b = some (.tbl (ps ++ more)))
    (ns : ∀ m, s.heap.Ns X.env.locals m → h'.Ns X.env.locals m) (hok : HOk X.prog X.w H' h') (hg : AllBare g') :
    Inv X pins σ H' { s with heap := h', gens := g', drawn := d', toks := t' } := by
  have neL : ∀ b o, X.s_0.heap.get? b = some o → b ≠ X.env.locals := fun b o e => Nat.ne_of_lt (Nat.lt_of_lt_of_le (Heap.lt_size e) I.ok.above)
  have neC : ∀ b o, X.s_0.heap.get? b = some o → b ∉ X.ex → b ∉ ch := fun b o e hx hb => by
    rcases (hch b hb).1 with z | z
    · exact hx z
    · exact absurd (Nat.lt_of_lt_of_le (Heap.lt_size e) z) (Nat.lt_irrefl _)
  have cellK : ∀ x c, X.env.cells.lookup x = some c → ∀ v, s.heap.IsCell c v → h'.IsCell c v := fun x c e v ⟨o, ho, hd⟩ => by
    have nch : c ∉ ch := fun z => (hch c z).2.2.1 x c e rfl
    by_cases hc : c ∈ X.fs
    · obtain ⟨sl, q⟩ := slot c o (I.cne x c e) hc nch ho (I.freeC x c e)
      exact ⟨_, q, hd⟩
    · exact ⟨o, keep c o (I.cne x c e) hc nch ho (I.freeC x c e), hd⟩
  refine ⟨I.ok, I.os, hg, ⟨fun b o e n hb hx => ?_, fun b o e n hb hx => ?_, fun b o e n hx => ?_, fun b o e hx => ?_, fun b xs e => tups b xs (I.base.tups b xs e), fun b o xs e => frzs b o xs (I.base.frzs b o xs e), fun b ps e => ?_⟩, ?_, fun x c e => ?_, ?_, fun x c e => ?_, fun p hp => ?_, hok, I.len⟩
  · exact keep b o (neL b o e) hb (neC b o e hx) (I.base.keep b o e n hb hx) (I.base.free b o e n hx)
  · obtain ⟨sl, e1⟩ := I.base.slot b o e n hb hx
    obtain ⟨sl', e2⟩ := slot b _ (neL b o e) hb (neC b o e hx) e1 (I.base.free b o e n hx)
    exact ⟨sl', e2⟩
  · obtain ⟨o', e1⟩ := I.base.there b o e hx
    exact free b o' (neC b o e hx) e1 (I.base.free b o e n hx)
  · obtain ⟨o', e1⟩ := I.base.there b o e hx
    exact there b o' (neC b o e hx) e1
  · obtain ⟨m1, e1⟩ := I.base.tbls b ps e
    obtain ⟨m2, e2⟩ := tbls b _ e1
    exact ⟨m1 ++ m2, by rw [e2, Array.append_assoc]⟩
  · obtain ⟨m, hn, hl⟩ := I.loc
    refine ⟨m, ns m hn, fun i x v e1 e2 e3 => ?_⟩
    obtain ⟨u, r, l⟩ := hl i x v e1 e2 e3
    refine ⟨u, r, ?_⟩
    rcases l with l | ⟨k, c, e, z⟩
    · exact .inl l
    · exact .inr ⟨k, c, e, cellK x c e _ z⟩
  · obtain ⟨v, z⟩ := I.cell x c e
    exact ⟨v, cellK x c e v z⟩
  · obtain ⟨m, ⟨o, _, _, ho, _⟩, _⟩ := I.loc
    exact free _ o (fun z => (hch _ z).2.1 rfl) ho I.free
  · obtain ⟨v, o, ho, hd⟩ := I.cell x c e
    exact free c o (fun z => (hch c z).2.2.1 x c e rfl) ho (I.freeC x c e)
  · obtain ⟨e, n, ne, nf, d⟩ := I.pin p hp
    have nch : p.1 ∉ ch := fun z => (hch p.1 z).2.2.2 p hp rfl
    exact ⟨keep p.1 p.2 ne nf nch e n, free p.1 p.2 nch e n, ne, nf, d⟩
/-- .. where the frame's own object is kept too -/
theorem Inv.un {t' : Nat} (I : Inv X pins σ H s) (u : Un X.fs [] H H' s.heap h') (hok : HOk X.prog X.w H' h') : Inv X pins σ H' { s with heap := h', toks := t' } := by
  obtain ⟨m, ⟨o, es, ep, ho, r⟩, _⟩ := id I.loc
  obtain ⟨sl, hL⟩ := u.any ho I.free (by simp)
  exact I.step (g' := s.gens) (d' := s.drawn) (ch := []) (fun _ z => nomatch z) (fun b o _ hb _ e n => u.keep b o e n hb (by simp)) (fun b o _ hb _ e n => u.slot b o e n hb (by simp)) (fun b o _ e n => u.free b o e n (by simp)) (fun b o _ e => u.there b o e (by simp)) u.tups u.frzs u.tbls (fun m' hm => by
    obtain ⟨o', es', ep', ho', r'⟩ := hm
    rw [ho] at ho'; cases ho'
    exact ⟨_, es', ep', hL, r'⟩) hok I.bare
/-- behind a call (or a comprehension's block): the slots of this frame may have changed too, the records at ch may have turned -/
theorem Inv.call {g' : Array GenState} {t' : Nat} {d' : Drawn} {ch : List Addr} (I : Inv X pins σ H s) (u : Un (frs X.stack) ch H H' s.heap h') (hok : HOk X.prog X.w H' h') (hg : AllBare g')
    (hch : ∀ b ∈ ch, (b ∈ X.ex ∨ X.s_0.heap.objs.size ≤ b) ∧ b ≠ X.env.locals ∧ (∀ x c, X.env.cells.lookup x = some c → c ≠ b) ∧ ∀ p ∈ X.pn ++ pins, p.1 ≠ b) :
    Inv X pins σ H' { s with heap := h', gens := g', drawn := d', toks := t' } := by
  obtain ⟨m, ⟨o, es, ep, ho, r⟩, _⟩ := id I.loc
  obtain ⟨sl, hL⟩ := u.any ho I.free fun z => (hch _ z).2.1 rfl
  exact I.step (ch := ch) hch (fun b o hL hb hc e n => u.keep b o e n (fun z => (List.mem_cons.mp (I.stkSub b z)).elim hL hb) hc) (fun b o _ _ hc e n => u.any e n hc) (fun b o hc e n => u.free b o e n hc) (fun b o hc e => u.there b o e hc) u.tups u.frzs u.tbls (fun m' hm => by
    obtain ⟨o', es', ep', ho', r'⟩ := hm
    rw [ho] at ho'; cases ho'
    exact ⟨_, es', ep', hL, r'⟩) hok hg
/-- an untracked record of ours (an iterator) has turned -/
theorem Inv.turned {t' : Nat} {it : Addr} (I : Inv X pins σ H s) (k : ∀ b o, b ≠ it → s.heap.get? b = some o → h'.get? b = some o) (hn : H it = none) (hL : it ≠ X.env.locals)
    (h1 : it ∈ X.ex ∨ X.s_0.heap.objs.size ≤ it) (h2 : ∀ x c, X.env.cells.lookup x = some c → c ≠ it) (h3 : ∀ p ∈ X.pn ++ pins, p.1 ≠ it) : Inv X pins σ H { s with heap := h', toks := t' } := by
  have nit : ∀ b u, H b = some u → b ≠ it := fun b u e z => by rw [z, hn] at e; cases e
  refine I.step (g' := s.gens) (d' := s.drawn) (ch := [it]) (fun b hb => ?_) (fun b o _ _ hc e _ => k b o (fun z => hc (by simp [z])) e) (fun b o _ _ hc e _ => ⟨o.slots, k b o (fun z => hc (by simp [z])) e⟩) (fun _ _ _ _ n => n)
    (fun b o hc e => ⟨o, k b o (fun z => hc (by simp [z])) e⟩) (fun _ _ e => e) (fun _ _ _ e => e) (fun b ps e => ⟨#[], by rw [e]; simp⟩) (fun m hm => ?_) (fun b u e => ?_) I.bare
  · have e : b = it := by simpa using hb
    subst e
    exact ⟨h1, hL, h2, h3⟩
  · obtain ⟨o, es, ep, ho, r⟩ := hm
    exact ⟨o, es, ep, k _ o (Ne.symm hL) ho, r⟩
  · refine (I.hok b u e).stay (fun c v hc q => k c v ?_ q) (fun _ q => q) fun _ _ q => q
    rcases hc with z | z
    · rw [z]; exact nit b u e
    · exact nit c _ z
theorem Inv.tok (I : Inv X pins σ H s) (t : Nat) : Inv X pins σ H { s with toks := t } := I.un (h' := s.heap) (t' := t) Un.refl I.hok
/-- all objects kept -/
theorem Inv.kept {t' : Nat} (I : Inv X pins σ H s) (k : ∀ b u, s.heap.get? b = some u → h'.get? b = some u) : Inv X pins σ H { s with heap := h', toks := t' } := I.un (Un.kept k) (I.hok.kept k)
/-- a new object laid and tracked -/
theorem Inv.laid {a : Addr} {o : HO} {t' : Nat} (I : Inv X pins σ H s) (k : ∀ b u, s.heap.get? b = some u → h'.get? b = some u) (hp : s.heap.objs.size ≤ a) (new : ObjOk X.prog X.w (upd H a o) h' a o) :
    Inv X pins σ (upd H a o) { s with heap := h', toks := t' } := I.un (Un.laid k hp (I.hok.fresh hp)) (I.hok.laid k hp new)
/-- an object written -/
theorem Inv.write {x e : Addr} {o : HO} {t' : Nat} (I : Inv X pins σ H s) (mu : Mut (H x)) (he : e = x ∨ H e = some (.own x)) (k : ∀ b u, b ≠ e → s.heap.get? b = some u → h'.get? b = some u) (heo : ∃ u, h'.get? e = some u)
    (new : ObjOk X.prog X.w (upd H x o) h' x o) : Inv X pins σ (upd H x o) { s with heap := h', toks := t' } := I.un (Un.write mu he k heo) (I.hok.write mu he k heo new)
/-- forgetting slots, pins -/
theorem Inv.weak {σ' : List (Option V)} (I : Inv X pins σ H s) (hl : σ'.length = σ.length) (w : ∀ (i : Nat) v, σ'[i]? = some (some v) → σ[i]? = some (some v)) : Inv X pins σ' H s :=
  ⟨I.ok, I.os, I.bare, I.base, let ⟨m, hn, hl'⟩ := I.loc; ⟨m, hn, fun i x v e1 e2 e3 => hl' i x v e1 (w i v e2) e3⟩, I.cell, I.free, I.freeC, I.pin, I.hok, hl.trans I.len⟩
theorem Inv.pins_of {pins' : List (Addr × Obj)} (I : Inv X pins σ H s) (h : ∀ p ∈ pins', s.heap.get? p.1 = some p.2 ∧ H p.1 = none ∧ p.1 ≠ X.env.locals ∧ p.1 ∉ X.fs ∧ ∀ v, p.2.data ≠ .cell v) : Inv X pins' σ H s :=
  ⟨I.ok, I.os, I.bare, I.base, I.loc, I.cell, I.free, I.freeC, fun p hp => (List.mem_append.mp hp).elim (fun z => I.pin p (List.mem_append_left _ z)) (h p), I.hok, I.len⟩

theorem nodup_ix {N : List Str} (hN : N.Nodup) {i j : Nat} {x : Str} (a : N[i]? = some x) (b : N[j]? = some x) : i = j := by
  obtain ⟨h1, e1⟩ := List.getElem?_eq_some_iff.mp a
  obtain ⟨h2, e2⟩ := List.getElem?_eq_some_iff.mp b
  exact (List.getElem_inj hN).mp (e1.trans e2.symm)

/-- a name is stored; what changed -/
theorem store_ok2 {M : Model} {A : Around} {E : Value → Shared → Prop} {i : Nat} {x : Str} {v : V} {u : Value} {Q : Unit → Shared → Prop} (I : Inv X pins σ H s) (hN : X.N.Nodup) (hi : X.N[i]? = some x) (hx : Loc X.env.scope x) (r : RelV v u)
    (h : ∀ s', Inv X pins (σ.set i (some v)) H s' → (∃ a, Heap.SameBut a s.heap s'.heap ∧ (a = X.env.locals ∨ X.env.cells.lookup x = some a)) → Q () s') (hf : X.fn x = true ∨ X.env.scope.names.lookup x = some .local := by first | exact .inl rfl | exact .inr rfl | assumption) : wpAny M A (storeName X.env x u) Q E s := by
  obtain ⟨m, hn, hl⟩ := id I.loc
  have hcls : (X.env.scope.kind == .class || (X.env.scope.kind == .module && X.env.locals != X.env.globals)) = false := by rw [I.ok.kind]; rfl
  have hiσ : i < σ.length := by rw [I.len]; exact (List.getElem?_eq_some_iff.mp hi).1
  have cne := I.cne
  have tracked : ∀ {a : Addr} {h' : Heap}, (∃ o, s.heap.get? a = some o ∧ H a = none) → Heap.SameBut a s.heap h' → HOk X.prog X.w H h' := fun {a h'} ha hs b ob e => by
    obtain ⟨_, _, hfree⟩ := ha
    refine (I.hok b ob e).stay (fun c w' hc q => (hs.2 c ?_).trans q) (fun _ q => q) fun _ _ q => q
    rintro rfl
    rcases hc with rfl | hc
    · rw [hfree] at e; cases e
    · rw [hfree] at hc; cases hc
  rcases hx with hk | hk
  · refine wpAny_storeName_local hk hn (fun h' hn' hs => ?_) hcls
    obtain ⟨oL, _, _, hoL, _⟩ := id hn
    refine h _ ⟨I.ok, I.os, I.bare, ⟨fun b o e n hb hx => ?_, fun b o e n hb hx => ?_, I.base.free, fun b o e hx => ?_, I.base.tups, I.base.frzs, I.base.tbls⟩, ⟨_, hn', fun j y v' e1 e2 e3 => ?_⟩, fun y c e => ?_, I.free, I.freeC, fun p hp => ?_, tracked ⟨oL, hoL, I.free⟩ hs, by simpa using I.len⟩ ⟨_, hs, .inl rfl⟩
    · exact (hs.2 b (Nat.ne_of_lt (Nat.lt_of_lt_of_le (Heap.lt_size e) I.ok.above))).trans (I.base.keep b o e n hb hx)
    · obtain ⟨sl, e1⟩ := I.base.slot b o e n hb hx
      exact ⟨sl, (hs.2 b (Nat.ne_of_lt (Nat.lt_of_lt_of_le (Heap.lt_size e) I.ok.above))).trans e1⟩
    · obtain ⟨o', e1⟩ := I.base.there b o e hx
      exact ⟨o', (hs.2 b (Nat.ne_of_lt (Nat.lt_of_lt_of_le (Heap.lt_size e) I.ok.above))).trans e1⟩
    · by_cases hj : j = i
      · subst hj
        rw [hi] at e1; cases e1
        rw [List.getElem?_set_self hiσ] at e2
        cases e2
        exact ⟨u, r, .inl ⟨hk, by simp⟩⟩
      · rw [List.getElem?_set_ne (Ne.symm hj)] at e2
        obtain ⟨u', r', q⟩ := hl j y v' e1 e2 e3
        refine ⟨u', r', ?_⟩
        rcases q with ⟨k, e⟩ | ⟨k, c, e, z⟩
        · refine .inl ⟨k, ?_⟩
          have : y ≠ x := fun e => hj (nodup_ix hN e1 (e ▸ hi))
          simp [this, e]
        · exact .inr ⟨k, c, e, z.sameBut hs (cne y c e)⟩
    · obtain ⟨w', z⟩ := I.cell y c e
      exact ⟨w', z.sameBut hs (cne y c e)⟩
    · obtain ⟨e, n, ne, nf, d⟩ := I.pin p hp
      exact ⟨(hs.2 p.1 ne).trans e, n, ne, nf, d⟩
  · have hfn : X.fn x = true := by
      rcases hf with z | z
      · exact z
      · rw [z] at hk; cases hk
    obtain ⟨c, hc⟩ := I.ok.has x (.inl hk)
    obtain ⟨w', z⟩ := I.cell x c hc
    refine wpAny_storeName_cell I.ok.kind hk hc z (fun h' hc' hs => ?_)
    obtain ⟨oc, hoc, hocd⟩ := id z
    refine h { s with heap := h' } ⟨I.ok, I.os, I.bare, ⟨fun b o e n hb hx => ?_, fun b o e n hb hx => ?_, I.base.free, fun b o e hx => ?_, I.base.tups, I.base.frzs, I.base.tbls⟩, ⟨m, hn.sameBut hs (Ne.symm (cne x c hc)), fun j y v' e1 e2 e3 => ?_⟩, fun y c' e => ?_, I.free, I.freeC, fun p hp => ?_, tracked ⟨oc, hoc, I.freeC x c hc⟩ hs, by simpa using I.len⟩ ⟨c, hs, .inr hc⟩
    · exact (hs.2 b (Nat.ne_of_lt (Nat.lt_of_lt_of_le (Heap.lt_size e) (I.ok.cab x c hfn hc)))).trans (I.base.keep b o e n hb hx)
    · obtain ⟨sl, e1⟩ := I.base.slot b o e n hb hx
      exact ⟨sl, (hs.2 b (Nat.ne_of_lt (Nat.lt_of_lt_of_le (Heap.lt_size e) (I.ok.cab x c hfn hc)))).trans e1⟩
    · obtain ⟨o', e1⟩ := I.base.there b o e hx
      exact ⟨o', (hs.2 b (Nat.ne_of_lt (Nat.lt_of_lt_of_le (Heap.lt_size e) (I.ok.cab x c hfn hc)))).trans e1⟩
    · by_cases hj : j = i
      · subst hj
        rw [hi] at e1; cases e1
        rw [List.getElem?_set_self hiσ] at e2
        cases e2
        exact ⟨u, r, .inr ⟨.inl hk, c, hc, hc'⟩⟩
      · rw [List.getElem?_set_ne (Ne.symm hj)] at e2
        obtain ⟨u', r', q⟩ := hl j y v' e1 e2 e3
        refine ⟨u', r', ?_⟩
        rcases q with q | ⟨k, c', e, z'⟩
        · exact .inl q
        · refine .inr ⟨k, c', e, z'.sameBut hs ?_⟩
          rintro rfl
          exact hj (nodup_ix hN e1 (I.ok.inj _ _ _ e hc ▸ hi))
    · by_cases hcc : c' = c
      · subst hcc; exact ⟨_, hc'⟩
      · obtain ⟨w2, z2⟩ := I.cell y c' e
        exact ⟨w2, z2.sameBut hs hcc⟩
    · obtain ⟨e, n, ne, nf, d⟩ := I.pin p hp
      refine ⟨(hs.2 p.1 ?_).trans e, n, ne, nf, d⟩
      intro q
      rw [q, hoc] at e
      have q' : oc = p.2 := Option.some.inj e
      exact d w' (by rw [← q']; exact hocd)
theorem store_ok {M : Model} {A : Around} {E : Value → Shared → Prop} {i : Nat} {x : Str} {v : V} {u : Value} {Q : Unit → Shared → Prop} (I : Inv X pins σ H s) (hN : X.N.Nodup) (hi : X.N[i]? = some x) (hx : Loc X.env.scope x) (r : RelV v u)
    (h : ∀ s', Inv X pins (σ.set i (some v)) H s' → Q () s') (hf : X.fn x = true ∨ X.env.scope.names.lookup x = some .local := by first | exact .inl rfl | exact .inr rfl | assumption) : wpAny M A (storeName X.env x u) Q E s :=
  store_ok2 I hN hi hx r (fun s' I' _ => h s' I') hf
/-- behind a call or a block, the state as it is -/
theorem Inv.call' {s' : Shared} {ch : List Addr} (I : Inv X pins σ H s) (ho : s'.os = s.os) (u : Un (frs X.stack) ch H H' s.heap s'.heap) (hok : HOk X.prog X.w H' s'.heap) (hg : AllBare s'.gens)
    (hch : ∀ b ∈ ch, (b ∈ X.ex ∨ X.s_0.heap.objs.size ≤ b) ∧ b ≠ X.env.locals ∧ (∀ x c, X.env.cells.lookup x = some c → c ≠ b) ∧ ∀ p ∈ X.pn ++ pins, p.1 ≠ b) : Inv X pins σ H' s' := by
  obtain ⟨h', g', d', t', o'⟩ := s'
  have e : o' = s.os := ho
  subst e
  exact I.call (g' := g') (t' := t') (d' := d') u hok hg hch
end

/-! ### the judgements -/
/-- an exception: its class, its own dict's address (where it has one), the abstract heap behind it -/
abbrev XK := Value → Option Addr → Hp → Prop
abbrev St := List (Option V)
abbrev VK := V → Hp → Prop
/-- an expression's reading; a test's; an argument list's -/
abbrev TE := St → Hp → VK → Prop
abbrev TT := St → Hp → (Bool → Hp → Prop) → Prop
abbrev TA := St → Hp → (List V → Hp → Prop) → Prop
/-- what is wanted behind a statement -/
structure Ends where
  nx : St → Hp → Prop
  rt : VK
  bk : St → Hp → Prop := fun _ _ => False
  ct : St → Hp → Prop := fun _ _ => False
abbrev TS := Ends → St → Hp → Prop

def EP (X : Cx) (pins : List (Addr × Obj)) (σ : St) (Q : VK) (u : Value) (s' : Shared) : Prop := ∃ v H', Inv X pins σ H' s' ∧ RelV v u ∧ Q v H'
def TP (X : Cx) (pins : List (Addr × Obj)) (σ : St) (Q : Bool → Hp → Prop) (b : Bool) (s' : Shared) : Prop := ∃ H', Inv X pins σ H' s' ∧ Q b H'
def AP (X : Cx) (pins : List (Addr × Obj)) (σ : St) (Q : List V → Hp → Prop) (us : List Value) (s' : Shared) : Prop := ∃ vs H', Inv X pins σ H' s' ∧ Vals vs us ∧ Q vs H'
def SP (X : Cx) (pins : List (Addr × Obj)) (D : Ends) (f : Flow) (s' : Shared) : Prop :=
  match f with
  | .next => ∃ σ' H', Inv X pins σ' H' s' ∧ D.nx σ' H'
  | .brk => ∃ σ' H', Inv X pins σ' H' s' ∧ D.bk σ' H'
  | .cont => ∃ σ' H', Inv X pins σ' H' s' ∧ D.ct σ' H'
  | .ret u => ∃ v σ' H', Inv X pins σ' H' s' ∧ RelV v u ∧ D.rt v H'

def PE (X : Cx) (e : Expr) (t : TE) : Prop :=
  ∀ (pins : List (Addr × Obj)) (s : Shared) (σ : St) (H : Hp) (Q : VK), Inv X pins σ H s → t σ H Q → wpAny (model X.prog X.w) X.A (eval e X.env) (EP X pins σ Q) X.xe s
def PT (X : Cx) (e : Expr) (t : TT) : Prop :=
  ∀ (pins : List (Addr × Obj)) (s : Shared) (σ : St) (H : Hp) (Q : Bool → Hp → Prop), Inv X pins σ H s → t σ H Q → wpAny (model X.prog X.w) X.A (isTrue e X.env (eval e X.env)) (TP X pins σ Q) X.xe s
/-- a test whatever its 'whole' is (and, or) -/
def PW (X : Cx) (e : Expr) (t : TT) : Prop :=
  ∀ (whole : Sem Value) (pins : List (Addr × Obj)) (s : Shared) (σ : St) (H : Hp) (Q : Bool → Hp → Prop), Inv X pins σ H s → t σ H Q → wpAny (model X.prog X.w) X.A (isTrue e X.env whole) (TP X pins σ Q) X.xe s
theorem PW.pt {X : Cx} {e : Expr} {t : TT} (h : PW X e t) : PT X e t := h _
/-- an argument list (no star), from the left -/
def PA (X : Cx) (es : List Expr) (t : TA) : Prop :=
  ∀ (pos : Pos) (pins : List (Addr × Obj)) (s : Shared) (σ : St) (H : Hp) (Q : List V → Hp → Prop), Inv X pins σ H s → t σ H Q → wpAny (model X.prog X.w) X.A (spliced (backTo pos (starEach es X.env))) (AP X pins σ Q) X.xe s
def PS (X : Cx) (st : Stmt) (t : TS) : Prop :=
  ∀ (pins : List (Addr × Obj)) (s : Shared) (σ : St) (H : Hp) (D : Ends), Inv X pins σ H s → t D σ H → wpAny (model X.prog X.w) X.A (exec st X.env) (SP X pins D) X.xe s
def PSs (X : Cx) (st : List Stmt) (t : TS) : Prop :=
  ∀ (pins : List (Addr × Obj)) (s : Shared) (σ : St) (H : Hp) (D : Ends), Inv X pins σ H s → t D σ H → wpAny (model X.prog X.w) X.A (execs st X.env) (SP X pins D) X.xe s
/-- weaken the end -/
theorem thn {α : Type} {t : Sem α} {Q Q' : α → Shared → Prop} {M : Model} {A : Around} {E : Value → Shared → Prop} {s : Shared} (h : wpAny M A t Q E s) (hQ : ∀ a s, Q a s → Q' a s) : wpAny M A t Q' E s := wpAny_mono h hQ fun _ _ x => x
end L2

namespace L2
open PySem PySem.Spec PyProof.Rows
section
variable {X : Cx}

/-- two expressions in a row -/
theorem bin {a b : Expr} {ta tb : TE} (ha : PE X a ta) (hb : PE X b tb) {pins : List (Addr × Obj)} {s : Shared} {σ : St} {H : Hp} {R : V → V → Hp → Prop} (I : Inv X pins σ H s) (h : ta σ H fun x H1 => tb σ H1 fun y H2 => R x y H2)
    {α : Type} {Q : α → Shared → Prop} {f : Value → Value → Sem α}
    (hf : ∀ v u s2 x y H2, Inv X pins σ H2 s2 → RelV x v → RelV y u → R x y H2 → wpAny (model X.prog X.w) X.A (f v u) Q X.xe s2) :
    wpAny (model X.prog X.w) X.A (eval a X.env) (fun v s₁ => wpAny (model X.prog X.w) X.A (eval b X.env) (fun u s₂ => wpAny (model X.prog X.w) X.A (f v u) Q X.xe s₂) X.xe s₁) X.xe s := by
  refine thn (ha pins s σ H _ I h) fun v s1 ⟨x, H1, I1, r1, q1⟩ => ?_
  refine thn (hb pins s1 σ H1 _ I1 q1) fun u s2 ⟨y, H2, I2, r2, q2⟩ => ?_
  exact hf v u s2 x y H2 I2 r1 r2 q2

/-! ### names and constants -/
def tVar (i : Nat) : TE := fun σ H Q => ∃ v, σ[i]? = some (some v) ∧ Q v H
def tC (v : V) : TE := fun _ H Q => Q v H
theorem pe_var {i : Nat} {x : Str} {pos : Pos} (hN : X.N[i]? = some x) (hv : Vis X.env.scope x) (hd : (x == ("__debug__" : Str)) = false := by decide) (hcd : (x == ("__classdict__" : Str)) = false := by decide) : PE X (.Name x pos) (tVar i) := by
  intro pins s σ H Q I h
  obtain ⟨v, e, h⟩ := h
  obtain ⟨m, hn, hl⟩ := I.loc
  obtain ⟨u, r, l⟩ := hl i x v hN e hv
  have fin : EP X pins σ Q u s := ⟨v, H, I, r, h⟩
  rcases l with ⟨hk, hm⟩ | ⟨hk, c, hc, hcell⟩
  · exact wpAny_Name (wpAny_loadName_local I.ok.kind hk hn hm fin) hd
  · rcases hk with hk | hk
    · exact wpAny_Name (wpAny_loadName_cell I.ok.kind hk hc hcell fin) hd
    · exact wpAny_Name (wpAny_loadName_free I.ok.kind hk hc hcell fin hcd) hd
theorem pe_int {i j pos} : PE X (.Constant (.int i) j pos) (tC (.int i)) := fun _ _ _ H _ I h => wpAny_Constant_int ⟨.int i, H, I.tok _, ⟨_, rfl⟩, h⟩
theorem pe_bl {b j pos} : PE X (.Constant (.bool b) j pos) (tC (.bl b)) := fun _ _ _ H _ I h => Constant_bool ⟨.bl b, H, I, rfl, h⟩
theorem pe_non {j pos} : PE X (.Constant .none j pos) (tC .non) := fun _ _ _ H _ I h => Constant_none ⟨.non, H, I, rfl, h⟩
theorem pe_str {x j pos} : PE X (.Constant (.str x) j pos) (tC (.str x)) := fun _ _ _ H _ I h => Calls.Constant_str ⟨.str x, H, I.tok _, ⟨_, rfl⟩, h⟩

/-- a global name of the def -/
def Gl (X : Cx) (x : Str) : Prop := X.env.kindOf x = some .globalImplicit
theorem ld_glob {E : Value → Shared → Prop} {pins : List (Addr × Obj)} {s : Shared} {σ : St} {H : Hp} {x : Str} {u : Value} {pos : Pos} {Q : Value → Shared → Prop} (I : Inv X pins σ H s) (hg : Gl X x) (hm : X.mg x = some u) (h : Q u s)
    (hd : (x == ("__debug__" : Str)) = false := by decide) : wpAny (model X.prog X.w) X.A (eval (.Name x pos) X.env) Q E s :=
  Calls.Name_function_global I.ok.kind hg (Calls.loadGlobal_global (by rw [I.ok.glob]; exact I.mod.glob.keeps I.bk) hm h) hd
theorem ld_blt {E : Value → Shared → Prop} {pins : List (Addr × Obj)} {s : Shared} {σ : St} {H : Hp} {x : Str} {u : Value} {pos : Pos} {Q : Value → Shared → Prop} (I : Inv X pins σ H s) (hg : Gl X x) (hm : X.mg x = none) (hv : bootBuiltins x = some u) (h : Q u s)
    (hn : x ≠ "__name__" := by decide) (hd : (x == ("__debug__" : Str)) = false := by decide) : wpAny (model X.prog X.w) X.A (eval (.Name x pos) X.env) Q E s := by
  obtain ⟨mb, h1, h2⟩ := I.mod.blt
  exact Calls.Name_function_global I.ok.kind hg (Calls.loadGlobal_builtin (by rw [I.ok.glob]; exact I.mod.glob.keeps I.bk) hm (by rw [I.ok.blt]; exact h1.keeps I.bk) ((h2 x hn).trans hv) h) hd
/-- a module's constant, a class, a function, as a value -/
theorem pe_glob {x : Str} {v : V} {u : Value} {pos : Pos} (hg : Gl X x) (hm : X.mg x = some u) (r : RelV v u) (hd : (x == ("__debug__" : Str)) = false := by decide) : PE X (.Name x pos) (tC v) :=
  fun _ _ _ H _ I h => ld_glob I hg hm ⟨v, H, I, r, h⟩ hd

/-! ### arithmetic -/
variable {a b : Expr} {ta tb : TE} {pos : Pos}

/-! ### comparisons -/
def PC (X : Cx) (op : CmpOp) (a b : Expr) (t : TE) : Prop :=
  ∀ (pins : List (Addr × Obj)) (s : Shared) (σ : St) (H : Hp) (Q : VK), Inv X pins σ H s → t σ H Q →
    wpAny (model X.prog X.w) X.A (eval a X.env) (fun v s₁ => wpAny (model X.prog X.w) X.A (eval b X.env) (fun u s₂ => wpAny (model X.prog X.w) X.A (compareOp op v u) (EP X pins σ Q) X.xe s₂) X.xe s₁) X.xe s
/-- a comparison as a value, as a test -/
def tB (t : TE) : TT := fun σ H Q => t σ H fun x H1 => ∃ c, x = .bl c ∧ Q c H1
theorem pt_cmp {op : CmpOp} {t : TE} (h : PC X op a b t) (h1 : behindInMarks op b = false := by first | exact nobehind _ (by decide) (by decide) | rfl) : PT X (.Compare a [op] [b] pos) (tB t) := by
  intro pins s σ H Q I hw
  refine wpAny_isTrue_Compare1 (thn (h pins s σ H _ I hw) fun v s1 h1 => thn h1 fun u s2 h2 => thn h2 fun c s3 ⟨x, H1, I1, r1, q1⟩ => ?_) h1
  obtain ⟨d, rfl, q⟩ := q1
  cases r1
  exact wpAny_truthy_bool ⟨H1, I1, q⟩
/-- an expression whose value is a bool, as a test -/
theorem pt_val {e : Expr} {t : TE} (h : PE X e t) (he : ∀ whole, isTrue e X.env whole = (do let v ← whole; standAt e.pos; holding [v] (truthy v)) := by intro _; rfl) : PT X e (tB t) := by
  intro pins s σ H Q I hw
  refine isTrue_plain (thn (h pins s σ H _ I hw) fun v s1 ⟨x, H1, I1, r1, q1⟩ => ?_) (he _)
  obtain ⟨d, rfl, q⟩ := q1
  cases r1
  exact wpAny_truthy_bool ⟨H1, I1, q⟩

/-! ### and, or, not -/
variable {tA tB' : TT} {rest : List Expr}
def tAnd (t u : TT) : TT := fun σ H Q => t σ H fun c H1 => if c = true then u σ H1 Q else Q false H1
def tOr (t u : TT) : TT := fun σ H Q => t σ H fun c H1 => if c = true then Q true H1 else u σ H1 Q
def tNot (t : TT) : TT := fun σ H Q => t σ H fun c H1 => Q (!c) H1
theorem pw_and1 (ha : PT X a tA) : PW X (.BoolOp .And [a] pos) tA := by
  intro wh pins s σ H Q I h
  refine isTrue_and (thn (ha pins s σ H Q I h) fun c s1 e => ?_)
  cases c with
  | true => exact isTrue_and_nil e
  | false => exact e
theorem pw_or1 (ha : PT X a tA) : PW X (.BoolOp .Or [a] pos) tA := by
  intro wh pins s σ H Q I h
  refine isTrue_or (thn (ha pins s σ H Q I h) fun c s1 e => ?_)
  cases c with
  | false => exact isTrue_or_nil e
  | true => exact e
theorem pw_and (ha : PT X a tA) (hb : PW X (.BoolOp .And (b :: rest) pos) tB') : PW X (.BoolOp .And (a :: b :: rest) pos) (tAnd tA tB') := by
  intro wh pins s σ H Q I h
  refine isTrue_and (thn (ha pins s σ H _ I h) fun c s1 ⟨H1, I1, q1⟩ => ?_)
  cases c with
  | true => exact hb wh pins s1 σ H1 Q I1 q1
  | false => exact ⟨H1, I1, q1⟩
theorem pw_or (ha : PT X a tA) (hb : PW X (.BoolOp .Or (b :: rest) pos) tB') : PW X (.BoolOp .Or (a :: b :: rest) pos) (tOr tA tB') := by
  intro wh pins s σ H Q I h
  refine isTrue_or (thn (ha pins s σ H _ I h) fun c s1 ⟨H1, I1, q1⟩ => ?_)
  cases c with
  | true => exact ⟨H1, I1, q1⟩
  | false => exact hb wh pins s1 σ H1 Q I1 q1
theorem pt_not (ha : PT X a tA) : PT X (.UnaryOp .Not a pos) (tNot tA) := by
  intro pins s σ H Q I h
  exact isTrue_not (ha pins s σ H (fun c H1 => Q (!c) H1) I h)
/-- .. as values (bools) -/
def tAndV (ta tb : TE) : TE := fun σ H Q => ta σ H fun x H1 => ∃ c, x = .bl c ∧ if c = true then tb σ H1 Q else Q (.bl false) H1
theorem pe_one {op} {t : TE} (h : PE X a t) : PE X (.BoolOp op [a] pos) t := fun pins s σ H Q I hw => BoolOp_one (h pins s σ H Q I hw)
theorem pe_and (ha : PE X a ta) (hb : PE X (.BoolOp .And (b :: rest) pos) tb) : PE X (.BoolOp .And (a :: b :: rest) pos) (tAndV ta tb) := by
  intro pins s σ H Q I h
  refine BoolOp_and (thn (ha pins s σ H _ I h) fun v s1 ⟨x, H1, I1, r1, q1⟩ => ?_)
  obtain ⟨c, rfl, q1⟩ := q1
  cases r1
  refine wpAny_truthy_bool ?_
  cases c with
  | true => exact hb pins s1 σ H1 Q I1 q1
  | false => exact ⟨.bl false, H1, I1, rfl, q1⟩
/-- a if t else b -/
def tIf (t : TT) (ta tb : TE) : TE := fun σ H Q => t σ H fun c H1 => if c = true then ta σ H1 Q else tb σ H1 Q
theorem pe_ifExp {c : Expr} (hc : PT X c tA) (ha : PE X a ta) (hb : PE X b tb) : PE X (.IfExp c a b pos) (tIf tA ta tb) := by
  intro pins s σ H Q I h
  refine wpAny_IfExp (thn (hc pins s σ H _ I h) fun d s1 ⟨H1, I1, q1⟩ => ?_)
  cases d with
  | true => exact ha pins s1 σ H1 Q I1 q1
  | false => exact hb pins s1 σ H1 Q I1 q1
end
end L2

namespace L2
open PySem PySem.Spec PyProof.Rows

/-! ### a list, a tuple that is read: tracked, frozen, or an object of the module -/
def SqL (K : PySem.W.Frag) (H : Hp) (a : Addr) (xs : List V) : Prop :=
  Rd H a (.lst xs) ∨
    ∃ (o : Obj) (its : Array Value) (n : Nat), K.lookup a = some o ∧ o.cls = .type "list" ∧ o.dict = none ∧ o.data = .seq its n ∧ its.size ≤ sizeLine ∧ Vals xs its.toList
def SqT (K : PySem.W.Frag) (H : Hp) (a : Addr) (xs : List V) : Prop :=
  Rd H a (.tup xs) ∨
    ∃ (o : Obj) (its : Array Value) (n : Nat), K.lookup a = some o ∧ o.cls = .type "tuple" ∧ o.data = .seq its n ∧ its.size ≤ sizeLine ∧ Vals xs its.toList
def absV : Value → Option V
  | .none => some .non
  | .bool b => some (.bl b)
  | .int i _ => some (.int i)
  | .str x _ => some (.str x)
  | .bytes b _ => some (.byt b)
  | .float b _ => some (.flt b)
  | .ref a => some (.ref a)
  | .type n => some (.ty n)
  | _ => none
theorem RelV.abs {x : V} {u : Value} (r : RelV x u) : absV u = some x := by
  cases x with
  | non => cases r; rfl
  | bl _ => cases r; rfl
  | int _ => obtain ⟨t, rfl⟩ := r; rfl
  | str _ => obtain ⟨t, rfl⟩ := r; rfl
  | byt _ => obtain ⟨t, rfl⟩ := r; rfl
  | flt _ => obtain ⟨t, rfl⟩ := r; rfl
  | ref _ => cases r; rfl
  | ty _ => cases r; rfl
theorem RelV.inj {x y : V} {u : Value} (r : RelV x u) (q : RelV y u) : x = y := Option.some.inj (r.abs.symm.trans q.abs)
theorem Vals.inj : ∀ {xs ys : List V} {us : List Value}, Vals xs us → Vals ys us → xs = ys
  | _, _, _, .nil, .nil => rfl
  | _, _, _, .cons r t, .cons r' t' => by rw [r.inj r', Vals.inj t t']
section
variable {X : Cx} {pins : List (Addr × Obj)} {σ : St} {H : Hp} {s : Shared} {a : Addr} {xs ys : List V}
theorem SqL.of {K : PySem.W.Frag} (h : H a = some (.lst xs)) : SqL K H a xs := .inl (.inl h)
theorem SqT.of {K : PySem.W.Frag} (h : H a = some (.tup xs)) : SqT K H a xs := .inl (.inl h)
theorem Inv.list (I : Inv X pins σ H s) (h : SqL X.K H a xs) : ∃ its : List Value, Vals xs its ∧ PlainL s.heap a its.toArray ∧ xs.length ≤ sizeLine := by
  rcases h with h | ⟨o, its, n, hk, hc, hd, hs, hz, r⟩
  · obtain ⟨z, its, n, r, e⟩ := h.ok I.hok
    exact ⟨its, r, ⟨_, n, e, rfl, rfl, rfl⟩, z⟩
  · refine ⟨its.toList, r, ⟨o, n, I.kIn a o hk, hc, hd, by simpa using hs⟩, ?_⟩
    have e := r.length
    simp only [Array.length_toList] at e
    omega
theorem Inv.tuple (I : Inv X pins σ H s) (h : SqT X.K H a xs) : ∃ its : List Value, Vals xs its ∧ IsTup s.heap a its.toArray ∧ xs.length ≤ sizeLine := by
  rcases h with h | ⟨o, its, n, hk, hc, hs, hz, r⟩
  · obtain ⟨z, its, r, p⟩ := h.ok I.hok
    exact ⟨its, r, p, z⟩
  · refine ⟨its.toList, r, ⟨o, I.kIn a o hk, hc, n, by simpa using hs⟩, ?_⟩
    have e := r.length
    simp only [Array.length_toList] at e
    omega
theorem Inv.list_inj (I : Inv X pins σ H s) (h : SqL X.K H a xs) (h' : SqL X.K H a ys) : xs = ys := by
  obtain ⟨its, r, ⟨o, n, e, _, _, d⟩, _⟩ := I.list h
  obtain ⟨its', r', ⟨o', n', e', _, _, d'⟩, _⟩ := I.list h'
  rw [e] at e'; cases e'
  rw [d] at d'
  injection d' with d1 _
  have : its = its' := by simpa using congrArg Array.toList d1
  subst this
  exact r.inj r'
end

/-! ### another wish about exceptions -/
abbrev Cx.wish (X : Cx) (E : Value → Shared → Prop) : Cx := { X with xe := E }
/-- no exception leaves -/
abbrev Cx.nox (X : Cx) : Cx := X.wish fun _ _ => False
theorem Cx.Ok.wish {X : Cx} (ok : X.Ok) (E : Value → Shared → Prop) : (X.wish E).Ok :=
  ⟨ok.mod, ok.kind, ok.glob, ok.blt, ok.above, ok.inj, ok.has, ok.cab, ok.hd, ok.frames, ok.stk, ok.exf, ok.bs, ok.bsz, ok.noex, ok.exfs, ok.funs, ok.frf⟩
theorem Cx.Ok.unwish {X : Cx} {E : Value → Shared → Prop} (ok : (X.wish E).Ok) : X.Ok :=
  ⟨ok.mod, ok.kind, ok.glob, ok.blt, ok.above, ok.inj, ok.has, ok.cab, ok.hd, ok.frames, ok.stk, ok.exf, ok.bs, ok.bsz, ok.noex, ok.exfs, ok.funs, ok.frf⟩
section
variable {X : Cx} {pins : List (Addr × Obj)} {σ : St} {H : Hp} {s : Shared} {E : Value → Shared → Prop}
theorem Inv.wish (I : Inv X pins σ H s) (E : Value → Shared → Prop) : Inv (X.wish E) pins σ H s := ⟨I.ok.wish E, I.os, I.bare, I.base, I.loc, I.cell, I.free, I.freeC, I.pin, I.hok, I.len⟩
theorem Inv.unwish (I : Inv (X.wish E) pins σ H s) : Inv X pins σ H s := ⟨I.ok.unwish, I.os, I.bare, I.base, I.loc, I.cell, I.free, I.freeC, I.pin, I.hok, I.len⟩
theorem SP.unwish {D : Ends} {f : Flow} {s' : Shared} (h : SP (X.wish E) pins D f s') : SP X pins D f s' := by
  cases f with
  | next => obtain ⟨σ', H', I, q⟩ := h; exact ⟨σ', H', I.unwish, q⟩
  | brk => obtain ⟨σ', H', I, q⟩ := h; exact ⟨σ', H', I.unwish, q⟩
  | cont => obtain ⟨σ', H', I, q⟩ := h; exact ⟨σ', H', I.unwish, q⟩
  | ret u => obtain ⟨v, σ', H', I, r, q⟩ := h; exact ⟨v, σ', H', I.unwish, r, q⟩
theorem PSs.nox {st : List Stmt} {t : TS} (h : PSs X.nox st t) : PSs X st t := fun pins s σ H D I hw =>
  wpAny_mono (h pins s σ H D (I.wish _) hw) (fun _ _ q => q.unwish) fun _ _ z => False.elim z
end

/-! ### blocks and small statements -/
section
variable {X : Cx} {st : Stmt} {rest : List Stmt} {t u : TS} {e : Expr} {te : TE} {pos : Pos}
def tNext : TS := fun D σ H => D.nx σ H
def tSeq (t u : TS) : TS := fun D σ H => t { D with nx := u D } σ H
theorem pss_nil : PSs X [] tNext := fun _ _ σ H _ I h => wpAny_execs_nil ⟨σ, H, I, h⟩
theorem pss_cons (h1 : PS X st t) (h2 : PSs X rest u) : PSs X (st :: rest) (tSeq t u) := by
  intro pins s σ H D I h
  refine wpAny_execs_cons (thn (h1 pins s σ H { D with nx := u D } I h) fun f s1 q => ?_)
  cases f with
  | next =>
    obtain ⟨σ', H', I', q⟩ := q
    exact h2 pins s1 σ' H' D I' q
  | ret v => exact q
  | brk => exact q
  | cont => exact q
theorem pss_one (h1 : PS X st t) : PSs X [st] t := by
  intro pins s σ H D I h
  refine wpAny_execs_cons (thn (h1 pins s σ H D I h) fun f s1 q => ?_)
  cases f with
  | next => exact wpAny_execs_nil q
  | ret v => exact q
  | brk => exact q
  | cont => exact q
/-- in a def's body nothing is shown -/
theorem Inv.quiet {pins : List (Addr × Obj)} {σ : St} {H : Hp} {s : Shared} (I : Inv X pins σ H s) : interactive X.env = false := by simp [interactive, I.ok.kind]
/-- an expression whose value is dropped -/
def tDrop (te : TE) : TS := fun D σ H => te σ H fun _ H1 => D.nx σ H1
theorem ps_expr (he : PE X e te) (hs : swapsWith e none pos.line X.env = pure false := by rfl) : PS X (.Expr e pos) (tDrop te) := by
  intro pins s σ H D I h
  exact wpAny_Expr_any (thn (he pins s σ H _ I h) fun v s1 ⟨x, H1, I1, r1, q1⟩ => ⟨σ, H1, I1, q1⟩) I.quiet hs
def tRet (te : TE) : TS := fun D σ H => te σ H D.rt
theorem ps_ret (he : PE X e te) : PS X (.Return (some e) pos) (tRet te) := by
  intro pins s σ H D I h
  exact wpAny_Return_some (thn (he pins s σ H _ I h) fun v s1 ⟨x, H1, I1, r1, q1⟩ => ⟨x, σ, H1, I1, r1, q1⟩)
def tIfS (c : TT) (t u : TS) : TS := fun D σ H => c σ H fun b H1 => if b = true then t D σ H1 else u D σ H1
theorem ps_if {c : Expr} {a b : List Stmt} {tc : TT} (hc : PT X c tc) (ha : PSs X a t) (hb : PSs X b u) : PS X (.If c a b pos) (tIfS tc t u) := by
  intro pins s σ H D I h
  refine wpAny_If (thn (hc pins s σ H _ I h) fun d s1 ⟨H1, I1, q1⟩ => ?_)
  cases d with
  | true => exact ha pins s1 σ H1 D I1 q1
  | false => exact hb pins s1 σ H1 D I1 q1
/-- code that the proof never comes to -/
def tNever : TS := fun _ _ _ => False
theorem ps_never : PS X st tNever := fun _ _ _ _ _ _ h => h.elim
end

/-! ### targets -/
abbrev TG := V → St → Hp → (St → Hp → Prop) → Prop
abbrev TGs := List V → St → Hp → (St → Hp → Prop) → Prop
def PG (X : Cx) (target : Expr) (t : TG) : Prop :=
  ∀ (pins : List (Addr × Obj)) (s : Shared) (σ : St) (H : Hp) (v : V) (u : Value) (Q : St → Hp → Prop), Inv X pins σ H s → RelV v u → t v σ H Q →
    wpAny (model X.prog X.w) X.A (assign target X.env u) (fun _ s' => ∃ σ' H', Inv X pins σ' H' s' ∧ Q σ' H') X.xe s
/-- several targets, one after another -/
def PGs (X : Cx) (ts : List Expr) (t : TGs) : Prop :=
  ∀ (pins : List (Addr × Obj)) (s : Shared) (σ : St) (H : Hp) (vs : List V) (us : List Value) (Q : St → Hp → Prop), Inv X pins σ H s → Vals vs us → t vs σ H Q →
    wpAny (model X.prog X.w) X.A (assignInOrder ((assignEach ts X.env).map (·.2)) us) (fun _ s' => ∃ σ' H', Inv X pins σ' H' s' ∧ Q σ' H') X.xe s
/-- o[i] = v, by values -/
abbrev TSet := V → V → V → Hp → (Hp → Prop) → Prop
def PSet (X : Cx) (t : TSet) : Prop :=
  ∀ (pins : List (Addr × Obj)) (s : Shared) (σ : St) (H : Hp) (o i v : V) (ov iv u : Value) (Q : Hp → Prop), Inv X pins σ H s → RelV o ov → RelV i iv → RelV v u → t o i v H Q →
    wpAny (model X.prog X.w) X.A (setItem ov iv u) (fun _ s' => ∃ H', Inv X pins σ H' s' ∧ Q H') X.xe s
section
variable {X : Cx} {pos : Pos}
def gName (i : Nat) : TG := fun v σ H Q => Q (σ.set i (some v)) H
theorem pg_name {i : Nat} {x : Str} (hN : X.N.Nodup) (hi : X.N[i]? = some x) (hx : Loc X.env.scope x) (hf : X.fn x = true ∨ X.env.scope.names.lookup x = some .local := by first | exact .inl rfl | exact .inr rfl | assumption) : PG X (.Name x pos) (gName i) := by
  intro pins s σ H v u Q I r h
  exact wpAny_assign_Name (store_ok I hN hi hx r (fun s' I' => ⟨_, H, I', h⟩) hf)
def gNil : TGs := fun vs σ H Q => vs = [] ∧ Q σ H
def gCons (t : TG) (u : TGs) : TGs := fun vs σ H Q => ∃ v r, vs = v :: r ∧ t v σ H fun σ' H' => u r σ' H' Q
theorem pgs_nil : PGs X [] gNil := by
  intro pins s σ H vs us Q I r h
  obtain ⟨e, h⟩ := h
  subst e
  cases r
  exact assignInOrder_nil ⟨σ, H, I, h⟩
theorem pgs_cons {e : Expr} {es : List Expr} {t : TG} {u : TGs} (h1 : PG X e t) (h2 : PGs X es u)
    (hs : (assignEach (e :: es) X.env).map (·.2) = assign e X.env :: (assignEach es X.env).map (·.2) := by rfl) : PGs X (e :: es) (gCons t u) := by
  intro pins s σ H vs us Q I r h
  obtain ⟨v, vr, e1, h⟩ := h
  subst e1
  cases r with
  | cons r rr =>
    rw [hs]
    refine assignInOrder_cons (thn (h1 pins s σ H _ _ _ I r h) fun _ s1 ⟨σ1, H1, I1, q1⟩ => ?_)
    exact h2 pins s1 σ1 H1 _ _ Q I1 rr q1
/-- (a, b, ..) = a tuple of that length -/
def gTup (K : PySem.W.Frag) (n : Nat) (t : TGs) : TG := fun v σ H Q => ∃ a xs, v = .ref a ∧ SqT K H a xs ∧ xs.length = n ∧ t xs σ H Q
theorem pg_tup {es : List Expr} {k : Nat} {t : TGs} {n : Nat} (hc : X.calm = true) (h : PGs X es t)
    (hn : (assignEach es X.env).length = n := by rfl) (hst : (assignEach es X.env).findIdx? (·.1) = none := by rfl) : PG X (.Tuple es k pos) (gTup X.K n t) := by
  intro pins s σ H v u Q I r hw
  obtain ⟨a, xs, e1, hq, hl, hw⟩ := hw
  subst e1
  cases r
  obtain ⟨its, rv, ht, hz⟩ := I.tuple hq
  refine assign_Tuple_tuple (I.ok.hd hc) ht (by simp [hn, ← hl, rv.length]) hst fun h' hx => ?_
  have I1 : Inv X pins σ H { s with heap := h' } := I.kept (t' := s.toks) fun b o e => hx b o (Nat.ne_of_lt (Heap.lt_size e)) e
  exact h pins _ σ H xs _ Q I1 (by simpa using rv) hw
/-- o[i] = .. -/
def gSub (to ti : TE) (t : TSet) : TG := fun v σ H Q => to σ H fun o H1 => ti σ H1 fun i H2 => t o i v H2 fun H3 => Q σ H3
theorem pg_sub {o i : Expr} {to ti : TE} {t : TSet} (ho : PE X o to) (hi : PE X i ti) (hs : PSet X t)
    (ha : ∀ v, assign (.Subscript o i pos) X.env v = (do
      let ov ← holding [v] (eval o X.env)
      let iv ← holding [v, ov] (eval i X.env)
      standAt pos
      holding [v, ov, iv] (setItem ov iv v)
      release [v, ov, iv] []) := by intro _; rfl) : PG X (.Subscript o i pos) (gSub to ti t) := by
  intro pins s σ H v u Q I r h
  rw [ha]
  refine wpAny_bind (wpAny_holding (thn (ho pins s σ H _ I h) fun ov s1 ⟨x, H1, I1, r1, q1⟩ => ?_))
  refine wpAny_bind (wpAny_holding (thn (hi pins s1 σ H1 _ I1 q1) fun iv s2 ⟨y, H2, I2, r2, q2⟩ => ?_))
  refine wpAny_bind (wpAny_standAt (wpAny_bind (wpAny_holding (thn (hs pins s2 σ H2 x y v ov iv u _ I2 r1 r2 r q2) fun _ s3 ⟨H3, I3, q3⟩ => ?_))))
  exact wpAny_release ⟨σ, H3, I3, q3⟩
/-- target = value -/
def tAsg (te : TE) (g : TG) : TS := fun D σ H => te σ H fun x H1 => g x σ H1 D.nx
theorem ps_asg {tg e : Expr} {te : TE} {g : TG} (he : PE X e te) (hg : PG X tg g) (hs : swapsWithSole [tg] e pos.line X.env = pure false := by rfl) (hw : swappedStores [tg] e X.env = pure none := by rfl)
    (h1 : (assignEach [tg] X.env).map (·.2) = [assign tg X.env] := by rfl) : PS X (.Assign [tg] e pos) (tAsg te g) := by
  intro pins s σ H D I h
  refine wpAny_Assign_stores (thn (he pins s σ H _ I h) fun v s1 ⟨x, H1, I1, r1, q1⟩ => ?_) hs hw
  rw [h1]
  exact thn (hg pins s1 σ H1 x v _ I1 r1 q1) fun _ s2 q => q
/-- name = value -/
theorem ps_set {i : Nat} {x : Str} {e : Expr} {te : TE} {pos' : Pos} (hN : X.N.Nodup) (hi : X.N[i]? = some x) (hx : Loc X.env.scope x) (he : PE X e te) (hs : swapsWith e (some (.Name x pos')) pos.line X.env = pure false := by rfl) (hf : X.fn x = true ∨ X.env.scope.names.lookup x = some .local := by first | exact .inl rfl | exact .inr rfl | assumption) :
    PS X (.Assign [.Name x pos'] e pos) (tAsg te (gName i)) := by
  intro pins s σ H D I h
  refine wpAny_Assign_Name (thn (he pins s σ H _ I h) fun v s1 ⟨y, H1, I1, r1, q1⟩ => ?_) hs
  exact store_ok I1 hN hi hx r1 (fun s2 I2 => ⟨_, H1, I2, q1⟩) hf
end

/-! ### while -/
section
variable {X : Cx} {pos : Pos}
/-- the invariant W with its measure -/
def tWhile (c : TT) (tb : TS) : TS := fun D σ H => ∃ W : Nat → St → Hp → Prop, (∃ m, W m σ H) ∧ ∀ m σ H, W m σ H →
  c σ H fun b H1 => if b = true then ∃ N : St → Hp → Prop, (∀ σ' H', N σ' H' → ∃ m', m' < m ∧ W m' σ' H') ∧ tb { D with nx := N, ct := N, bk := D.nx } σ H1 else D.nx σ H1
theorem ps_while {c : Expr} {body : List Stmt} {tc : TT} {tb : TS} (hp : PassesOwn (model X.prog X.w) X.A X.env X.xe) (hc : PT X c tc) (hb : PSs X body tb) : PS X (.While c body [] pos) (tWhile tc tb) := by
  intro pins s σ H D I h
  obtain ⟨W, ⟨m0, w0⟩, turn⟩ := h
  refine wpAny_While (codeAny_whileLoop (fun n s' => ∃ σ' H', Inv X pins σ' H' s' ∧ W n σ' H') ?_ m0 ⟨σ, H, I, w0⟩)
  rintro n s1 ⟨σ1, H1, I1, w1⟩
  refine wpAny_passesOwn hp (thn (hc pins s1 σ1 H1 _ I1 (turn n σ1 H1 w1)) fun b s2 ⟨H2, I2, q2⟩ => ?_)
  cases b with
  | true =>
    obtain ⟨N, hN, q2⟩ := q2
    rw [if_pos rfl]
    refine wpAny_passesOwn hp (thn (hb pins s2 σ1 H2 _ I2 q2) fun f s3 q3 => ?_)
    cases f with
    | next =>
      obtain ⟨σ3, H3, I3, n3⟩ := q3
      obtain ⟨m', hm, w3⟩ := hN σ3 H3 n3
      exact ⟨m', hm, σ3, H3, I3, w3⟩
    | cont =>
      obtain ⟨σ3, H3, I3, n3⟩ := q3
      obtain ⟨m', hm, w3⟩ := hN σ3 H3 n3
      exact ⟨m', hm, σ3, H3, I3, w3⟩
    | brk => exact q3
    | ret v => exact q3
  | false =>
    rw [if_neg Bool.false_ne_true]
    exact wpAny_execs_nil ⟨σ1, H2, I2, q2⟩
end

/-! ### what a loop or a comprehension walks -/
/-- at turn i: it yields x (the heap may grow), or it stops -/
structure It where
  go : Nat → Hp → Prop
  yld : Nat → Hp → V → Hp → Prop
  stop : Nat → Hp → Prop
/-- the iterator's own objects may turn: they are not the frame's, not pinned, younger than the entry (or a comprehension's own) -/
def FpOk (X : Cx) (pins : List (Addr × Obj)) (H : Hp) (b : Addr) : Prop :=
  H b = none ∧ b ≠ X.env.locals ∧ b ∉ X.fs ∧ (b ∈ X.ex ∨ X.s_0.heap.objs.size ≤ b) ∧ (∀ x c, X.env.cells.lookup x = some c → c ≠ b) ∧ ∀ p ∈ X.pn ++ pins, p.1 ≠ b
theorem Inv.fpOk {X : Cx} {pins : List (Addr × Obj)} {σ : St} {H H' : Hp} {s : Shared} {b : Addr} (I : Inv X pins σ H s) (hb : s.heap.objs.size ≤ b) (hn : H' b = none) : FpOk X pins H' b := by
  refine ⟨hn, Nat.ne_of_gt (Nat.lt_of_lt_of_le I.lt hb), I.nofs hb, .inr (Nat.le_trans I.sz hb), fun x c e z => ?_, fun p hp z => ?_⟩
  · obtain ⟨v, q⟩ := I.cell x c e
    exact absurd (Nat.lt_of_lt_of_le q.lt (by rw [z]; exact hb)) (Nat.lt_irrefl _)
  · exact absurd (Nat.lt_of_lt_of_le (Heap.lt_size (I.pin p hp).1) (by rw [z]; exact hb)) (Nat.lt_irrefl _)
structure Turn (P : Program) (w : World) (K : PySem.W.Frag) (tg : Expr) (J : It) (fp : List Addr) (it : Addr) (tn : Nat → Heap → Prop) : Prop where
  mem : it ∈ fp
  obj : ∀ i h, tn i h → ∀ b ∈ fp, ∃ o, h.get? b = some o ∧ ∀ v, o.data ≠ .cell v
  keep : ∀ i h h', tn i h → (∀ b ∈ fp, ∀ o, h.get? b = some o → h'.get? b = some o) → tn i h'
  item : ∀ (X : Cx), X.prog = P → X.w = w → X.K = K → X.calm = true → ∀ (i : Nat) (pins : List (Addr × Obj)) (s : Shared) (σ : St) (H : Hp) (E : Value → Shared → Prop), Inv X pins σ H s → (∀ b ∈ fp, FpOk X pins H b) → tn i s.heap → J.go i H →
    wpAny (model P w) X.A (pyNext (.ref it)) (fun r s1 => ∃ u, r = some u ∧
      wpAny (model P w) X.A (letOwnedTupleGo tg (.ref it) u) (fun _ s2 => ∃ x H', Inv X pins σ H' s2 ∧ RelV x u ∧ J.yld i H x H' ∧ tn (i + 1) s2.heap ∧ ∀ b ∈ fp, H' b = none) E s1) E s
  done : ∀ (X : Cx), X.prog = P → X.w = w → X.K = K → X.calm = true → ∀ (i : Nat) (pins : List (Addr × Obj)) (s : Shared) (σ : St) (H : Hp) (E : Value → Shared → Prop), Inv X pins σ H s → (∀ b ∈ fp, FpOk X pins H b) → tn i s.heap → J.stop i H →
    wpAny (model P w) X.A (pyNext (.ref it)) (fun r s1 => r = none ∧ Inv X pins σ H s1) E s
  self : ∀ (A : Around) (i : Nat) (s : Shared) (Q : Value → Shared → Prop) (E : Value → Shared → Prop), tn i s.heap → Q (.ref it) s → wpAny (model P w) A (pyIter (.ref it)) Q E s
abbrev TI := St → Hp → (It → Hp → Prop) → Prop
/-- an iterator has come -/
def PIE (X : Cx) (pins : List (Addr × Obj)) (σ : St) (tg : Expr) (R : It → Hp → Prop) (itv : Value) (s2 : Shared) : Prop :=
  ∃ (it : Addr) (fp : List Addr) (tn : Nat → Heap → Prop) (J : It) (H' : Hp), itv = .ref it ∧ Inv X pins σ H' s2 ∧ Turn X.prog X.w X.K tg J fp it tn ∧ tn 0 s2.heap ∧ (∀ b ∈ fp, FpOk X pins H' b) ∧ R J H'
def PI (X : Cx) (tg iter : Expr) (wi : TI) : Prop :=
  ∀ (pins : List (Addr × Obj)) (s : Shared) (σ : St) (H : Hp) (R : It → Hp → Prop), Inv X pins σ H s → wi σ H R →
    wpAny (model X.prog X.w) X.A (eval iter X.env) (fun v s1 => wpAny (model X.prog X.w) X.A (pyIter v) (PIE X pins σ tg R) X.xe s1) X.xe s

/-- the step ahead of the store is nothing for an iterator that keeps no tuple -/
theorem go_of {M : Model} {A : Around} {E : Value → Shared → Prop} {s : Shared} {tg : Expr} {it : Addr} {u : Value} {o : Obj} {n : String} {vs : Array Value} {Q : Unit → Shared → Prop} (ho : s.heap.get? it = some o) (hc : o.cls = .type n) (hd : o.data = .fields vs)
    (hn : ["enumerate", "zip", "dict_itemiterator", "dict_reverseitemiterator", "odict_iterator", "itertools.zip_longest", "itertools.pairwise"].contains n = false) (hQ : Q () s) : wpAny M A (letOwnedTupleGo tg (.ref it) u) Q E s := by
  unfold letOwnedTupleGo
  cases tg <;> first
    | exact wpAny_pure hQ
    | (cases u <;> first
        | exact wpAny_pure hQ
        | (refine wpAny_bind (wpAny_load ho ?_)
           rw [hc, hd]
           show wpAny M A (if (["enumerate", "zip", "dict_itemiterator", "dict_reverseitemiterator", "odict_iterator", "itertools.zip_longest", "itertools.pairwise"].contains n && vs[0]? == some (rawInt _)) = true then _ else _) Q E s
           rw [if_neg (by intro h; rw [hn, Bool.false_and] at h; cases h)]
           exact wpAny_pure hQ))

/-- the list at a, as it stands at each turn (a loop may append to it) -/
def Itl (K : PySem.W.Frag) (a : Addr) : It :=
  ⟨fun i H => ∃ xs x, SqL K H a xs ∧ xs[i]? = some x, fun i H x H' => H' = H ∧ ∀ xs, SqL K H a xs → xs[i]? = some x, fun i H => ∃ xs, SqL K H a xs ∧ xs.length ≤ i⟩
/-- lo, lo + 1, .. (n of them) -/
def Itr (lo : Int) (n : Nat) : It := ⟨fun i _ => i < n, fun i H x H' => H' = H ∧ x = .int (lo + i), fun i _ => n ≤ i⟩
theorem turn_list {P : Program} {w : World} {K : PySem.W.Frag} {tg : Expr} (a it : Addr) : Turn P w K tg (Itl K a) [it] it (fun i h => h.IsListIter it a i) where
  mem := by simp
  obj := fun i h st b hb => by
    have e : b = it := by simpa using hb
    subst e
    obtain ⟨o, e, c, d⟩ := st
    exact ⟨o, e, fun v z => by rw [d] at z; cases z⟩
  keep := fun i h h' st k => st.at fun o e => k it (by simp) o e
  item := by
    intro X hP hw hK hc i pins s σ H E I hf st hg
    subst hP hw hK
    obtain ⟨xs, x, hq, hx⟩ := hg
    obtain ⟨its, rv, p, hz⟩ := I.list hq
    obtain ⟨u, hu, ru⟩ := rv.get hx
    obtain ⟨f0, f1, f2, f3, f4, f5⟩ := hf it (by simp)
    refine wpAny_pyNext_list_item st p.isList (x := u) (by simpa using hu) fun h' st' sb => ?_
    have I1 : Inv X pins σ H { s with heap := h' } := I.turned (t' := s.toks) (fun b o hb e => (sb.2 b hb).trans e) f0 f1 f3 f4 f5
    obtain ⟨o, e, c, d⟩ := id st'
    exact ⟨u, rfl, go_of (s := { s with heap := h' }) e c d (by decide) ⟨x, H, I1, ru, ⟨rfl, fun ys hy => by rw [I.list_inj hy hq]; exact hx⟩, st', fun b hb => (hf b hb).1⟩⟩
  done := by
    intro X hP hw hK hc i pins s σ H E I hf st hg
    subst hP hw hK
    obtain ⟨xs, hq, hx⟩ := hg
    obtain ⟨its, rv, p, hz⟩ := I.list hq
    obtain ⟨f0, f1, f2, f3, f4, f5⟩ := hf it (by simp)
    have hl := rv.length
    exact wpAny_pyNext_list_end (I.ok.hd hc) st p.isList (by simp; omega) fun h' eb => ⟨rfl, I.turned (t' := s.toks) (fun b o hb e => eb b o hb e) f0 f1 f3 f4 f5⟩
  self := fun _ _ _ _ _ st h => wpAny_pyIter_listiter st h
theorem turn_range {P : Program} {w : World} {K : PySem.W.Frag} {tg : Expr} (it : Addr) (lo : Int) (n : Nat) : Turn P w K tg (Itr lo n) [it] it (fun i h => IsRangeIter h it (lo + (i : Nat) * 1) ((n : Int) - (i : Nat)) 1) where
  mem := by simp
  obj := fun i h st b hb => by
    have e : b = it := by simpa using hb
    subst e
    exact ⟨_, st, fun v z => by
      have z' : Data.fields _ = Data.cell v := z
      cases z'⟩
  keep := fun i h h' st k => k it (by simp) _ st
  item := by
    intro X hP hw hK hc i pins s σ H E I hf st hg
    subst hP hw hK
    obtain ⟨f0, f1, f2, f3, f4, f5⟩ := hf it (by simp)
    have W := Walks.range (prog := X.prog) (w := X.w) (I.ok.hd hc) it lo 1 n
    refine W.item i s _ _ hg st fun v h' tk hv st' kk => ?_
    obtain ⟨t, rfl⟩ := hv
    have I1 : Inv X pins σ H { s with heap := h', toks := tk } := I.turned (fun b o hb e => kk b o (by simpa using hb) e) f0 f1 f3 f4 f5
    refine ⟨_, rfl, go_of (s := { s with heap := h', toks := tk }) (n := "range_iterator") st' rfl rfl (by decide) ⟨.int (lo + i), H, I1, ⟨t, ?_⟩, ⟨rfl, rfl⟩, st', fun b hb => (hf b hb).1⟩⟩
    rw [Int.mul_one]
  done := by
    intro X hP hw hK hc i pins s σ H E I hf st hg
    subst hP hw hK
    obtain ⟨f0, f1, f2, f3, f4, f5⟩ := hf it (by simp)
    exact wpAny_pyNext_range_end (I.ok.hd hc) st (by have : n ≤ i := hg; omega) fun h' eb => ⟨rfl, I.turned (t' := s.toks) (fun b o hb e => eb b o hb e) f0 f1 f3 f4 f5⟩
  self := fun _ _ _ _ _ st h => wpAny_pyIter_rangeiter st h
end L2

namespace L2
open PySem PySem.Spec PyProof.Rows
section
variable {X : Cx} {tg : Expr}
def iList (K : PySem.W.Frag) (tl : TE) : TI := fun σ H R => tl σ H fun x H1 => ∃ a, x = .ref a ∧ (∃ xs, SqL K H1 a xs) ∧ R (Itl K a) H1
theorem pi_list {l : Expr} {tl : TE} (hl : PE X l tl) : PI X tg l (iList X.K tl) := by
  intro pins s σ H R I h
  refine thn (hl pins s σ H _ I h) fun v s1 ⟨x, H1, I1, r1, q1⟩ => ?_
  obtain ⟨a, e, ⟨xs, hq⟩, q⟩ := q1
  subst e
  cases r1
  obtain ⟨its, rv, p, hz⟩ := I1.list hq
  refine wpAny_pyIter_list p.isList ?_
  refine ⟨s1.heap.objs.size, [s1.heap.objs.size], _, _, H1, rfl, I1.kept (t' := s1.toks) fun b o e => Heap.get?_push_of_some _ e, turn_list a _, ⟨_, Heap.get?_push_size _ rfl, rfl, rfl⟩, fun b hb => ?_, q⟩
  have e : b = s1.heap.objs.size := by simpa using hb
  subst e
  exact I1.fpOk (Nat.le_refl _) (I1.hok.fresh (Nat.le_refl _))
/-- a range object just made, walked -/
theorem range_it {pins : List (Addr × Obj)} {σ : St} {H : Hp} {s : Shared} {R : It → Hp → Prop} {E : Value → Shared → Prop} {lo hi : Int} {t u v : Tok} {tk : Nat} (I : Inv X pins σ H s) (h1 : -(2 ^ 62) ≤ lo) (h2 : lo < 2 ^ 62) (h3 : -(2 ^ 62) ≤ hi) (h4 : hi < 2 ^ 62)
    (q : R (Itr lo (hi - lo).toNat) H) : wpAny (model X.prog X.w) X.A (pyIter (.ref s.heap.objs.size)) (PIE X pins σ tg R) E { s with heap := s.heap.push { cls := .type "range", data := .fields #[.int lo t, .int hi u, .int 1 v] }, toks := tk } := by
  refine wpAny_pyIter_range (IsRange.new ..) (small_one h1 h2 h3 h4) ?_
  have I1 : Inv X pins σ H { s with heap := s.heap.push { cls := .type "range", data := .fields #[.int lo t, .int hi u, .int 1 v] }, toks := tk } := I.kept fun b o e => Heap.get?_push_of_some _ e
  refine ⟨(s.heap.push { cls := .type "range", data := .fields #[.int lo t, .int hi u, .int 1 v] }).objs.size, [(s.heap.push { cls := .type "range", data := .fields #[.int lo t, .int hi u, .int 1 v] }).objs.size], _, _, H, rfl,
    I1.kept (t' := tk) fun b o e => Heap.get?_push_of_some _ e, turn_range _ lo (hi - lo).toNat, ?_, fun b hb => ?_, q⟩
  · have e1 : lo + ((0 : Nat) : Int) * 1 = lo := by simp
    have e2 : (((hi - lo).toNat : Nat) : Int) - ((0 : Nat) : Int) = Builtin.Range.rangeSize lo hi 1 := by rw [rangeSize_one]; split <;> omega
    show IsRangeIter _ _ (lo + ((0 : Nat) : Int) * 1) ((((hi - lo).toNat : Nat) : Int) - ((0 : Nat) : Int)) 1
    rw [e1, e2]
    exact Heap.get?_push_size _ rfl
  · have e : b = (s.heap.push { cls := .type "range", data := .fields #[.int lo t, .int hi u, .int 1 v] }).objs.size := by simpa using hb
    subst e
    exact I1.fpOk (Nat.le_refl _) (I1.hok.fresh (Nat.le_refl _))
def iRng1 (ta : TA) : TI := fun σ H R => ta σ H fun vs H1 => ∃ j : Int, vs = [.int j] ∧ -(2 ^ 62) ≤ j ∧ j < 2 ^ 62 ∧ R (Itr 0 j.toNat) H1
def iRng2 (ta : TA) : TI := fun σ H R => ta σ H fun vs H1 => ∃ i j : Int, vs = [.int i, .int j] ∧ (-(2 ^ 62) ≤ i ∧ i < 2 ^ 62 ∧ -(2 ^ 62) ≤ j ∧ j < 2 ^ 62) ∧ R (Itr i (j - i).toNat) H1
theorem pi_range1 {a : Expr} {ta : TA} {p pos : Pos} (hg : Gl X "range") (hm : X.mg "range" = none) (ha : PA X [a] ta) (hs : starEach [a] X.env = [(false, eval a X.env)] := by rfl) : PI X tg (.Call (.Name "range" p) [a] [] pos) (iRng1 ta) := by
  intro pins s σ H R I h
  refine Call_ (ld_blt I hg hm boot_range (PyProof.Rows.callWith_type1 (thn (ha pos pins s σ H _ I h) fun us s1 ⟨vs, H1, I1, r1, q1⟩ => ?_) hs rfl))
  obtain ⟨j, e, q1, q2, q⟩ := q1
  subst e
  cases r1 with
  | cons r rr =>
    cases rr
    obtain ⟨t, rfl⟩ := r
    exact call_range_1 (range_it I1 (by omega) (by omega) q1 q2 (by simpa using q))
theorem pi_range2 {a b : Expr} {ta : TA} {p pos : Pos} (hg : Gl X "range") (hm : X.mg "range" = none) (ha : PA X [a, b] ta) (hs : starEach [a, b] X.env = [(false, eval a X.env), (false, eval b X.env)] := by rfl) (hs2 : starEach [b] X.env = [(false, eval b X.env)] := by rfl) :
    PI X tg (.Call (.Name "range" p) [a, b] [] pos) (iRng2 ta) := by
  intro pins s σ H R I h
  refine Call_ (ld_blt I hg hm boot_range (PyProof.Rows.callWith_type1 (thn (ha pos pins s σ H _ I h) fun us s1 ⟨vs, H1, I1, r1, q1⟩ => ?_) (by rw [hs, hs2]) (by rw [hs2]; rfl)))
  obtain ⟨i, j, e, ⟨q1, q2, q3, q4⟩, q⟩ := q1
  subst e
  cases r1 with
  | cons r rr =>
    cases rr with
    | cons r' rr =>
      cases rr
      obtain ⟨t, rfl⟩ := r
      obtain ⟨t', rfl⟩ := r'
      exact call_range_2 (range_it I1 q1 q2 q3 q4 q)

/-! ### for -/
/-- W: the invariant by the turn and a measure; N: what the body is to reach -/
def tFor (wi : TI) (g : TG) (tb : TS) : TS := fun D σ H => wi σ H fun J H1 => ∃ W : Nat → Nat → St → Hp → Prop, (∃ m, W 0 m σ H1) ∧ ∀ i m σ H, W i m σ H →
  (J.stop i H ∧ D.nx σ H) ∨ (J.go i H ∧ ∃ N : St → Hp → Prop, (∀ σ' H', N σ' H' → ∃ m', m' < m ∧ W (i + 1) m' σ' H') ∧ ∀ x H', J.yld i H x H' → g x σ H' fun σ2 H2 => tb { D with nx := N, ct := N, bk := D.nx } σ2 H2)
/-- the records at fp as they stand -/
def pinsAt (fp : List Addr) (h : Heap) : List (Addr × Obj) := fp.filterMap fun b => (h.get? b).map fun o => (b, o)
theorem mem_pinsAt {fp : List Addr} {h : Heap} {b : Addr} {o : Obj} (hb : b ∈ fp) (e : h.get? b = some o) : (b, o) ∈ pinsAt fp h := List.mem_filterMap.mpr ⟨b, hb, by rw [e]; rfl⟩
theorem of_pinsAt {fp : List Addr} {h : Heap} {p : Addr × Obj} (hp : p ∈ pinsAt fp h) : p.1 ∈ fp ∧ h.get? p.1 = some p.2 := by
  obtain ⟨b, hb, e⟩ := List.mem_filterMap.mp hp
  cases q : h.get? b with
  | none => rw [q] at e; cases e
  | some o =>
    rw [q] at e
    have e' : (b, o) = p := Option.some.inj e
    subst e'
    exact ⟨hb, q⟩
theorem Inv.pinned {pins : List (Addr × Obj)} {σ : St} {H : Hp} {s : Shared} {fp : List Addr} (I : Inv X pins σ H s) (hf : ∀ b ∈ fp, FpOk X pins H b) (ho : ∀ b ∈ fp, ∃ o, s.heap.get? b = some o ∧ ∀ v, o.data ≠ .cell v) : Inv X (pins ++ pinsAt fp s.heap) σ H s :=
  I.pins_of fun p hp => (List.mem_append.mp hp).elim (fun z => I.pin p (List.mem_append_right _ z)) fun z => by
    obtain ⟨hb, e⟩ := of_pinsAt z
    obtain ⟨f0, f1, f2, _⟩ := hf p.1 hb
    obtain ⟨o, e', d⟩ := ho p.1 hb
    rw [e] at e'; cases e'
    exact ⟨e, f0, f1, f2, d⟩
theorem Inv.unpinned {pins pl : List (Addr × Obj)} {σ : St} {H : Hp} {s : Shared} (I : Inv X (pins ++ pl) σ H s) : Inv X pins σ H s := I.pins_of fun p hp => I.pin p (List.mem_append_right _ (List.mem_append_left _ hp))
theorem ps_for {iter : Expr} {body : List Stmt} {wi : TI} {g : TG} {tb : TS} {pos : Pos} (hp : PassesOwn (model X.prog X.w) X.A X.env X.xe) (hc : X.calm = true) (hi : PI X tg iter wi) (hg : PG X tg g) (hb : PSs X body tb)
    (hs : ∀ x, foldedSetIterable iter X.env x = pure x := by intro _; rfl) : PS X (.For tg iter body [] pos) (tFor wi g tb) := by
  intro pins s σ H D I h
  refine wpAny_For (thn (hi pins s σ H _ I h) fun v s1 h1 => thn h1 fun itv s2 h2 => ?_) hs
  obtain ⟨it, fp, tn, J, H2, e, I2, T, st2, f2, W, ⟨m0, w0⟩, turn⟩ := h2
  subst e
  -- what stays true of the iterator's objects through the loop
  have stat : ∀ {H' : Hp}, (∀ b ∈ fp, H' b = none) → ∀ b ∈ fp, FpOk X pins H' b := fun hn b hb => ⟨hn b hb, (f2 b hb).2⟩
  refine codeAny_forLoop_any (fun n s' => ∃ i σ' H', Inv X pins σ' H' s' ∧ tn i s'.heap ∧ (∀ b ∈ fp, H' b = none) ∧ W i n σ' H') ?_ m0 ⟨0, σ, H2, I2, st2, fun b hb => (f2 b hb).1, w0⟩
  rintro n s3 ⟨i, σ3, H3, I3, st3, fr3, w3⟩
  rcases turn i n σ3 H3 w3 with ⟨stop, qn⟩ | ⟨go, N, hN, step⟩
  · refine wpAny_passesOwn hp (thn (T.done X rfl rfl rfl hc i pins s3 σ3 H3 X.xe I3 (stat fr3) st3 stop) fun r s4 ⟨hr, I4⟩ => ?_)
    subst hr
    exact wpAny_execs_nil ⟨σ3, H3, I4, qn⟩
  · refine wpAny_passesOwn hp (thn (T.item X rfl rfl rfl hc i pins s3 σ3 H3 X.xe I3 (stat fr3) st3 go) fun r s4 ⟨u, hr, h4⟩ => ?_)
    subst hr
    refine wpAny_passesOwn hp (thn h4 fun _ s5 ⟨x, H5, I5, r5, y5, st5, fr5⟩ => ?_)
    have I5' := I5.pinned (stat fr5) (T.obj _ _ st5)
    refine wpAny_passesOwn hp (thn (hg _ s5 σ3 H5 x u _ I5' r5 (step x H5 y5)) fun _ s6 ⟨σ6, H6, I6, q6⟩ => ?_)
    refine wpAny_passesOwn hp (thn (hb _ s6 σ6 H6 _ I6 q6) fun f s7 q7 => ?_)
    have again : ∀ {σ7 : St} {H7 : Hp}, Inv X (pins ++ pinsAt fp s5.heap) σ7 H7 s7 → N σ7 H7 → ∃ m, m < n ∧ ∃ i σ' H', Inv X pins σ' H' s7 ∧ tn i s7.heap ∧ (∀ b ∈ fp, H' b = none) ∧ W i m σ' H' := fun {σ7 H7} I7 n7 => by
      obtain ⟨m', hm, w7⟩ := hN σ7 H7 n7
      refine ⟨m', hm, i + 1, σ7, H7, I7.unpinned, T.keep _ _ _ st5 fun b hb o e => (I7.pin (b, o) (List.mem_append_right _ (List.mem_append_right _ (mem_pinsAt hb e)))).1, fun b hb => ?_, w7⟩
      obtain ⟨o, e, d⟩ := T.obj _ _ st5 b hb
      exact (I7.pin (b, o) (List.mem_append_right _ (List.mem_append_right _ (mem_pinsAt hb e)))).2.1
    cases f with
    | next => obtain ⟨σ7, H7, I7, n7⟩ := q7; exact again I7 n7
    | cont => obtain ⟨σ7, H7, I7, n7⟩ := q7; exact again I7 n7
    | brk => obtain ⟨σ7, H7, I7, q7⟩ := q7; exact ⟨σ7, H7, I7.unpinned, q7⟩
    | ret v => obtain ⟨x7, σ7, H7, I7, r7, q7⟩ := q7; exact ⟨x7, σ7, H7, I7.unpinned, r7, q7⟩
end

/-! ### the forms one uses -/
theorem for_range {lo : Int} {n : Nat} {g : TG} {tb : TS} {D : Ends} {σ : St} {H : Hp} (Pv : Nat → St → Hp → Prop) (h0 : Pv 0 σ H)
    (hs : ∀ i σ H, i < n → Pv i σ H → g (.int (lo + i)) σ H fun σ2 H2 => tb { D with nx := Pv (i + 1), ct := Pv (i + 1), bk := D.nx } σ2 H2) (hd : ∀ σ H, Pv n σ H → D.nx σ H) :
    ∃ W : Nat → Nat → St → Hp → Prop, (∃ m, W 0 m σ H) ∧ ∀ i m σ H, W i m σ H →
      ((Itr lo n).stop i H ∧ D.nx σ H) ∨ ((Itr lo n).go i H ∧ ∃ N : St → Hp → Prop, (∀ σ' H', N σ' H' → ∃ m', m' < m ∧ W (i + 1) m' σ' H') ∧ ∀ x H', (Itr lo n).yld i H x H' → g x σ H' fun σ2 H2 => tb { D with nx := N, ct := N, bk := D.nx } σ2 H2) := by
  refine ⟨fun i m σ H => m = n - i ∧ i ≤ n ∧ Pv i σ H, ⟨n, by simp, Nat.zero_le _, h0⟩, ?_⟩
  rintro i m σ H ⟨rfl, hi, p⟩
  by_cases hlt : i < n
  · refine .inr ⟨hlt, Pv (i + 1), fun σ' H' p' => ⟨n - (i + 1), by omega, rfl, hlt, p'⟩, fun x H' y => ?_⟩
    obtain ⟨e, y⟩ := y
    subst e y
    exact hs i σ _ hlt p
  · have e : i = n := by omega
    subst e
    exact .inl ⟨Nat.le_refl _, hd σ H p⟩
end L2

namespace L2
open PySem PySem.Spec PyProof.Rows

abbrev R2 := V → V → Hp → VK → Prop
/-- a two-place operation on values: f is binaryOp op, inplaceOp op or compareOp op -/
def OpR (X : Cx) (f : Value → Value → Sem Value) (r : R2) : Prop :=
  ∀ (pins : List (Addr × Obj)) (s : Shared) (σ : St) (H : Hp) (x y : V) (v u : Value) (Q : VK), Inv X pins σ H s → RelV x v → RelV y u → r x y H Q →
    wpAny (model X.prog X.w) X.A (f v u) (EP X pins σ Q) X.xe s
/-- a one-place operation -/
def UnR (X : Cx) (f : Value → Sem Value) (r : V → Hp → VK → Prop) : Prop :=
  ∀ (pins : List (Addr × Obj)) (s : Shared) (σ : St) (H : Hp) (x : V) (v : Value) (Q : VK), Inv X pins σ H s → RelV x v → r x H Q →
    wpAny (model X.prog X.w) X.A (f v) (EP X pins σ Q) X.xe s
/-- a call of a value that is known (a builtin, a type) with values -/
def CallR (X : Cx) (f : Value) (r : List V → Hp → VK → Prop) : Prop :=
  ∀ (pins : List (Addr × Obj)) (s : Shared) (σ : St) (H : Hp) (xs : List V) (us : List Value) (Q : VK), Inv X pins σ H s → Vals xs us → r xs H Q →
    wpAny (model X.prog X.w) X.A (call f us) (EP X pins σ Q) X.xe s

def tOp (r : R2) (ta tb : TE) : TE := fun σ H Q => ta σ H fun x H1 => tb σ H1 fun y H2 => r x y H2 Q
def tUn (r : V → Hp → VK → Prop) (ta : TE) : TE := fun σ H Q => ta σ H fun x H1 => r x H1 Q
/-- ints in, under C, and a value out -/
def rI (C : Int → Int → Prop) (g : Int → Int → V) : R2 := fun x y H Q => ∃ i j, x = .int i ∧ y = .int j ∧ C i j ∧ Q (g i j) H
def rI0 (g : Int → Int → V) : R2 := fun x y H Q => ∃ i j, x = .int i ∧ y = .int j ∧ Q (g i j) H
def rU (g : Int → V) : V → Hp → VK → Prop := fun x H Q => ∃ i, x = .int i ∧ Q (g i) H

section
variable {X : Cx} {a b c : Expr} {ta tb tc : TE} {pos : Pos}

theorem binT (ha : PE X a ta) (hb : PE X b tb) {pins : List (Addr × Obj)} {s : Shared} {σ : St} {H : Hp} {R : V → V → Hp → Prop} (I : Inv X pins σ H s)
    (h : ta σ H fun x H1 => tb σ H1 fun y H2 => R x y H2) {Q : Value → Shared → Prop} {f : Value → Value → Sem Value}
    (hf : ∀ v u s2 x y H2, Inv X pins σ H2 s2 → RelV x v → RelV y u → R x y H2 → wpAny (model X.prog X.w) X.A (f v u) Q X.xe s2) :
    wpAny (model X.prog X.w) X.A (eval a X.env) (fun v s₁ => wpAny (model X.prog X.w) X.A (eval b X.env) (fun u s₂ => wpAny (model X.prog X.w) X.A (f v u) Q X.xe s₂) X.xe s₁) X.xe s := by
  refine thn (ha pins s σ H _ I h) fun v s1 ⟨x, H1, I1, r1, q1⟩ => ?_
  refine thn (hb pins s1 σ H1 _ I1 q1) fun u s2 ⟨y, H2, I2, r2, q2⟩ => ?_
  exact hf v u s2 x y H2 I2 r1 r2 q2

theorem pe_op {op : Operator} {r : R2} (ho : OpR X (binaryOp op) r) (ha : PE X a ta) (hb : PE X b tb) : PE X (.BinOp a op b pos) (tOp r ta tb) := by
  intro pins s σ H Q I h
  exact wpAny_BinOp (binT ha hb I h fun v u s2 x y H2 I2 rx ry q => ho pins s2 σ H2 x y v u Q I2 rx ry q)
theorem pe_un {op : UnaryOp} {r : V → Hp → VK → Prop} (ho : UnR X (unaryOp op) r) (ha : PE X a ta) : PE X (.UnaryOp op a pos) (tUn r ta) := by
  intro pins s σ H Q I h
  exact UnaryOp_ (thn (ha pins s σ H _ I h) fun v s1 ⟨x, H1, I1, r1, q1⟩ => ho pins s1 σ H1 x v Q I1 r1 q1)

/-! ### ints -/
theorem opI {f : Value → Value → Sem Value} {C : Int → Int → Prop} {g : Int → Int → Int}
    (rule : ∀ (i j : Int) (t u : Tok) (s : Shared) (Q : Value → Shared → Prop) (E : Value → Shared → Prop), C i j → Q (.int (g i j) s.toks) { s with toks := s.toks + 1 } → wpAny (model X.prog X.w) X.A (f (.int i t) (.int j u)) Q E s) :
    OpR X f (rI C fun i j => .int (g i j)) := by
  intro pins s σ H x y v u Q I rx ry h
  obtain ⟨i, j, rfl, rfl, hc, q⟩ := h
  obtain ⟨t, rfl⟩ := rx
  obtain ⟨t', rfl⟩ := ry
  exact rule i j t t' s _ _ hc ⟨.int (g i j), H, I.tok _, ⟨_, rfl⟩, q⟩
theorem opI0 {f : Value → Value → Sem Value} {g : Int → Int → Int}
    (rule : ∀ (i j : Int) (t u : Tok) (s : Shared) (Q : Value → Shared → Prop) (E : Value → Shared → Prop), Q (.int (g i j) s.toks) { s with toks := s.toks + 1 } → wpAny (model X.prog X.w) X.A (f (.int i t) (.int j u)) Q E s) :
    OpR X f (rI0 fun i j => .int (g i j)) := by
  intro pins s σ H x y v u Q I rx ry h
  obtain ⟨i, j, rfl, rfl, q⟩ := h
  obtain ⟨t, rfl⟩ := rx
  obtain ⟨t', rfl⟩ := ry
  exact rule i j t t' s _ _ ⟨.int (g i j), H, I.tok _, ⟨_, rfl⟩, q⟩
theorem opB0 {f : Value → Value → Sem Value} {g : Int → Int → Bool}
    (rule : ∀ (i j : Int) (t u : Tok) (s : Shared) (Q : Value → Shared → Prop) (E : Value → Shared → Prop), Q (.bool (g i j)) s → wpAny (model X.prog X.w) X.A (f (.int i t) (.int j u)) Q E s) :
    OpR X f (rI0 fun i j => .bl (g i j)) := by
  intro pins s σ H x y v u Q I rx ry h
  obtain ⟨i, j, rfl, rfl, q⟩ := h
  obtain ⟨t, rfl⟩ := rx
  obtain ⟨t', rfl⟩ := ry
  exact rule i j t t' s _ _ ⟨.bl (g i j), H, I, rfl, q⟩

def CDiv (i j : Int) : Prop := 0 < j ∧ j < 1073741824
def CMul (i j : Int) : Prop := (-(2 ^ 64) < i ∧ i < 2 ^ 64) ∨ (-(2 ^ 64) < j ∧ j < 2 ^ 64)
theorem CMul.ok {i j : Int} (h : CMul i j) : IntMulOk i j := by
  rcases h with ⟨h1, h2⟩ | ⟨h1, h2⟩
  · exact .of_left (intBits_le_64 h1 h2)
  · exact .of_right (intBits_le_64 h1 h2)

theorem op_add : OpR X (binaryOp .Add) (rI0 fun i j => .int (i + j)) := opI0 fun _ _ _ _ _ _ _ q => add_int q
theorem op_sub : OpR X (binaryOp .Sub) (rI0 fun i j => .int (i - j)) := opI0 fun _ _ _ _ _ _ _ q => sub_int q
theorem op_mul : OpR X (binaryOp .Mult) (rI CMul fun i j => .int (i * j)) := opI fun _ _ _ _ _ _ _ hc q => mul_int q hc.ok
/-- // by a positive divisor -/
theorem op_fdiv : OpR X (binaryOp .FloorDiv) (rI CDiv fun i j => .int (i / j)) := opI fun i j _ _ _ _ _ hc q => by
  have h1 : (0 : Int) < j := hc.1
  have h2 : j < 1073741824 := hc.2
  exact floordiv_int (by omega) (by rw [Int.fdiv_eq_ediv_of_nonneg i (by omega)]; exact q) (.inl (PyProof.noPylong_small (by omega)))
/-- % by a positive divisor of any size -/
theorem op_mod : OpR X (binaryOp .Mod) (rI (fun _ j => 0 < j) fun i j => .int (i % j)) := opI fun i j _ _ _ _ _ hc q => by
  have h1 : (0 : Int) < j := hc
  exact mod_int' (by omega) (by rw [Int.fmod_eq_emod_of_nonneg i (by omega)]; exact q)


theorem unI {f : Value → Sem Value} {g : Int → Int}
    (rule : ∀ (i : Int) (t : Tok) (s : Shared) (Q : Value → Shared → Prop) (E : Value → Shared → Prop), Q (.int (g i) s.toks) { s with toks := s.toks + 1 } → wpAny (model X.prog X.w) X.A (f (.int i t)) Q E s) :
    UnR X f (rU fun i => .int (g i)) := by
  intro pins s σ H x v Q I rx h
  obtain ⟨i, rfl, q⟩ := h
  obtain ⟨t, rfl⟩ := rx
  exact rule i t s _ _ ⟨.int (g i), H, I.tok _, ⟨_, rfl⟩, q⟩
theorem un_neg : UnR X (unaryOp .USub) (rU fun i => .int (-i)) := unI fun _ _ _ _ _ q => neg_int q

/-! ### bools among ints: n += (a < b) -/
end

/-! ### comparisons -/
/-- the scalars that == tells apart as data does -/
def scal : V → V → Bool
  | .non, .non => true | .non, .int _ => true | .int _, .non => true | .non, .bl _ => true | .bl _, .non => true | .non, .str _ => true | .str _, .non => true
  | .int _, .int _ => true | .bl _, .bl _ => true | .str _, .str _ => true | .byt _, .byt _ => true
  | .int _, .str _ => true | .str _, .int _ => true | .bl _, .str _ => true | .str _, .bl _ => true
  | _, _ => false
def rEq : R2 := fun x y H Q => scal x y = true ∧ Q (.bl (decide (x = y))) H
def rNe : R2 := fun x y H Q => scal x y = true ∧ Q (.bl (!decide (x = y))) H

theorem dec_int {i j : Int} : decide (V.int i = V.int j) = (i == j) := by
  rw [Bool.eq_iff_iff]
  simp
theorem dec_bl {i j : Bool} : decide (V.bl i = V.bl j) = (i == j) := by
  rw [Bool.eq_iff_iff]
  simp
theorem dec_str {i j : Str} : decide (V.str i = V.str j) = (i == j) := by
  rw [Bool.eq_iff_iff]
  simp
theorem dec_byt {i j : Array UInt8} : decide (V.byt i = V.byt j) = (i.toList == j.toList) := by
  rw [Bool.eq_iff_iff]
  cases i
  cases j
  simp

section
variable {X : Cx} {a b c : Expr} {ta tb tc : TE} {pos : Pos}
theorem fin_bl {pins : List (Addr × Obj)} {σ : St} {H : Hp} {s : Shared} {Q : VK} {k k' : Bool} (I : Inv X pins σ H s) (q : Q (.bl k) H) (e : k = k') : EP X pins σ Q (.bool k') s := by
  subst e
  exact ⟨.bl k, H, I, rfl, q⟩
theorem op_eq : OpR X (compareOp .Eq) rEq := by
  intro pins s σ H x y v u Q I rx ry h
  obtain ⟨hs, q⟩ := h
  cases x with
  | non =>
    cases rx
    cases y with
    | non => cases ry; exact PySem.EqNone.eq_none_none (fin_bl I q (by simp))
    | bl j => cases ry; exact PySem.EqNone.eq_none_bool (fin_bl I q (by simp))
    | int j => obtain ⟨t', rfl⟩ := ry; exact PySem.EqNone.eq_none_int (fin_bl I q (by simp))
    | str j => obtain ⟨t', rfl⟩ := ry; exact PySem.EqNone.eq_none_str (fin_bl I q (by simp))
    | _ => exact absurd (show false = true from hs) Bool.false_ne_true
  | bl i =>
    cases rx
    cases y with
    | non => cases ry; exact PySem.EqNone.eq_bool_none (fin_bl I q (by simp))
    | bl j => cases ry; exact eq_bool (fin_bl I q dec_bl)
    | str j => obtain ⟨t', rfl⟩ := ry; exact PySem.EqMixed.eq_bool_str (fin_bl I q (by simp))
    | _ => exact absurd (show false = true from hs) Bool.false_ne_true
  | int i =>
    obtain ⟨t, rfl⟩ := rx
    cases y with
    | non => cases ry; exact PySem.EqNone.eq_int_none (fin_bl I q (by simp))
    | int j => obtain ⟨t', rfl⟩ := ry; exact eq_int (fin_bl I q dec_int)
    | str j => obtain ⟨t', rfl⟩ := ry; exact PySem.EqMixed.eq_int_str (fin_bl I q (by simp))
    | _ => exact absurd (show false = true from hs) Bool.false_ne_true
  | str i =>
    obtain ⟨t, rfl⟩ := rx
    cases y with
    | non => cases ry; exact PySem.EqNone.eq_str_none (fin_bl I q (by simp))
    | bl j => cases ry; exact PySem.EqMixed.eq_str_bool (fin_bl I q (by simp))
    | int j => obtain ⟨t', rfl⟩ := ry; exact PySem.EqMixed.eq_str_int (fin_bl I q (by simp))
    | str j => obtain ⟨t', rfl⟩ := ry; exact eq_str (fin_bl I q dec_str)
    | _ => exact absurd (show false = true from hs) Bool.false_ne_true
  | byt i =>
    obtain ⟨t, rfl⟩ := rx
    cases y with
    | byt j => obtain ⟨t', rfl⟩ := ry; exact PySem.W.eq_bytes (fin_bl I q dec_byt)
    | _ => exact absurd (show false = true from hs) Bool.false_ne_true
  | _ => cases y <;> exact absurd (show false = true from hs) Bool.false_ne_true
theorem op_ne : OpR X (compareOp .NotEq) rNe := by
  intro pins s σ H x y v u Q I rx ry h
  obtain ⟨hs, q⟩ := h
  cases x with
  | non =>
    cases rx
    cases y with
    | non => cases ry; exact PySem.EqNone.ne_none_none (fin_bl I q (by simp))
    | bl j => cases ry; exact PySem.EqNone.ne_none_bool (fin_bl I q (by simp))
    | int j => obtain ⟨t', rfl⟩ := ry; exact PySem.EqNone.ne_none_int (fin_bl I q (by simp))
    | str j => obtain ⟨t', rfl⟩ := ry; exact PySem.EqNone.ne_none_str (fin_bl I q (by simp))
    | _ => exact absurd (show false = true from hs) Bool.false_ne_true
  | bl i =>
    cases rx
    cases y with
    | non => cases ry; exact PySem.EqNone.ne_bool_none (fin_bl I q (by simp))
    | bl j => cases ry; exact ne_bool (fin_bl I q (congrArg not dec_bl))
    | str j => obtain ⟨t', rfl⟩ := ry; exact PySem.EqMixed.ne_bool_str (fin_bl I q (by simp))
    | _ => exact absurd (show false = true from hs) Bool.false_ne_true
  | int i =>
    obtain ⟨t, rfl⟩ := rx
    cases y with
    | non => cases ry; exact PySem.EqNone.ne_int_none (fin_bl I q (by simp))
    | int j => obtain ⟨t', rfl⟩ := ry; exact ne_int (fin_bl I q (congrArg not dec_int))
    | str j => obtain ⟨t', rfl⟩ := ry; exact PySem.EqMixed.ne_int_str (fin_bl I q (by simp))
    | _ => exact absurd (show false = true from hs) Bool.false_ne_true
  | str i =>
    obtain ⟨t, rfl⟩ := rx
    cases y with
    | non => cases ry; exact PySem.EqNone.ne_str_none (fin_bl I q (by simp))
    | bl j => cases ry; exact PySem.EqMixed.ne_str_bool (fin_bl I q (by simp))
    | int j => obtain ⟨t', rfl⟩ := ry; exact PySem.EqMixed.ne_str_int (fin_bl I q (by simp))
    | str j => obtain ⟨t', rfl⟩ := ry; exact ne_str (fin_bl I q (congrArg not dec_str))
    | _ => exact absurd (show false = true from hs) Bool.false_ne_true
  | byt i =>
    obtain ⟨t, rfl⟩ := rx
    cases y with
    | byt j => obtain ⟨t', rfl⟩ := ry; exact PySem.W.ne_bytes (fin_bl I q (congrArg not dec_byt))
    | _ => exact absurd (show false = true from hs) Bool.false_ne_true
  | _ => cases y <;> exact absurd (show false = true from hs) Bool.false_ne_true

theorem op_lt : OpR X (compareOp .Lt) (rI0 fun i j => .bl (decide (i < j))) := opB0 fun _ _ _ _ _ _ _ q => lt_int q
theorem op_le : OpR X (compareOp .LtE) (rI0 fun i j => .bl (decide (i ≤ j))) := opB0 fun _ _ _ _ _ _ _ q => le_int q
theorem op_gt : OpR X (compareOp .Gt) (rI0 fun i j => .bl (decide (j < i))) := opB0 fun _ _ _ _ _ _ _ q => gt_int q

/-- is None, is not None: the right side a value none -/
theorem op_isN : OpR X (compareOp .Is) (fun x y H Q => y = .non ∧ Q (.bl (decide (x = .non))) H) := by
  intro pins s σ H x y v u Q I rx ry h
  obtain ⟨rfl, q⟩ := h
  cases ry
  refine is_none_gen (fin_bl I q ?_)
  cases x <;> first
    | (cases rx; rfl)
    | (obtain ⟨t, rfl⟩ := rx; rfl)



theorem nomark (b : Expr) {op : CmpOp} (h : op ≠ .In := by decide) (h2 : op ≠ .NotIn := by decide) : behindInMarks op b = false := by
  have e1 : (op == CmpOp.In) = false := by cases op <;> first | rfl | exact absurd rfl h
  have e2 : (op == CmpOp.NotIn) = false := by cases op <;> first | rfl | exact absurd rfl h2
  cases b <;> simp [behindInMarks, e1, e2]
/-- a comparison as a value; hm: nomark b, or (for in, not in) by with_unfolding_all rfl -/
theorem pe_cmpR {op : CmpOp} {r : R2} (ho : OpR X (compareOp op) r) (ha : PE X a ta) (hb : PE X b tb) (hm : behindInMarks op b = false) : PE X (.Compare a [op] [b] pos) (tOp r ta tb) := by
  intro pins s σ H Q I h
  exact wpAny_Compare1 (binT ha hb I h fun v u s2 x y H2 I2 rx ry q => ho pins s2 σ H2 x y v u Q I2 rx ry q) hm
/-- a reading of a value as a test -/
def tTest (t : TE) : TT := fun σ H Q => t σ H fun x H' => ∃ k, x = .bl k ∧ Q k H'
theorem pt_cmpR {op : CmpOp} {r : R2} (ho : OpR X (compareOp op) r) (ha : PE X a ta) (hb : PE X b tb) (hm : behindInMarks op b = false) : PT X (.Compare a [op] [b] pos) (tTest (tOp r ta tb)) := by
  intro pins s σ H Q I h
  refine wpAny_isTrue_Compare1 (thn (ha pins s σ H _ I h) fun v s1 ⟨x, H1, I1, r1, q1⟩ => thn (hb pins s1 σ H1 _ I1 q1) fun u s2 ⟨y, H2, I2, r2, q2⟩ =>
    thn (ho pins s2 σ H2 x y v u _ I2 r1 r2 q2) fun c s3 ⟨z, H3, I3, r3, k, e, q3⟩ => ?_) hm
  subst e
  cases r3
  exact wpAny_truthy_bool ⟨H3, I3, q3⟩
/-- a op1 b op2 c -/
def tChain (r r' : R2) (ta tb tc : TE) : TE := fun σ H Q => ta σ H fun x H1 => tb σ H1 fun y H2 => r x y H2 fun z H3 => ∃ k, z = .bl k ∧
  (if k = true then tc σ H3 fun w' H4 => r' y w' H4 Q else Q (.bl false) H3)
theorem pe_chain {op op' : CmpOp} {r r' : R2} (ho : OpR X (compareOp op) r) (ho' : OpR X (compareOp op') r') (ha : PE X a ta) (hb : PE X b tb) (hc : PE X c tc)
    (hm : lastMarks [op, op'] [b, c] = false := by with_unfolding_all rfl) : PE X (.Compare a [op, op'] [b, c] pos) (tChain r r' ta tb tc) := by
  intro pins s σ H Q I h
  refine Compare_chain (thn (ha pins s σ H _ I h) fun v s1 ⟨x, H1, I1, r1, q1⟩ => chain_link (thn (hb pins s1 σ H1 _ I1 q1) fun u s2 ⟨y, H2, I2, r2, q2⟩ =>
    thn (ho pins s2 σ H2 x y v u _ I2 r1 r2 q2) fun d s3 ⟨z, H3, I3, r3, k, e, q3⟩ => ?_)) hm
  subst e
  cases r3
  refine wpAny_truthy_bool ?_
  cases k with
  | false => exact ite_ff ⟨.bl false, H3, I3, rfl, q3⟩
  | true => exact ite_tt (chain_last (thn (hc pins s3 σ H3 _ I3 q3) fun w' s4 ⟨z', H4, I4, r4, q4⟩ => ho' pins s4 σ H4 y z' u w' Q I4 r2 r4 q4))

/-! ### truth -/
theorem line63 : (sizeLine : Nat) < 2 ^ 63 := by rw [sizeLine_eq]; decide

/-! ### strs and bytes -/
theorem op_add_str : OpR X (binaryOp .Add) (fun x y H Q => ∃ i j, x = .str i ∧ y = .str j ∧ i.length + j.length ≤ sizeLine ∧ Q (.str (i ++ j)) H) := by
  intro pins s σ H x y v u Q I rx ry h
  obtain ⟨i, j, rfl, rfl, hz, q⟩ := h
  obtain ⟨t, rfl⟩ := rx
  obtain ⟨t', rfl⟩ := ry
  exact add_str (fun t' tk => ⟨.str (i ++ j), H, I.tok _, ⟨_, rfl⟩, q⟩) hz


/-! ### scalar builtins, by CallR -/
theorem vals1 {x : V} {us : List Value} (r : Vals [x] us) : ∃ u, us = [u] ∧ RelV x u := by
  cases r with
  | cons r1 r2 => cases r2; exact ⟨_, rfl, r1⟩
theorem vals2 {x y : V} {us : List Value} (r : Vals [x, y] us) : ∃ u w', us = [u, w'] ∧ RelV x u ∧ RelV y w' := by
  cases r with
  | cons r1 r2 =>
    cases r2 with
    | cons r3 r4 => cases r4; exact ⟨_, _, rfl, r1, r3⟩
theorem call_abs : CallR X (.builtin "abs") (fun xs H Q => ∃ i, xs = [.int i] ∧ Q (.int (if i < 0 then -i else i)) H) := by
  intro pins s σ H xs us Q I r h
  obtain ⟨i, rfl, q⟩ := h
  obtain ⟨u, rfl, t, rfl⟩ := vals1 r
  exact call_abs_int fun u tk => ⟨.int (if i < 0 then -i else i), H, I.tok _, ⟨_, rfl⟩, q⟩
theorem call_min2 (hc : X.calm = true) : CallR X (.builtin "min") (fun xs H Q => ∃ i j, xs = [.int i, .int j] ∧ Q (.int (if j < i then j else i)) H) := by
  intro pins s σ H xs us Q I r h
  obtain ⟨i, j, rfl, q⟩ := h
  obtain ⟨u, w', rfl, ⟨t, rfl⟩, ⟨t', rfl⟩⟩ := vals2 r
  refine min_two_ints (I.ok.hd hc) fun h' tk k => ⟨_, H, I.kept k, ?_, q⟩
  by_cases hj : j < i
  · rw [if_pos hj, if_pos hj]; exact ⟨_, rfl⟩
  · rw [if_neg hj, if_neg hj]; exact ⟨_, rfl⟩
theorem call_ord : CallR X (.builtin "ord") (fun xs H Q => ∃ x, xs = [.str x] ∧ x.length = 1 ∧ Q (.int (x.cps.getD 0 0 : Nat)) H) := by
  intro pins s σ H xs us Q I r h
  obtain ⟨x, rfl, hz, q⟩ := h
  obtain ⟨u, rfl, t, rfl⟩ := vals1 r
  exact ord_of_one hz ⟨.int _, H, I.tok _, ⟨_, rfl⟩, q⟩
end
end L2

namespace L2
open PySem PySem.Spec PyProof.Rows

/-! ### an instance, its attributes a map -/
structure ObjM (h : Heap) (x dx C : Addr) (mA : Str → Option Value) : Prop where
  obj : h.get? x = some (PySem.W.instObj C dx)
  ns : h.Ns1 dx mA
  ne : dx ≠ x

theorem lookIn_ns {h : Heap} {dx : Addr} {mA : Str → Option Value} (n : h.Ns1 dx mA) : ∃ od, h.get? dx = some od ∧ ∀ name, PySem.W.lookIn name od = some (mA name) := by
  obtain ⟨o, es, ep, ho, hd, hk, _, hm⟩ := n
  refine ⟨o, ho, fun name => ?_⟩
  have e := hm name
  unfold nsFind findBy at e
  rw [← Array.find?_toList] at e
  unfold PySem.W.lookIn
  rw [hd]
  dsimp only
  split
  · rename_i y q
    rw [q] at e
    exact congrArg some e
  · rename_i q
    rw [q] at e
    have a : es.toList.any (·.refKey) = false := by
      rw [List.any_eq_false]
      intro y hy
      obtain ⟨z, t, hkey⟩ := hk y (Array.mem_toList_iff.mp hy)
      simp [DictEntry.refKey, hkey]
    have a' : ¬ es.toList.any (·.refKey) = true := by rw [a]; exact Bool.false_ne_true
    rw [if_neg a']
    exact congrArg some e

theorem ObjM.look {h : Heap} {x dx C : Addr} {mA : Str → Option Value} (I : ObjM h x dx C mA) : ∃ od, PySem.W.InstAt h x (PySem.W.instObj C dx) C (some od) ∧ ∀ name, PySem.W.lookIn name od = some (mA name) :=
  let ⟨od, ho, hl⟩ := lookIn_ns I.ns
  ⟨od, ⟨I.obj, rfl, rfl, ho⟩, hl⟩

section
variable {prog : Program} {w : World} {A : Around} {E : Value → Shared → Prop} {s : Shared} {K : PySem.W.Frag} {x dx C f : Addr} {mA : Str → Option Value} {name : Str} {v : Value}

theorem get_map {expr : Bool} {Q : Value → Shared → Prop} (X : K.In s.heap) (I : ObjM s.heap x dx C mA) (hg : PySem.W.plainGet K C name = true) (hh : PySem.W.hasDictIn K C = true)
    (ha : PySem.W.findIn K (.ref C) name = some none) (hv : mA name = some v) (hv' : PySem.W.handedIn v = true) (h : Q v { s with toks := s.toks + 1 }) :
    wpAny (model prog w) A (getAttr (.ref x) name expr) Q E s := by
  obtain ⟨od, J, hl⟩ := I.look
  exact PySem.W.get_value X J (PySem.W.plainGet_of hg).1 (PySem.W.findObj_own hh ha rfl (by rw [hl, hv])) hv' h


theorem get_meth {pl : Sem Bool} {Q : Value × List Value → Shared → Prop} (X : K.In s.heap) (I : ObjM s.heap x dx C mA) (hg : PySem.W.plainGet K C name = true)
    (hf : PySem.W.findIn K (.ref C) name = some (some (.ref f))) (ht : PySem.W.isFn K (.ref f) = true) (hv : mA name = none) (h : Q (.ref f, [.ref x]) s) :
    wpAny (model prog w) A (getMethod (.ref x) name pl) Q E s := by
  obtain ⟨od, J, hl⟩ := I.look
  exact PySem.W.method_fn X J (PySem.W.plainGet_of hg).1 (PySem.W.plainGet_of hg).2 hf (beq_iff_eq.mp ht) (by show (PySem.W.lookIn name od).map (·.isSome) = some false; rw [hl, hv]; rfl) h

theorem set_map {ns : List Str} {Q : Unit → Shared → Prop} (X : K.In s.heap) (I : ObjM s.heap x dx C mA)
    (hs : PySem.W.findIn K (.ref C) "__setattr__" = some (some (.builtin "object.__setattr__"))) (hp : PySem.W.plainOver K C = true) (ht : PySem.W.takerIn K C name = some none) (hh : PySem.W.hasDictIn K C = true)
    (hw : PySem.Within mA ns) (hsz : ns.length ≤ sizeLine)
    (h : ∀ h', ObjM h' x dx C (fun y => if y = name then some v else mA y) → Heap.SameBut dx s.heap h' → Q () { s with heap := h', toks := s.toks + 2 }) :
    wpAny (model prog w) A (setAttr (.ref x) name v) Q E s := by
  obtain ⟨od, J, hl⟩ := I.look
  refine PySem.W.set_plain X J hs (PySem.W.osa_open (s := { s with toks := s.toks + 1 }) (r := none) X J hp ht fun b => ?_)
  obtain ⟨cd, hc, hd'⟩ := PySem.W.any_some hh
  have hx : s.heap.get? x = some ⟨.ref C, some dx, .plain, #[]⟩ := I.obj
  refine wpAny_bind (wpAny_pure (wpAny_bind (wpAny_bind (wpAny_loadPart hx (wpAny_bind (PySem.W.Looks.here (s := { s with toks := s.toks + 1 }) (PySem.W.looks_clsIn X hc) ?_))))))
  rw [hd']
  refine wpAny_pure (a := some dx) (wpAny_bind (wpAny_pure (wpAny_bind ?_)))
  refine wpAny_nsSet1 (s := { s with toks := s.toks + 1 }) I.ns fun h' hn2 hs2 => ?_
  obtain ⟨oD, esD, epD, hoD, hdD, hcD⟩ := hn2.count (PySem.Within.cons name v hw)
  refine wpAny_bind (wpAny_lookBehind hoD (by rw [hdD]; exact pastItsLine_dict (Nat.le_trans hcD (by rw [List.length_cons]; omega))) ?_)
  exact wpAny_pure (h _ ⟨(hs2.2 _ (Ne.symm I.ne)).trans I.obj, hn2, I.ne⟩ hs2)

/-- C(..): the dict at the heap's end, the instance behind it; then its __init__ -/
theorem make_map {R : Result → Shared → Prop} {vs : List Value} {kw : List (Str × Value)} (X : K.In s.heap) (hm : PySem.W.makesIn K C = true)
    (hi : PySem.W.findIn K (.ref C) "__init__" = some (some (.ref f))) (hf : PySem.W.typeIn K (.ref f) = some (.type "function"))
    (h : codeAny (model prog w) (A.under (.builtin "type.__call__" ⟨.ref C :: vs, kw⟩)) (.call (.ref f) ⟨.ref (s.heap.objs.size + 1) :: vs, kw⟩) (PySem.W.InitBack (s.heap.objs.size + 1) R)
      { s with heap := (s.heap.push PySem.W.emptyDict).push (PySem.W.instObj C s.heap.objs.size) }) :
    codeAny (model prog w) A (.call (.ref C) ⟨vs, kw⟩) R s := by
  obtain ⟨hh, g, d, t, os⟩ := s
  exact PySem.W.make_core (PySem.W.makes_of X hm) (PySem.W.looks_findIn X hi) (fun self => PySem.W.bind_fn X self hf) (.inl rfl) h
end

/-! ### the attributes as a list of pairs -/
def putF (f : Str) (v : V) : List (Str × V) → List (Str × V)
  | [] => [(f, v)]
  | (g, x) :: r => if g = f then (g, v) :: r else (g, x) :: putF f v r
theorem lookup_putF (f g : Str) (v : V) : ∀ fs : List (Str × V), (putF f v fs).lookup g = if g = f then some v else fs.lookup g
  | [] => by
    show List.lookup g [(f, v)] = _
    by_cases h : g = f
    · have hb : (g == f) = true := beq_iff_eq.mpr h
      simp only [List.lookup, hb, if_pos h]
    · have hb : (g == f) = false := beq_eq_false_iff_ne.mpr h
      simp only [List.lookup, hb, if_neg h]
  | (k, x) :: r => by
    have ih := lookup_putF f g v r
    rw [show putF f v ((k, x) :: r) = (if k = f then (k, v) :: r else (k, x) :: putF f v r) from rfl]
    by_cases hk : k = f
    · rw [if_pos hk]
      by_cases h : g = k
      · have hb : (g == k) = true := beq_iff_eq.mpr h
        simp only [List.lookup, hb, if_pos (h.trans hk)]
      · have hb : (g == k) = false := beq_eq_false_iff_ne.mpr h
        simp only [List.lookup, hb, if_neg (fun e : g = f => h (e.trans hk.symm))]
    · rw [if_neg hk]
      by_cases h : g = k
      · have hb : (g == k) = true := beq_iff_eq.mpr h
        simp only [List.lookup, hb, if_neg (fun e : g = f => hk (h.symm.trans e))]
      · have hb : (g == k) = false := beq_eq_false_iff_ne.mpr h
        simp only [List.lookup, hb]
        exact ih
theorem keys_putF (f : Str) (v : V) : ∀ fs : List (Str × V), f ∈ (putF f v fs).map (·.1) ∧ ∀ g, g ∈ fs.map (·.1) → g ∈ (putF f v fs).map (·.1)
  | [] => ⟨by simp [putF], fun g h => by simp at h⟩
  | (k, x) :: r => by
    obtain ⟨i1, i2⟩ := keys_putF f v r
    rw [show putF f v ((k, x) :: r) = (if k = f then (k, v) :: r else (k, x) :: putF f v r) from rfl]
    by_cases hk : k = f
    · rw [if_pos hk]
      subst hk
      exact ⟨by simp, fun g h => by simpa using h⟩
    · rw [if_neg hk]
      refine ⟨?_, fun g h => ?_⟩
      · rw [List.map_cons]
        exact List.mem_cons_of_mem _ i1
      · rw [List.map_cons] at h ⊢
        rcases List.mem_cons.mp h with e | e
        · exact List.mem_cons.mpr (.inl e)
        · exact List.mem_cons_of_mem _ (i2 g e)
theorem length_putF (f : Str) (v : V) : ∀ fs : List (Str × V), (putF f v fs).length ≤ fs.length + 1
  | [] => by simp [putF]
  | (k, x) :: r => by
    have ih := length_putF f v r
    rw [show putF f v ((k, x) :: r) = (if k = f then (k, v) :: r else (k, x) :: putF f v r) from rfl]
    by_cases hk : k = f
    · rw [if_pos hk, List.length_cons, List.length_cons]; omega
    · rw [if_neg hk, List.length_cons, List.length_cons]; omega

theorem RelO.some_of {v : V} {o : Option Value} (r : RelO (some v) o) : ∃ u, o = some u ∧ RelV v u := by
  cases o with
  | none => exact (show False from r).elim
  | some u => exact ⟨u, rfl, r⟩
theorem RelO.none_of {o : Option Value} (r : RelO none o) : o = none := by
  cases o with
  | none => rfl
  | some u => exact (show False from r).elim
theorem handed_of {v : V} {u : Value} (r : RelV v u) : PySem.W.handedIn u = true := by
  cases v with
  | non => cases (show u = Value.none from r); rfl
  | bl b => cases (show u = Value.bool b from r); rfl
  | int i => obtain ⟨t, e⟩ := (show ∃ t, u = Value.int i t from r); cases e; rfl
  | str x => obtain ⟨t, e⟩ := (show ∃ t, u = Value.str x t from r); cases e; rfl
  | byt b => obtain ⟨t, e⟩ := (show ∃ t, u = Value.bytes b t from r); cases e; rfl
  | flt b => obtain ⟨t, e⟩ := (show ∃ t, u = Value.float b t from r); cases e; rfl
  | ref a => cases (show u = Value.ref a from r); rfl
  | ty n => cases (show u = Value.type n from r); rfl

section
variable {P : Program} {w : World} {H H' : Hp} {h h' : Heap} {a C dx : Addr} {fs fs' : List (Str × V)}
theorem ins_get (hok : HOk P w H h) (e : H a = some (.ins C dx fs)) : ∃ mA, ObjM h a dx C mA ∧ (∀ f, RelO (fs.lookup f) (mA f)) ∧ PySem.Within mA (fs.map (·.1)) ∧ fs.length ≤ 1000 ∧ H dx = some (.own a) := by
  obtain ⟨d, z, ne, ob, mA, n, r, q⟩ := (show ObjOk P w H h a (.ins C dx fs) from hok a _ e)
  exact ⟨mA, ⟨ob, n, ne⟩, r, q, z, d⟩
end

/-! ### what of the text a class must have -/
structure Cls (K : PySem.W.Frag) (C : Addr) : Prop where
  pg : PySem.W.plainGet K C Str.empty = true
  hd : PySem.W.hasDictIn K C = true
  po : PySem.W.plainOver K C = true
  sa : PySem.W.findIn K (.ref C) "__setattr__" = some (some (.builtin "object.__setattr__"))
theorem Cls.get {K : PySem.W.Frag} {C : Addr} (c : Cls K C) (f : Str) : PySem.W.plainGet K C f = true := c.pg
/-- no class of it has the name -/
def NoAttr (K : PySem.W.Frag) (C : Addr) (f : Str) : Prop := PySem.W.findIn K (.ref C) f = some none
theorem NoAttr.taker {K : PySem.W.Frag} {C : Addr} {f : Str} (n : NoAttr K C f) : PySem.W.takerIn K C f = some none := by
  unfold PySem.W.takerIn
  rw [show PySem.W.findIn K (.ref C) f = some none from n]
  rfl
/-- a constant of the class -/
structure Con (K : PySem.W.Frag) (C : Addr) (f : Str) (v : V) (u : Value) : Prop where
  at_ : PySem.W.findIn K (.ref C) f = some (some u)
  rel : RelV v u
  get : PySem.W.specialIn K u "__get__" = some none
  cp : PySem.W.copiedNames.contains f = false
/-- a method: a plain def of the class or of one above it -/
structure Meth (K : PySem.W.Frag) (C : Addr) (m : Str) (f : Addr) : Prop where
  at_ : PySem.W.findIn K (.ref C) m = some (some (.ref f))
  fn : PySem.W.isFn K (.ref f) = true
  kp : PySem.W.keepIn K (.ref f) = true

section
variable {X : Cx} {pins : List (Addr × Obj)} {σ : St} {H : Hp} {s : Shared} {a C dx : Addr} {fs : List (Str × V)} {f : Str} {v : V} {A : Around} {E : Value → Shared → Prop}

theorem getattr_ok {b : Bool} {Q : Value → Shared → Prop} (I : Inv X pins σ H s) (e : H a = some (.ins C dx fs)) (c : Cls X.K C) (n : NoAttr X.K C f) (l : fs.lookup f = some v)
    (h : ∀ u s', Inv X pins σ H s' → RelV v u → Q u s') : wpAny (model X.prog X.w) A (getAttr (.ref a) f b) Q E s := by
  obtain ⟨mA, O, r, _, _, _⟩ := ins_get I.hok e
  obtain ⟨u, hu, ru⟩ := RelO.some_of (v := v) (o := mA f) (by rw [← l]; exact r f)
  exact get_map I.kIn O (c.get f) c.hd n hu (handed_of ru) (h u _ (I.tok _) ru)


theorem getmeth_ok {m : Str} {g : Addr} {pl : Sem Bool} {Q : Value × List Value → Shared → Prop} (I : Inv X pins σ H s) (e : H a = some (.ins C dx fs)) (c : Cls X.K C) (k : Meth X.K C m g) (l : fs.lookup m = none)
    (h : Q (.ref g, [.ref a]) s) : wpAny (model X.prog X.w) A (getMethod (.ref a) m pl) Q E s := by
  obtain ⟨mA, O, r, _, _, _⟩ := ins_get I.hok e
  have hn : mA m = none := RelO.none_of (by rw [← l]; exact r m)
  exact get_meth I.kIn O (c.get m) k.at_ k.fn hn h

theorem setattr_ok {y : V} {u : Value} {Q : Unit → Shared → Prop} (I : Inv X pins σ H s) (e : H a = some (.ins C dx fs)) (c : Cls X.K C) (n : NoAttr X.K C f) (hl : fs.length < 1000) (ry : RelV y u)
    (h : ∀ s', Inv X pins σ (upd H a (.ins C dx (putF f y fs))) s' → Q () s') : wpAny (model X.prog X.w) A (setAttr (.ref a) f u) Q E s := by
  obtain ⟨mA, O, r, wi, _, ho⟩ := ins_get I.hok e
  have hz : (fs.map (·.1)).length ≤ sizeLine := by rw [List.length_map, sizeLine_eq]; omega
  refine set_map I.kIn O c.sa c.po n.taker c.hd wi hz fun h' O' sb => h _ ?_
  have hd : ∃ o, h'.get? dx = some o := let ⟨o, _, _, e', _⟩ := O'.ns; ⟨o, e'⟩
  refine I.write (x := a) (e := dx) (by rw [e]; exact True.intro) (.inr ho) (fun b q hb z => (sb.2 b hb).trans z) hd ?_
  refine ⟨by rw [upd_ne O.ne]; exact ho, ?_, O.ne, O'.obj, _, O'.ns, fun g => ?_, fun g hg => ?_⟩
  · have := length_putF f y fs; omega
  · show RelO ((putF f y fs).lookup g) (if g = f then some u else mA g)
    rw [lookup_putF]
    by_cases q : g = f
    · rw [if_pos q, if_pos q]; exact ry
    · rw [if_neg q, if_neg q]; exact r g
  · by_cases q : g = f
    · rw [q]; exact (keys_putF f y fs).1
    · refine (keys_putF f y fs).2 g (wi g fun z => hg ?_)
      show (if g = f then some u else mA g) = none
      rw [if_neg q]; exact z

/-- a new instance, tracked, without attributes -/
theorem Inv.made (I : Inv X pins σ H s) : Inv X pins σ (upd (upd H s.heap.objs.size (.own (s.heap.objs.size + 1))) (s.heap.objs.size + 1) (.ins C s.heap.objs.size []))
    { s with heap := (s.heap.push PySem.W.emptyDict).push (PySem.W.instObj C s.heap.objs.size) } := by
  have e1 : (s.heap.push PySem.W.emptyDict).get? s.heap.objs.size = some PySem.W.emptyDict := Heap.get?_push_size s.heap rfl
  have e2 : ((s.heap.push PySem.W.emptyDict).push (PySem.W.instObj C s.heap.objs.size)).get? (s.heap.objs.size + 1) = some (PySem.W.instObj C s.heap.objs.size) := by
    have := Heap.get?_push_size (s.heap.push PySem.W.emptyDict) (o := PySem.W.instObj C s.heap.objs.size) rfl
    rwa [Heap.size_push] at this
  have e3 : (s.heap.push PySem.W.emptyDict).Ns s.heap.objs.size (fun _ => none) := ⟨PySem.W.emptyDict, #[], _, e1, rfl, (fun e he => absurd he (by simp)), fun _ => rfl⟩
  have I1 := I.laid (a := s.heap.objs.size) (o := .own (s.heap.objs.size + 1)) (h' := s.heap.push PySem.W.emptyDict) (t' := s.toks) (fun b u q => Heap.get?_push_of_some _ q) (Nat.le_refl _) ⟨_, e1⟩
  refine I1.laid (a := s.heap.objs.size + 1) (o := .ins C s.heap.objs.size []) (t' := s.toks) (fun b u q => Heap.get?_push_of_some _ q) (Nat.le_of_eq (Heap.size_push _ _)) ?_
  have ne : s.heap.objs.size ≠ s.heap.objs.size + 1 := Nat.ne_of_lt (Nat.lt_succ_self _)
  refine ⟨by rw [upd_ne ne, upd_same], Nat.zero_le _, ne, e2, fun _ => none, (Heap.Ns1.of_empty e3).at fun o q => Heap.get?_push_of_some _ q, fun _ => True.intro, fun y hy => absurd rfl hy⟩

/-- e.f where nothing but the object is asked: through attributeBase (super) and the last hold -/
theorem attr_of {prog : Program} {w : World} {env : Env} {e : Expr} {f : Str} {pos : Pos} {s : Shared} {Q : Value → Shared → Prop} (hb : attributeBase e f env (eval e env) = eval e env)
    (h : wpAny (model prog w) A (eval e env) (fun o s₁ => wpAny (model prog w) A (getAttr o f true) Q E s₁) E s) : wpAny (model prog w) A (eval (.Attribute e f pos) env) Q E s :=
  Attribute_any_ h (by rw [arm_eval_Attribute, hb])
end

/-! ### readings and rules -/
/-- e.f, an attribute of the instance -/
def tFld (K : PySem.W.Frag) (ta : TE) (f : Str) : TE := fun σ H Q => ta σ H fun x H1 => ∃ a C dx fs v, x = .ref a ∧ H1 a = some (.ins C dx fs) ∧ Cls K C ∧ NoAttr K C f ∧ fs.lookup f = some v ∧ Q v H1
/-- e.f = value -/
def sFld (K : PySem.W.Frag) (ta tv : TE) (f : Str) : TS := fun D σ H => tv σ H fun y H1 => ta σ H1 fun x H2 => ∃ a C dx fs, x = .ref a ∧ H2 a = some (.ins C dx fs) ∧ Cls K C ∧ NoAttr K C f ∧ fs.length < 1000 ∧
  D.nx σ (upd H2 a (.ins C dx (putF f y fs)))
/-- an augmented operator on two values -/
def InOp (X : Cx) (op : Operator) (rd : V → V → Hp → VK → Prop) : Prop :=
  ∀ (pins : List (Addr × Obj)) (s : Shared) (σ : St) (H : Hp) (x y : V) (u v : Value) (Q : VK), Inv X pins σ H s → RelV x u → RelV y v → rd x y H Q → wpAny (model X.prog X.w) X.A (inplaceOp op u v) (EP X pins σ Q) X.xe s
/-- e.f op= value -/
def sFldAug (K : PySem.W.Frag) (ta tv : TE) (rd : V → V → Hp → VK → Prop) (f : Str) : TS := fun D σ H => ta σ H fun x H1 => ∃ a C dx fs v, x = .ref a ∧ H1 a = some (.ins C dx fs) ∧ Cls K C ∧ NoAttr K C f ∧ fs.lookup f = some v ∧
  tv σ H1 fun y H2 => rd v y H2 fun z H3 => ∃ dx' fs', H3 a = some (.ins C dx' fs') ∧ fs'.length < 1000 ∧ D.nx σ (upd H3 a (.ins C dx' (putF f z fs')))

section
variable {X : Cx} {o e value : Expr} {f : Str} {pos pos' tpos : Pos} {ta tv : TE}
theorem pe_fld (he : PE X e ta) (hb : attributeBase e f X.env (eval e X.env) = eval e X.env) : PE X (.Attribute e f pos) (tFld X.K ta f) := by
  intro pins s σ H Q I h
  refine attr_of hb (thn (he pins s σ H _ I h) fun u s1 ⟨x, H1, I1, rx, a, C, dx, fs, v, ex, ea, c, n, l, q⟩ => ?_)
  subst ex
  obtain rfl : u = Value.ref a := rx
  exact getattr_ok I1 ea c n l fun u' s2 I2 ru => ⟨v, H1, I2, ru, q⟩
theorem ps_fld (ha : PE X o ta) (hv : PE X value tv) (hs : swapsWith value (some (.Attribute o f pos')) pos.line X.env = pure false) : PS X (.Assign [.Attribute o f pos'] value pos) (sFld X.K ta tv f) := by
  intro pins s σ H D I h
  refine plainObj_wpAny_Assign_Attribute (thn (hv pins s σ H _ I h) fun u s1 ⟨y, H1, I1, ry, q⟩ => thn (ha pins s1 σ H1 _ I1 q) fun ov s2 ⟨x, H2, I2, rx, a, C, dx, fs, ex, ea, c, n, l, q2⟩ => ?_) hs
  subst ex
  obtain rfl : ov = Value.ref a := rx
  exact setattr_ok I2 ea c n l ry fun s3 I3 => ⟨σ, _, I3, q2⟩
theorem ps_fldaug {op : Operator} {rd : V → V → Hp → VK → Prop} (ha : PE X o ta) (hv : PE X value tv) (hop : InOp X op rd) : PS X (.AugAssign (.Attribute o f tpos) op value pos) (sFldAug X.K ta tv rd f) := by
  intro pins s σ H D I h
  refine wpAny_AugAssign_AttributeAny (thn (ha pins s σ H _ I h) fun ov s1 ⟨x, H1, I1, rx, a, C, dx, fs, v, ex, ea, c, n, l, q⟩ => ?_)
  subst ex
  obtain rfl : ov = Value.ref a := rx
  refine getattr_ok I1 ea c n l fun u s2 I2 ru => thn (hv pins s2 σ H1 _ I2 q) fun w3 s3 ⟨y, H2, I3, ry, q3⟩ => thn (hop pins s3 σ H2 v y u w3 _ I3 ru ry q3) fun w4 s4 ⟨z, H3, I4, rz, dx', fs', ea', l', q4⟩ => ?_
  exact setattr_ok I4 ea' c n l' rz fun s5 I5 => ⟨σ, _, I5, q4⟩
def rAdd : V → V → Hp → VK → Prop := fun x y H Q => ∃ i j, x = .int i ∧ y = .int j ∧ Q (.int (i + j)) H
theorem in_add : InOp X .Add rAdd := by
  rintro pins s σ H x y u v Q I rx ry ⟨i, j, rfl, rfl, q⟩
  obtain ⟨t, rfl⟩ := (show ∃ t, u = Value.int i t from rx)
  obtain ⟨t', rfl⟩ := (show ∃ t', v = Value.int j t' from ry)
  exact PyProof.Rows.iadd_int ⟨.int (i + j), H, I.tok _, ⟨_, rfl⟩, q⟩

/-- what is between an instance and its method: the tree of a method call -/
theorem methcall_of {pl : Sem Bool} {m : Str} {apos : Pos} {args : List Expr} {pins : List (Addr × Obj)} {s : Shared} {σ : St} {H : Hp} {Q : Value → Shared → Prop} {te : TE} (he : PE X e te) (I : Inv X pins σ H s)
    (h : te σ H fun x H1 => ∃ a C dx fs g, x = .ref a ∧ H1 a = some (.ins C dx fs) ∧ Cls X.K C ∧ Meth X.K C m g ∧ fs.lookup m = none ∧
      ∀ s1, Inv X pins σ H1 s1 → wpAny (model X.prog X.w) X.A (callWith pos (.ref g) [.ref a] (backTo pos (starEach args X.env)) (backToKw pos (keywordEach [] X.env))) Q X.xe s1)
    (ht : eval (.Call (.Attribute e m apos) args [] pos) X.env = (do
      let ov ← eval e X.env
      standAt apos.atName
      let (f, first) ← holding [ov] (getMethod ov m pl)
      callWith pos f first (backTo pos (starEach args X.env)) (backToKw pos (keywordEach [] X.env)))) :
    wpAny (model X.prog X.w) X.A (eval (.Call (.Attribute e m apos) args [] pos) X.env) Q X.xe s := by
  refine PySem.W.methodCall_KW (pl := pl) (thn (he pins s σ H _ I h) fun u s1 ⟨x, H1, I1, rx, a, C, dx, fs, g, ex, ea, c, k, l, q⟩ => ?_) ht
  subst ex
  obtain rfl : u = Value.ref a := rx
  exact getmeth_ok I1 ea c k l (q s1 I1)
end

/-! ### isinstance -/
section
variable {X : Cx} {pins : List (Addr × Obj)} {σ : St} {H : Hp} {s : Shared} {A : Around} {E : Value → Shared → Prop} {Q : Value → Shared → Prop} {c : Value} {b : Bool}
/-- the type of a value, as the fragment's deciders take it; for an instance its class -/
inductive TyOf (K : PySem.W.Frag) (H : Hp) : V → Value → Prop where
  | non : TyOf K H .non (.type "NoneType")
  | bl (x : Bool) : TyOf K H (.bl x) (.type "bool")
  | int (i : Int) : TyOf K H (.int i) (.type "int")
  | str (x : Str) : TyOf K H (.str x) (.type "str")
  | flt (x : UInt64) : TyOf K H (.flt x) (.type "float")
  | lst {a : Addr} {xs : List V} (e : H a = some (.lst xs)) : TyOf K H (.ref a) (.type "list")
  | frz {a : Addr} {o : Obj} {xs : List V} (e : H a = some (.frz o (.lst xs))) : TyOf K H (.ref a) (.type "list")
  | tup {a : Addr} {xs : List V} (e : H a = some (.tup xs)) : TyOf K H (.ref a) (.type "tuple")
  | dK {a : Addr} {kvs : List (Key × V)} (e : H a = some (.dK kvs)) : TyOf K H (.ref a) (.type "dict")
  | dT {a : Addr} {kvs : List (List Key × V)} (e : H a = some (.dT kvs)) : TyOf K H (.ref a) (.type "dict")
  | ins {a C dx : Addr} {fs : List (Str × V)} (e : H a = some (.ins C dx fs)) (cl : Cls K C) (ha : PySem.W.findIn K (.ref C) "__class__" = some (some (.builtin "object.__class__")))
      (hn : PySem.W.specialIn K (.builtin "object.__class__") "__get__" = some (some (.builtin "getset_descriptor.__get__"))) (htk : PySem.W.takesIn K (.builtin "object.__class__") = some true)
      (hm : PySem.W.mroIn K C (.type "object") = some true) : TyOf K H (.ref a) (.ref C)
end
end L2

namespace L2
open PySem PySem.Spec PyProof.Rows

/-! ### room -/
structure Room (k : Nat) (A : Around) : Prop where
  hd : A.handled = none
  dp : A.depth + 3 * k + 5 < recursionLimit
  un : A.units + 16 * k + 200 < cLine
theorem Room.mono {j k : Nat} {A : Around} (r : Room k A) (h : j ≤ k) : Room j A := ⟨r.hd, by have := r.dp; omega, by have := r.un; omega⟩
theorem Room.deeper {k : Nat} {A : Around} (r : Room (k + 1) A) (env : Env) : Room k (A.deeper env) :=
  ⟨r.hd, by have := r.dp; show A.depth + 1 + 3 * k + 5 < _; omega, by have := r.un; show A.units + 3 + 16 * k + 200 < _; omega⟩
theorem make_depth {A : Around} {C : Addr} {us : List Value} {kw : List (Str × Value)} : (A.under (.builtin "type.__call__" ⟨.ref C :: us, kw⟩)).depth = A.depth + 1 := by
  first | rfl | simp [Around.under, Code.weight, Code.isCreation, Code.isGuard, Code.isCaller, Code.frames, Code.isFrame, guardIds]
theorem make_units {A : Around} {C : Addr} {us : List Value} {kw : List (Str × Value)} : (A.under (.builtin "type.__call__" ⟨.ref C :: us, kw⟩)).units = A.units + 1 := by
  first | rfl | simp [Around.under, Code.cUnits, Code.frames, Code.isFrame]
theorem Room.make {k : Nat} {A : Around} (r : Room (k + 1) A) (C : Addr) (us : List Value) (kw : List (Str × Value)) : Room k (A.under (.builtin "type.__call__" ⟨.ref C :: us, kw⟩)) :=
  ⟨r.hd, by have := r.dp; rw [make_depth]; omega, by have := r.un; rw [make_units]; omega⟩
theorem Room.depth {k : Nat} {A : Around} (r : Room k A) : A.depth < recursionLimit := by have := r.dp; omega
theorem Room.units {k : Nat} {A : Around} (r : Room k A) : A.units + 64 < cLine := by have := r.un; omega

/-! ### argument lists and displays -/
def tNil : TA := fun _ H Q => Q [] H
def tCons (ta : TE) (tr : TA) : TA := fun σ H Q => ta σ H fun x H1 => tr σ H1 fun xs H2 => Q (x :: xs) H2
section
variable {X : Cx} {e : Expr} {es : List Expr} {te : TE} {t : TA} {pos : Pos}
theorem pa_nil : PA X [] tNil := fun _ _ _ _ H Q I h => Calls.spliced_nil ⟨[], H, I, .nil, h⟩
theorem pa_cons (ha : PE X e te) (hr : PA X es t) (hs : starEach (e :: es) X.env = (false, eval e X.env) :: starEach es X.env := by rfl) : PA X (e :: es) (tCons te t) := by
  intro pos pins s σ H Q I h
  rw [hs]
  show wpAny _ _ (spliced ((false, eval e X.env) :: backTo pos (starEach es X.env))) _ _ s
  refine Calls.spliced_cons (thn (ha pins s σ H _ I h) fun u s1 ⟨x, H1, I1, r1, q1⟩ => ?_)
  exact thn (hr pos pins s1 σ H1 _ I1 q1) fun us s2 ⟨xs, H2, I2, r2, q2⟩ => ⟨x :: xs, H2, I2, .cons r1 r2, q2⟩

def tLst (t : TA) : TE := fun σ H Q => t σ H fun xs H1 => xs.length ≤ sizeLine ∧ ∀ p, H1 p = none → Q (.ref p) (upd H1 p (.lst xs))
theorem pe_lst (h : PA X es t) : PE X (.List es pos) (tLst t) := by
  intro pins s σ H Q I hq
  refine wpAny_List_spliced (thn (h pos pins s σ H _ I hq) fun us s1 ⟨xs, H1, I1, r, z, q⟩ => ⟨by rw [← r.length]; exact z, ?_⟩)
  have hf : H1 s1.heap.objs.size = none := I1.hok.fresh (Nat.le_refl _)
  refine ⟨.ref s1.heap.objs.size, upd H1 s1.heap.objs.size (.lst xs), I1.laid (t' := s1.toks) (fun b u e => Heap.get?_push_of_some _ e) (Nat.le_refl _) ?_, rfl, q _ hf⟩
  exact ⟨z, us, 0, r, Heap.get?_push_size _ rfl⟩
end

/-! ### what a def promises -/
/-- a def's promise: the bound arguments in the parameters' order, the heap, the wanted end, the wanted exception -/
abbrev Sp := List V → Hp → VK → XK → Prop
/-- how an exception lies behind a call (file 08 gives it): the callers' frames, abstract heap and state ahead of the call, the wish, the exception, the state -/
abbrev CXT := List Env → Hp → Shared → XK → Value → Shared → Prop

/-- the state at a call -/
structure Env0 (P : Program) (w : World) (K : PySem.W.Frag) (mg : Str → Option Value) (base : Heap) (A : Around) (outer : List Env) (s : Shared) (H : Hp) : Prop where
  frames : A.frames = some outer
  mod : Mod K mg base
  bs : ∀ b o, base.get? b = some o → s.heap.get? b = some o ∧ H b = none
  bsz : base.objs.size ≤ s.heap.objs.size
  funs : s.heap.FunFrames base outer
  frf : ∀ b ∈ frs outer, H b = none
  hok : HOk P w H s.heap
  bare : AllBare s.gens
/-- a call's end -/
def CE (outer : List Env) (P : Program) (w : World) (H : Hp) (s : Shared) (Q : VK) (u : Value) (s' : Shared) : Prop :=
  ∃ v H', s'.os = s.os ∧ AllBare s'.gens ∧ Un (frs outer) [] H H' s.heap s'.heap ∧ HOk P w H' s'.heap ∧ RelV v u ∧ Q v H'
def CR (CX : CXT) (outer : List Env) (P : Program) (w : World) (H : Hp) (s : Shared) (Q : VK) (E : XK) (r : Result) (s' : Shared) : Prop :=
  match r with
  | .ok (.ret u) => CE outer P w H s Q u s'
  | .ok _ => False
  | .error e => CX outer H s E e s'
structure FnOk (P : Program) (w : World) (K : PySem.W.Frag) (mg : Str → Option Value) (base : Heap) (CX : CXT) (k : Nat) (f : Addr) (fd : FuncData) (ps : List Str) (sp : Sp) : Prop where
  len : ∀ vs H Q E, sp vs H Q E → vs.length = ps.length
  run : ∀ (A : Around) (outer : List Env) (s : Shared) (H : Hp) (args : Args) (us : List Value) (vs : List V) (Q : VK) (E : XK), Room k A → Env0 P w K mg base A outer s H → BindsTo s fd args (ps.zip us) → Vals vs us → sp vs H Q E →
    codeAny (model P w) A (.call (.ref f) args) (CR CX outer P w H s Q E) s

theorem Env0.make {P : Program} {w : World} {K : PySem.W.Frag} {mg : Str → Option Value} {base : Heap} {A : Around} {outer : List Env} {s : Shared} {H : Hp} (e : Env0 P w K mg base A outer s H) (C : Addr) (us : List Value) (kw : List (Str × Value)) :
    Env0 P w K mg base (A.under (.builtin "type.__call__" ⟨.ref C :: us, kw⟩)) outer s H := ⟨by first | exact e.frames | (simpa [Around.under, Code.envs, Code.isFrame, pushEnvs] using e.frames), e.mod, e.bs, e.bsz, e.funs, e.frf, e.hok, e.bare⟩

section
variable {X : Cx} {pins : List (Addr × Obj)} {σ : St} {H : Hp} {s s' : Shared}
/-- from a body: what a callee wants -/
theorem Inv.env0 (I : Inv X pins σ H s) : Env0 X.prog X.w X.K X.mg X.base X.A X.stack s H :=
  ⟨I.ok.frames, I.ok.mod, I.bs, Nat.le_trans I.ok.bsz I.sz, I.stack, I.stkFree, I.hok, I.bare⟩
/-- behind a call -/
theorem Inv.after {Q : VK} {u : Value} (I : Inv X pins σ H s) (h : CE X.stack X.prog X.w H s Q u s') : EP X pins σ Q u s' := by
  obtain ⟨v, H', os, bare, un, hok, r, q⟩ := h
  obtain ⟨hh, g, d, t, os'⟩ := s'
  obtain rfl : os' = s.os := os
  exact ⟨v, H', I.call (h' := hh) (g' := g) (d' := d) (t' := t) (ch := []) un hok bare (fun b z => absurd z (by simp)), r, q⟩
end

/-! ### calls -/
/-- f(..): the written arguments, then the defaults dvs; E: what is wanted of an exception -/
def tCall (sp : Sp) (dvs : List V) (E : XK) (t : TA) : TE := fun σ H Q => t σ H fun vs H1 => sp (vs ++ dvs) H1 Q E
/-- o.m(..) of an instance of the class at C -/
def tMeth (C : Addr) (m : Str) (sp : Sp) (dvs : List V) (E : XK) (ta : TE) (t : TA) : TE := fun σ H Q => ta σ H fun x H1 => ∃ a dx fs, x = .ref a ∧ H1 a = some (.ins C dx fs) ∧ fs.lookup m = none ∧
  t σ H1 fun vs H2 => sp (x :: (vs ++ dvs)) H2 Q E
/-- C(..): a new instance and its dict, then __init__ -/
def tMake (C : Addr) (sp : Sp) (dvs : List V) (E : XK) (t : TA) : TE := fun σ H Q => t σ H fun vs H1 => ∀ x dx, H1 x = none → H1 dx = none → dx ≠ x →
  sp (.ref x :: (vs ++ dvs)) (upd (upd H1 dx (.own x)) x (.ins C dx [])) (fun v H2 => v = .non ∧ Q (.ref x) H2) E

/-- how the parameters are bound: us the positional arguments, kw the keywords' values by name, ds the defaults that fill up -/
def Binds (K : PySem.W.Frag) (fd : FuncData) (ps : List Str) (ds : List Value) : Prop :=
  ∀ (s : Shared) (us : List Value), K.In s.heap → (us ++ ds).length = ps.length → BindsTo s fd ⟨us, []⟩ (ps.zip (us ++ ds))
/-- every parameter is given -/
theorem Binds.all {K : PySem.W.Frag} {fd : FuncData} {ps : List Str} (h : ∀ us : List Value, us.length = ps.length → bindArgs fd ⟨us, []⟩ = pure (ps.zip us)) : Binds K fd ps [] := fun s us _ hl => by
  rw [List.append_nil] at hl ⊢
  exact .of_eq (h us hl)

/-- an exception of a callee reaches what this body wants of exceptions -/
def Passes (CX : CXT) (X : Cx) (E : XK) : Prop := ∀ (pins : List (Addr × Obj)) (σ : St) (H : Hp) (s : Shared) (e : Value) (s' : Shared), Inv X pins σ H s → CX X.stack H s E e s' → X.xe e s'

section
variable {X : Cx} {CX : CXT} {k : Nat} {f C : Addr} {fd : FuncData} {ps : List Str} {sp : Sp} {dvs : List V} {ds : List Value} {E : XK} {x m : Str} {p pos apos : Pos} {e o : Expr} {es : List Expr} {ta : TE} {t : TA}

/-- the callee runs -/
theorem run_fn {pins : List (Addr × Obj)} {σ : St} {H : Hp} {s : Shared} {Q : VK} {us : List Value} {vs : List V} (F : FnOk X.prog X.w X.K X.mg X.base CX k f fd ps sp) (hr : Room k X.A) (hb : Binds X.K fd ps ds) (hd : Vals dvs ds) (hx : Passes CX X E)
    (I : Inv X pins σ H s) (r : Vals vs us) (h : sp (vs ++ dvs) H Q E) : wpAny (model X.prog X.w) X.A (call (.ref f) us) (EP X pins σ Q) X.xe s := by
  have r2 : Vals (vs ++ dvs) (us ++ ds) := r.append hd
  have hl : (us ++ ds).length = ps.length := by rw [← r2.length]; exact F.len _ _ _ _ h
  refine wpAny_call (codeAny_mono (F.run X.A X.stack s H ⟨us, []⟩ (us ++ ds) (vs ++ dvs) Q E hr I.env0 (hb s us I.kIn hl) r2 h) fun r s' hq => ?_)
  cases r with
  | error e => exact hx pins σ H s e s' I hq
  | ok fl =>
    cases fl with
    | ret u => exact I.after hq
    | next => exact False.elim hq
    | brk => exact False.elim hq
    | cont => exact False.elim hq

theorem pe_call (F : FnOk X.prog X.w X.K X.mg X.base CX k f fd ps sp) (hr : Room k X.A) (hg : Gl X x) (hm : X.mg x = some (.ref f)) (hk : PySem.W.keepIn X.K (.ref f) = true) (hb : Binds X.K fd ps ds) (hd : Vals dvs ds) (hx : Passes CX X E)
    (ha : PA X (e :: es) t) (hdb : (x == ("__debug__" : Str)) = false := by decide) (he : starEach (e :: es) X.env = (false, eval e X.env) :: starEach es X.env := by rfl) (hpl : (backTo pos (starEach es X.env)).any (·.1) = false := by rfl) :
    PE X (.Call (.Name x p) (e :: es) [] pos) (tCall sp dvs E t) := by
  intro pins s σ H Q I h
  refine wpAny_Call_Name_kw (ld_glob I hg hm ?_ hdb)
  refine PySem.W.callWith_K (h₀ := X.base) I.ok.mod.kin hk (thn (ha pos pins s σ H _ I h) fun us s1 ⟨vs, H1, I1, r, q⟩ => ⟨I1.kIn, ?_⟩) he hpl
  exact run_fn F hr hb hd hx I1 r q

/-- o.m(e, ..) -/
theorem pe_meth {pl : Sem Bool} (he : PE X o ta) (c : Cls X.K C) (hm : Meth X.K C m f) (F : FnOk X.prog X.w X.K X.mg X.base CX k f fd ps sp) (hr : Room k X.A) (hb : Binds X.K fd ps ds) (hd : Vals dvs ds) (hx : Passes CX X E) (ha : PA X (e :: es) t)
    (hst : starEach (e :: es) X.env = (false, eval e X.env) :: starEach es X.env := by rfl) (hpl : (backTo pos (starEach es X.env)).any (·.1) = false := by rfl)
    (ht : eval (.Call (.Attribute o m apos) (e :: es) [] pos) X.env = (do
      let ov ← eval o X.env
      standAt apos.atName
      let (f, first) ← holding [ov] (getMethod ov m pl)
      callWith pos f first (backTo pos (starEach (e :: es) X.env)) (backToKw pos (keywordEach [] X.env))) := by rfl) :
    PE X (.Call (.Attribute o m apos) (e :: es) [] pos) (tMeth C m sp dvs E ta t) := by
  intro pins s σ H Q I h
  refine PySem.W.methodCall_KW (pl := pl) (thn (he pins s σ H _ I h) fun u s1 ⟨x, H1, I1, rx, a, dx, fs, ex, ea, l, q⟩ => ?_) ht
  subst ex
  obtain rfl : u = Value.ref a := rx
  refine getmeth_ok I1 ea c hm l ?_
  refine PySem.W.callWith_K (first := [.ref a]) (h₀ := X.base) I.ok.mod.kin hm.kp (thn (ha pos pins s1 σ H1 _ I1 q) fun us s2 ⟨vs, H2, I2, r, q2⟩ => ⟨I2.kIn, ?_⟩) hst hpl
  exact run_fn (us := .ref a :: us) (vs := .ref a :: vs) F hr hb hd hx I2 (.cons rfl r) q2
/-- o.m() -/
theorem pe_meth0 {pl : Sem Bool} (he : PE X o ta) (c : Cls X.K C) (hm : Meth X.K C m f) (F : FnOk X.prog X.w X.K X.mg X.base CX k f fd ps sp) (hr : Room k X.A) (hb : Binds X.K fd ps ds) (hd : Vals dvs ds) (hx : Passes CX X E)
    (ht : eval (.Call (.Attribute o m apos) [] [] pos) X.env = (do
      let ov ← eval o X.env
      standAt apos.atName
      let (f, first) ← holding [ov] (getMethod ov m pl)
      callWith pos f first (backTo pos (starEach [] X.env)) (backToKw pos (keywordEach [] X.env))) := by rfl) :
    PE X (.Call (.Attribute o m apos) [] [] pos) (tMeth C m sp dvs E ta tNil) := by
  intro pins s σ H Q I h
  refine PySem.W.methodCall_KW (pl := pl) (thn (he pins s σ H _ I h) fun u s1 ⟨x, H1, I1, rx, a, dx, fs, ex, ea, l, q⟩ => ?_) ht
  subst ex
  obtain rfl : u = Value.ref a := rx
  refine getmeth_ok I1 ea c hm l ?_
  exact PySem.W.callWith_K0 (first := [.ref a]) I1.kIn hm.kp (run_fn (us := [.ref a]) (vs := [.ref a]) F hr hb hd hx I1 (.cons rfl .nil) q)

/-- what a class must have to be made -/
structure Mk (K : PySem.W.Frag) (C f : Addr) : Prop where
  makes : PySem.W.makesIn K C = true
  init : PySem.W.findIn K (.ref C) "__init__" = some (some (.ref f))
  fn : PySem.W.isFn K (.ref f) = true
  kp : PySem.W.keepIn K (.ref C) = true

theorem run_make {pins : List (Addr × Obj)} {σ : St} {H : Hp} {s : Shared} {Q : VK} {us : List Value} {vs : List V} (M : Mk X.K C f) (F : FnOk X.prog X.w X.K X.mg X.base CX k f fd ps sp) (hr : Room (k + 1) X.A) (hb : Binds X.K fd ps ds) (hd : Vals dvs ds)
    (hx : Passes CX X E) (I : Inv X pins σ H s) (r : Vals vs us)
    (h : ∀ x dx, H x = none → H dx = none → dx ≠ x → sp (.ref x :: (vs ++ dvs)) (upd (upd H dx (.own x)) x (.ins C dx [])) (fun v H2 => v = .non ∧ Q (.ref x) H2) E) :
    wpAny (model X.prog X.w) X.A (call (.ref C) us) (EP X pins σ Q) X.xe s := by
  have hq := h (s.heap.objs.size + 1) s.heap.objs.size (I.hok.fresh (Nat.le_succ _)) (I.hok.fresh (Nat.le_refl _)) (Nat.ne_of_lt (Nat.lt_succ_self _))
  have I2 := Inv.made (C := C) I
  have r2 : Vals (V.ref (s.heap.objs.size + 1) :: (vs ++ dvs)) (Value.ref (s.heap.objs.size + 1) :: (us ++ ds)) := .cons rfl (r.append hd)
  have hl : (Value.ref (s.heap.objs.size + 1) :: us ++ ds).length = ps.length := by
    have e := r2.length
    rw [F.len _ _ _ _ hq] at e
    exact e.symm
  refine wpAny_call (make_map (f := f) I.kIn M.makes M.init (beq_iff_eq.mp M.fn) (codeAny_mono (F.run _ X.stack _ _ ⟨Value.ref (s.heap.objs.size + 1) :: us, []⟩ (Value.ref (s.heap.objs.size + 1) :: (us ++ ds)) _ _ E (hr.make C us [])
    (I2.env0.make C us []) (hb _ (Value.ref (s.heap.objs.size + 1) :: us) I2.kIn hl) r2 hq) fun r s' hq' => ?_))
  cases r with
  | error e => exact hx pins σ _ _ e s' I2 hq'
  | ok fl =>
    cases fl with
    | ret u =>
      obtain ⟨v, H', I3, rv, ev, q3⟩ := I2.after hq'
      subst ev
      exact ⟨rv, ⟨V.ref (s.heap.objs.size + 1), H', I3, rfl, q3⟩⟩
    | next => exact False.elim hq'
    | brk => exact False.elim hq'
    | cont => exact False.elim hq'
theorem pe_make (M : Mk X.K C f) (F : FnOk X.prog X.w X.K X.mg X.base CX k f fd ps sp) (hr : Room (k + 1) X.A) (hg : Gl X x) (hm : X.mg x = some (.ref C)) (hb : Binds X.K fd ps ds) (hd : Vals dvs ds) (hx : Passes CX X E)
    (ha : PA X (e :: es) t) (hdb : (x == ("__debug__" : Str)) = false := by decide) (he : starEach (e :: es) X.env = (false, eval e X.env) :: starEach es X.env := by rfl) (hpl : (backTo pos (starEach es X.env)).any (·.1) = false := by rfl) :
    PE X (.Call (.Name x p) (e :: es) [] pos) (tMake C sp dvs E t) := by
  intro pins s σ H Q I h
  refine wpAny_Call_Name_kw (ld_glob I hg hm ?_ hdb)
  refine PySem.W.callWith_K (h₀ := X.base) I.ok.mod.kin M.kp (thn (ha pos pins s σ H _ I h) fun us s1 ⟨vs, H1, I1, r, q⟩ => ⟨I1.kIn, ?_⟩) he hpl
  exact run_make M F hr hb hd hx I1 r q
theorem pe_make0 (M : Mk X.K C f) (F : FnOk X.prog X.w X.K X.mg X.base CX k f fd ps sp) (hr : Room (k + 1) X.A) (hg : Gl X x) (hm : X.mg x = some (.ref C)) (hb : Binds X.K fd ps ds) (hd : Vals dvs ds) (hx : Passes CX X E)
    (hdb : (x == ("__debug__" : Str)) = false := by decide) : PE X (.Call (.Name x p) [] [] pos) (tMake C sp dvs E tNil) := by
  intro pins s σ H Q I h
  refine wpAny_Call_Name_kw (ld_glob I hg hm ?_ hdb)
  exact PySem.W.callWith_K0 I.kIn M.kp (run_make (us := []) M F hr hb hd hx I .nil h)
end

/-! ### keywords -/
section
variable {X : Cx} {CX : CXT} {k : Nat} {f C : Addr} {fd : FuncData} {ps ks : List Str} {sp : Sp} {E : XK} {x m : Str} {p pos apos kpos : Pos} {e o : Expr} {es : List Expr} {kws : List Keyword} {te ta : TE} {t tk : TA} {nm : Option Str}

/-- how a call with keywords binds: g puts the positional values us and the keywords' values ws (names ks) in the parameters' order, defaults among them -/
structure KBinds (K : PySem.W.Frag) (fd : FuncData) (ps ks : List Str) (g : List Value → List Value → List Value) (gV : List V → List V → List V) : Prop where
  to : ∀ (s : Shared) (us ws : List Value), K.In s.heap → (g us ws).length = ps.length → BindsTo s fd ⟨us, ks.zip ws⟩ (ps.zip (g us ws))
  rel : ∀ {vs : List V} {us : List Value} {zs : List V} {ws : List Value}, Vals vs us → Vals zs ws → Vals (gV vs zs) (g us ws)
variable {g : List Value → List Value → List Value} {gV : List V → List V → List V}
end

/-! ### a def's body keeps its promise -/
/-- names: the parameters first -/
structure FnScope (N P : List Str) (sc : Scope) : Prop where
  kind : sc.kind = .function
  co : sc.isCoroutine = false
  gen : sc.isGenerator = false
  nd : N.Nodup
  pre : N.take P.length = P
  par : ∀ x ∈ P, sc.names.lookup x = some .local ∨ sc.names.lookup x = some .cell
  nofree : ∀ y ∈ sc.names, y.2 ≠ .free

theorem bindL_out {kindOf : Str → Option NameKind} {x : Str} : ∀ {binds : List (Str × Value)} {m : Str → Option Value}, (∀ v, (x, v) ∉ binds) → bindL kindOf binds m x = m x
  | [], _, _ => rfl
  | (n, v) :: r, m, h => by
    unfold bindL
    rw [bindL_out fun w hw => h w (List.mem_cons_of_mem _ hw)]
    split
    · have : x ≠ n := by rintro rfl; exact h v List.mem_cons_self
      simp [this]
    · rfl
theorem bindC_out {kindOf : Str → Option NameKind} {x : Str} : ∀ {binds : List (Str × Value)} {m : Str → Option Value}, (∀ v, (x, v) ∉ binds) → bindC kindOf binds m x = m x
  | [], _, _ => rfl
  | (n, v) :: r, m, h => by
    unfold bindC
    rw [bindC_out fun w hw => h w (List.mem_cons_of_mem _ hw)]
    split
    · rfl
    · have : x ≠ n := by rintro rfl; exact h v List.mem_cons_self
      simp [this]
theorem bindL_get {kindOf : Str → Option NameKind} {x : Str} {v : Value} : ∀ {P : List Str} {vs : List Value} {i : Nat} {m : Str → Option Value}, P.Nodup → P[i]? = some x → vs[i]? = some v → kindOf x = some .local →
    bindL kindOf (P.zip vs) m x = some v
  | [], _, _, _, _, h, _, _ => by simp at h
  | _ :: _, [], _, _, _, _, h, _ => by simp at h
  | p :: P, w :: vs, 0, m, nd, h1, h2, hk => by
    simp at h1 h2; subst h1; subst h2
    show bindL kindOf ((p, w) :: P.zip vs) m p = _
    unfold bindL
    rw [bindL_out fun v hv => (List.nodup_cons.mp nd).1 (List.of_mem_zip hv).1, if_pos hk]
    simp
  | p :: P, w :: vs, i + 1, m, nd, h1, h2, hk => by
    show bindL kindOf ((p, w) :: P.zip vs) m x = _
    unfold bindL
    exact bindL_get (i := i) (List.nodup_cons.mp nd).2 (by simpa using h1) (by simpa using h2) hk
theorem bindC_get {kindOf : Str → Option NameKind} {x : Str} {v : Value} : ∀ {P : List Str} {vs : List Value} {i : Nat} {m : Str → Option Value}, P.Nodup → P[i]? = some x → vs[i]? = some v → kindOf x ≠ some .local →
    bindC kindOf (P.zip vs) m x = some v
  | [], _, _, _, _, h, _, _ => by simp at h
  | _ :: _, [], _, _, _, _, h, _ => by simp at h
  | p :: P, w :: vs, 0, m, nd, h1, h2, hk => by
    simp at h1 h2; subst h1; subst h2
    show bindC kindOf ((p, w) :: P.zip vs) m p = _
    unfold bindC
    rw [bindC_out fun v hv => (List.nodup_cons.mp nd).1 (List.of_mem_zip hv).1, if_neg hk]
    simp
  | p :: P, w :: vs, i + 1, m, nd, h1, h2, hk => by
    show bindC kindOf ((p, w) :: P.zip vs) m x = _
    unfold bindC
    exact bindC_get (i := i) (List.nodup_cons.mp nd).2 (by simpa using h1) (by simpa using h2) hk

/-- the names' values at the entry -/
def start (N : List Str) (vs : List V) : St := vs.map some ++ List.replicate (N.length - vs.length) none

/-- the context of a def's body, at its entry; an exception leaves the frame, then lies as CX says -/
def cxOf (CX : CXT) (P : Program) (w : World) (K : PySem.W.Frag) (mg : Str → Option Value) (base : Heap) (N : List Str) (qual : Str) (scope : Scope) (f : Addr) (cd : Value) (A : Around) (outer : List Env) (s : Shared) (H : Hp) (E : XK) : Cx where
  prog := P
  w := w
  K := K
  mg := mg
  base := base
  A := A.deeper (envOfC qual scope s.heap.objs.size f cd)
  N := N
  s_0 := s
  H_0 := H
  env := envOfC qual scope s.heap.objs.size f cd
  outer := outer
  stack := envOfC qual scope s.heap.objs.size f cd :: outer
  ex := []
  calm := true
  fn := fun _ => true
  pn := []
  xe := fun e s' => wpAny (model P w) (A.deeper (envOfC qual scope s.heap.objs.size f cd)) (leaving (envOfC qual scope s.heap.objs.size f cd) e) (fun _ s'' => CX outer H s E e s'') (fun e' s'' => CX outer H s E e' s'') s'

theorem cell_has {sc : Scope} {n : Nat} {x : Str} (h : sc.names.lookup x = some .cell) : ∃ c, (cellsFrom n sc.names []).lookup x = some c := by
  have q := PySem.W.cellsFrom_some sc.names n [] (.inl h)
  exact Option.isSome_iff_exists.mp q

theorem inv_start {CX : CXT} {P : Program} {w : World} {K : PySem.W.Frag} {mg : Str → Option Value} {base : Heap} {N ps : List Str} {qual : Str} {scope : Scope} {f : Addr} {cd : Value} {A : Around} {outer : List Env} {s s1 : Shared} {H : Hp} {E : XK} {us : List Value} {vs : List V}
    (S : FnScope N ps scope) (hd : A.handled = none) (e0 : Env0 P w K mg base A outer s H) (hl : vs.length = ps.length) (r : Vals vs us)
    (x : InCallC s s.heap.objs.size (bindL (envOfC qual scope s.heap.objs.size f cd).kindOf (ps.zip us) fun _ => none) (cellsFrom (s.heap.objs.size + 1) scope.names []) (bindC (envOfC qual scope s.heap.objs.size f cd).kindOf (ps.zip us) fun _ => none) s1) :
    Inv (cxOf CX P w K mg base N qual scope f cd A outer s H E) [] (start N vs) H s1 := by
  have hpl : ps.length ≤ N.length := by have := congrArg List.length S.pre; rw [List.length_take] at this; omega
  obtain ⟨h1, tk, rfl, hk⟩ := x.done
  have noA : ∀ b : Addr, b ∉ (cxOf CX P w K mg base N qual scope f cd A outer s H E).ex := fun b z => absurd (show b ∈ ([] : List Addr) from z) (by simp)
  refine ⟨⟨e0.mod, S.kind, rfl, rfl, Nat.le_refl _, fun y z c h1 h2 => ?_, fun y hy => ?_, fun y c _ h => ?_, fun _ => hd, Around.frames_deeper e0.frames, .inr ⟨rfl, rfl⟩, fun b z => absurd z (noA b), e0.bs, e0.bsz, fun b _ _ => noA b, fun b z => absurd z (noA b), e0.funs, e0.frf⟩,
    rfl, e0.bare, Un.kept hk, ⟨_, x.toInCall.ns, fun i y v h1 h2 h3 => ?_⟩, fun y c h => ⟨_, x.cell y c h⟩, e0.hok.fresh (Nat.le_refl _), fun y c h => ?_, fun p hp => absurd (show p ∈ ([] : List (Addr × Obj)) from hp) (by simp), e0.hok.kept hk, ?_⟩
  · exact name_of_addr x.apart (PySem.mem_of_lookup h1) (PySem.mem_of_lookup h2)
  · have hy : scope.names.lookup y = some .cell ∨ scope.names.lookup y = some .free := hy
    rcases hy with hy | hy
    · exact cell_has hy
    · exact absurd rfl (S.nofree _ (PySem.mem_of_lookup hy))
  · exact Nat.le_of_lt (x.above y c (PySem.mem_of_lookup h))
  · have hi : i < vs.length := by
      unfold start at h2
      by_cases hi : i < vs.length
      · exact hi
      · rw [List.getElem?_append_right (by simpa using hi)] at h2
        rw [List.getElem?_replicate] at h2
        split at h2 <;> cases h2
    have ha : vs[i]? = some v := by
      unfold start at h2
      rw [List.getElem?_append_left (by simpa using hi), List.getElem?_map] at h2
      cases e : vs[i]? with
      | none => rw [e] at h2; cases h2
      | some a => rw [e] at h2; cases h2; rfl
    obtain ⟨u, hu, rv⟩ := r.get ha
    have hp : ps[i]? = some y := by
      rw [← S.pre, List.getElem?_take_of_lt (by omega)]; exact h1
    have ndP : ps.Nodup := by rw [← S.pre]; exact S.nd.sublist (List.take_sublist _ _)
    refine ⟨u, rv, ?_⟩
    rcases S.par y (List.mem_of_getElem? hp) with k | k
    · exact .inl ⟨k, bindL_get ndP hp hu k⟩
    · obtain ⟨c, e⟩ := cell_has (n := s.heap.objs.size + 1) k
      refine .inr ⟨.inl k, c, e, ?_⟩
      have q := x.cell y c e
      rw [bindC_get ndP hp hu (by show scope.names.lookup y ≠ _; rw [k]; decide)] at q
      exact q
  · exact e0.hok.fresh (Nat.le_of_lt (x.above y c (PySem.mem_of_lookup h)))
  · unfold start
    show _ = N.length
    rw [List.length_append, List.length_map, List.length_replicate]
    omega

/-- THE RULE: a def (or a method) of the text, by its body. The body's reading t is chosen for each entry; it is run at the parameters' values -/
theorem fn_of {CX : CXT} {P : Program} {w : World} {K : PySem.W.Frag} {mg : Str → Option Value} {base : Heap} {k : Nat} {f : Addr} {name qual : Str} {params : Arguments} {body : List Stmt} {scope : Scope} {dV kV doc pm cdv ct oc : Value} {an od : Option Addr}
    {osl : Array (Option Value)} {N ps : List Str} {sp : Sp} (lk : K.lookup f = some ⟨oc, od, .func (PySem.W.fnOf name qual params body scope dV kV doc pm an cdv ct), osl⟩) (hcd : PySem.W.codeIn K cdv qual = true) (S : FnScope N ps scope)
    (len : ∀ vs H Q E, sp vs H Q E → vs.length = ps.length)
    (hbody : ∀ (A : Around) (outer : List Env) (s : Shared) (H : Hp) (vs : List V) (Q : VK) (E : XK), Room k (A.deeper (envOfC qual scope s.heap.objs.size f cdv)) → sp vs H Q E →
      ∃ t, PSs (cxOf CX P w K mg base N qual scope f cdv A outer s H E) body t ∧ t { nx := fun _ H' => Q .non H', rt := Q } (start N vs) H) :
    FnOk P w K mg base CX (k + 1) f (PySem.W.fnOf name qual params body scope dV kV doc pm an cdv ct) ps sp := by
  refine ⟨len, fun A outer s H args us vs Q E hr e0 hb r hsp => ?_⟩
  have hl := len _ _ _ _ hsp
  have KX : K.In s.heap := e0.mod.kin.keeps fun b o e => (e0.bs b o e).1
  have lim : s.heap.NoLimit := e0.mod.nolimit.keeps fun b o e => (e0.bs b o e).1
  have hkind : ∀ y ∈ ps.zip us, scope.names.lookup y.1 = some .local ∨ (scope.names.lookup y.1 = some .cell ∧ ((cellsFrom (s.heap.objs.size + 1) scope.names []).lookup y.1).isSome = true) := fun ⟨n, v⟩ hy => by
    rcases S.par n (List.of_mem_zip hy).1 with q | q
    · exact .inl q
    · exact .inr ⟨q, PySem.W.cellsFrom_some _ _ _ (.inl q)⟩
  refine codeAny_call_function hr.depth (KX _ _ lk) rfl S.co S.gen rfl (PySem.W.codeRec_of KX hcd) (hb _ _ _ _ ?_)
  refine wpAny_newFunctionEnv_cells S.kind hkind fun env he s1 x => ?_
  subst he
  refine ⟨lim.keeps x.toInCall.keep, codeAny_func ?_⟩
  obtain ⟨t, ht, hq⟩ := hbody A outer s H vs Q E (hr.deeper _) hsp
  have I : Inv (cxOf CX P w K mg base N qual scope f cdv A outer s H E) [] (start N vs) H s1 := inv_start S hr.hd e0 hl r x
  refine wpAny_mono (ht [] s1 (start N vs) H _ I hq) (fun fl s' hs => ?_) fun e s' hs => hs
  have fin : ∀ {σ' : St} {H' : Hp} {v : V} {u : Value}, Inv (cxOf CX P w K mg base N qual scope f cdv A outer s H E) [] σ' H' s' → RelV v u → Q v H' → CE outer P w H s Q u s' :=
    fun {σ' H' v u} J rv q => ⟨v, H', J.os, J.bare, J.base, J.hok, rv, q⟩
  cases fl with
  | ret u =>
    obtain ⟨v, σ', H', J, rv, q⟩ := hs
    exact fin J rv q
  | next =>
    obtain ⟨σ', H', J, q⟩ := hs
    exact fin (v := V.non) (u := Value.none) J rfl q
  | brk =>
    obtain ⟨_, _, _, q⟩ := hs
    exact False.elim q
  | cont =>
    obtain ⟨_, _, _, q⟩ := hs
    exact False.elim q
end L2

namespace L2
open PySem PySem.Spec PyProof.Rows
section
variable {X : Cx} {x : Str} {p pos : Pos} {e : Expr} {es : List Expr} {t : TA} {id T : String} {r : List V → Hp → VK → Prop}

def tCB (r : List V → Hp → VK → Prop) (t : TA) : TE := fun σ H Q => t σ H fun vs H1 => r vs H1 Q
/-- f(e, ..), f a built-in function -/
theorem pe_callB (hc : CallR X (.builtin id) r) (hg : Gl X x) (hm : X.mg x = none) (hv : bootBuiltins x = some (.builtin id)) (ha : PA X (e :: es) t) (hn : x ≠ "__name__" := by decide) (hdb : (x == ("__debug__" : Str)) = false := by decide)
    (he : starEach (e :: es) X.env = (false, eval e X.env) :: starEach es X.env := by rfl) (hpl : (backTo pos (starEach es X.env)).any (·.1) = false := by rfl) : PE X (.Call (.Name x p) (e :: es) [] pos) (tCB r t) := by
  intro pins s σ H Q I h
  refine wpAny_Call_Name_kw (ld_blt I hg hm hv ?_ hn hdb)
  exact PyProof.Rows.callWith_builtin1 (thn (ha pos pins s σ H _ I h) fun us s1 ⟨vs, H1, I1, r1, q1⟩ => hc pins s1 σ H1 vs us Q I1 r1 q1) he hpl
end
end L2

namespace HT
open PySem PyProof.Rows



section
open PySem.SeqAt
open PySem.AutoSeq1 (wpAny_loadPart')
open PySem.MeetsSeq PySem.MeetsSeq2 PySem.MeetsSeq3

end

section
variable {prog : Program} {w : World} {A : Around} {E : Value → Shared → Prop} {s : Shared}



/-! ### t[a:b], not the whole -/
/-- a slice's bound as a place among n (d where it is left out) -/
def sIx (n d : Nat) : Option Int → Nat
  | none => d
  | some v => if v < 0 then (v + (n : Int)).toNat else min v.toNat n
theorem sIx_nat (n d k : Nat) : sIx n d (some (k : Int)) = min k n := by
  show (if (k : Int) < 0 then ((k : Int) + (n : Int)).toNat else min (k : Int).toNat n) = min k n
  rw [if_neg (by omega), Int.toNat_natCast]

end
end HT

namespace L2
open PySem PySem.Spec PyProof.Rows

/-! ### the parts of a slice -/
abbrev TO := St → Hp → (Option Int → Hp → Prop) → Prop
/-- a slice's part (left out, or an int) -/
def PO (X : Cx) (e : Option Expr) (t : TO) : Prop :=
  ∀ (pins : List (Addr × Obj)) (s : Shared) (σ : St) (H : Hp) (Q : Option Int → Hp → Prop), Inv X pins σ H s → t σ H Q →
    wpAny (model X.prog X.w) X.A (evalPart e X.env) (fun u s' => ∃ o H', Inv X pins σ H' s' ∧ IsPart u o ∧ Q o H') X.xe s
def tPart (t : TE) : TO := fun σ H Q => t σ H fun x H1 => ∃ i, x = .int i ∧ Q (some i) H1


section
variable {X : Cx} {e : Expr} {te : TE} {lo hi : Option Expr} {tl th : TO} {pos p2 : Pos}

theorem po_some (h : PE X e te) : PO X (some e) (tPart te) := by
  intro pins s σ H Q I hw
  rw [evalPart_some]
  refine thn (h pins s σ H _ I hw) fun u s1 ⟨x, H1, I1, r1, q1⟩ => ?_
  obtain ⟨i, rfl, q⟩ := q1
  obtain ⟨t, rfl⟩ := r1
  exact ⟨some i, H1, I1, .int i t, q⟩

/-- what a slice of a value is, by values: the slice object stands at sl -/
def SlR (X : Cx) (r : V → Option Int → Option Int → Hp → VK → Prop) : Prop :=
  ∀ (pins : List (Addr × Obj)) (s : Shared) (σ : St) (H : Hp) (x : V) (v vl vu : Value) (lo hi : Option Int) (sl : Addr) (Q : VK), Inv X pins σ H s → RelV x v → s.heap.IsSliceOf sl vl vu .none → IsPart vl lo → IsPart vu hi → r x lo hi H Q →
    ∃ T id, typeLookup (.type T) "__getitem__" = pure (some (.builtin id)) ∧ s.TypeIs v T ∧ wpAny (model X.prog X.w) X.A (getItem v (.ref sl)) (EP X pins σ Q) X.xe s
def tSl (r : V → Option Int → Option Int → Hp → VK → Prop) (te : TE) (tl th : TO) : TE := fun σ H Q => te σ H fun x H1 => tl σ H1 fun l H2 => th σ H2 fun u H3 => r x l u H3 Q
/-- a[lo:hi], any a -/
theorem pe_slice {r : V → Option Int → Option Int → Hp → VK → Prop} (hr : SlR X r) (he : PE X e te) (hl : PO X lo tl) (hu : PO X hi th) : PE X (.Subscript e (.Slice lo hi none p2) pos) (tSl r te tl th) := by
  intro pins s σ H Q I h
  refine Subscript_ (thn (he pins s σ H _ I h) fun v s1 ⟨x, H1, I1, r1, q1⟩ => ?_)
  refine wpAny_Slice (thn (hl pins s1 σ H1 _ I1 q1) fun vl s2 ⟨l, H2, I2, pl, q2⟩ => thn (hu pins s2 σ H2 _ I2 q2) fun vu s3 ⟨u, H3, I3, pu, q3⟩ => ?_)
  rw [evalPart_none]
  refine wpAny_pure ?_
  have I4 : Inv X pins σ H3 { s3 with heap := s3.heap.push { cls := .type "slice", data := .fields #[vl, vu, .none] } } := I3.kept (t' := s3.toks) fun b ob q => Heap.get?_push_of_some _ q
  obtain ⟨T, id, hT, ht, hg⟩ := hr pins { s3 with heap := s3.heap.push { cls := .type "slice", data := .fields #[vl, vu, .none] } } σ H3 x v vl vu l u s3.heap.objs.size Q I4 r1 (Heap.IsSliceOf.new ..) pl pu q3
  show wpAny (model X.prog X.w) X.A (subscriptTail e (.Slice lo hi none p2) v (.ref s3.heap.objs.size)) (EP X pins σ Q) X.xe { s3 with heap := s3.heap.push { cls := .type "slice", data := .fields #[vl, vu, .none] } }
  exact tail_any (ops := [.ref s3.heap.objs.size, v]) ht hT hg (by with_unfolding_all rfl)

/-- the items of xs[lo:hi] -/
def cutV (xs : List V) (lo hi : Option Int) : List V := (xs.drop (HT.sIx xs.length 0 lo)).take (HT.sIx xs.length xs.length hi - HT.sIx xs.length 0 lo)
theorem cutV_length (xs : List V) (lo hi : Option Int) : (cutV xs lo hi).length ≤ xs.length := by
  unfold cutV
  rw [List.length_take, List.length_drop]
  omega

/-! ### t < u, t + u -/
end
end L2

namespace L2
open PySem PySem.Spec PyProof.Rows

/-! ### places -/
/-- the place that an index of any sign means -/
def ixN (n : Nat) (i : Int) : Option Nat := if 0 ≤ i then (if i < n then some i.toNat else none) else if -(n : Int) ≤ i then some (i + n).toNat else none
def atI {α : Type} (xs : List α) (i : Int) : Option α := (ixN xs.length i).bind fun j => xs[j]?
theorem ixN_seq {n : Nat} {i : Int} {j : Nat} (h : ixN n i = some j) : seqIndex? i n = some j ∧ j < n ∧ -(n : Int) ≤ i ∧ i < n := by
  unfold ixN at h
  by_cases h0 : 0 ≤ i
  · rw [if_pos h0] at h
    by_cases h1 : i < n
    · rw [if_pos h1] at h
      have e : i.toNat = j := Option.some.inj h
      exact ⟨by rw [seqIndex_of h0 h1, e], by omega, by omega, h1⟩
    · rw [if_neg h1] at h; cases h
  · rw [if_neg h0] at h
    by_cases h1 : -(n : Int) ≤ i
    · rw [if_pos h1] at h
      have e : (i + n).toNat = j := Option.some.inj h
      exact ⟨by rw [seqIndex_neg (by omega) h1, e], by omega, h1, by omega⟩
    · rw [if_neg h1] at h; cases h
theorem atI_get {α : Type} {xs : List α} {i : Int} {v : α} (h : atI xs i = some v) : ∃ j, seqIndex? i xs.length = some j ∧ xs[j]? = some v ∧ j < xs.length ∧ -(xs.length : Int) ≤ i ∧ i < xs.length := by
  unfold atI at h
  cases e : ixN xs.length i with
  | none => rw [e] at h; cases h
  | some j =>
    rw [e] at h
    obtain ⟨h1, h2, h3, h4⟩ := ixN_seq e
    exact ⟨j, h1, h, h2, h3, h4⟩
theorem atI_nat {α : Type} {xs : List α} {j : Nat} {v : α} (h : xs[j]? = some v) : atI xs (j : Int) = some v := by
  have hj : j < xs.length := (List.getElem?_eq_some_iff.mp h).1
  have e : ixN xs.length (j : Int) = some j := by
    unfold ixN
    rw [if_pos (by omega), if_pos (by omega)]; simp
  unfold atI; rw [e]; exact h
theorem atI_last {α : Type} (xs : List α) (v : α) : atI (xs ++ [v]) (-1) = some v := by
  have hl : (xs ++ [v]).length = xs.length + 1 := by simp
  have e : ixN (xs ++ [v]).length (-1) = some xs.length := by
    unfold ixN
    rw [hl, if_neg (by decide), if_pos (by omega)]
    congr 1
    omega
  unfold atI
  rw [e]
  show (xs ++ [v])[xs.length]? = some v
  simp

/-! ### what may be subscripted -/
/-- what stands as an index of a plain subscript -/
def PlainIx (b : Expr) : Prop := ∀ o i, subscripted b false o i = operate [o, i] (getItem o i)
/-- a subscript by values -/
def IxR (X : Cx) (r : R2) : Prop :=
  ∀ (value slice : Expr) (pins : List (Addr × Obj)) (s : Shared) (σ : St) (H : Hp) (x y : V) (v u : Value) (Q : VK), Inv X pins σ H s → RelV x v → RelV y u → r x y H Q →
    subscripted slice false v u = operate [v, u] (getItem v u) → wpAny (model X.prog X.w) X.A (subscriptTail value slice v u) (EP X pins σ Q) X.xe s
/-- a call of a builtin's method by values: the receiver, the arguments -/
def MtR (X : Cx) (id : String) (r : V → List V → Hp → VK → Prop) : Prop :=
  ∀ (pins : List (Addr × Obj)) (s : Shared) (σ : St) (H : Hp) (x : V) (xs : List V) (v : Value) (us : List Value) (Q : VK), Inv X pins σ H s → RelV x v → Vals xs us → r x xs H Q →
    wpAny (model X.prog X.w) X.A (call (.builtin id) (v :: us)) (EP X pins σ Q) X.xe s
section
variable {X : Cx} {a b : Expr} {ta tb : TE} {pos : Pos}
/-- a[b] -/
theorem pe_ix {r : R2} (hr : IxR X r) (ha : PE X a ta) (hb : PE X b tb) (hs : PlainIx b) : PE X (.Subscript a b pos) (tOp r ta tb) := by
  intro pins s σ H Q I h
  exact Subscript_ (binT ha hb I h fun v u s2 x y H2 I2 rx ry q => hr a b pins s2 σ H2 x y v u Q I2 rx ry q (hs _ _))

def rIxL (K : PySem.W.Frag) : R2 := fun x y H Q => ∃ p xs i v, x = .ref p ∧ y = .int i ∧ SqL K H p xs ∧ atI xs i = some v ∧ Q v H
theorem ix_list : IxR X (rIxL X.K) := by
  intro value slice pins s σ H x y v u Q I rx ry h hs
  obtain ⟨p, xs, i, z, rfl, rfl, hq, he, q⟩ := h
  cases rx
  obtain ⟨t, rfl⟩ := ry
  obtain ⟨its, r, pl, hz⟩ := I.list hq
  obtain ⟨j, h1, h2, h3, h4, h5⟩ := atI_get he
  obtain ⟨w, ew, rw'⟩ := r.get h2
  have hl := r.length
  have hn := line63
  have fin : EP X pins σ Q w s := ⟨z, H, I, rw', q⟩
  by_cases h0 : 0 ≤ i
  · have hj : i.toNat = j := by
      rw [seqIndex_of h0 h5] at h1
      exact Option.some.inj h1
    exact item_listR pl.isList h0 (by omega) (by rw [hj]; simpa using ew) fin hs
  · have hj : (i + (its.toArray.size : Int)).toNat = j := by
      rw [seqIndex_neg (by omega) h4] at h1
      rw [List.size_toArray, ← hl]
      exact Option.some.inj h1
    exact subscriptTail_builtinR (x := w) pl.isList.typeIs slot_list_getitem.lookup
      (wpAny_getItem_list_neg (Q := fun r s' => r = w ∧ EP X pins σ Q r s') pl.isList (by omega) (by rw [List.size_toArray] <;> omega) (by omega) (by rw [hj]; simpa using ew) ⟨rfl, fin⟩) hs

/-! ### xs[i] = v, any sign -/
/-- the list's object behind a store -/
theorem mapSeq_set (its : List Value) (n j : Nat) (u : Value) : Obj.mapSeq (·.setIfInBounds j u) { cls := .type "list", data := .seq its.toArray n } = { cls := .type "list", data := .seq (its.set j u).toArray n } := by
  simp [Obj.mapSeq]
theorem Inv.lst {pins : List (Addr × Obj)} {σ : St} {H : Hp} {s : Shared} {p : Addr} {xs : List V} (I : Inv X pins σ H s) (h : H p = some (.lst xs)) :
    ∃ (its : List Value) (n : Nat), Vals xs its ∧ s.heap.get? p = some { cls := .type "list", data := .seq its.toArray n } ∧ xs.length ≤ sizeLine := by
  obtain ⟨z, its, n, r, e⟩ := I.hok p _ h
  exact ⟨its, n, r, e, z⟩
/-- the list at p is written by an update of its object -/
theorem Inv.lstUpd {pins : List (Addr × Obj)} {σ : St} {H : Hp} {s : Shared} {p : Addr} {xs ys : List V} {its its' : List Value} {n n' : Nat} {f : Obj → Obj} (I : Inv X pins σ H s) (h : H p = some (.lst xs))
    (ho : s.heap.get? p = some { cls := .type "list", data := .seq its.toArray n }) (hf : f { cls := .type "list", data := .seq its.toArray n } = { cls := .type "list", data := .seq its'.toArray n' }) (r : Vals ys its') (hz : ys.length ≤ sizeLine) (t : Nat) :
    Inv X pins σ (upd H p (.lst ys)) { s with heap := s.heap.update p f, toks := t } := by
  have e : (s.heap.update p f).get? p = some { cls := .type "list", data := .seq its'.toArray n' } := by
    rw [Heap.get?_update_self f ho (by rw [hf] <;> rfl), hf]
  refine I.write (x := p) (e := p) (by rw [h]; trivial) (.inl rfl) (fun b u hb q => (Heap.get?_update_other _ _ (Ne.symm hb)).trans q) ⟨_, e⟩ ?_
  exact ⟨hz, its', n', r, e⟩
def rSetL : V → V → V → Hp → (Hp → Prop) → Prop := fun o i v H Q => ∃ p xs k j, o = .ref p ∧ i = .int k ∧ H p = some (.lst xs) ∧ ixN xs.length k = some j ∧ Q (upd H p (.lst (xs.set j v)))
theorem set_list : PSet X rSetL := by
  intro pins s σ H o i v ov iv u Q I ro ri rv h
  obtain ⟨p, xs, k, j, rfl, rfl, hp, hj, q⟩ := h
  cases ro
  obtain ⟨t, rfl⟩ := ri
  obtain ⟨its, n, r, ho, hz⟩ := I.lst hp
  obtain ⟨h1, h2, h3, h4⟩ := ixN_seq hj
  have hl := r.length
  have hn := line63
  have I' : Inv X pins σ (upd H p (.lst (xs.set j v))) { s with heap := s.heap.update p (Obj.mapSeq (·.setIfInBounds j u)) } :=
    I.lstUpd hp ho (mapSeq_set its n j u) (r.set rv j) (by rw [List.length_set]; exact hz) s.toks
  by_cases h0 : 0 ≤ k
  · have hk : k.toNat = j := by
      rw [seqIndex_of h0 h4] at h1
      exact Option.some.inj h1
    exact PySem.W.ki_setAt ho h0 (by omega) (by rw [List.size_toArray, ← hl]; exact h4) (by rw [hk]; exact ⟨_, I', q⟩)
  · have hk : (k + (its.toArray.size : Int)).toNat = j := by
      rw [seqIndex_neg (by omega) h3] at h1
      rw [List.size_toArray, ← hl]
      exact Option.some.inj h1
    exact PySem.W.ki_setBack ho (by omega) (by rw [List.size_toArray, ← hl]; exact h3) (by omega) (by rw [hk]; exact ⟨_, I', q⟩)

/-! ### slices -/
theorem slice_bounds (lo hi : Option Int) (n : Nat) : (sliceBounds lo hi none n).1 = ((HT.sIx n 0 lo : Nat) : Int) ∧ (sliceBounds lo hi none n).2.1 = ((HT.sIx n n hi : Nat) : Int) ∧ (sliceBounds lo hi none n).2.2 = 1 := by
  refine ⟨?_, ?_, rfl⟩
  · cases lo with
    | none => simp [sliceBounds, HT.sIx]
    | some i =>
      simp only [sliceBounds, HT.sIx, Option.getD_none, show (1 : Int) > 0 by decide, if_true]
      by_cases h : i < 0
      · simp only [h, if_true] <;> omega
      · simp only [h, if_false] <;> omega
  · cases hi with
    | none => simp [sliceBounds, HT.sIx]
    | some i =>
      simp only [sliceBounds, HT.sIx, Option.getD_none, show (1 : Int) > 0 by decide, if_true]
      by_cases h : i < 0
      · simp only [h, if_true] <;> omega
      · simp only [h, if_false] <;> omega
theorem slicePick_cut (its : List Value) (lo hi : Option Int) : slicePick its.toArray lo hi none = ((its.drop (HT.sIx its.length 0 lo)).take (HT.sIx its.length its.length hi - HT.sIx its.length 0 lo)).toArray := by
  obtain ⟨h1, h2, h3⟩ := slice_bounds lo hi its.toArray.size
  unfold slicePick
  rw [h1, h2, h3]
  simp only [sliceRange_one, pick_run, List.size_toArray] <;> rfl
/-- xs[lo:hi] of a list: a new list -/
def rSlL (K : PySem.W.Frag) : V → Option Int → Option Int → Hp → VK → Prop := fun x lo hi H Q => ∃ a xs, x = .ref a ∧ SqL K H a xs ∧ ∀ p, H p = none → Q (.ref p) (upd H p (.lst (cutV xs lo hi)))
theorem sl_list : SlR X (rSlL X.K) := by
  intro pins s σ H x v vl vu lo hi sl Q I rx hs pl pu h
  obtain ⟨a, xs, rfl, hx, q⟩ := h
  cases rx
  obtain ⟨its, r, ht, hz⟩ := I.list hx
  have hlen := r.length
  refine ⟨"list", _, slot_list_getitem.lookup, ht.isList.typeIs, ?_⟩
  refine wpAny_getItem_list_slice ht.isList hs pl pu .none (by simp) ?_ (by rw [List.size_toArray] <;> omega)
  rw [slicePick_cut, ← hlen]
  refine ⟨.ref s.heap.objs.size, _, I.laid (t' := s.toks) (o := .lst (cutV xs lo hi)) (fun b ob q => Heap.get?_push_of_some _ q) (Nat.le_refl _) ?_, rfl, q _ (I.hok.fresh (Nat.le_refl _))⟩
  exact ⟨Nat.le_trans (cutV_length xs lo hi) hz, _, 0, (r.drop (HT.sIx xs.length 0 lo)).take (HT.sIx xs.length xs.length hi - HT.sIx xs.length 0 lo), Heap.get?_push_size _ rfl⟩

/-! ### in, not in: flat items -/

/-! ### len, list(x), tuple(x) of any list or tuple that is read -/
theorem call_len_seq : CallR X (.builtin "len") (fun xs H Q => ∃ p ys, xs = [.ref p] ∧ (SqL X.K H p ys ∨ SqT X.K H p ys) ∧ Q (.int ys.length) H) := by
  intro pins s σ H xs us Q I r h
  obtain ⟨p, ys, rfl, hq, q⟩ := h
  obtain ⟨u, rfl, rx⟩ := vals1 r
  cases rx
  have hn := line63
  rcases hq with hq | hq
  · obtain ⟨its, r', pl, hz⟩ := I.list hq
    have hlen := r'.length
    exact Calls.call_len_list pl.isList (by simp only [List.size_toArray] <;> omega) ⟨.int ys.length, H, I.tok _, ⟨s.toks + 1, by rw [List.size_toArray, hlen]⟩, q⟩
  · obtain ⟨its, r', pl, hz⟩ := I.tuple hq
    have hlen := r'.length
    exact len_tuple pl (by simp only [List.size_toArray] <;> omega) ⟨.int ys.length, H, I.tok _, ⟨s.toks + 1, by rw [List.size_toArray, hlen]⟩, q⟩

/-! ### the call of a builtin's method: o.m(..) -/
/-- the value is of that builtin type -/
def tyV (K : PySem.W.Frag) (T : String) (x : V) (H : Hp) : Prop := match x with
  | .str _ => T = "str"
  | .int _ => T = "int"
  | .ref p => (T = "list" ∧ ∃ xs, SqL K H p xs) ∨ (T = "tuple" ∧ ∃ o, K.lookup p = some o ∧ o.cls = .type "tuple" ∧ o.dict = none) ∨
      (T = "dict" ∧ ((∃ kvs, H p = some (.dK kvs)) ∨ ∃ kvs, H p = some (.dT kvs))) ∨ (T = "set" ∧ ∃ S n, H p = some (.set S n))
  | _ => False
theorem tyV_is {pins : List (Addr × Obj)} {σ : St} {H : Hp} {s : Shared} {T : String} {x : V} {v : Value} (I : Inv X pins σ H s) (r : RelV x v) (ty : tyV X.K T x H) :
    s.TypeIs v T ∧ ∀ a, v = .ref a → ∃ ob, s.heap.get? a = some ob ∧ ob.dict = none := by
  cases x with
  | str z =>
    obtain ⟨t, rfl⟩ := r
    cases (show T = "str" from ty)
    exact ⟨typeIs_str s z t, fun _ e => nomatch e⟩
  | int i =>
    obtain ⟨t, rfl⟩ := r
    cases (show T = "int" from ty)
    exact ⟨typeIs_int s i t, fun _ e => nomatch e⟩
  | ref p =>
    cases r
    rcases ty with ⟨rfl, xs, hq⟩ | ⟨rfl, o, hk, hc, hd⟩ | ⟨rfl, hk⟩ | ⟨rfl, S, n, hk⟩
    · obtain ⟨its, _, pl, _⟩ := I.list hq
      refine ⟨pl.isList.typeIs, fun a e => ?_⟩
      cases e
      obtain ⟨o, n, e, c, hd, _⟩ := pl
      exact ⟨o, e, hd⟩
    · refine ⟨⟨o, I.kIn p o hk, hc⟩, fun a e => ?_⟩
      cases e
      exact ⟨o, I.kIn _ o hk, hd⟩
    · have z : ∃ o, s.heap.get? p = some o ∧ o.ExactDict := by
        rcases hk with ⟨kvs, hk⟩ | ⟨kvs, hk⟩
        · obtain ⟨_, _, _, _, o, _, _, e, ex, _⟩ := I.hok p _ hk
          exact ⟨o, e, ex⟩
        · obtain ⟨_, _, _, _, o, _, _, e, ex, _⟩ := I.hok p _ hk
          exact ⟨o, e, ex⟩
      obtain ⟨o, e, ex⟩ := z
      refine ⟨⟨o, e, ex.1⟩, fun a e2 => ?_⟩
      cases e2
      exact ⟨o, e, ex.2.1⟩
    · obtain ⟨o, _, _, _, e, ex, _⟩ := I.hok p _ hk
      refine ⟨⟨o, e, ex.1⟩, fun a e2 => ?_⟩
      cases e2
      exact ⟨o, e, ex.2.1⟩
  | _ => exact False.elim ty
def tBM (K : PySem.W.Frag) (T : String) (r : V → List V → Hp → VK → Prop) (to : TE) (t : TA) : TE := fun σ H Q => to σ H fun x H1 => tyV K T x H1 ∧ t σ H1 fun xs H2 => r x xs H2 Q
variable {o e : Expr} {es : List Expr} {to : TE} {t : TA} {name : Str} {apos cpos : Pos} {T id : String} {r : V → List V → Hp → VK → Prop}
theorem pe_bm (pa : PlainAttrs T) (slot : Slot T name id) (hty : typeOf (.builtin id) = pure (.type "method_descriptor")) (hm : MtR X id r) (ho : PE X o to) (ha : PA X (e :: es) t)
    (hbase : attributeBase o name X.env (eval o X.env) = eval o X.env := by rfl)
    (hfew : ((backTo cpos (starEach (e :: es) X.env)).all (fun x => !x.1) && (backToKw cpos (keywordEach [] X.env)).all (fun x => x.1.isSome)
      && decide ((e :: es).length + ([] : List Keyword).length + (if ([] : List Keyword).isEmpty then 0 else 1) < 30)) = true := by rfl)
    (hline : (apos.endLine == cpos.line) = true := by rfl) (hs : starEach (e :: es) X.env = (false, eval e X.env) :: starEach es X.env := by rfl) (hplain : (backTo cpos (starEach es X.env)).any (·.1) = false := by rfl) :
    PE X (.Call (.Attribute o name apos) (e :: es) [] cpos) (tBM X.K T r to t) := by
  intro pins s σ H Q I h
  refine wpAny_Call_method_late hbase hfew hline rfl (thn (ho pins s σ H _ I h) fun v s1 ⟨x, H1, I1, r1, ty, q1⟩ => ?_)
  obtain ⟨h1, h2⟩ := tyV_is I1 r1 ty
  refine ⟨T, id, pa, slot, hty, h1, h2, ?_⟩
  have hA := ha cpos pins s1 σ H1 _ I1 q1
  rw [hs] at hA ⊢
  refine Calls.callWith_builtin (by show (false || (backTo cpos (starEach es X.env)).any (·.1)) = false; rw [hplain] <;> rfl) (Calls.evalArgs_plain ?_)
  exact thn hA fun us s2 ⟨vs, H2, I2, r2, q2⟩ => hm pins s2 σ H2 x vs v us Q I2 r1 r2 q2
/- xs.append(e), list.index on a module's tuple .. are MtR facts of 06m -/
end
end L2

namespace L2
open PySem PySem.Spec PyProof.Rows

def MtM (X : Cx) (id : String) (r : V → List V → Hp → VK → Prop) : Prop :=
  ∀ (pins : List (Addr × Obj)) (s : Shared) (σ : St) (H : Hp) (x : V) (xs : List V) (v : Value) (us : List Value) (Q : VK), Inv X pins σ H s → RelV x v → Vals xs us → r x xs H Q →
    wpAny (model X.prog X.w) X.A (call (.builtin id) (v :: us)) (EP X pins σ Q) X.xe s

/-! ### lists of values -/
theorem Vals.one : ∀ {x : V} {us : List Value}, Vals [x] us → ∃ u, us = [u] ∧ RelV x u
  | _, _, .cons r .nil => ⟨_, rfl, r⟩

section
variable {X : Cx} {pins : List (Addr × Obj)} {σ : St} {H : Hp} {s : Shared} {l b : Addr} {xs ys zs : List V}

/-! ### the two steps: a tracked list is rewritten, a new list is laid -/
theorem Inv.lset {its its' : List Value} {n : Nat} {f : Array Value → Array Value} {t' : Nat} (I : Inv X pins σ H s) (hH : H l = some (.lst xs))
    (e : s.heap.get? l = some { cls := .type "list", data := .seq its.toArray n }) (hf : f its.toArray = its'.toArray) (hv : Vals ys its') (hz : ys.length ≤ sizeLine) :
    Inv X pins σ (upd H l (.lst ys)) { s with heap := s.heap.update l (Obj.mapSeq f), toks := t' } := by
  have q := PySem.IsL.update e f
  rw [hf] at q
  refine I.write (x := l) (e := l) (by rw [hH]; exact trivial) (.inl rfl) (fun b' u hb hu => (Heap.get?_update_other s.heap (Obj.mapSeq f) (Ne.symm hb)).trans hu) ⟨_, q⟩ ?_
  exact ⟨hz, its', _, hv, q⟩
theorem Inv.lnew {its : List Value} {t' : Nat} (I : Inv X pins σ H s) (hv : Vals ys its) (hz : ys.length ≤ sizeLine) :
    Inv X pins σ (upd H s.heap.objs.size (.lst ys)) { s with heap := s.heap.push { cls := .type "list", data := .seq its.toArray }, toks := t' } :=
  I.laid (fun _ _ q => Heap.get?_push_of_some _ q) (Nat.le_refl _) ⟨hz, its, 0, hv, Heap.get?_push_size _ rfl⟩
theorem Inv.fresh (I : Inv X pins σ H s) : H s.heap.objs.size = none := I.hok.fresh (Nat.le_refl _)
theorem Inv.lstM (I : Inv X pins σ H s) (hH : H l = some (.lst xs)) : xs.length ≤ sizeLine ∧ ∃ (its : List Value) (n : Nat), Vals xs its ∧ xs.length = its.length ∧ s.heap.get? l = some { cls := .type "list", data := .seq its.toArray n } := by
  obtain ⟨z, its, n, r, e⟩ := I.hok l _ hH
  exact ⟨z, its, n, r, r.length, e⟩

theorem notLongL {n : Nat} (h : n ≤ sizeLine) : Builtin.List.listTooLong n = false := by
  unfold Builtin.List.listTooLong
  exact decide_eq_false (by omega)
end

section
variable {X : Cx}

/-! ### methods -/
def rAppend : V → List V → Hp → VK → Prop := fun x vs H Q => ∃ l xs y, x = .ref l ∧ vs = [y] ∧ H l = some (.lst xs) ∧ xs.length < sizeLine ∧ Q .non (upd H l (.lst (xs ++ [y])))
theorem mt_append : MtM X "list.append" rAppend := by
  intro pins s σ H x vs v us Q I rx rv h
  obtain ⟨l, xs, y, rfl, rfl, hH, hz, q⟩ := h
  cases rx
  obtain ⟨u, rfl, ru⟩ := rv.one
  obtain ⟨z, its, n, r, hl, e⟩ := I.lstM hH
  refine call_meets F.slot_list_append ⟨_, e, rfl⟩ F.entry_list_append (F.args_list_append_2 _ _) (PySem.list_append l its.toArray n u (by rw [List.size_toArray]; omega)) ⟨e, ?_⟩
  refine ⟨.non, _, I.lset (its' := its ++ [u]) hH e (by simp) (r.append (.cons ru .nil)) ?_, rfl, q⟩
  rw [List.length_append, List.length_singleton]
  omega

def rExtend : V → List V → Hp → VK → Prop := fun x vs H Q => ∃ l b xs zs, x = .ref l ∧ vs = [.ref b] ∧ H l = some (.lst xs) ∧ H b = some (.lst zs) ∧ xs.length + zs.length ≤ sizeLine ∧ Q .non (upd H l (.lst (xs ++ zs)))
theorem mt_extend : MtM X "list.extend" rExtend := by
  intro pins s σ H x vs v us Q I rx rv h
  obtain ⟨l, b, xs, zs, rfl, rfl, hH, hB, hz, q⟩ := h
  cases rx
  obtain ⟨u, rfl, ru⟩ := rv.one
  cases ru
  obtain ⟨z, its, n, r, hl, e⟩ := I.lstM hH
  obtain ⟨z2, its2, n2, r2, hl2, e2⟩ := I.lstM hB
  have hsz : its.toArray.size + its2.toArray.size ≤ sizeLine := by rw [List.size_toArray, List.size_toArray]; omega
  have hlong : ¬ (!its.toArray.isEmpty && Builtin.List.listTooLong (its.toArray.size + its2.toArray.size)) = true := by
    rw [notLongL hsz, Bool.and_false]
    exact Bool.false_ne_true
  refine call_meets F.slot_list_extend ⟨_, e, rfl⟩ F.entry_list_extend (F.args_list_extend_2 _ _)
    (AutoSeq1.list_extend_list_list_0 l its.toArray n b its2.toArray n2 hlong (by rw [List.size_toArray]; omega) (by omega)) ⟨e, e2, ?_⟩
  refine ⟨.non, _, I.lset (its' := its ++ its2) hH e (by simp) (r.append r2) ?_, rfl, q⟩
  rw [List.length_append]
  omega





/-! ### list + list, list += list, list * int -/
def rCat : R2 := fun x y H Q => ∃ l b xs zs, x = .ref l ∧ y = .ref b ∧ H l = some (.lst xs) ∧ H b = some (.lst zs) ∧ xs.length + zs.length ≤ sizeLine ∧ ∀ p, H p = none → Q (.ref p) (upd H p (.lst (xs ++ zs)))
theorem op_cat : OpR X (binaryOp .Add) rCat := by
  intro pins s σ H x y v u Q I rx ry h
  obtain ⟨l, b, xs, zs, rfl, rfl, hH, hB, hz, q⟩ := h
  cases rx
  cases ry
  obtain ⟨z, its, n, r, hl, e⟩ := I.lstM hH
  obtain ⟨z2, its2, n2, r2, hl2, e2⟩ := I.lstM hB
  refine PySem.P.add_list e e2 ?_ (by rw [List.size_toArray, List.size_toArray]; omega)
  have ea : its.toArray ++ its2.toArray = (its ++ its2).toArray := by simp
  rw [ea]
  exact ⟨.ref _, _, I.lnew (t' := s.toks) (r.append r2) (by rw [List.length_append]; omega), rfl, q _ I.fresh⟩

/-! ### del xs[i] -/
end

/-! ### xs[a:b] = ys -/
section
variable {prog : Program} {w : World} {A : Around} {E : Value → Shared → Prop} {s : Shared}
set_option maxRecDepth 100000 in
end

section
variable {X : Cx}
end
end L2

namespace L2
open PySem PySem.Spec PyProof.Rows


/-! ### the library's walks over a list of ints, kept objects alone -/
section
variable {prog : Program} {w : World} {A : Around} {E : Value → Shared → Prop} {s : Shared} {l : Addr} {its : List Value} {ns : List Int} {Q : Value → Shared → Prop}
end

/-! ### the calls, by values (CallR of 03t; MtR of 06l) -/
section
variable {X : Cx}

/-! sorted, sort (fewer than 64 items: the library's own bound) -/
end

/-! ### list.index, flat items -/
section
variable {X : Cx}
end

/-! ### type(x) of an own instance; is, is not of a module's class -/
section
variable {X : Cx}
end

/-! ### any(xs), all(xs) of a list of bools -/
section
variable {X : Cx}
end

/-! ### == and != of data at any depth: none, bools, ints, texts, lists, tuples -/
mutual
inductive Dp (K : PySem.W.Frag) (H : Hp) : V → PyData → Prop
  | non : Dp K H .non .none
  | bl (b : Bool) : Dp K H (.bl b) (.bool b)
  | int (i : Int) : Dp K H (.int i) (.int i)
  | str (x : Str) : Dp K H (.str x) (.str x)
  | lst {a : Addr} {xs : List V} {ds : List PyData} : SqL K H a xs → DpAll K H xs ds → Dp K H (.ref a) (.list ds)
  | tup {a : Addr} {xs : List V} {ds : List PyData} : SqT K H a xs → DpAll K H xs ds → Dp K H (.ref a) (.tuple ds)
inductive DpAll (K : PySem.W.Frag) (H : Hp) : List V → List PyData → Prop
  | nil : DpAll K H [] []
  | cons {v : V} {vs : List V} {d : PyData} {ds : List PyData} : Dp K H v d → DpAll K H vs ds → DpAll K H (v :: vs) (d :: ds)
end
section
variable {X : Cx} {pins : List (Addr × Obj)} {σ : St} {H : Hp} {s : Shared}
mutual
theorem Dp.reads (I : Inv X pins σ H s) : ∀ (d : PyData) (v : V) (u : Value), Dp X.K H v d → RelV v u → ∃ as, Reads s.heap u d as
  | .none, _, _, h, r => by
    cases h
    cases r
    exact ⟨_, Reads.none⟩
  | .bool b, _, _, h, r => by
    cases h
    cases r
    exact ⟨_, Reads.bool b⟩
  | .int i, _, _, h, r => by
    cases h
    obtain ⟨t, rfl⟩ := r
    exact ⟨_, Reads.int i t⟩
  | .str x, _, _, h, r => by
    cases h
    obtain ⟨t, rfl⟩ := r
    exact ⟨_, Reads.str x t⟩
  | .list ds, _, _, h, r => by
    cases h with
    | lst hs ha =>
      cases r
      obtain ⟨its, rv, ⟨o, n, ho, hc, _, hd⟩, _⟩ := I.list hs
      obtain ⟨as, hr⟩ := Dp.readsAll I ds _ its ha rv
      exact ⟨_, Reads.list ho hc hd hr⟩
  | .tuple ds, _, _, h, r => by
    cases h with
    | tup hs ha =>
      cases r
      obtain ⟨its, rv, ⟨o, ho, hc, n, hd⟩, _⟩ := I.tuple hs
      obtain ⟨as, hr⟩ := Dp.readsAll I ds _ its ha rv
      exact ⟨_, Reads.tuple ho hc hd hr⟩
  | .dict _, _, _, h, _ => by cases h
theorem Dp.readsAll (I : Inv X pins σ H s) : ∀ (ds : List PyData) (vs : List V) (us : List Value), DpAll X.K H vs ds → Vals vs us → ∃ as, ReadsAll s.heap us ds as
  | [], _, _, h, r => by
    cases h
    cases r
    exact ⟨_, ReadsAll.nil⟩
  | d :: ds, _, _, h, r => by
    cases h with
    | cons h1 h2 =>
      cases r with
      | cons r1 r2 =>
        obtain ⟨as, q1⟩ := Dp.reads I d _ _ h1 r1
        obtain ⟨bs, q2⟩ := Dp.readsAll I ds _ _ h2 r2
        exact ⟨_, ReadsAll.cons q1 q2⟩
end
end
section
variable {X : Cx}
def rEqD (K : PySem.W.Frag) : R2 := fun x y H Q => ∃ d e, Dp K H x d ∧ Dp K H y e ∧ SeqAt.shaped d = true ∧ SeqAt.shaped e = true ∧ Q (.bl (PyData.eqv d e)) H
def rNeD (K : PySem.W.Frag) : R2 := fun x y H Q => ∃ d e, Dp K H x d ∧ Dp K H y e ∧ SeqAt.shaped d = true ∧ SeqAt.shaped e = true ∧ Q (.bl (!PyData.eqv d e)) H
theorem op_eqD (hu : X.A.units + 64 < cLine) : OpR X (compareOp .Eq) (rEqD X.K) := by
  intro pins s σ H x y v u Q I rx ry h
  obtain ⟨d, e, hd, he, sd, se, q⟩ := h
  obtain ⟨as, r1⟩ := Dp.reads I d x v hd rx
  obtain ⟨bs, r2⟩ := Dp.reads I e y u he ry
  exact SeqAt.compareEq_shaped r1 r2 sd se hu ⟨.bl _, H, I, rfl, q⟩
theorem op_neD (hu : X.A.units + 64 < cLine) : OpR X (compareOp .NotEq) (rNeD X.K) := by
  intro pins s σ H x y v u Q I rx ry h
  obtain ⟨d, e, hd, he, sd, se, q⟩ := h
  obtain ⟨as, r1⟩ := Dp.reads I d x v hd rx
  obtain ⟨bs, r2⟩ := Dp.reads I e y u he ry
  exact SeqAt.compareNe_shaped r1 r2 sd se hu ⟨.bl _, H, I, rfl, q⟩
end
end L2

namespace L2
open PySem PySem.Spec PyProof.Rows
abbrev CellAt (h : Heap) (c : Addr) (v : Option Value) : Prop := h.IsCell c v
def relS (scope sc : Scope) : Scope :=
  { scope with names := scope.names.map fun (n, k) => if (k == .free && sc.kind == .function && sc.names.lookup n == some .cell) then (n, .cell) else (n, k) }

def cloFrom (cells : List (Str × Addr)) : List (Str × NameKind) → List (Str × Addr) → List (Str × Addr)
  | [], acc => acc
  | (n, k) :: r, acc => if k == .free then cloFrom cells r ((n, (cells.lookup n).getD 0) :: acc) else cloFrom cells r acc

theorem closure_loop (env : Env) (f : Str × NameKind → List (Str × Addr) → Sem (ForInStep (List (Str × Addr))))
    (hf : ∀ n k c, f (n, k) c = if k == .free then (do let a ← cellOf env n; pure (.yield ((n, a) :: c))) else pure (.yield c)) :
    ∀ (names : List (Str × NameKind)) (acc : List (Str × Addr)), (∀ y ∈ names, y.2 = .free → ∃ c, env.cells.lookup y.1 = some c) → forIn names acc f = pure (cloFrom env.cells names acc)
  | [], acc, _ => by rw [List.forIn_nil]; rfl
  | (n, k) :: r, acc, h => by
    rw [List.forIn_cons, hf]
    have ih := fun acc => closure_loop env f hf r acc fun y hy => h y (List.mem_cons_of_mem _ hy)
    unfold cloFrom
    by_cases hk : (k == NameKind.free) = true
    · rw [if_pos hk, if_pos hk]
      obtain ⟨c, hc⟩ := h (n, k) List.mem_cons_self (by simpa using hk)
      have e : cellOf env n = pure c := by unfold cellOf; rw [hc]
      rw [e]
      have e2 : (env.cells.lookup n).getD 0 = c := by rw [hc]; rfl
      rw [e2]
      exact ih _
    · rw [if_neg hk, if_neg hk]
      exact ih _
theorem closure_ok {scope : Scope} {env : Env} (h : ∀ y ∈ scope.names, y.2 = .free → ∃ c, env.cells.lookup y.1 = some c) : closureFor scope env = pure (cloFrom env.cells scope.names []) := by
  simp only [closureFor]
  rw [closure_loop env _ (fun n k c => rfl) scope.names [] h]
  rfl

theorem mem_lookup {α : Type} : ∀ {l : List (Str × α)} {n : Str} {c : α}, (n, c) ∈ l → ∃ c', l.lookup n = some c'
  | (k, v) :: r, n, c, h => by
    rw [List.lookup_cons]
    cases hb : n == k with
    | true => exact ⟨_, rfl⟩
    | false =>
      rcases List.mem_cons.mp h with e | h
      · cases e; simp at hb
      · exact mem_lookup h

theorem cloFrom_mem {cells : List (Str × Addr)} : ∀ {names : List (Str × NameKind)} {acc : List (Str × Addr)} {n : Str} {c : Addr}, (n, c) ∈ cloFrom cells names acc → (n, c) ∈ acc ∨ ((n, .free) ∈ names ∧ c = (cells.lookup n).getD 0)
  | [], _, _, _, h => .inl h
  | (m, k) :: r, acc, n, c, h => by
    unfold cloFrom at h
    split at h
    · rename_i hk
      have hk : k = .free := by simpa using hk
      rcases cloFrom_mem h with h | ⟨h1, h2⟩
      · rcases List.mem_cons.mp h with e | h
        · cases e; exact .inr ⟨hk ▸ List.mem_cons_self, rfl⟩
        · exact .inl h
      · exact .inr ⟨List.mem_cons_of_mem _ h1, h2⟩
    · rcases cloFrom_mem h with h | ⟨h1, h2⟩
      · exact .inl h
      · exact .inr ⟨List.mem_cons_of_mem _ h1, h2⟩
theorem cloFrom_acc {cells : List (Str × Addr)} : ∀ {names : List (Str × NameKind)} {acc : List (Str × Addr)} {p : Str × Addr}, p ∈ acc → p ∈ cloFrom cells names acc
  | [], _, _, h => h
  | (m, k) :: r, acc, p, h => by
    unfold cloFrom
    split
    · exact cloFrom_acc (List.mem_cons_of_mem _ h)
    · exact cloFrom_acc h
theorem cloFrom_has {cells : List (Str × Addr)} : ∀ {names : List (Str × NameKind)} {acc : List (Str × Addr)} {n : Str}, (n, .free) ∈ names → (n, (cells.lookup n).getD 0) ∈ cloFrom cells names acc
  | (m, k) :: r, acc, n, h => by
    unfold cloFrom
    rcases List.mem_cons.mp h with e | h
    · cases e
      exact cloFrom_acc List.mem_cons_self
    · split
      · exact cloFrom_has h
      · exact cloFrom_has h

theorem cells_mem : ∀ {names : List (Str × NameKind)} {h : Heap} {acc : List (Str × Addr)} {x : Str} {c : Addr}, (x, c) ∈ cellsFrom h.objs.size names acc →
    (x, c) ∈ acc ∨ ((x, .cell) ∈ names ∧ h.objs.size ≤ c ∧ CellAt (pushCells h names) c none)
  | [], _, _, _, _, h => .inl h
  | (n, k) :: r, h, acc, x, c, hm => by
    unfold cellsFrom at hm
    unfold pushCells
    split at hm
    · rename_i hk
      rw [if_pos hk]
      have hk : k = .cell := by simpa using hk
      rw [← Heap.size_push h { cls := .type "cell", data := .cell none }] at hm
      rcases cells_mem hm with hm | ⟨h1, h2, h3⟩
      · rcases List.mem_cons.mp hm with e | hm
        · cases e
          exact .inr ⟨hk ▸ List.mem_cons_self, Nat.le_refl _, _, pushCells_keeps r _ _ _ (Heap.get?_push_size _ rfl), rfl⟩
        · exact .inl hm
      · rw [Heap.size_push] at h2
        exact .inr ⟨List.mem_cons_of_mem _ h1, Nat.le_of_succ_le h2, h3⟩
    · rename_i hk
      rw [if_neg hk]
      rcases cells_mem hm with hm | ⟨h1, h2, h3⟩
      · exact .inl hm
      · exact .inr ⟨List.mem_cons_of_mem _ h1, h2, h3⟩
theorem cells_acc : ∀ {names : List (Str × NameKind)} {n : Nat} {acc : List (Str × Addr)} {p : Str × Addr}, p ∈ acc → p ∈ cellsFrom n names acc
  | [], _, _, _, h => h
  | (m, k) :: r, n, acc, p, h => by
    unfold cellsFrom
    split
    · exact cells_acc (List.mem_cons_of_mem _ h)
    · exact cells_acc h
theorem cells_has : ∀ {names : List (Str × NameKind)} {n : Nat} {acc : List (Str × Addr)} {x : Str}, (x, .cell) ∈ names → ∃ c, (x, c) ∈ cellsFrom n names acc
  | (m, k) :: r, n, acc, x, h => by
    unfold cellsFrom
    rcases List.mem_cons.mp h with e | h
    · cases e
      exact ⟨n, cells_acc List.mem_cons_self⟩
    · split
      · exact cells_has h
      · exact cells_has h
theorem cells_inj : ∀ {names : List (Str × NameKind)} {h : Heap} {acc : List (Str × Addr)} {x y : Str} {c : Addr}, (∀ p ∈ acc, p.2 < h.objs.size) → (∀ x y c, (x, c) ∈ acc → (y, c) ∈ acc → x = y) →
    (x, c) ∈ cellsFrom h.objs.size names acc → (y, c) ∈ cellsFrom h.objs.size names acc → x = y
  | [], _, _, _, _, _, _, hi, h1, h2 => hi _ _ _ h1 h2
  | (n, k) :: r, h, acc, x, y, c, hl, hi, h1, h2 => by
    unfold cellsFrom at h1 h2
    split at h1
    · rename_i hk
      rw [if_pos hk] at h2
      rw [← Heap.size_push h { cls := .type "cell", data := .cell none }] at h1 h2
      refine cells_inj (h := h.push _) (fun p hp => ?_) (fun x y c a b => ?_) h1 h2
      · rw [Heap.size_push]
        rcases List.mem_cons.mp hp with rfl | hp
        · exact Nat.lt_succ_self _
        · exact Nat.lt_succ_of_lt (hl p hp)
      · rcases List.mem_cons.mp a with e | a <;> rcases List.mem_cons.mp b with e' | b
        · cases e; cases e'; rfl
        · cases e; exact absurd (hl _ b) (Nat.lt_irrefl _)
        · cases e'; exact absurd (hl _ a) (Nat.lt_irrefl _)
        · exact hi _ _ _ a b
    · rename_i hk
      rw [if_neg hk] at h2
      exact cells_inj hl hi h1 h2

theorem newEnv_comp {M : Model} {A : Around} {E : Value → Shared → Prop} {s : Shared} {scope : Scope} {globals : Addr} {closure : List (Str × Addr)} {qual : Str} {func : Option Addr} {code : Value} {around : Env} {builtins : Addr} {Q : Env → Shared → Prop}
    (h : Q (newEnv scope s.heap.objs.size globals (cellsFrom (s.heap.objs.size + 1) scope.names closure) qual func code (some around) builtins)
      { s with heap := pushCells (s.heap.push { cls := .type "dict", data := .dict #[] }) scope.names }) :
    wpAny M A (newFunctionEnv scope globals closure [] qual func code (some around) builtins) Q E s := by
  simp only [newFunctionEnv, Option.isSome_some, if_true]
  refine wpAny_bind (wpAny_alloc ?_)
  refine wpAny_bind (wpAny_layCells _ (fun n k c => rfl) scope.names closure _ _ ?_)
  rw [show ({ s with heap := s.heap.push { cls := .type "dict", data := .dict #[] } } : Shared).heap.objs.size = s.heap.objs.size + 1 from Heap.size_push ..]
  rw [List.forIn_nil]
  exact wpAny_bind (wpAny_pure (wpAny_pure h))

/-- every name of the written scope, in the scope that runs -/
theorem lookup_relS {sc : Scope} : ∀ {names : List (Str × NameKind)} {x : Str} {k : NameKind},
    (names.map fun (n, k) => if (k == NameKind.free && sc.kind == .function && sc.names.lookup n == some .cell) then (n, NameKind.cell) else (n, k)).lookup x = some k →
    ∃ k', names.lookup x = some k' ∧ (k = k' ∨ (k' = .free ∧ k = .cell))
  | [], _, _, h => by simp at h
  | (n, k₀) :: r, x, k, h => by
    have ih := @lookup_relS sc r x k
    have h' : List.lookup x ((if (k₀ == NameKind.free && sc.kind == .function && sc.names.lookup n == some .cell) = true then (n, NameKind.cell) else (n, k₀)) :: (r.map _)) = some k := h
    cases hx : x == n with
    | true =>
      simp only [List.lookup_cons, hx]
      by_cases hc : (k₀ == NameKind.free && sc.kind == .function && sc.names.lookup n == some .cell) = true
      · rw [if_pos hc] at h'
        simp only [List.lookup_cons, hx] at h'
        cases h'
        simp only [Bool.and_eq_true, beq_iff_eq] at hc
        exact ⟨k₀, rfl, .inr ⟨hc.1.1, rfl⟩⟩
      · rw [if_neg hc] at h'
        simp only [List.lookup_cons, hx] at h'
        cases h'
        exact ⟨_, rfl, .inl rfl⟩
    | false =>
      simp only [List.lookup_cons, hx]
      by_cases hc : (k₀ == NameKind.free && sc.kind == .function && sc.names.lookup n == some .cell) = true
      · rw [if_pos hc] at h'
        simp only [List.lookup_cons, hx] at h'
        exact ih h'
      · rw [if_neg hc] at h'
        simp only [List.lookup_cons, hx] at h'
        exact ih h'



/-- the names of a comprehension's block: its own (with their places in N), or captured -/
structure BlkOk (N : List Str) (sc scope : Scope) (own : List (Str × Nat)) : Prop where
  kind : scope.kind = .function
  uniq : ∀ y ∈ scope.names, scope.names.lookup y.1 = some y.2
  ix : ∀ p ∈ own, N[p.2]? = some p.1
  free : ∀ y ∈ scope.names, y.2 = .free → sc.names.lookup y.1 = some .cell ∨ sc.names.lookup y.1 = some .free
  own : ∀ y ∈ scope.names, y.2 = .local ∨ y.2 = .cell → y.1 ∈ own.map (·.1) ∨ y.1 ∉ N
/-- the slots of the block's own names forgotten -/
def wipe (σ : St) : List Nat → St
  | [] => σ
  | v :: vs => (wipe σ vs).set v none
theorem wipe_length (σ : St) : ∀ vs : List Nat, (wipe σ vs).length = σ.length
  | [] => rfl
  | v :: vs => by unfold wipe; rw [List.length_set, wipe_length σ vs]
theorem wipe_some {σ : St} {i : Nat} {x : V} : ∀ {vs : List Nat}, (wipe σ vs)[i]? = some (some x) → σ[i]? = some (some x) ∧ i ∉ vs
  | [], h => ⟨h, by simp⟩
  | v :: vs, h => by
    unfold wipe at h
    by_cases hi : v = i
    · subst hi
      by_cases hv : v < (wipe σ vs).length
      · rw [List.getElem?_set_self hv] at h; cases h
      · rw [List.getElem?_eq_none (by simpa using hv)] at h; cases h
    · rw [List.getElem?_set_ne hi] at h
      obtain ⟨h1, h2⟩ := wipe_some h
      exact ⟨h1, by simp only [List.mem_cons, not_or]; exact ⟨fun e => hi e.symm, h2⟩⟩

/-- the context of a block that starts at s, its iterator's objects at fp -/
abbrev Cx.blk (X : Cx) (s : Shared) (H : Hp) (scope : Scope) (cenv : Env) (fp : List Addr) : Cx := { X with s_0 := s, H_0 := H, env := cenv, outer := X.stack, ex := fp, fn := fun x => scope.names.lookup x == some .cell, pn := [], xe := fun _ _ => False }
section
variable {X : Cx} {pins : List (Addr × Obj)} {σ : St} {H : Hp} {s : Shared}
theorem block_start {scope : Scope} {own : List (Str × Nat)} {fp : List Addr} (I : Inv X pins σ H s) (ok : BlkOk X.N X.env.scope scope own) (hN : X.N.Nodup) (hfp : ∀ b ∈ fp, FpOk X pins H b ∧ b < s.heap.objs.size) :
    Inv (X.blk s H scope (compEnvC scope (cellsFrom (s.heap.objs.size + 1) scope.names (cloFrom X.env.cells scope.names [])) s.heap.objs.size X.env) fp) [] (wipe σ (own.map (·.2))) H { s with heap := pushCells (s.heap.push { cls := .type "dict", data := .dict #[] }) scope.names } := by
  have hfree : ∀ y ∈ scope.names, y.2 = .free → ∃ c, X.env.cells.lookup y.1 = some c := fun y hy e => by
    rcases ok.free y hy e with k | k
    · exact I.ok.has _ (.inl k)
    · exact I.ok.has _ (.inr k)
  generalize hcenv : compEnvC scope (cellsFrom (s.heap.objs.size + 1) scope.names (cloFrom X.env.cells scope.names [])) s.heap.objs.size X.env = cenv
  have kp : ∀ b o, s.heap.get? b = some o → (pushCells (s.heap.push { cls := .type "dict", data := .dict #[] }) scope.names).get? b = some o := fun b o e => pushCells_keeps _ _ _ _ (Heap.get?_push_of_some _ e)
  have hL : cenv.locals = s.heap.objs.size := by rw [← hcenv]; rfl
  have hcl : cenv.cells = cellsFrom (s.heap.objs.size + 1) scope.names (cloFrom X.env.cells scope.names []) := by rw [← hcenv]; rfl
  have hsc : cenv.scope = relS scope X.env.scope := by rw [← hcenv]; rfl
  rw [← Heap.size_push s.heap { cls := .type "dict", data := .dict #[] }] at hcl
  have cm : ∀ {y c}, (y, c) ∈ cloFrom X.env.cells scope.names [] → X.env.cells.lookup y = some c ∧ c < s.heap.objs.size := fun {y c} hm => by
    rcases cloFrom_mem hm with hm | ⟨h1, rfl⟩
    · cases hm
    · obtain ⟨c, hc⟩ := hfree _ h1 rfl
      rw [hc]
      obtain ⟨w, z⟩ := I.cell _ _ hc
      exact ⟨rfl, z.lt⟩
  have mem : ∀ {y c}, cenv.cells.lookup y = some c → (X.env.cells.lookup y = some c ∧ c < s.heap.objs.size) ∨ (s.heap.objs.size + 1 ≤ c ∧ CellAt (pushCells (s.heap.push { cls := .type "dict", data := .dict #[] }) scope.names) c none) := fun {y c} e => by
    rw [hcl] at e
    rcases cells_mem (PySem.mem_of_lookup e) with hm | ⟨_, h2, h3⟩
    · exact .inl (cm hm)
    · rw [Heap.size_push] at h2; exact .inr ⟨h2, h3⟩
  have look : ∀ {y}, scope.names.lookup y = some .free → ∃ c, cenv.cells.lookup y = some c ∧ X.env.cells.lookup y = some c := fun {y} hl => by
    have hy : (y, NameKind.free) ∈ scope.names := PySem.mem_of_lookup hl
    obtain ⟨c', e'⟩ := mem_lookup (cells_acc (names := scope.names) (n := (s.heap.push { cls := .type "dict", data := .dict #[] }).objs.size) (cloFrom_has (cells := X.env.cells) (acc := []) hy))
    rw [← hcl] at e'
    refine ⟨c', e', ?_⟩
    rw [hcl] at e'
    rcases cells_mem (PySem.mem_of_lookup e') with hm | ⟨h1, _, _⟩
    · exact (cm hm).1
    · have := ok.uniq _ h1
      rw [hl] at this; cases this
  have okB : (X.blk s H scope cenv fp).Ok := by
    refine ⟨I.ok.mod, by show cenv.scope.kind = _; rw [hsc]; exact ok.kind, by show cenv.globals = _; rw [← hcenv]; exact I.ok.glob, by show cenv.builtins = _; rw [← hcenv]; exact I.ok.blt, by show s.heap.objs.size ≤ cenv.locals; rw [hL]; exact Nat.le_refl _,
      fun y z c e1 e2 => ?_, fun y hy => ?_, fun y c z e => ?_, I.ok.hd, I.ok.frames, .inl rfl, fun b hb => ⟨?_, fun y c e z => ?_⟩, I.bs, Nat.le_trans I.ok.bsz I.sz, fun b o e hb => ?_, fun b hb z => ?_, I.stack, I.stkFree⟩
    · have e1 : cenv.cells.lookup y = some c := e1
      have e2 : cenv.cells.lookup z = some c := e2
      rw [hcl] at e1 e2
      refine cells_inj (fun p hp => ?_) (fun y z c a b => I.ok.inj y z c (cm a).1 (cm b).1) (PySem.mem_of_lookup e1) (PySem.mem_of_lookup e2)
      rw [Heap.size_push]
      exact Nat.lt_succ_of_lt (cm (y := p.1) (c := p.2) hp).2
    · show ∃ c, cenv.cells.lookup y = some c
      have key : ∀ k, cenv.kindOf y = some k → (k = .cell ∨ k = .free) → ∃ c, cenv.cells.lookup y = some c := fun k hk hk' => by
        unfold Env.kindOf at hk
        rw [hsc] at hk
        obtain ⟨k', e, r⟩ := lookup_relS hk
        have : k' = .cell ∨ k' = .free := by
          rcases r with rfl | ⟨rfl, _⟩
          · exact hk'
          · exact .inr rfl
        rcases this with rfl | rfl
        · obtain ⟨c, hm⟩ := cells_has (n := (s.heap.push { cls := .type "dict", data := .dict #[] }).objs.size) (acc := cloFrom X.env.cells scope.names []) (PySem.mem_of_lookup e)
          obtain ⟨c', e'⟩ := mem_lookup hm
          exact ⟨c', by rw [hcl]; exact e'⟩
        · obtain ⟨c, h1, _⟩ := look e
          exact ⟨c, h1⟩
      rcases hy with hy | hy
      · exact key _ hy (.inl rfl)
      · exact key _ hy (.inr rfl)
    · have z : (scope.names.lookup y == some NameKind.cell) = true := z
      have z : scope.names.lookup y = some .cell := by simpa using z
      have e : cenv.cells.lookup y = some c := e
      rw [hcl] at e
      rcases cells_mem (PySem.mem_of_lookup e) with hm | ⟨_, h2, _⟩
      · rcases cloFrom_mem hm with hm | ⟨h1, _⟩
        · cases hm
        · have q := ok.uniq _ h1
          rw [z] at q; cases q
      · rw [Heap.size_push] at h2
        exact Nat.le_of_succ_le h2
    · show b ≠ cenv.locals
      rw [hL]; exact Nat.ne_of_lt (hfp b hb).2
    · have e : cenv.cells.lookup y = some c := e
      rcases mem e with ⟨h1, _⟩ | ⟨h1, _⟩
      · exact (hfp b hb).1.2.2.2.2.1 y c h1 z
      · have h2 : s.heap.objs.size + 1 ≤ b := by rw [← z]; exact h1
        exact absurd (Nat.lt_of_lt_of_le (hfp b hb).2 (Nat.le_of_succ_le h2)) (Nat.lt_irrefl _)
    · rcases (hfp b hb).1.2.2.2.1 with z | z
      · exact I.ok.noex b o e z
      · exact absurd (Nat.lt_of_lt_of_le (Heap.lt_size e) (Nat.le_trans I.ok.bsz z)) (Nat.lt_irrefl _)
    · rcases List.mem_cons.mp (I.stkSub b z) with z | z
      · exact (hfp b hb).1.2.1 z
      · exact (hfp b hb).1.2.2.1 z
  refine ⟨okB, rfl, I.bare, Un.kept kp, ⟨fun _ => none, ?_, fun i y av e1 e2 e3 => ?_⟩, fun y c e => ?_, ?_, fun y c e => ?_, fun p hp => ?_, I.hok.kept kp, by rw [wipe_length]; exact I.len⟩
  · show Heap.Ns _ cenv.locals _
    rw [hL]
    exact Heap.Ns.keeps (Heap.Ns.new ..) fun b o e => pushCells_keeps _ _ _ _ e
  · obtain ⟨e2, hne⟩ := wipe_some e2
    have hfr : scope.names.lookup y = some .free ∧ (cenv.kindOf y = some .cell ∨ cenv.kindOf y = some .free) := by
      have key : ∀ k, cenv.scope.names.lookup y = some k → k = .local ∨ k = .cell ∨ k = .free → scope.names.lookup y = some .free ∧ (cenv.kindOf y = some .cell ∨ cenv.kindOf y = some .free) := fun k hk hk' => by
        have hk0 := hk
        rw [hsc] at hk
        obtain ⟨k', e, r⟩ := lookup_relS hk
        have no : ¬ (k' = .local ∨ k' = .cell) := fun hh => by
          rcases ok.own _ (PySem.mem_of_lookup e) hh with e' | e'
          · obtain ⟨p, hp, hpy⟩ := List.mem_map.mp e'
            have e3 := ok.ix p hp
            have : p.1 = y := hpy
            rw [this] at e3
            exact hne (List.mem_map.mpr ⟨p, hp, nodup_ix hN e3 e1⟩)
          · exact e' (List.mem_of_getElem? e1)
        rcases r with rfl | ⟨rfl, rfl⟩
        · rcases hk' with rfl | rfl | rfl
          · exact absurd (.inl rfl) no
          · exact absurd (.inr rfl) no
          · exact ⟨e, .inr hk0⟩
        · exact ⟨e, .inl hk0⟩
      have e3 : Vis cenv.scope y := e3
      rcases e3 with e3 | e3 | e3
      · exact key _ e3 (.inl rfl)
      · exact key _ e3 (.inr (.inl rfl))
      · exact key _ e3 (.inr (.inr rfl))
    obtain ⟨m, hn, hl⟩ := I.loc
    have hvis : Vis X.env.scope y := (ok.free _ (PySem.mem_of_lookup hfr.1) rfl).elim (fun k => .inr (.inl k)) (fun k => .inr (.inr k))
    obtain ⟨w, r, q⟩ := hl i y av e1 e2 hvis
    refine ⟨w, r, .inr ⟨hfr.2, ?_⟩⟩
    obtain ⟨c, h1, h2⟩ := look hfr.1
    rcases q with ⟨k, _⟩ | ⟨_, c', e', z⟩
    · have k : X.env.scope.names.lookup y = some .local := k
      rcases ok.free _ (PySem.mem_of_lookup hfr.1) rfl with k' | k' <;> rw [show X.env.scope.names.lookup y = _ from k'] at k <;> cases k
    · rw [h2] at e'; cases e'
      exact ⟨c, h1, z.keeps kp⟩
  · have e : cenv.cells.lookup y = some c := e
    rcases mem e with ⟨h1, _⟩ | ⟨_, z⟩
    · obtain ⟨w, z⟩ := I.cell y c h1
      exact ⟨w, z.keeps kp⟩
    · exact ⟨_, z⟩
  · show H cenv.locals = none
    rw [hL]; exact I.hok.fresh (Nat.le_refl _)
  · have e : cenv.cells.lookup y = some c := e
    rcases mem e with ⟨h1, _⟩ | ⟨h1, _⟩
    · exact I.freeC y c h1
    · exact I.hok.fresh (Nat.le_of_succ_le h1)
  · exact absurd (show p ∈ ([] : List (Addr × Obj)) ++ [] from hp) (by simp)

/-- an item appended to a tracked list -/
theorem app_ok {E : Value → Shared → Prop} {D : Addr} {xs : List V} {y : V} {v : Value} {Q : Value → Shared → Prop} (I : Inv X pins σ H s) (hD : H D = some (.lst xs)) (hz : xs.length < sizeLine) (r : RelV y v)
    (h : ∀ s', Inv X pins σ (upd H D (.lst (xs ++ [y]))) s' → Q .none s') : wpAny (model X.prog X.w) X.A (call (.builtin "list.append") [.ref D, v]) Q E s := by
  obtain ⟨hz', its, n, ri, e⟩ := I.hok D _ hD
  have hl := ri.length
  refine append_at (hsz := by rw [List.size_toArray]; omega) e fun h' sb ho' => ?_
  refine h { s with heap := h' } (I.write (t' := s.toks) (by rw [hD]; trivial) (.inl rfl) (fun b u hb q => (sb.2 b hb).trans q) ⟨_, ho'⟩ ⟨by rw [List.length_append]; exact hz, its ++ [v], n + 1, ri.append (.cons r .nil), ?_⟩)
  rw [ho']
  simp

/-- a clause's tests -/
def PTs (X : Cx) (ifs : List Expr) (t : TT) : Prop :=
  ∀ (pins : List (Addr × Obj)) (s : Shared) (σ : St) (H : Hp) (Q : Bool → Hp → Prop), Inv X pins σ H s → t σ H Q →
    wpAny (model X.prog X.w) X.A (forIn ifs true fun c r => if r = true then do let ok ← isTrue c X.env (eval c X.env); pure (ForInStep.yield ok) else pure (ForInStep.yield r)) (TP X pins σ Q) X.xe s
def tYes : TT := fun _ H Q => Q true H
theorem pts_nil : PTs X [] tYes := fun _ _ _ H _ I h => wpAny_tests_nil ⟨H, I, h⟩
end

theorem thnF {α : Type} {t : Sem α} {Q Q' : α → Shared → Prop} {M : Model} {A : Around} {E : Value → Shared → Prop} {s : Shared} (h : wpAny M A t Q (fun _ _ => False) s) (hQ : ∀ a s, Q a s → Q' a s) : wpAny M A t Q' E s := wpAny_mono h hQ fun _ _ z => False.elim z

/-- the loop of a list comprehension's block, the target of any form (codeAny_compLoop_tests asks a target that no tuple goes to; statement and proof follow it, PyProof/CompMap.lean:41-61, with the step letOwnedTupleGo kept) -/
theorem compLoop_any {prog : Program} {w : World} {A : Around} {R : Result → Shared → Prop} {s : Shared} {elt target iter : Expr} {ifs : List Expr} {scope : Scope} {pos : Pos} {it acc : Value} {env : Env} (I : Nat → Shared → Prop)
    (turn : ∀ n s, I n s → wpAny (model prog w) A (pyNext it) (fun r s₁ => match r with
      | none => R (.ok .next) s₁
      | some v => wpAny (model prog w) A (letOwnedTupleGo target it v) (fun _ s₁' => wpAny (model prog w) A (assign target env v) (fun _ s₂ =>
          wpAny (model prog w) A (forIn ifs true fun c r => if r = true then do let ok ← isTrue c env (eval c env); pure (ForInStep.yield ok) else pure (ForInStep.yield r)) (fun ok s₃ =>
            if ok = true then wpAny (model prog w) A (eval elt env) (fun x s₄ =>
              wpAny (model prog w) A (call (.builtin "list.append") [acc, x]) (fun _ s₅ => ∃ m, m < n ∧ I m s₅) (notedBy (model prog w) A env fun e s' => R (.error e) s') s₄) (notedBy (model prog w) A env fun e s' => R (.error e) s') s₃
            else ∃ m, m < n ∧ I m s₃) (notedBy (model prog w) A env fun e s' => R (.error e) s') s₂) (notedBy (model prog w) A env fun e s' => R (.error e) s') s₁') (notedBy (model prog w) A env fun e s' => R (.error e) s') s₁) (notedBy (model prog w) A env fun e s' => R (.error e) s') s)
    (n : Nat) (h : I n s) :
    codeAny (model prog w) A (.compLoop (.ListComp elt [⟨target, iter, ifs, 0⟩] scope pos) 0 it acc env) R s := by
  refine codeAny_loop rfl I (fun n s hI => ?_) n h
  show wpAny _ A ((compTurn (.ListComp elt [⟨target, iter, ifs, 0⟩] scope pos) 0 it acc env).onRaise (fun x => do noteFrame x env; theTreesLotGoes x)) _ _ s
  refine wpAny_noted ?_
  rw [compTurn_list]
  refine wpAny_bind (wpAny_standAt (wpAny_bind (wpAny_mono (turn n s hI) (fun r s₁ h₁ => ?_) fun _ _ h' => h')))
  cases r with
  | none => exact wpAny_pure h₁
  | some v =>
    refine wpAny_bind (wpAny_mono h₁ (fun _ s₁' h₁' => ?_) fun _ _ h' => h')
    refine wpAny_bind (wpAny_mono h₁' (fun _ s₂ h₂ => wpAny_bind (wpAny_mono h₂ (fun ok s₃ h₃ => ?_) fun _ _ h' => h')) fun _ _ h' => h')
    cases ok with
    | false => exact wpAny_pure ⟨rfl, h₃⟩
    | true =>
      exact wpAny_bind (wpAny_bind (wpAny_mono h₃ (fun x s₄ h₄ => wpAny_bind (wpAny_mono h₄ (fun _ s₅ h₅ => wpAny_pure (wpAny_pure ⟨rfl, h₅⟩)) fun _ _ h' => h')) fun _ _ h' => h'))

section
variable {X : Cx}
/-- [elt for target in iter if ..]: D the new list; W by the turn and a measure, Nx what a turn is to reach -/
def tLc (wi : TI) (g : TG) (tt : TT) (te : TE) (vs : List Nat) : TE := fun σ H Q => wi σ H fun J H1 => ∀ D, H1 D = none → ∃ W : Nat → Nat → Hp → Prop, (∃ m, W 0 m (upd H1 D (.lst []))) ∧ ∀ i m H, W i m H →
  (J.stop i H ∧ Q (.ref D) H) ∨ (J.go i H ∧ ∃ Nx : Hp → Prop, (∀ H', Nx H' → ∃ m', m' < m ∧ W (i + 1) m' H') ∧ ∀ x H', J.yld i H x H' → g x (wipe σ vs) H' fun σ2 H2 => wipe σ2 vs = wipe σ vs ∧ tt σ2 H2 fun b H3 =>
    if b = true then te σ2 H3 fun y H4 => ∃ acc, H4 D = some (.lst acc) ∧ acc.length < sizeLine ∧ Nx (upd H4 D (.lst (acc ++ [y]))) else Nx H3)
theorem lc_core {pins : List (Addr × Obj)} {s : Shared} {σ : St} {H : Hp} {Q : VK} {elt tg iter : Expr} {ifs : List Expr} {scope : Scope} {own : List (Str × Nat)} {pos pos' : Pos} {wi : TI} {g : TG} {tt : TT} {te : TE} {use : Option (Value → Sem Unit)} {Qf : Value → Shared → Prop}
    (hc : X.calm = true) (hN : X.N.Nodup) (I : Inv X pins σ H s) (hi : PI X tg iter wi) (ok : BlkOk X.N X.env.scope scope own)
    (hg : ∀ (s : Shared) (H : Hp) (C : Addr) (cl : List (Str × Addr)) (fp : List Addr), PG (X.blk s H scope (compEnvC scope cl C X.env) fp) tg g) (ht : ∀ (s : Shared) (H : Hp) (C : Addr) (cl : List (Str × Addr)) (fp : List Addr), PTs (X.blk s H scope (compEnvC scope cl C X.env) fp) ifs tt)
    (he : ∀ (s : Shared) (H : Hp) (C : Addr) (cl : List (Str × Addr)) (fp : List Addr), PE (X.blk s H scope (compEnvC scope cl C X.env) fp) elt te) (hs : ∀ x, foldedSetIterable iter X.env x = pure x)
    (h : tLc wi g tt te (own.map (·.2)) σ H Q)
    (hRR : ∀ D C s' m H', Inv X pins σ H' s' → Q (.ref D) H' → s'.heap.Ns C m → FpOk X pins H' C → compPost (model X.prog X.w) X.A X.xe use Qf (.ref D) C (.ok .next) s') :
    wpAny (model X.prog X.w) X.A (comprehension (.ListComp elt [⟨tg, iter, ifs, 0⟩] scope pos) scope X.env pos' (newList []) false (eval iter X.env) use) Qf X.xe s := by
  have hfree : ∀ y ∈ scope.names, y.2 = .free → ∃ c, X.env.cells.lookup y.1 = some c := fun y hy e => by
    rcases ok.free y hy e with k | k
    · exact I.ok.has _ (.inl k)
    · exact I.ok.has _ (.inr k)
  refine wpAny_comprehension_free (use := use) rfl hs (closure_ok hfree) ok.kind (fun y hy e => by rw [ok.uniq y hy, e])
    (thn (hi pins s σ H _ I h) fun xv s1 hx => thn hx fun itv s2 h2 => ?_)
  obtain ⟨it, fp, tn, J, H2, e, I2, T, st2, f2, q⟩ := h2
  subst e
  refine wpAny_newObj_type (newEnv_comp ?_) (by show 0 ≤ sizeLine; decide)
  generalize hD : s2.heap.objs.size = D
  have hDn : H2 D = none := I2.hok.fresh (Nat.le_of_eq hD)
  obtain ⟨W, ⟨m0, w0⟩, turn⟩ := q D hDn
  -- the new list
  generalize hs3 : ({ s2 with heap := s2.heap.push { cls := .type "list", data := .seq ([] : List Value).toArray } } : Shared) = s3
  have I3 : Inv X pins σ (upd H2 D (.lst [])) s3 := by
    rw [← hs3]
    refine I2.laid (t' := s2.toks) (fun b o e => Heap.get?_push_of_some _ e) (Nat.le_of_eq hD) ⟨Nat.zero_le _, [], 0, .nil, ?_⟩
    rw [← hD]
    exact Heap.get?_push_size _ rfl
  have h3 : s3.heap = s2.heap.push { cls := .type "list", data := .seq ([] : List Value).toArray } := by rw [← hs3]
  have sz : ∀ b ∈ fp, b < s2.heap.objs.size := fun b hb => by
    obtain ⟨o, e, _⟩ := T.obj _ _ st2 b hb
    exact Heap.lt_size e
  have f3 : ∀ b ∈ fp, FpOk X pins (upd H2 D (.lst [])) b ∧ b < s3.heap.objs.size := fun b hb => by
    have hlt := sz b hb
    refine ⟨⟨?_, (f2 b hb).2⟩, by rw [h3, Heap.size_push]; exact Nat.lt_succ_of_lt hlt⟩
    rw [upd_ne (by rw [← hD]; exact Nat.ne_of_lt hlt)]
    exact (f2 b hb).1
  have st3 : tn 0 s3.heap := T.keep _ _ _ st2 fun b _ o e => by rw [h3]; exact Heap.get?_push_of_some _ e
  have I4 := block_start I3 ok hN f3
  have pg := hg s3 (upd H2 D (.lst [])) s3.heap.objs.size (cellsFrom (s3.heap.objs.size + 1) scope.names (cloFrom X.env.cells scope.names [])) fp
  have pt := ht s3 (upd H2 D (.lst [])) s3.heap.objs.size (cellsFrom (s3.heap.objs.size + 1) scope.names (cloFrom X.env.cells scope.names [])) fp
  have pe := he s3 (upd H2 D (.lst [])) s3.heap.objs.size (cellsFrom (s3.heap.objs.size + 1) scope.names (cloFrom X.env.cells scope.names [])) fp
  show codeAny _ _ (.compStart (.ListComp elt [⟨tg, iter, ifs, 0⟩] scope pos) 0 (.ref it) (.ref D) (compEnvC scope (cellsFrom (s3.heap.objs.size + 1) scope.names (cloFrom X.env.cells scope.names [])) s3.heap.objs.size X.env)) (compPost (model X.prog X.w) X.A X.xe use Qf (.ref D) s3.heap.objs.size) { s3 with heap := pushCells (s3.heap.push { cls := .type "dict", data := .dict #[] }) scope.names }
  have nfp : ∀ b ∈ fp, (upd H2 D (.lst [])) b = none := fun b hb => (f3 b hb).1.1
  generalize hce : compEnvC scope (cellsFrom (s3.heap.objs.size + 1) scope.names (cloFrom X.env.cells scope.names [])) s3.heap.objs.size X.env = ce at I4 pg pt pe ⊢
  have cL : ce.locals = s3.heap.objs.size := by subst hce; rfl
  generalize hH3 : upd H2 D (.lst []) = H3 at I3 I4 pg pt pe w0 nfp f3
  generalize hs4 : ({ s3 with heap := pushCells (s3.heap.push { cls := .type "dict", data := .dict #[] }) scope.names } : Shared) = s4 at I4 ⊢
  have st4 : tn 0 s4.heap := T.keep _ _ _ st3 fun b _ o e => by rw [← hs4]; exact pushCells_keeps _ _ _ _ (Heap.get?_push_of_some _ e)
  have stat : ∀ {σ' : St} {H' : Hp} {s' : Shared}, Inv (X.blk s3 H3 scope ce fp) [] σ' H' s' → (∀ b ∈ fp, H' b = none) → ∀ b ∈ fp, FpOk (X.blk s3 H3 scope ce fp) [] H' b := fun {σ' H' s'} I' hn b hb =>
    ⟨hn b hb, (I'.ok.exf b hb).1, I'.ok.exfs b hb, .inl hb, fun x c e => (I'.ok.exf b hb).2 x c e, fun p hp => absurd (show p ∈ ([] : List (Addr × Obj)) ++ [] from hp) (by simp)⟩
  have loop : codeAny (model X.prog X.w) X.A (.compLoop (.ListComp elt [⟨tg, iter, ifs, 0⟩] scope pos) 0 (.ref it) (.ref D) ce) (compPost (model X.prog X.w) X.A X.xe use Qf (.ref D) s3.heap.objs.size) s4 := by
    refine compLoop_any (fun n s' => ∃ i H', Inv (X.blk s3 H3 scope ce fp) [] (wipe σ (own.map (·.2))) H' s' ∧ tn i s'.heap ∧ (∀ b ∈ fp, H' b = none) ∧ W i n H') ?_ m0 ⟨0, H3, I4, st4, nfp, w0⟩
    rintro n s5 ⟨i, H5, I5, st5, n5, w5⟩
    rcases turn i n H5 w5 with ⟨stop, qq⟩ | ⟨go, Nx, hNx, step⟩
    · have td := T.done (X.blk s3 H3 scope ce fp) rfl rfl rfl hc i [] s5 _ H5 (fun _ _ => False) I5 (stat I5 n5) st5 stop
      refine thnF td fun r s6 ⟨hr, I6⟩ => ?_
      subst hr
      -- back in the def's context
      have I7 : Inv X pins σ H5 s6 := I3.call' (ch := fp) I6.os I6.base I6.hok I6.bare fun b hb => ⟨(f3 b hb).1.2.2.2.1, (f3 b hb).1.2.1, (f3 b hb).1.2.2.2.2.1, (f3 b hb).1.2.2.2.2.2⟩
      have nC : H5 s3.heap.objs.size = none := by
        have z : H5 ce.locals = none := I6.free
        rw [cL] at z
        exact z
      obtain ⟨m, hn, _⟩ := I6.loc
      have hn : s6.heap.Ns ce.locals m := hn
      rw [cL] at hn
      exact hRR D s3.heap.objs.size s6 m H5 I7 qq hn (I3.fpOk (Nat.le_refl _) nC)
    · have ti := T.item (X.blk s3 H3 scope ce fp) rfl rfl rfl hc i [] s5 _ H5 (fun _ _ => False) I5 (stat I5 n5) st5 go
      refine thnF ti fun r s6 ⟨u, hr, h6⟩ => ?_
      subst hr
      refine thnF h6 fun _ s7 ⟨x, H7, I7, r7, y7, st7, n7⟩ => ?_
      have I7' := I7.pinned (stat I7 n7) (T.obj _ _ st7)
      refine thnF (pg _ s7 _ H7 x u _ I7' r7 (step x H7 y7)) fun _ s8 ⟨σ8, H8, I8, hw8, q8⟩ => ?_
      refine thnF (pt _ s8 σ8 H8 _ I8 q8) fun b s9 ⟨H9, I9, q9⟩ => ?_
      -- the turn's end
      have fin : ∀ {s' : Shared} {H' : Hp}, Inv (X.blk s3 H3 scope ce fp) ([] ++ pinsAt fp s7.heap) σ8 H' s' → Nx H' → ∃ m, m < n ∧ ∃ i H', Inv (X.blk s3 H3 scope ce fp) [] (wipe σ (own.map (·.2))) H' s' ∧ tn i s'.heap ∧ (∀ b ∈ fp, H' b = none) ∧ W i m H' := fun {s' H'} I' nx => by
        obtain ⟨m', hm, w'⟩ := hNx H' nx
        have pin' : ∀ b ∈ fp, ∀ o, s7.heap.get? b = some o → s'.heap.get? b = some o ∧ H' b = none := fun b hb o e =>
          let z := I'.pin (b, o) (List.mem_append_right _ (List.mem_append_right _ (mem_pinsAt hb e)))
          ⟨z.1, z.2.1⟩
        have hl : (wipe σ (own.map (·.2))).length = σ8.length := by rw [← hw8, wipe_length]
        refine ⟨m', hm, i + 1, H', (I'.unpinned (pins := [])).weak hl (fun j v e => ?_), T.keep _ _ _ st7 fun b hb o e => (pin' b hb o e).1, fun b hb => ?_, w'⟩
        · rw [← hw8] at e
          exact (wipe_some e).1
        · obtain ⟨o, e, _⟩ := T.obj _ _ st7 b hb
          exact (pin' b hb o e).2
      cases b with
      | false =>
        simp only [Bool.false_eq_true, if_false] at q9 ⊢
        exact fin I9 q9
      | true =>
        simp only [if_true] at q9 ⊢
        refine thnF (pe _ s9 σ8 H9 _ I9 q9) fun z s10 ⟨yv, H10, I10, r10, acc, hD10, hz10, nx⟩ => ?_
        exact app_ok (X := X.blk s3 H3 scope ce fp) I10 hD10 hz10 r10 fun s11 I11 => fin I11 nx
  exact codeAny_compStart_list loop (T.self X.A 0 _ _ _ st4 loop)
/-- as a value -/
theorem pe_lc {elt tg iter : Expr} {ifs : List Expr} {scope : Scope} {own : List (Str × Nat)} {pos : Pos} {wi : TI} {g : TG} {tt : TT} {te : TE} (hc : X.calm = true) (hN : X.N.Nodup) (hi : PI X tg iter wi) (ok : BlkOk X.N X.env.scope scope own)
    (hg : ∀ (s : Shared) (H : Hp) (C : Addr) (cl : List (Str × Addr)) (fp : List Addr), PG (X.blk s H scope (compEnvC scope cl C X.env) fp) tg g) (ht : ∀ (s : Shared) (H : Hp) (C : Addr) (cl : List (Str × Addr)) (fp : List Addr), PTs (X.blk s H scope (compEnvC scope cl C X.env) fp) ifs tt)
    (he : ∀ (s : Shared) (H : Hp) (C : Addr) (cl : List (Str × Addr)) (fp : List Addr), PE (X.blk s H scope (compEnvC scope cl C X.env) fp) elt te) (hs : ∀ x, foldedSetIterable iter X.env x = pure x := by intro _; rfl) :
    PE X (.ListComp elt [⟨tg, iter, ifs, 0⟩] scope pos) (tLc wi g tt te (own.map (·.2))) := by
  intro pins s σ H Q I h
  rw [eval_ListComp]
  refine lc_core hc hN I hi ok hg ht he hs h fun D C s' m H' I' q hn f => ⟨m, hn, fun h'' sb => ?_⟩
  obtain ⟨f0, f1, f2, f3, f4, f5⟩ := f
  exact ⟨.ref D, H', I'.turned (t' := s'.toks) (fun b o hb e => (sb.2 b hb).trans e) f0 f1 f3 f4 f5, rfl, q⟩
end

/-! ### the forms one uses -/
end L2

namespace L2
open PySem PySem.Spec PyProof.Rows


section
variable {prog : Program} {w : World} {A : Around} {R : Result → Shared → Prop} {s : Shared} {elt t0 i0 t1 i1 : Expr} {ifs0 ifs1 : List Expr} {scope : Scope} {pos : Pos} {it acc : Value} {env : Env}
end

section
variable {X : Cx}
end
end L2

namespace L2
open PySem PySem.Spec PyProof.Rows

/-! ### lists of pairs as tables -/
section
variable {κ : Type} [DecidableEq κ]



end


/-! ### a tracked dict, its keys ints and texts or tuples of these -/


section
variable {P : Program} {w : World} {H : Hp} {h : Heap} {a : Addr}
end



section
variable {X : Cx} {pins : List (Addr × Obj)} {σ : St} {H : Hp} {s : Shared} {a : Addr} {y v : V} {u r : Value} {o : Option V} {A : Around} {E : Value → Shared → Prop}


end

section
variable {X : Cx} {pins : List (Addr × Obj)} {σ : St} {H : Hp} {s : Shared} {a : Addr} {kvs : List (Key × V)} {k : Key} {u : Value} {A : Around} {E : Value → Shared → Prop}
end


/-! ### readings and rules -/



section
variable {X : Cx} {o i e value : Expr} {pos pos' tpos : Pos} {td ty tv : TE}
end


/-! ### displays -/
section
variable {X : Cx} {pos : Pos}
end




/-! ### methods -/
/-- a method call o.m(e) of a built-in, with one argument: what must be seen of the text -/
structure M1 (X : Cx) (o : Expr) (m : Str) (apos : Pos) (e : Expr) (cpos : Pos) : Prop where
  base : attributeBase o m X.env (eval o X.env) = eval o X.env
  few : ((backTo cpos (starEach [e] X.env)).all (fun x => !x.1) && (backToKw cpos (keywordEach [] X.env)).all (fun x => x.1.isSome)
    && decide (([e] : List Expr).length + ([] : List Keyword).length + (if ([] : List Keyword).isEmpty then 0 else 1) < 30)) = true
  line : (apos.endLine == cpos.line) = true
  trees : backTo cpos (starEach [e] X.env) = [(false, eval e X.env)]
structure M2 (X : Cx) (o : Expr) (m : Str) (apos : Pos) (e f : Expr) (cpos : Pos) : Prop where
  base : attributeBase o m X.env (eval o X.env) = eval o X.env
  few : ((backTo cpos (starEach [e, f] X.env)).all (fun x => !x.1) && (backToKw cpos (keywordEach [] X.env)).all (fun x => x.1.isSome)
    && decide (([e, f] : List Expr).length + ([] : List Keyword).length + (if ([] : List Keyword).isEmpty then 0 else 1) < 30)) = true
  line : (apos.endLine == cpos.line) = true
  trees : backTo cpos (starEach [e, f] X.env) = [(false, eval e X.env), (false, eval f X.env)]


section
variable {X : Cx} {pins : List (Addr × Obj)} {σ : St} {H : Hp} {s : Shared} {a : Addr} {y d : V} {u r : Value} {o : Option V} {A : Around} {E : Value → Shared → Prop}
end

section
variable {X : Cx} {o e f : Expr} {apos cpos : Pos} {td ty tx : TE}
end

/-! ### dict(d): a copy -/
section
variable {X : Cx} {pins : List (Addr × Obj)} {σ : St} {H : Hp} {s : Shared} {a : Addr} {kvs : List (Key × V)} {A : Around} {E : Value → Shared → Prop}
end


section
variable {X : Cx} {pins : List (Addr × Obj)} {σ : St} {H : Hp} {s : Shared} {a : Addr} {y : V} {u : Value} {A : Around} {E : Value → Shared → Prop}
end
end L2

namespace L2
open PySem PySem.Spec PyProof.Rows


section
variable {prog : Program} {w : World} {A : Around} {E : Value → Shared → Prop}


end

section
variable {X : Cx}
end
end L2

namespace L2
open PySem PySem.Spec PyProof.Rows


section
variable {X : Cx} {pins : List (Addr × Obj)} {σ : St} {H : Hp} {s : Shared} {h' : Heap}
/-- .. and one new object is laid -/
theorem Inv.turnedNew {t' : Nat} {ch : List Addr} {T : Addr} {ob : HO} (I : Inv X pins σ H s) (k : ∀ b o, b ∉ ch → s.heap.get? b = some o → h'.get? b = some o) (hf : ∀ b ∈ ch, FpOk X pins H b) (hT : s.heap.objs.size ≤ T)
    (new : ObjOk X.prog X.w (upd H T ob) h' T ob) : Inv X pins σ (upd H T ob) { s with heap := h', toks := t' } := by
  have hn : H T = none := I.hok.fresh hT
  have nit : ∀ b u, H b = some u → b ∉ ch := fun b u e z => by
    have q := (hf b z).1
    rw [q] at e; cases e
  refine I.step (g' := s.gens) (d' := s.drawn) (ch := ch) (fun b hb => ⟨(hf b hb).2.2.2.1, (hf b hb).2.1, (hf b hb).2.2.2.2.1, (hf b hb).2.2.2.2.2⟩) (fun b o _ _ hc e _ => k b o hc e) (fun b o _ _ hc e _ => ⟨o.slots, k b o hc e⟩)
    (fun b o _ e n => ?_) (fun b o hc e => ⟨o, k b o hc e⟩) (fun b xs e => ?_) (fun b o u e => ?_) (fun b ps e => ⟨#[], ?_⟩) (fun m hm => ?_) (fun b u e => ?_) I.bare
  · rw [upd_ne (Nat.ne_of_lt (Nat.lt_of_lt_of_le (Heap.lt_size e) hT))]; exact n
  · rw [upd_ne (ne_of_none e hn)]; exact e
  · rw [upd_ne (ne_of_none e hn)]; exact e
  · rw [upd_ne (ne_of_none e hn), e]; simp
  · obtain ⟨o, es, ep, ho, r⟩ := hm
    exact ⟨o, es, ep, k _ o (fun z => (hf _ z).2.1 rfl) ho, r⟩
  · by_cases hb : b = T
    · subst hb
      rw [upd_same] at e
      cases e
      exact new
    · rw [upd_ne hb] at e
      refine (I.hok b u e).stay (fun c v hc q => k c v ?_ q) (fun c q => by rw [upd_ne (ne_of_none q hn)]; exact q) fun c xs q => by rw [upd_ne (ne_of_none q hn)]; exact q
      rcases hc with z | z
      · rw [z]; exact nit b u e
      · exact nit c _ z

/-! ### locking a thing while a statement runs -/
end
section
variable {X : Cx}

/-! ### one iterator just laid -/
theorem pi_one {tg : Expr} {pins : List (Addr × Obj)} {σ : St} {H : Hp} {s : Shared} {R : It → Hp → Prop} {J : It} {tn : Nat → Heap → Prop} {tk : Nat} (I : Inv X pins σ H s) (o : Obj)
    (T : Turn X.prog X.w X.K tg J [s.heap.objs.size] s.heap.objs.size tn) (st : tn 0 (s.heap.push o)) (q : R J H) : PIE X pins σ tg R (.ref s.heap.objs.size) { s with heap := s.heap.push o, toks := tk } := by
  refine ⟨s.heap.objs.size, [s.heap.objs.size], tn, J, H, rfl, I.kept fun b ob e => Heap.get?_push_of_some _ e, T, st, fun b hb => ?_, q⟩
  have e : b = s.heap.objs.size := by simpa using hb
  subst e
  exact I.fpOk (Nat.le_refl _) (I.hok.fresh (Nat.le_refl _))
end

/-! ### range with a step -/
section
variable {X : Cx} {tg : Expr}
end

/-! ### reversed(list) -/
section
variable {X : Cx} {tg : Expr}
end

/-! ### a str -/
def Its (x : Str) : It := ⟨fun i _ => i < x.cps.size, fun i H v H' => H' = H ∧ ∃ c, x.cps[i]? = some c ∧ v = .str ⟨#[c]⟩, fun i _ => x.cps.size ≤ i⟩
theorem turn_str {P : Program} {w : World} {K : PySem.W.Frag} {tg : Expr} (it : Addr) (x : Str) (t : Tok) (ty : String) (hty : ty = "str_ascii_iterator" ∨ ty = "str_iterator") :
    Turn P w K tg (Its x) [it] it (fun i h => h.IsStrIter it ty x t i) where
  mem := by simp
  obj := fun i h st b hb => by
    have e : b = it := by simpa using hb
    subst e
    obtain ⟨o, e, c, d⟩ := st
    exact ⟨o, e, fun v z => by rw [d] at z; cases z⟩
  keep := fun i h h' st k => let ⟨o, ho, r⟩ := st; ⟨o, k it (by simp) o ho, r⟩
  item := by
    intro X hP hw hK hc i pins s σ H E I hf st hg
    subst hP hw hK
    obtain ⟨f0, f1, f2, f3, f4, f5⟩ := hf it (by simp)
    have W : Walks X.prog X.w X.A it [it] [it] x.cps.size (SignAt x) (fun i h => h.IsStrIter it ty x t i) := by
      rcases hty with e | e
      · rw [e]; exact Walks.strAscii (I.ok.hd hc) it x t
      · rw [e]; exact Walks.strWide (I.ok.hd hc) it x t
    have hno : ["enumerate", "zip", "dict_itemiterator", "dict_reverseitemiterator", "odict_iterator", "itertools.zip_longest", "itertools.pairwise"].contains ty = false := by
      rcases hty with e | e
      · rw [e]; decide
      · rw [e]; decide
    refine W.item i s _ _ hg st fun v h' tk hv st' kk => ?_
    obtain ⟨c, u, hcx, rfl⟩ := hv
    have I1 : Inv X pins σ H { s with heap := h', toks := tk } := I.turned (fun b o hb e => kk b o (by simpa using hb) e) f0 f1 f3 f4 f5
    obtain ⟨oi, e, cc, dd⟩ := id st'
    exact ⟨_, rfl, go_of (s := { s with heap := h', toks := tk }) e cc dd hno ⟨.str ⟨#[c]⟩, H, I1, ⟨u, rfl⟩, ⟨rfl, c, hcx, rfl⟩, st', fun b hb => (hf b hb).1⟩⟩
  done := by
    intro X hP hw hK hc i pins s σ H E I hf st hg
    subst hP hw hK
    obtain ⟨f0, f1, f2, f3, f4, f5⟩ := hf it (by simp)
    have hx : x.cps[i]? = none := Array.getElem?_eq_none hg
    rcases hty with e | e
    · rw [e] at st
      exact wpAny_pyNext_ascii_end (I.ok.hd hc) st hx fun h' eb => ⟨rfl, I.turned (t' := s.toks) (fun b o hb e => eb b o hb e) f0 f1 f3 f4 f5⟩
    · rw [e] at st
      exact wpAny_pyNext_wide_end (I.ok.hd hc) st hx fun h' eb => ⟨rfl, I.turned (t' := s.toks) (fun b o hb e => eb b o hb e) f0 f1 f3 f4 f5⟩
  self := fun A i s Q E st h => by
    rcases hty with e | e
    · rw [e] at st; exact wpAny_pyIter_striter_ascii st h
    · rw [e] at st; exact wpAny_pyIter_striter_wide st h
def iStr (te : TE) : TI := fun σ H R => te σ H fun v H1 => ∃ x, v = .str x ∧ R (Its x) H1
theorem pi_str {X : Cx} {tg e : Expr} {te : TE} (he : PE X e te) : PI X tg e (iStr te) := by
  intro pins s σ H R I h
  refine thn (he pins s σ H _ I h) fun v s1 ⟨y, H1, I1, r1, x, ex, q⟩ => ?_
  subst ex
  obtain ⟨t, rfl⟩ := r1
  cases ha : x.cps.all (· < 128)
  · exact wpAny_pyIter_wide ha (pi_one (tk := s1.toks) I1 _ (turn_str _ x t "str_iterator" (.inr rfl)) ⟨_, Heap.get?_push_size _ rfl, rfl, rfl⟩ q)
  · exact wpAny_pyIter_ascii ha (pi_one (tk := s1.toks) I1 _ (turn_str _ x t "str_ascii_iterator" (.inl rfl)) ⟨_, Heap.get?_push_size _ rfl, rfl, rfl⟩ q)

/-! ### a dict's keys: any dict's entries -/
section
variable {prog : Program} {w : World} {A : Around} {E : Value → Shared → Prop} {s : Shared}
end

/-! ### a locked dict -/
section
variable {X : Cx} {pins : List (Addr × Obj)} {σ : St} {H : Hp} {s : Shared} {d : Addr} {o : Obj}
end

section
variable {P : Program} {w : World} {K : PySem.W.Frag} {tg : Expr} {d : Addr} {o : Obj} {es : Array DictEntry} {ep : Nat}
end

/-! ### for k in d, d.keys(), d.values(), d.items() -/
section
variable {X : Cx} {tg e : Expr} {td : TE} {apos cpos : Pos}
end

/-! ### enumerate(list) -/
/-- the list at a as it stands at each turn, each item in a new pair -/
def Ite (K : PySem.W.Frag) (a : Addr) : It :=
  ⟨fun i H => ∃ (xs : List V) (x : V), SqL K H a xs ∧ xs[i]? = some x, fun i H v H' => ∃ T x, v = .ref T ∧ H T = none ∧ H' = upd H T (.tup [.int (i : Nat), x]) ∧ ∀ xs, SqL K H a xs → xs[i]? = some x, fun i H => ∃ xs : List V, SqL K H a xs ∧ xs.length ≤ i⟩
theorem turn_enum {P : Program} {w : World} {K : PySem.W.Frag} {elts : List Expr} {kk : Nat} {tpos : Pos} (a e it : Addr) :
    Turn P w K (.Tuple elts kk tpos) (Ite K a) [e, it] e (fun i h => (∃ old, IsEnum h e it ((i : Nat) : Int) old) ∧ h.IsListIter it a i ∧ e ≠ it) where
  mem := by simp
  obj := fun i h st b hb => by
    obtain ⟨⟨old, he⟩, ⟨o, ho, hc, hd⟩, _⟩ := st
    have e' : b = e ∨ b = it := by simpa using hb
    rcases e' with z | z
    · rw [z]; exact ⟨_, he, fun v q => nomatch q⟩
    · rw [z]; exact ⟨o, ho, fun v q => by rw [hd] at q; cases q⟩
  keep := fun i h h' st k => let ⟨⟨old, he⟩, hi, hne⟩ := st; ⟨⟨old, k e (by simp) _ he⟩, hi.at fun o q => k it (by simp) o q, hne⟩
  item := by
    intro X hP hw hK hc i pins s σ H E I hf st hg
    subst hP hw hK
    obtain ⟨⟨old, he⟩, hit, hne⟩ := st
    obtain ⟨xs, x, hq, hx⟩ := hg
    obtain ⟨its, rv, p, hz⟩ := I.list hq
    obtain ⟨u, hu, ru⟩ := rv.get hx
    have hel : e < s.heap.objs.size := Heap.lt_size he
    have hil : it < s.heap.objs.size := by obtain ⟨_, q, _⟩ := hit; exact Heap.lt_size q
    refine wpAny_pyNext_enum_item he hit p.isList (x := u) (by simpa using hu) hne fun h' ho hit' hT hsz hk => ?_
    refine ⟨_, rfl, wpAny_letOwnedTupleGo_enum (s := { s with heap := h', toks := s.toks + 1 }) ho fun h'' he' sb => ?_⟩
    have hT2 : h''.get? s.heap.objs.size = some { cls := .type "tuple", data := .seq #[.int i s.toks, u] } := (sb.2 _ (Nat.ne_of_gt hel)).trans hT
    have new : ObjOk X.prog X.w (upd H s.heap.objs.size (.tup [.int (i : Nat), x])) h'' s.heap.objs.size (.tup [.int (i : Nat), x]) :=
      ⟨by show 2 ≤ sizeLine; decide, [.int i s.toks, u], .cons ⟨_, rfl⟩ (.cons ru .nil), ⟨_, hT2, rfl, _, rfl⟩⟩
    have I1 : Inv X pins σ (upd H s.heap.objs.size (.tup [.int (i : Nat), x])) { s with heap := h'', toks := s.toks + 1 } :=
      I.turnedNew (ch := [e, it]) (fun b ob hb q => (sb.2 b (fun z => hb (by simp [z]))).trans (hk b ob (fun z => hb (by simp [z])) (fun z => hb (by simp [z])) q)) hf (Nat.le_refl _) new
    refine ⟨.ref s.heap.objs.size, _, I1, rfl, ⟨_, x, rfl, I.hok.fresh (Nat.le_refl _), rfl, fun ys hy => by rw [I.list_inj hy hq]; exact hx⟩, ⟨⟨u, ?_⟩, hit'.at fun o q => (sb.2 it (Ne.symm hne)).trans q, hne⟩, fun b hb => ?_⟩
    · have e1 : ((i + 1 : Nat) : Int) = (i : Int) + 1 := by omega
      rw [e1]; exact he'
    · have hb' : b < s.heap.objs.size := by
        have e' : b = e ∨ b = it := by simpa using hb
        rcases e' with z | z
        · rw [z]; exact hel
        · rw [z]; exact hil
      rw [upd_ne (Nat.ne_of_lt hb')]
      exact (hf b hb).1
  done := by
    intro X hP hw hK hc i pins s σ H E I hf st hg
    subst hP hw hK
    obtain ⟨⟨old, he⟩, hit, hne⟩ := st
    obtain ⟨xs, hq, hx⟩ := hg
    obtain ⟨its, rv, p, hz⟩ := I.list hq
    obtain ⟨f0, f1, f2, f3, f4, f5⟩ := hf it (by simp)
    have hl := rv.length
    exact wpAny_pyNext_enum_end (I.ok.hd hc) he hit p.isList (by simp; omega) fun h' eb => ⟨rfl, I.turned (t' := s.toks) (fun b o hb q => eb b o hb q) f0 f1 f3 f4 f5⟩
  self := fun A i s Q E st h => let ⟨⟨_, he⟩, _⟩ := st; wpAny_pyIter_enum he h
def iEnum (K : PySem.W.Frag) (ta : TA) : TI := fun σ H R => ta σ H fun vs H1 => ∃ a xs, vs = [.ref a] ∧ SqL K H1 a xs ∧ R (Ite K a) H1
theorem pi_enum {X : Cx} {e : Expr} {ta : TA} {p pos tpos : Pos} {elts : List Expr} {kk : Nat} (hg : Gl X "enumerate") (hm : X.mg "enumerate" = none) (ha : PA X [e] ta) (hs : starEach [e] X.env = [(false, eval e X.env)] := by rfl) :
    PI X (.Tuple elts kk tpos) (.Call (.Name "enumerate" p) [e] [] pos) (iEnum X.K ta) := by
  intro pins s σ H R I h
  refine Call_ (ld_blt I hg hm boot_enumerate (PyProof.Rows.callWith_type1 (thn (ha pos pins s σ H _ I h) fun us s1 ⟨vs, H1, I1, r1, q1⟩ => ?_) hs rfl))
  obtain ⟨a, xs, ex, hq, q⟩ := q1
  subst ex
  cases r1 with
  | cons r rr =>
    cases rr
    cases r
    obtain ⟨its, rv, p', hz⟩ := I1.list hq
    refine call_enumerate_list p'.isList fun h' he hit hsz hk => wpAny_pyIter_enum he ?_
    have I2 : Inv X pins σ H1 { s1 with heap := h' } := I1.kept (t' := s1.toks) hk
    refine ⟨s1.heap.objs.size + 1, [s1.heap.objs.size + 1, s1.heap.objs.size], _, _, H1, rfl, I2, turn_enum a (s1.heap.objs.size + 1) s1.heap.objs.size, ⟨⟨.none, he⟩, hit, Nat.succ_ne_self _⟩, fun b hb => ?_, q⟩
    have e' : b = s1.heap.objs.size + 1 ∨ b = s1.heap.objs.size := by simpa using hb
    have hle : s1.heap.objs.size ≤ b := by
      rcases e' with z | z
      · rw [z]; exact Nat.le_add_right _ _
      · rw [z]; exact Nat.le_refl _
    exact I1.fpOk hle (I1.hok.fresh hle)
/-! ### zip(list, list) -/
end L2

section 
namespace Bits
open PySem PyProof.Rows








end Bits
end 

section 
namespace TL
open PySem PySem.Builtin PySem.Builtin.Str PySem.StrLaws

abbrev tl (x : Str) : List Nat := x.cps.toList
theorem tl_append (x y : Str) : tl (x ++ y) = tl x ++ tl y := by
  show (x ++ y).cps.toList = _
  rw [Str.cps_append, Array.toList_append]

/-! ### the list functions -/




/-! ### the model's split and partition are these -/




/-! ### computing spl and par -/

/-- joined lists -/
def joinL (S : List Nat) : List (List Nat) → List Nat
  | [] => []
  | [p] => p
  | p :: q :: r => p ++ (S ++ joinL S (q :: r))
theorem tl_join (y : Str) : ∀ parts : List Str, tl (Str.join y parts) = joinL (tl y) (parts.map tl)
  | [] => rfl
  | [_] => rfl
  | x :: z :: r => by
    show tl (x ++ y ++ Str.join y (z :: r)) = tl x ++ (tl y ++ joinL (tl y) ((z :: r).map tl))
    rw [tl_append, tl_append, tl_join y (z :: r), List.append_assoc]
theorem join_eq (y : Str) (parts : List Str) : Txt.join y parts = Str.join y parts := glued_eq_join y parts

/-! ### digits -/

/-! ### words: x.split() -/
end TL
end 

namespace L2
open PySem PySem.Spec PyProof.Rows


theorem strs_of_vals : ∀ {ys : List Str} {us : List Value}, Vals (ys.map V.str) us → StrsAre us ys
  | [], _, .nil => .nil
  | y :: ys, _, .cons r t => by
    obtain ⟨k, rfl⟩ := r
    exact .cons y k (strs_of_vals t)


section
variable {X : Cx} {pins : List (Addr × Obj)} {σ : St} {H : Hp} {s : Shared} {Q : VK}
end

section
variable {X : Cx}




/-- sep.join(a list | a tuple of texts) -/
theorem mt_join : MtR X "str.join" (fun x xs H Q => ∃ a p, ∃ ys : List Str, x = .str a ∧ xs = [.ref p] ∧ (SqL X.K H p (ys.map V.str) ∨ SqT X.K H p (ys.map V.str)) ∧
    (ys.map (·.length)).sum + ys.length * a.length ≤ 16777216 ∧ Q (.str (Txt.join a ys)) H) := by
  intro pins s σ H x xs v us Q I rx rs h
  obtain ⟨a, p, ys, rfl, rfl, hp, hz, h⟩ := h
  obtain ⟨t, rfl⟩ := rx
  cases rs with
  | cons r1 rs =>
    cases rs
    cases r1
    rcases hp with hp | hp
    · obtain ⟨its, r, ⟨o, n, ho, hc, _, hd⟩, _⟩ := I.list hp
      exact PyProof.Rows.join_list (items := its.toArray) ⟨o, ho, hc, n, hd⟩ (by rw [List.toList_toArray]; exact strs_of_vals r) hz fun t' k => ⟨.str _, H, I.tok k, ⟨t', rfl⟩, h⟩
    · obtain ⟨its, r, ht, _⟩ := I.tuple hp
      exact PyProof.Rows.join_tuple (items := its.toArray) ht (by rw [List.toList_toArray]; exact strs_of_vals r) hz fun t' k => ⟨.str _, H, I.tok k, ⟨t', rfl⟩, h⟩

/-! ### of a text alone -/

/-! ### of a text and a text -/

end

section
variable {X : Cx} {o e : Expr} {to te : TE}
def tM1 (r : V → List V → Hp → VK → Prop) (to te : TE) : TE := fun σ H Q => to σ H fun x H1 => (∃ a, x = .str a) ∧ te σ H1 fun y H2 => r x [y] H2 Q
theorem pe_m1 {id : String} {name : Str} {apos pos : Pos} {r : V → List V → Hp → VK → Prop} (slot : Slot "str" name id) (ty : typeOf (.builtin id) = pure (.type "method_descriptor")) (rule : MtR X id r) (ho : PE X o to) (he : PE X e te)
    (hs : starEach [e] X.env = [(false, eval e X.env)] := by rfl) (hbase : attributeBase o name X.env (eval o X.env) = eval o X.env := by rfl) (hline : (apos.endLine == pos.line) = true := by rfl) :
    PE X (.Call (.Attribute o name apos) [e] [] pos) (tM1 r to te) := by
  intro pins s σ H Q I h
  refine PySem.Call_method1 hbase hs hline (thn (ho pins s σ H _ I h) fun v s1 ⟨x, H1, I1, r1, q1⟩ => ?_)
  obtain ⟨⟨a, rfl⟩, q1⟩ := q1
  obtain ⟨t, rfl⟩ := _root_.id r1
  refine ⟨"str", _, F.plainAttrs_str, slot, ty, typeIs_str _ _ _, (fun _ e => nomatch e), Calls.callWith_builtin rfl (Calls.evalArgs_plain (Calls.spliced_cons ?_))⟩
  exact thn (he pins s1 σ H1 _ I1 q1) fun u s2 ⟨y, H2, I2, r2, q2⟩ => Calls.spliced_nil (rule pins s2 σ H2 _ [y] _ [u] Q I2 r1 (.cons r2 .nil) q2)

theorem pe_join {apos pos : Pos} (ho : PE X o to) (he : PE X e te) (hs : starEach [e] X.env = [(false, eval e X.env)] := by rfl) (hbase : attributeBase o "join" X.env (eval o X.env) = eval o X.env := by rfl) (hline : (apos.endLine == pos.line) = true := by rfl) :
    PE X (.Call (.Attribute o "join" apos) [e] [] pos) (tM1 (fun x xs H Q => ∃ a p, ∃ ys : List Str, x = .str a ∧ xs = [.ref p] ∧ (SqL X.K H p (ys.map V.str) ∨ SqT X.K H p (ys.map V.str)) ∧
      (ys.map (·.length)).sum + ys.length * a.length ≤ 16777216 ∧ Q (.str (Txt.join a ys)) H) to te) :=
  pe_m1 F.slot_str_join F.type_str_join mt_join ho he hs hbase hline
end
end L2

namespace L2
open PySem PySem.Spec PyProof.Rows

section
variable {X : Cx}
end

/-! ### slices of a text -/


end L2

namespace Att
open PySem PySem.W PySem.Calls PyProof.Rows

/-! ### the script -/



/-! ### the attachment: holds_open's last premise (the goal 'hc' behind k_head) from a wpAny of the law's body -/



/-! ### rules over ANY heap (no ledger) from facts about the written part K: the library's own take a ledger (News) for what they write -/
section
variable {prog : Program} {w : World} {A : Around} {E : Value → Shared → Prop} {s : Shared} {K : Frag}





/-! the whole heap as the ledger: makes every rule that writes through a ledger a rule over any heap -/

end
end Att

namespace L2
open PySem PySem.Spec PyProof.Rows



end L2

namespace L2
open PySem PySem.Spec PyProof.Rows


end L2

/- THE LAST THEOREM (shape; LID, My.* are yours):
   My.Adr: a structure of the addresses that your layer names (classes, functions); My.Txt K t: a structure (Prop) of the equations over K;
   My.txt_mk : {K} {implicit addresses ..} (e1 : nsIn K mainGlobals "law" = some (some (.ref f))) (e2 : K.lookup f = some ⟨oc, od, .func (fnOf "law" "law" params body scope dV kV doc pm an cdv ct), sl⟩) (e3 : codeIn K cdv "law" = true) .. : ∃ t, My.Txt K t

set_option maxRecDepth 100000 in
set_option maxHeartbeats 0 in
theorem PySem.Challenge.cw_LID_holds : PySem.Challenge.rw_LID.Holds := by
  w_on; o_law; k_head; (case hw => w_witness2)
  k_fill
  refine L2.walk_of (l := PySem.Challenge.rw_LID) (n := 63) (k := 40) (x := "script") (CX := fun w => ..) (sp := fun _ => My.sp_law) rfl (by decide) rfl ⟨rfl, by decide, by decide⟩ (fun w h Y => PySem.W.kIn_of Y) ?F ?S ?C
  case F =>
    intro w mg fa h KX G hmg
    have T : ∃ t, My.Txt (L2.KOf KX) t := by
      dsimp only [L2.KOf]                          -- K must stand as «<heap const> w.params» for k_is
      refine' My.txt_mk ?e1 ?e2 ?e3 ..
      (case e1 => PySem.W.k_is)                    -- in the order: a name -> its address -> its object -> its parts
      (case e2 => PySem.W.k_is)
      ..
    obtain ⟨t, T⟩ := T
    have e0 := hmg.symm.trans (PySem.W.mg_of KX G T.law)
    cases e0                                       -- fa is the law's own address
    exact ⟨_, fun s u => .of_eq rfl, fun base kb nb => My.law_fn T kb nb⟩     -- if «.of_eq rfl» comes too early: refine' ⟨_, ?b, fun base kb nb => My.law_fn T kb nb⟩; exact fun s u => .of_eq rfl
  case S => exact fun w H a ns hl hO hS => ..
  case C => exact ..
(the tactic k_is has no namespace: write k_is) -/

/-! SHORT WORDS over the layer: a def of the text, its body, what a loop and a test want. -/
namespace L2
open PySem PySem.Spec PyProof.Rows

/-! ### the text by places -/
/-- the j-th statement of a class's body -/
def inClass (s : Stmt) (j : Nat) : Stmt := match s with
  | .ClassDef _ _ _ body _ _ _ _ _ _ _ => body.getD j (.Pass ⟨0, 0, 0, 0⟩)
  | _ => .Pass ⟨0, 0, 0, 0⟩
def defArgs (s : Stmt) : Arguments := match s with
  | .FunctionDef _ a _ _ _ _ _ _ _ _ => a
  | _ => { posonlyargs := [], args := [], vararg := none, kwonlyargs := [], kw_defaults := [], kwarg := none, defaults := [] }
def defBody (s : Stmt) : List Stmt := match s with
  | .FunctionDef _ _ b _ _ _ _ _ _ _ => b
  | _ => []
def defScope (s : Stmt) : Scope := match s with
  | .FunctionDef _ _ _ _ _ _ sc _ _ _ => sc
  | _ => { kind := .function, names := [], isGenerator := false, isCoroutine := false }

/-! ### no exception leaves a def -/
abbrev CX0 : CXT := fun _ _ _ _ _ _ => False
abbrev E0 : XK := fun _ _ _ => False
theorem pass0 {X : Cx} : Passes CX0 X E0 := fun _ _ _ _ _ _ _ h => h.elim

/-! ### a def (or method) of the text as it stands behind the top -/
structure Fun (K : PySem.W.Frag) (x qual : Str) (st : Stmt) (f : Addr) (fd : FuncData) : Prop where
  ex : ∃ (oc : Value) (od : Option Addr) (kV doc pm : Value) (an : Option Addr) (cdv ct : Value) (osl : Array (Option Value)),
    fd = PySem.W.fnOf x qual (defArgs st) (defBody st) (defScope st) .none kV doc pm an cdv ct ∧ K.lookup f = some ⟨oc, od, .func fd, osl⟩ ∧ PySem.W.codeIn K cdv qual = true
  kp : PySem.W.keepIn K (.ref f) = true
section
variable {P : Program} {w : World} {K : PySem.W.Frag} {mg : Str → Option Value} {base : Heap}
/-- THE RULE for a def: its body as a term of rules, and the reading of that term -/
theorem Fun.ok {x qual : Str} {st : Stmt} {f : Addr} {fd : FuncData} {N ps : List Str} {k : Nat} {sp : Sp} (F : Fun K x qual st f fd) (S : FnScope N ps (defScope st)) (len : ∀ vs H Q E, sp vs H Q E → vs.length = ps.length)
    (hbody : ∀ (cdv : Value) (A : Around) (outer : List Env) (s : Shared) (H : Hp) (vs : List V) (Q : VK) (E : XK), Room k (A.deeper (envOfC qual (defScope st) s.heap.objs.size f cdv)) → sp vs H Q E →
      ∃ t, PSs (cxOf CX0 P w K mg base N qual (defScope st) f cdv A outer s H E).nox (defBody st) t ∧ t { nx := fun _ H' => Q .non H', rt := Q } (start N vs) H) : FnOk P w K mg base CX0 (k + 1) f fd ps sp := by
  obtain ⟨oc, od, kV, doc, pm, an, cdv, ct, osl, rfl, lk, hcd⟩ := F.ex
  refine fn_of lk hcd S len fun A outer s H vs Q E hr hsp => ?_
  obtain ⟨t, h, q⟩ := hbody cdv A outer s H vs Q E hr hsp
  exact ⟨t, h.nox, q⟩
/-- how its arguments bind (no defaults): h is «fun _ _ _ _ _ _ us hl => match us, hl with | [_, _], _ => rfl», one _ a parameter -/
theorem Fun.binds {x qual : Str} {st : Stmt} {f : Addr} {fd : FuncData} {ps : List Str} (F : Fun K x qual st f fd)
    (h : ∀ (kV doc pm : Value) (an : Option Addr) (cdv ct : Value) (us : List Value), us.length = ps.length → bindArgs (PySem.W.fnOf x qual (defArgs st) (defBody st) (defScope st) .none kV doc pm an cdv ct) ⟨us, []⟩ = pure (ps.zip us)) : Binds K fd ps [] := by
  obtain ⟨oc, od, kV, doc, pm, an, cdv, ct, osl, rfl, lk, hcd⟩ := F.ex
  exact .all (h kV doc pm an cdv ct)
theorem fun_mk {x qual : Str} {st : Stmt} {f : Addr} {oc : Value} {od an : Option Addr} {osl : Array (Option Value)} {kV doc pm cdv ct : Value} (l : K.lookup f = some ⟨oc, od, .func (PySem.W.fnOf x qual (defArgs st) (defBody st) (defScope st) .none kV doc pm an cdv ct), osl⟩)
    (c : PySem.W.codeIn K cdv qual = true) (k : PySem.W.keepIn K (.ref f) = true) : Fun K x qual st f (PySem.W.fnOf x qual (defArgs st) (defBody st) (defScope st) .none kV doc pm an cdv ct) := ⟨⟨oc, od, kV, doc, pm, an, cdv, ct, osl, rfl, l, c⟩, k⟩
end

/-! ### expressions in short: the name that stands in the i-th slot -/
section
variable {X : Cx}
theorem pv (i : Nat) {x : Str} {pos : Pos} (hN : X.N[i]? = some x := by rfl) (hv : Vis X.env.scope x := by first | exact Or.inl rfl | exact Or.inr (Or.inl rfl) | exact Or.inr (Or.inr rfl)) (hd : (x == ("__debug__" : Str)) = false := by decide)
    (hcd : (x == ("__classdict__" : Str)) = false := by decide) : PE X (.Name x pos) (tVar i) := pe_var hN hv hd hcd
end

/-! ### tests -/
theorem iteF {A B : Prop} (h : B) : if false = true then A else B := by
  rw [if_neg Bool.false_ne_true]
  exact h
theorem iteT {A B : Prop} (h : A) : if true = true then A else B := by
  rw [if_pos rfl]
  exact h
theorem ite2 {c A B : Prop} [Decidable c] (h1 : c → A) (h2 : ¬ c → B) : if c then A else B := by
  by_cases h : c
  · rw [if_pos h]
    exact h1 h
  · rw [if_neg h]
    exact h2 h
theorem iteNS {c A B : Prop} [Decidable c] (hc : c) (h : B) : if (!decide c) = true then A else B := by
  rw [decide_eq_true hc]
  exact iteF h

/-! ### heaps -/
/-- all that was tracked is as it was -/
def Same (H H' : Hp) : Prop := ∀ b o, H b = some o → H' b = some o
theorem Same.refl (H : Hp) : Same H H := fun _ _ h => h
theorem Same.trans {H H1 H2 : Hp} (a : Same H H1) (b : Same H1 H2) : Same H H2 := fun c o h => b c o (a c o h)
theorem Same.free {H H' : Hp} (e : Same H H') {l : Addr} (h : H' l = Option.none) : H l = Option.none := by
  cases q : H l with
  | none => rfl
  | some o =>
    rw [e l o q] at h
    cases h

/-! ### a dict's pairs: keys that differ -/
section
variable {κ : Type} [DecidableEq κ]
end
/-! ### lists -/
theorem at_of {xs : List V} {z : Int} {j : Nat} {v : V} (e : z = (j : Int)) (h : xs[j]? = some v) : atI xs z = some v := by
  rw [e]
  exact atI_nat h
end L2

end
section
section
set_option Elab.async false
set_option linter.all false
set_option maxRecDepth 100000
set_option maxHeartbeats 2000000
namespace L2
open PySem PySem.Spec PyProof.Rows
open PySem.W (WData Codec OpenSpec Well WellAll ReadsW ReadsAllW)
/-! ### an answer as data -/
mutual
/-- x stands for the datum d, lists and tuples all the way -/
inductive Dw (K : PySem.W.Frag) (H : Hp) : V → WData → Prop
  | non : Dw K H .non .none
  | bl (b : Bool) : Dw K H (.bl b) (.bool b)
  | int (i : Int) : Dw K H (.int i) (.int i)
  | str (x : Str) : Dw K H (.str x) (.str x)
  | byt (b : Array UInt8) : Dw K H (.byt b) (.bytes b.toList)
  | lst {a : Addr} {xs : List V} {ds : List WData} : SqL K H a xs → DwAll K H xs ds → Dw K H (.ref a) (.list ds)
  | tup {a : Addr} {xs : List V} {ds : List WData} : SqT K H a xs → DwAll K H xs ds → Dw K H (.ref a) (.tuple ds)
inductive DwAll (K : PySem.W.Frag) (H : Hp) : List V → List WData → Prop
  | nil : DwAll K H [] []
  | cons {v : V} {vs : List V} {d : WData} {ds : List WData} : Dw K H v d → DwAll K H vs ds → DwAll K H (v :: vs) (d :: ds)
end
theorem dw_ints {K : PySem.W.Frag} {H : Hp} : ∀ ns : List Int, DwAll K H (ns.map V.int) (ns.map WData.int)
  | [] => .nil
  | n :: r => .cons (.int n) (dw_ints r)
theorem ints_dw {K : PySem.W.Frag} {H : Hp} : ∀ (ns : List Int) (xs : List V), DwAll K H xs (ns.map WData.int) → xs = ns.map V.int
  | [], xs, h => by
    cases h
    rfl
  | n :: r, xs, h => by
    cases h with
    | cons h1 h2 =>
      cases h1
      rw [ints_dw r _ h2] <;> rfl
section
variable {P : Program} {w : World} {K : PySem.W.Frag} {H : Hp} {h : Heap} {R : PySem.W.WRecords} {cl : Str → Option Addr}
theorem sqL_at {a : Addr} {xs : List V} (hok : HOk P w H h) (KX : K.In h) (q : SqL K H a xs) : ∃ (its : List Value) (o : Obj) (n : Nat), Vals xs its ∧ h.get? a = some o ∧ o.cls = .type "list" ∧ o.data = .seq its.toArray n := by
  rcases q with q | ⟨o, its, n, e, hc, _, hd, _, hv⟩
  · obtain ⟨_, its, n, hv, e⟩ := (show ObjOk P w H h a (.lst xs) from q.ok hok)
    exact ⟨its, _, n, hv, e, rfl, rfl⟩
  · exact ⟨its.toList, o, n, hv, KX _ _ e, hc, by simp [hd]⟩
theorem sqT_at {a : Addr} {xs : List V} (hok : HOk P w H h) (KX : K.In h) (q : SqT K H a xs) : ∃ (its : List Value) (o : Obj) (n : Nat), Vals xs its ∧ h.get? a = some o ∧ o.cls = .type "tuple" ∧ o.data = .seq its.toArray n := by
  rcases q with q | ⟨o, its, n, e, hc, hd, _, hv⟩
  · obtain ⟨_, its, hv, o, e, hc, n, hd⟩ := (show ObjOk P w H h a (.tup xs) from q.ok hok)
    exact ⟨its, o, n, hv, e, hc, hd⟩
  · exact ⟨its.toList, o, n, hv, KX _ _ e, hc, by simp [hd]⟩
mutual
theorem Dw.reads (hok : HOk P w H h) (KX : K.In h) : ∀ (d : WData) (v : V) (u : Value), Dw K H v d → RelV v u → ∃ as, ReadsW R cl h u d as
  | .none, _, _, x, r => by
    cases x
    cases r
    exact ⟨_, ReadsW.none⟩
  | .bool b, _, _, x, r => by
    cases x
    cases r
    exact ⟨_, ReadsW.bool b⟩
  | .int i, _, _, x, r => by
    cases x
    obtain ⟨t, rfl⟩ := r
    exact ⟨_, ReadsW.int i t⟩
  | .str s, _, _, x, r => by
    cases x
    obtain ⟨t, rfl⟩ := r
    exact ⟨_, ReadsW.str s t⟩
  | .bytes b, _, _, x, r => by
    cases x
    obtain ⟨t, rfl⟩ := r
    exact ⟨_, ReadsW.bytes _ t⟩
  | .list ds, _, _, x, r => by
    cases x with
    | lst hs ha =>
      cases r
      obtain ⟨its, o, n, rv, ho, hc, hd⟩ := sqL_at hok KX hs
      obtain ⟨as, hr⟩ := Dw.readsAll hok KX ds _ its ha rv
      exact ⟨_, ReadsW.list ho hc hd hr⟩
  | .tuple ds, _, _, x, r => by
    cases x with
    | tup hs ha =>
      cases r
      obtain ⟨its, o, n, rv, ho, hc, hd⟩ := sqT_at hok KX hs
      obtain ⟨as, hr⟩ := Dw.readsAll hok KX ds _ its ha rv
      exact ⟨_, ReadsW.tuple ho hc hd hr⟩
  | .float _, _, _, x, _ => by cases x
  | .dict _, _, _, x, _ => by cases x
  | .bytearray _, _, _, x, _ => by cases x
  | .set _, _, _, x, _ => by cases x
  | .frozenset _, _, _, x, _ => by cases x
  | .obj _ _, _, _, x, _ => by cases x
theorem Dw.readsAll (hok : HOk P w H h) (KX : K.In h) : ∀ (ds : List WData) (vs : List V) (us : List Value), DwAll K H vs ds → Vals vs us → ∃ as, ReadsAllW R cl h us ds as
  | [], _, _, x, r => by
    cases x
    cases r
    exact ⟨_, ReadsAllW.nil⟩
  | d :: ds, _, _, x, r => by
    cases x with
    | cons h1 h2 =>
      cases r with
      | cons r1 r2 =>
        obtain ⟨as, q1⟩ := Dw.reads hok KX d _ _ h1 r1
        obtain ⟨bs, q2⟩ := Dw.readsAll hok KX ds _ _ h2 r2
        exact ⟨_, ReadsAllW.cons q1 q2⟩
end
end
/-! ### the arguments -/
mutual
/-- data that a codec tells -/
def plW : WData → Bool
  | .none => true
  | .bool _ => true
  | .int _ => true
  | .str _ => true
  | .bytes _ => true
  | .list xs => plWs xs
  | .tuple xs => plWs xs
  | _ => false
def plWs : List WData → Bool
  | [] => true
  | x :: r => plW x && plWs r
end
theorem plWs_map {α : Type} {f : α → WData} (h : ∀ a, plW (f a) = true) : ∀ l : List α, plWs (l.map f) = true
  | [] => rfl
  | x :: r => by
    show (plW (f x) && plWs (r.map f)) = true
    rw [h x, plWs_map h r] <;> rfl
theorem pl_enc : ∀ (c : Codec) (a : c.denote), plW (c.enc a) = true
  | .unit, _ => rfl
  | .bool, _ => rfl
  | .int _ _, _ => rfl
  | .nat _ _, _ => rfl
  | .u8, _ => rfl
  | .bytes _ _, _ => rfl
  | .text _ _ _ _, _ => rfl
  | .list _ _ c, a => plWs_map (fun x => pl_enc c x) a
  | .pair c d, a => by
    show (plW (c.enc a.1) && (plW (d.enc a.2) && true)) = true
    rw [pl_enc c a.1, pl_enc d a.2] <;> rfl
  | .triple c d e, a => by
    show (plW (c.enc a.1) && (plW (d.enc a.2.1) && (plW (e.enc a.2.2) && true))) = true
    rw [pl_enc c a.1, pl_enc d a.2.1, pl_enc e a.2.2] <;> rfl
  | .option c, none => rfl
  | .option c, some x => pl_enc c x
theorem pl_encAll : ∀ (cs : List Codec) (a : Codec.denoteAll cs), plWs (Codec.encAll cs a) = true
  | [], _ => rfl
  | c :: cs, a => by
    show (plW (c.enc a.1) && plWs (Codec.encAll cs a.2)) = true
    rw [pl_enc c a.1, pl_encAll cs a.2] <;> rfl
theorem weight_mem : ∀ {xs : List WData} {d : WData}, d ∈ xs → d.weight ≤ WData.weightAll xs
  | [], d, h => absurd h (by simp)
  | x :: r, d, h => by
    show d.weight ≤ x.weight + 1 + WData.weightAll r
    rcases List.mem_cons.mp h with e | m
    · rw [e]
      omega
    · have z := weight_mem m
      omega
def toV : Value → V
  | .none => .non
  | .bool b => .bl b
  | .int i _ => .int i
  | .str x _ => .str x
  | .bytes b _ => .byt b
  | .ref a => .ref a
  | _ => .non
/-- a value of the arguments, its objects among A -/
def OkU (A : List Addr) : Value → Prop
  | .none => True
  | .bool _ => True
  | .int _ _ => True
  | .str _ _ => True
  | .bytes _ _ => True
  | .ref a => a ∈ A
  | _ => False
theorem OkU.mono {A B : List Addr} (h : ∀ a ∈ A, a ∈ B) : ∀ {u : Value}, OkU A u → OkU B u := fun {u} x => by
  cases u with
  | ref a => exact h a x
  | none => trivial
  | bool b => trivial
  | int i t => trivial
  | str s t => trivial
  | bytes b t => trivial
  | _ => exact False.elim x
theorem relV_toV {A : List Addr} {u : Value} (x : OkU A u) : RelV (toV u) u := by
  cases u with
  | ref a => rfl
  | none => rfl
  | bool b => rfl
  | int i t => exact ⟨t, rfl⟩
  | str s t => exact ⟨t, rfl⟩
  | bytes b t => exact ⟨t, rfl⟩
  | _ => exact False.elim x
theorem vals_toV {A : List Addr} : ∀ {vs : List Value}, (∀ u ∈ vs, OkU A u) → Vals (vs.map toV) vs
  | [], _ => .nil
  | u :: r, h => .cons (relV_toV (h u (List.mem_cons_self ..))) (vals_toV fun x hx => h x (List.mem_cons_of_mem _ hx))
/-- an object of the arguments -/
def ArgOb (h : Heap) (A : List Addr) (a : Addr) : Prop := ∃ vs : List Value, vs.length ≤ sizeLine ∧ (∀ u ∈ vs, OkU A u) ∧
  (h.get? a = some { cls := .type "list", data := .seq vs.toArray } ∨ h.get? a = some { cls := .type "tuple", data := .seq vs.toArray })
theorem ArgOb.mono {h : Heap} {A B : List Addr} {a : Addr} (k : ∀ a ∈ A, a ∈ B) (x : ArgOb h A a) : ArgOb h B a := by
  obtain ⟨vs, h1, h2, h3⟩ := x
  exact ⟨vs, h1, fun u hu => (h2 u hu).mono k, h3⟩
theorem wellAll_len {P : Params} {h : Heap} : ∀ {vs : List Value} {ds : List WData}, WellAll P h vs ds → vs.length = ds.length
  | _, _, .nil => rfl
  | _, _, .cons _ b => by
    show _ + 1 = _ + 1
    rw [wellAll_len b]
theorem well_list {P : Params} {h : Heap} {v : Value} {ds : List WData} (x : Well P h v (.list ds)) : ∃ (a : Addr) (vs : List Value), v = .ref a ∧ h.get? a = some { cls := .type "list", data := .seq vs.toArray } ∧ WellAll P h vs ds := by
  cases x with
  | list ho hall => exact ⟨_, _, rfl, ho, hall⟩
theorem well_tuple {P : Params} {h : Heap} {v : Value} {ds : List WData} (x : Well P h v (.tuple ds)) : ∃ (a : Addr) (vs : List Value), v = .ref a ∧ h.get? a = some { cls := .type "tuple", data := .seq vs.toArray } ∧ WellAll P h vs ds := by
  cases x with
  | tuple ho hall => exact ⟨_, _, rfl, ho, hall⟩
theorem well_cons {P : Params} {h : Heap} {us : List Value} {d : WData} {ds : List WData} (x : WellAll P h us (d :: ds)) : ∃ (v : Value) (vs : List Value), us = v :: vs ∧ Well P h v d ∧ WellAll P h vs ds := by
  cases x with
  | cons a b => exact ⟨_, _, rfl, a, b⟩
theorem line_of {n : Nat} (h : n ≤ 1048576) : n ≤ sizeLine := Nat.le_trans h (by decide)
section
variable {P : Params} {h : Heap}
mutual
theorem area_one : ∀ (d : WData) (v : Value), Well P h v d → plW d = true → d.weight ≤ 1048576 → ∃ A : List Addr, OkU A v ∧ ∀ a ∈ A, ArgOb h A a
  | .none, _, x, _, _ => by
    cases x
    exact ⟨[], trivial, fun a m => absurd m (by simp)⟩
  | .bool b, _, x, _, _ => by
    cases x
    exact ⟨[], trivial, fun a m => absurd m (by simp)⟩
  | .int i, _, x, _, _ => by
    cases x
    exact ⟨[], trivial, fun a m => absurd m (by simp)⟩
  | .str s, _, x, _, _ => by
    cases x
    exact ⟨[], trivial, fun a m => absurd m (by simp)⟩
  | .bytes b, _, x, _, _ => by
    cases x
    exact ⟨[], trivial, fun a m => absurd m (by simp)⟩
  | .list ds, _, x, p, z => by
    obtain ⟨a, vs, rfl, ho, hall⟩ := well_list x
    have z2 : WData.weightAll ds ≤ 1048576 := z
    obtain ⟨A, h1, h2⟩ := area_all ds _ hall p fun d hd => Nat.le_trans (weight_mem hd) z2
    have k : ∀ b ∈ A, b ∈ a :: A := fun b hb => List.mem_cons_of_mem _ hb
    refine ⟨a :: A, List.mem_cons_self .., fun b hb => ?_⟩
    rcases List.mem_cons.mp hb with e | m
    · rw [e]
      exact ⟨vs, line_of (by rw [wellAll_len hall]; exact Nat.le_trans (PySem.W.length_le_weightAllW ds) z2), fun u hu => (h1 u hu).mono k, .inl ho⟩
    · exact (h2 b m).mono k
  | .tuple ds, _, x, p, z => by
    obtain ⟨a, vs, rfl, ho, hall⟩ := well_tuple x
    have z2 : WData.weightAll ds ≤ 1048576 := z
    obtain ⟨A, h1, h2⟩ := area_all ds _ hall p fun d hd => Nat.le_trans (weight_mem hd) z2
    have k : ∀ b ∈ A, b ∈ a :: A := fun b hb => List.mem_cons_of_mem _ hb
    refine ⟨a :: A, List.mem_cons_self .., fun b hb => ?_⟩
    rcases List.mem_cons.mp hb with e | m
    · rw [e]
      exact ⟨vs, line_of (by rw [wellAll_len hall]; exact Nat.le_trans (PySem.W.length_le_weightAllW ds) z2), fun u hu => (h1 u hu).mono k, .inr ho⟩
    · exact (h2 b m).mono k
  | .float _, _, _, p, _ => Bool.noConfusion (show false = true from p)
  | .dict _, _, _, p, _ => Bool.noConfusion (show false = true from p)
  | .bytearray _, _, _, p, _ => Bool.noConfusion (show false = true from p)
  | .set _, _, _, p, _ => Bool.noConfusion (show false = true from p)
  | .frozenset _, _, _, p, _ => Bool.noConfusion (show false = true from p)
  | .obj _ _, _, _, p, _ => Bool.noConfusion (show false = true from p)
theorem area_all : ∀ (ds : List WData) (vs : List Value), WellAll P h vs ds → plWs ds = true → (∀ d ∈ ds, d.weight ≤ 1048576) → ∃ A : List Addr, (∀ u ∈ vs, OkU A u) ∧ ∀ a ∈ A, ArgOb h A a
  | [], _, x, _, _ => by
    cases x
    exact ⟨[], fun u m => absurd m (by simp), fun a m => absurd m (by simp)⟩
  | d :: ds, _, x, p, z => by
    obtain ⟨v, vs, rfl, x1, x2⟩ := well_cons x
    have q : plW d = true ∧ plWs ds = true := Bool.and_eq_true_iff.mp p
    obtain ⟨A, a1, a2⟩ := area_one d v x1 q.1 (z d (List.mem_cons_self ..))
    obtain ⟨B, b1, b2⟩ := area_all ds vs x2 q.2 fun e he => z e (List.mem_cons_of_mem _ he)
    have kA : ∀ b ∈ A, b ∈ A ++ B := fun b hb => List.mem_append.mpr (.inl hb)
    have kB : ∀ b ∈ B, b ∈ A ++ B := fun b hb => List.mem_append.mpr (.inr hb)
    refine ⟨A ++ B, fun u hu => ?_, fun b hb => ?_⟩
    · rcases List.mem_cons.mp hu with e | m
      · rw [e]
        exact a1.mono kA
      · exact (b1 u m).mono kB
    · rcases List.mem_append.mp hb with m | m
      · exact (a2 b m).mono kA
      · exact (b2 b m).mono kB
end
end
/-- what is tracked of an argument's object -/
def hoOf (o : Obj) : Option HO := match o.data with
  | .seq vs _ => if (o.cls == Value.type "list") = true then some (.frz o (.lst (vs.toList.map toV))) else some (.frz o (.tup (vs.toList.map toV)))
  | _ => none
def argH (K : PySem.W.Frag) (h : Heap) (A : List Addr) : Hp := fun b => if b ∈ A then (if (K.lookup b).isNone = true then (h.get? b).bind hoOf else none) else none
/-- nothing is tracked but what is known to the object -/
def OnlyF (H : Hp) : Prop := ∀ b, H b = none ∨ ∃ o u, H b = some (.frz o u)
theorem hoOf_lst (vs : List Value) : hoOf { cls := .type "list", data := .seq vs.toArray } = some (.frz { cls := .type "list", data := .seq vs.toArray } (.lst (vs.map toV))) := by
  show (if (Value.type "list" == Value.type "list") = true then some (HO.frz { cls := .type "list", data := .seq vs.toArray } (.lst (vs.toArray.toList.map toV))) else some (HO.frz { cls := .type "list", data := .seq vs.toArray } (.tup (vs.toArray.toList.map toV)))) = _
  rw [if_pos (beq_self_eq_true _)]
theorem hoOf_tup (vs : List Value) : hoOf { cls := .type "tuple", data := .seq vs.toArray } = some (.frz { cls := .type "tuple", data := .seq vs.toArray } (.tup (vs.map toV))) := by
  show (if (Value.type "tuple" == Value.type "list") = true then some (HO.frz { cls := .type "tuple", data := .seq vs.toArray } (.lst (vs.toArray.toList.map toV))) else some (HO.frz { cls := .type "tuple", data := .seq vs.toArray } (.tup (vs.toArray.toList.map toV)))) = _
  rw [if_neg (by decide)]
section
variable {P : Program} {w : World} {K : PySem.W.Frag} {h : Heap} {A : List Addr}
theorem argH_at {b : Addr} {o : Obj} (hb : b ∈ A) (hk : K.lookup b = none) (e : h.get? b = some o) : argH K h A b = hoOf o := by
  unfold argH
  rw [if_pos hb, hk, if_pos (show (none : Option Obj).isNone = true from rfl), e] <;> rfl
theorem of_argH {b : Addr} {u : HO} (q : argH K h A b = some u) : b ∈ A ∧ K.lookup b = none := by
  unfold argH at q
  by_cases hb : b ∈ A
  · rw [if_pos hb] at q
    cases hk : K.lookup b with
    | none => exact ⟨hb, rfl⟩
    | some o =>
      rw [hk, if_neg (by simp)] at q
      cases q
  · rw [if_neg hb] at q
    cases q
/-- what stands tracked -/
theorem argH_is (ar : ∀ a ∈ A, ArgOb h A a) {b : Addr} {u : HO} (q : argH K h A b = some u) : K.lookup b = none ∧ ∃ vs : List Value, vs.length ≤ sizeLine ∧ (∀ u ∈ vs, OkU A u) ∧
    ((h.get? b = some { cls := .type "list", data := .seq vs.toArray } ∧ u = .frz { cls := .type "list", data := .seq vs.toArray } (.lst (vs.map toV))) ∨
     (h.get? b = some { cls := .type "tuple", data := .seq vs.toArray } ∧ u = .frz { cls := .type "tuple", data := .seq vs.toArray } (.tup (vs.map toV)))) := by
  obtain ⟨hb, hk⟩ := of_argH q
  obtain ⟨vs, h1, h2, h3⟩ := ar b hb
  refine ⟨hk, vs, h1, h2, ?_⟩
  rcases h3 with e | e
  · rw [argH_at hb hk e, hoOf_lst] at q
    exact .inl ⟨e, (Option.some.inj q).symm⟩
  · rw [argH_at hb hk e, hoOf_tup] at q
    exact .inr ⟨e, (Option.some.inj q).symm⟩
theorem argH_only (ar : ∀ a ∈ A, ArgOb h A a) : OnlyF (argH K h A) := fun b => by
  cases q : argH K h A b with
  | none => exact .inl rfl
  | some u =>
    obtain ⟨_, vs, _, _, ⟨_, e⟩ | ⟨_, e⟩⟩ := argH_is ar q
    · exact .inr ⟨_, _, by rw [e]⟩
    · exact .inr ⟨_, _, by rw [e]⟩
theorem argH_ok (ar : ∀ a ∈ A, ArgOb h A a) : HOk P w (argH K h A) h := fun b u q => by
  obtain ⟨_, vs, h1, h2, ⟨e, rfl⟩ | ⟨e, rfl⟩⟩ := argH_is ar q
  · exact ⟨e, by rw [List.length_map]; exact h1, vs, _, vals_toV h2, e⟩
  · exact ⟨e, by rw [List.length_map]; exact h1, vs, vals_toV h2, _, e, rfl, _, rfl⟩
theorem seq_inj {c c' : Value} {vs us : List Value} (e : (some { cls := c, data := .seq vs.toArray } : Option Obj) = some { cls := c', data := .seq us.toArray }) : c = c' ∧ vs = us := by
  have e1 := Option.some.inj e
  have e2 : c = c' := congrArg Obj.cls e1
  have e3 : Data.seq vs.toArray = Data.seq us.toArray := congrArg Obj.data e1
  injection e3 with e4
  refine ⟨e2, ?_⟩
  have e5 := congrArg Array.toList e4
  simpa using e5
/-- a list argument -/
theorem argL (KX : K.In h) (ar : ∀ a ∈ A, ArgOb h A a) {a : Addr} {vs : List Value} (ha : a ∈ A) (e : h.get? a = some { cls := .type "list", data := .seq vs.toArray }) : (∀ u ∈ vs, OkU A u) ∧ SqL K (argH K h A) a (vs.map toV) := by
  obtain ⟨us, h1, h2, h3⟩ := ar a ha
  have hu : us = vs := by
    rcases h3 with q | q
    · rw [e] at q
      exact (seq_inj q).2.symm
    · rw [e] at q
      exact absurd (Value.type.inj (seq_inj q).1) (by decide)
  subst hu
  refine ⟨h2, ?_⟩
  cases hk : K.lookup a with
  | none => exact .inl (.inr ⟨_, by rw [argH_at ha hk e, hoOf_lst]⟩)
  | some o =>
    have e2 := KX a o hk
    rw [e] at e2
    obtain rfl := Option.some.inj e2
    exact .inr ⟨_, us.toArray, _, hk, rfl, rfl, rfl, by rw [List.size_toArray]; exact h1, by simpa using vals_toV h2⟩
theorem argT (KX : K.In h) (ar : ∀ a ∈ A, ArgOb h A a) {a : Addr} {vs : List Value} (ha : a ∈ A) (e : h.get? a = some { cls := .type "tuple", data := .seq vs.toArray }) : (∀ u ∈ vs, OkU A u) ∧ SqT K (argH K h A) a (vs.map toV) := by
  obtain ⟨us, h1, h2, h3⟩ := ar a ha
  have hu : us = vs := by
    rcases h3 with q | q
    · rw [e] at q
      exact absurd (Value.type.inj (seq_inj q).1) (by decide)
    · rw [e] at q
      exact (seq_inj q).2.symm
  subst hu
  refine ⟨h2, ?_⟩
  cases hk : K.lookup a with
  | none => exact .inl (.inr ⟨_, by rw [argH_at ha hk e, hoOf_tup]⟩)
  | some o =>
    have e2 := KX a o hk
    rw [e] at e2
    obtain rfl := Option.some.inj e2
    exact .inr ⟨_, us.toArray, _, hk, rfl, rfl, by rw [List.size_toArray]; exact h1, by simpa using vals_toV h2⟩
mutual
theorem dw_one {Pm : Params} (KX : K.In h) (ar : ∀ a ∈ A, ArgOb h A a) : ∀ (d : WData) (v : Value), Well Pm h v d → plW d = true → OkU A v → Dw K (argH K h A) (toV v) d
  | .none, _, x, _, _ => by
    cases x
    exact .non
  | .bool b, _, x, _, _ => by
    cases x
    exact .bl b
  | .int i, _, x, _, _ => by
    cases x
    exact .int i
  | .str s, _, x, _, _ => by
    cases x
    exact .str s
  | .bytes b, _, x, _, _ => by
    cases x
    have z := Dw.byt (K := K) (H := argH K h A) b.toArray
    exact z
  | .list ds, _, x, p, hu => by
    obtain ⟨a, vs, rfl, ho, hall⟩ := well_list x
    obtain ⟨h2, hs⟩ := argL KX ar hu ho
    exact .lst hs (dw_all KX ar ds _ hall p h2)
  | .tuple ds, _, x, p, hu => by
    obtain ⟨a, vs, rfl, ho, hall⟩ := well_tuple x
    obtain ⟨h2, hs⟩ := argT KX ar hu ho
    exact .tup hs (dw_all KX ar ds _ hall p h2)
  | .float _, _, _, p, _ => Bool.noConfusion (show false = true from p)
  | .dict _, _, _, p, _ => Bool.noConfusion (show false = true from p)
  | .bytearray _, _, _, p, _ => Bool.noConfusion (show false = true from p)
  | .set _, _, _, p, _ => Bool.noConfusion (show false = true from p)
  | .frozenset _, _, _, p, _ => Bool.noConfusion (show false = true from p)
  | .obj _ _, _, _, p, _ => Bool.noConfusion (show false = true from p)
theorem dw_all {Pm : Params} (KX : K.In h) (ar : ∀ a ∈ A, ArgOb h A a) : ∀ (ds : List WData) (vs : List Value), WellAll Pm h vs ds → plWs ds = true → (∀ u ∈ vs, OkU A u) → DwAll K (argH K h A) (vs.map toV) ds
  | [], _, x, _, _ => by
    cases x
    exact .nil
  | d :: ds, _, x, p, hu => by
    obtain ⟨v, vs, rfl, x1, x2⟩ := well_cons x
    have q : plW d = true ∧ plWs ds = true := Bool.and_eq_true_iff.mp p
    exact .cons (dw_one KX ar d v x1 q.1 (hu _ (List.mem_cons_self ..))) (dw_all KX ar ds vs x2 q.2 fun u m => hu u (List.mem_cons_of_mem _ m))
end
end
/-! ### the call -/
theorem spec_call {P : Program} {w : World} {K : PySem.W.Frag} {mg mb : Str → Option Value} {CX : CXT} {k : Nat} {fa : Addr} {fd : FuncData} {ps : List Str} {sp : Sp} {s₁ : Shared} {vals : List Value} {ds : List WData} {R : PySem.W.WRecords} {cl : Str → Option Addr} {d0 : WData}
    (KX : K.In s₁.heap) (hns : s₁.heap.Ns mainGlobals mg) (hb : s₁.heap.Ns builtinsNs mb) (hbb : ∀ x : Str, x ≠ "__name__" → mb x = bootBuiltins x) (hlim : s₁.heap.NoLimit) (hg : s₁.gens = #[])
    (hwl : WellAll w.params s₁.heap vals ds) (hpl : plWs ds = true) (hwt : ∀ d ∈ ds, d.weight ≤ 1048576) (hr : Room k callerA)
    (F : ∀ base : Heap, K.In base → base.Ns mainGlobals mg → FnOk P w K mg base CX k fa fd ps sp) (hbind : ∀ (s : Shared) (us : List Value), us.length = ps.length → BindsTo s fd ⟨us, []⟩ (ps.zip us)) (hlen : ds.length = ps.length)
    (hsp : ∀ (H : Hp) (xs : List V), OnlyF H → DwAll K H xs ds → sp xs H (fun v H' => Dw K H' v d0) fun _ _ _ => False)
    (hCX : ∀ H e s', CX [] H s₁ (fun _ _ _ => False) e s' → False) :
    codeAny (model P w) callerA (.call (.ref fa) ⟨vals, []⟩) (fun r s' => ∃ u as, r = .ok (.ret u) ∧ ReadsW R cl s'.heap u d0 as ∧ OldK s₁.heap s'.heap ∧ s'.os = s₁.os ∧ AllBare s'.gens) s₁ := by
  obtain ⟨A, ho, ar⟩ := area_all ds vals hwl hpl hwt
  have hO : OnlyF (argH K s₁.heap A) := argH_only ar
  have hok : HOk P w (argH K s₁.heap A) s₁.heap := argH_ok ar
  have hS := dw_all KX ar ds vals hwl hpl ho
  have hV := vals_toV ho
  have hK : ∀ b u, argH K s₁.heap A b = some u → K.lookup b = none := fun b u q => (argH_is ar q).1
  have noA : ∀ {b : Addr} {o : Obj} {es : Array DictEntry} {ep : Nat}, s₁.heap.get? b = some o → o.data = .dict es ep → argH K s₁.heap A b = none := fun {b o es ep} e d => by
    cases q : argH K s₁.heap A b with
    | none => rfl
    | some u =>
      obtain ⟨_, vs, _, _, ⟨e2, _⟩ | ⟨e2, _⟩⟩ := argH_is ar q
      · rw [e2] at e
        cases e
        have d' : Data.seq vs.toArray _ = Data.dict es ep := d
        cases d'
      · rw [e2] at e
        cases e
        have d' : Data.seq vs.toArray _ = Data.dict es ep := d
        cases d'
  generalize argH K s₁.heap A = H at hO hok hS hK noA
  have base_of : ∀ {b : Addr} {o : Obj}, s₁.heap.get? b = some o → H b = none → (hidT s₁.heap H).get? b = some o := fun e n => hidT_get e n
  have nsK : ∀ {b : Addr} {m : Str → Option Value}, s₁.heap.Ns b m → (hidT s₁.heap H).Ns b m := fun {b m} ⟨o, es, ep, e, d, r⟩ => ⟨o, es, ep, base_of e (noA e d), d, r⟩
  have nK : ∀ b o, K.lookup b = some o → H b = none := fun b o e => by
    cases q : H b with
    | none => rfl
    | some u =>
      rw [hK b u q] at e
      cases e
  have hKb : K.In (hidT s₁.heap H) := fun b o e => base_of (KX b o e) (nK b o e)
  have hM : Mod K mg (hidT s₁.heap H) := ⟨hKb, nsK hns, ⟨mb, nsK hb, hbb⟩, let ⟨mc, h1, h2⟩ := hlim; ⟨mc, nsK h1, h2⟩⟩
  have e0 : Env0 P w K mg (hidT s₁.heap H) callerA [] s₁ H := ⟨rfl, hM, fun b o e => of_hidT e, Nat.le_of_eq (hidT_size _ _), trivial, fun b hb => absurd (show b ∈ ([] : List Addr) from hb) (by simp), hok, .of_eq hg⟩
  have hl : vals.length = ps.length := by rw [wellAll_len hwl]; exact hlen
  refine codeAny_mono ((F _ hKb (nsK hns)).run callerA [] s₁ H ⟨vals, []⟩ vals (vals.map toV) _ _ hr e0 (hbind s₁ vals hl) hV (hsp H _ hO hS)) fun r s' x => ?_
  cases r with
  | error e => exact (hCX H e s' x).elim
  | ok fl =>
    cases fl with
    | next => exact False.elim x
    | brk => exact False.elim x
    | cont => exact False.elim x
    | ret u =>
      obtain ⟨v, H', os, bare, un, hok', r', q⟩ := x
      have kept : ∀ b o, s₁.heap.get? b = some o → s'.heap.get? b = some o := fun b o e => by
        cases q2 : H b with
        | none => exact un.keep b o e q2 (by intro z; exact absurd (show b ∈ ([] : List Addr) from z) (by simp)) (by simp)
        | some u2 =>
          rcases hO b with z | ⟨ob, u3, z⟩
          · rw [q2] at z
            cases z
          · have z2 := un.frzs b ob _ z
            obtain ⟨e1, _⟩ := hok b _ z
            obtain ⟨e2, _⟩ := hok' b _ z2
            rw [e] at e1
            cases e1
            exact e2
      have KX' : K.In s'.heap := fun b o e => kept b o (KX b o e)
      obtain ⟨as, hrd⟩ := Dw.reads (R := R) (cl := cl) hok' KX' d0 v u q r'
      exact ⟨u, as, rfl, hrd, OldK.of_keep kept, os, bare⟩
/-! ### the row -/
theorem layable_weight {ds : List WData} (h : WData.layableAll ds = true) : ∀ d ∈ ds, d.weight ≤ 1048576 := fun d hd =>
  (PySem.W.layableW_iff.mp (List.all_eq_true.mp h d hd)).2.2
theorem encAll_len : ∀ (cs : List Codec) (a : Codec.denoteAll cs), (Codec.encAll cs a).length = cs.length
  | [], _ => rfl
  | c :: cs, a => by
    show (Codec.encAll cs a.2).length + 1 = cs.length + 1
    rw [encAll_len cs a.2]
/-- the goal that k_headS leaves (case hc), from the promise of the row's def: whatever the arguments that the codecs let and the row asks for, the def gives what stands for enc (f ..) -/
theorem walk_spec {r : OpenSpec} {k : Nat} {q : Program} {loose : List Str} {XP : (Str → Option Value) → Heap → Prop} {YP : World → Heap → Prop} {d : DefRec} {K : Params → PySem.W.Frag} {CX : World → CXT} {ps : List Str} {sp : World → Sp}
    (hwell : r.wellSaid = true) (hdf : d.params.defaults = []) (hlen : r.args.length = ps.length) (hr : Room k callerA)
    (hY : ∀ (w : World) (h : Heap), YP w h → (K w.params).In h)
    (F : ∀ (w : World) (mg : Str → Option Value) (fa : Addr) (h : Heap), YP w h → (K w.params).In h → h.Ns mainGlobals mg → mg d.name = some (.ref fa) →
      ∃ fd : FuncData, (∀ (s : Shared) (us : List Value), us.length = ps.length → BindsTo s fd ⟨us, []⟩ (ps.zip us)) ∧
        ∀ base : Heap, (K w.params).In base → base.Ns mainGlobals mg → FnOk r.prog w (K w.params) mg base (CX w) k fa fd ps (sp w))
    (hsp : ∀ (w : World) (H : Hp) (xs : List V) (a : Codec.denoteAll r.args), OnlyF H → Codec.withinAll r.args a = true → Codec.app r.args r.asked a = true → DwAll (K w.params) H xs (Codec.encAll r.args a) →
      sp w xs H (fun v H' => Dw (K w.params) H' v (r.ret.enc (Codec.app r.args r.f a))) fun _ _ _ => False)
    (hCX : ∀ (w : World) (H : Hp) (s : Shared) (e : Value) (s' : Shared), CX w [] H s (fun _ _ _ => False) e s' → False) :
    PySem.W.WalkOS q loose XP YP r d [] (fun f vs => PySem.call f vs) := by
  intro w s_0 s₁ mg mb G Y fa o pm cd doc dV kV ho hd hcd hD hmg hg args vals as hpre hlay hrd hwl hlo
  obtain ⟨a, e1, e2⟩ := PySem.W.os_pre_some hpre
  obtain ⟨e3, hwi⟩ := Codec.encAll_of_decAll r.args args a e1
  subst e3
  have KX := hY w _ Y
  obtain ⟨fd, hb, hF⟩ := F w mg fa _ Y KX G.T.g hmg
  refine PySem.W.enter_call (codeAny_mono (spec_call (R := []) (cl := classAt s_0.heap) (d0 := r.ret.enc (Codec.app r.args r.f a)) KX G.T.g G.T.b G.T.builtins G.T.nolimit hg hwl (pl_encAll _ _) (layable_weight hlay) hr hF hb (by rw [encAll_len]; exact hlen)
    (fun H xs hO hS => hsp w H xs a hO hwi e2 hS) fun H e s' => hCX w H s₁ e s') fun r' s' hq => ?_)
  obtain ⟨u, as', rfl, h1, h2, h3, h4⟩ := hq
  exact ⟨.inl ⟨u, _, as', rfl, fun _ => rfl, h1, (OpenSpec.post_iff hwell hwi _ _).mpr rfl, fun z => Bool.noConfusion (show false = true from z)⟩, h2, h3, h4⟩
/-- the same where the promise hangs on the written part alone -/
theorem walk_specK {r : OpenSpec} {k : Nat} {q : Program} {loose : List Str} {XP : (Str → Option Value) → Heap → Prop} {YP : World → Heap → Prop} {d : DefRec} {K : Params → PySem.W.Frag} {CX : CXT} {ps : List Str} {sp : PySem.W.Frag → Sp}
    (hwell : r.wellSaid = true) (hdf : d.params.defaults = []) (hlen : r.args.length = ps.length) (hr : Room k callerA)
    (hY : ∀ (w : World) (h : Heap), YP w h → (K w.params).In h)
    (F : ∀ (w : World) (mg : Str → Option Value) (fa : Addr) (h : Heap), YP w h → (K w.params).In h → h.Ns mainGlobals mg → mg d.name = some (.ref fa) →
      ∃ fd : FuncData, (∀ (s : Shared) (us : List Value), us.length = ps.length → BindsTo s fd ⟨us, []⟩ (ps.zip us)) ∧
        ∀ base : Heap, (K w.params).In base → base.Ns mainGlobals mg → FnOk r.prog w (K w.params) mg base CX k fa fd ps (sp (K w.params)))
    (hsp : ∀ (K : PySem.W.Frag) (H : Hp) (xs : List V) (a : Codec.denoteAll r.args), OnlyF H → Codec.withinAll r.args a = true → Codec.app r.args r.asked a = true → DwAll K H xs (Codec.encAll r.args a) →
      sp K xs H (fun v H' => Dw K H' v (r.ret.enc (Codec.app r.args r.f a))) fun _ _ _ => False)
    (hCX : ∀ (H : Hp) (s : Shared) (e : Value) (s' : Shared), CX [] H s (fun _ _ _ => False) e s' → False) :
    PySem.W.WalkOS q loose XP YP r d [] (fun f vs => PySem.call f vs) :=
  walk_spec (K := K) (CX := fun _ => CX) (sp := fun w => sp (K w.params)) hwell hdf hlen hr hY F (fun w H xs a h1 h2 h3 h4 => hsp (K w.params) H xs a h1 h2 h3 h4) fun _ H s e s' => hCX H s e s'
end L2
-- rests on (row put in by the clerk, for the bench that shows a file only what it spells): KE.SpHead KE.OsShapes
end

end
section
set_option Elab.async false
set_option linter.all false
namespace Off
open Loft

/-! ### the parser as the program runs it, over what is left of a text -/
def dig (r : Rest) : Got Nat := match r.text with
  | c :: _ => if isDigit c = true then .ok (c.toNat - 48) (r.on 1) else .bad 1 r.at_
  | [] => .bad 1 r.at_
def feetGo (f : Nat) : Bytes → Nat → Nat × Rest
  | [], p => (f, ⟨[], p⟩)
  | c :: t, p => if 0 < f ∧ isDigit c = true then feetGo (min (f * 10 + (c.toNat - 48)) 5462) t (p + 1) else (f, ⟨c :: t, p⟩)
def feetM (r : Rest) : Got Nat := match dig r with
  | .bad k p => .bad k p
  | .ok f s => .ok (feetGo f s.text s.at_).1 (feetGo f s.text s.at_).2
def inchM (r : Rest) : Got Nat := match dig r with
  | .bad k p => .bad k p
  | .ok i s => match s.text with
    | c :: _ => if 0 < i ∧ isDigit c = true then .ok (i * 10 + (c.toNat - 48)) (s.on 1) else .ok i s
    | [] => .ok i s
/-- a byte taken if it is there -/
def ifThere (c : UInt8) (r : Rest) : Bool × Rest := if r.text.head? = some c then (true, r.on 1) else (false, r)
def shapeM (r : Rest) : Got Written := match feetM (ifThere 45 r).2 with
  | .bad k p => .bad k p
  | .ok f r1 => match byte 45 r1 with
    | .bad k p => .bad k p
    | .ok _ r2 => match inchM r2 with
      | .bad k p => .bad k p
      | .ok i r3 => match byte 45 r3 with
        | .bad k p => .bad k p
        | .ok _ r4 => match dig r4 with
          | .bad k p => .bad k p
          | .ok e r5 => .ok ⟨(ifThere 45 r).1, f, i, e, (ifThere 43 r5).1⟩ (ifThere 43 r5).2

/-- the digits that are taken, and the number, capped -/
theorem feetGo_eq : ∀ (t : Bytes) (f p : Nat), 0 < f →
    feetGo (min f 5462) t p = (min ((t.takeWhile isDigit).foldl (fun (n : Nat) (c : UInt8) => 10 * n + (c.toNat - 48)) f) 5462, ⟨t.drop (t.takeWhile isDigit).length, p + (t.takeWhile isDigit).length⟩)
  | [], f, p, _ => by simp [feetGo]
  | c :: t, f, p, hf => by
    unfold feetGo
    by_cases hc : isDigit c = true
    · rw [if_pos ⟨by omega, hc⟩]
      have e : min (min f 5462 * 10 + (c.toNat - 48)) 5462 = min (10 * f + (c.toNat - 48)) 5462 := by omega
      rw [e, feetGo_eq t (10 * f + (c.toNat - 48)) (p + 1) (by omega)]
      simp only [List.takeWhile_cons, hc, if_true, List.foldl_cons, List.length_cons, List.drop_succ_cons]
      congr 2
      omega
    · rw [if_neg (fun z => hc z.2)]
      simp [List.takeWhile_cons, hc]
theorem feetGo_zero (t : Bytes) (p : Nat) : feetGo 0 t p = (0, ⟨t, p⟩) := by
  cases t <;> simp [feetGo]

theorem on_on (r : Rest) (a b : Nat) : (r.on a).on b = r.on (a + b) := by
  unfold Rest.on
  simp [List.drop_drop, Nat.add_assoc]
theorem on_zero (r : Rest) : r.on 0 = r := by
  unfold Rest.on
  simp

theorem isDigit_lt {c : UInt8} (h : isDigit c = true) : c.toNat - 48 ≤ 9 := by
  unfold isDigit at h
  rw [Bool.and_eq_true, decide_eq_true_eq, decide_eq_true_eq] at h
  have := UInt8.le_iff_toNat_le.mp h.2
  have e : (57 : UInt8).toNat = 57 := rfl
  omega
theorem isDigit_pos {c : UInt8} (h : isDigit c = true) (h0 : c ≠ 48) : 0 < c.toNat - 48 := by
  unfold isDigit at h
  rw [Bool.and_eq_true, decide_eq_true_eq, decide_eq_true_eq] at h
  have h1 := UInt8.le_iff_toNat_le.mp h.1
  have e : (48 : UInt8).toNat = 48 := rfl
  have : c.toNat ≠ 48 := fun q => h0 (UInt8.toNat_inj.mp (by rw [q]; rfl))
  omega
theorem dig45 : isDigit 45 = false := by decide

/-- feet and the dash behind them -/
theorem feet_dash (r : Rest) : (match feetM r with
    | .bad k p => (Got.bad k p : Got Nat)
    | .ok f s => match byte 45 s with
      | .bad k p => .bad k p
      | .ok _ s' => .ok f s') = (match digits none r with
    | .bad k p => (Got.bad k p : Got Nat)
    | .ok f s => match byte 45 s with
      | .bad k p => .bad k p
      | .ok _ s' => .ok (min f 5462) s') := by
  obtain ⟨t, p⟩ := r
  cases t with
  | nil => simp [feetM, dig, digits]
  | cons c t =>
    by_cases hc : isDigit c = true
    · have hd := isDigit_lt hc
      simp only [feetM, dig, hc, if_true]
      by_cases h0 : c = 48
      · subst h0
        simp only [show (48 : UInt8).toNat - 48 = 0 from rfl, feetGo_zero, Rest.on, List.drop_succ_cons, List.drop_zero]
        simp only [digits, List.takeWhile_cons, hc, if_true, List.head?_cons, List.length_cons]
        cases t with
        | nil => simp [byte, numberOf, Rest.on]
        | cons d t =>
          by_cases hdg : isDigit d = true
          · simp only [List.takeWhile_cons, hdg, if_true, List.length_cons]
            have hd45 : d ≠ 45 := fun q => by rw [q, dig45] at hdg; cases hdg
            simp [byte, hd45]
          · simp [List.takeWhile_cons, hdg, numberOf, Rest.on]
      · have hp := isDigit_pos hc h0
        have e1 : c.toNat - 48 = min (c.toNat - 48) 5462 := by omega
        simp only [Rest.on, List.drop_succ_cons, List.drop_zero]
        rw [e1, feetGo_eq t (c.toNat - 48) (p + 1) hp]
        simp only [digits, List.takeWhile_cons, hc, if_true, List.head?_cons, Option.some.injEq, h0, false_and, if_false, List.length_cons]
        simp only [Rest.on, List.drop_succ_cons, numberOf, List.foldl_cons, Nat.mul_zero, Nat.zero_add]
        simp [Nat.add_comm, Nat.add_left_comm]
    · simp [feetM, dig, digits, hc, List.takeWhile_cons]

/-- inches and the dash behind them -/
theorem inch_dash (r : Rest) : (match inchM r with
    | .bad k p => (Got.bad k p : Got Nat)
    | .ok f s => match byte 45 s with
      | .bad k p => .bad k p
      | .ok _ s' => .ok f s') = (match digits (some 2) r with
    | .bad k p => (Got.bad k p : Got Nat)
    | .ok f s => match byte 45 s with
      | .bad k p => .bad k p
      | .ok _ s' => .ok f s') := by
  obtain ⟨t, p⟩ := r
  cases t with
  | nil => simp [inchM, dig, digits]
  | cons c t =>
    by_cases hc : isDigit c = true
    · have hd := isDigit_lt hc
      simp only [inchM, dig, hc, if_true, Rest.on, List.drop_succ_cons, List.drop_zero]
      simp only [digits, List.takeWhile_cons, hc, if_true, List.head?_cons, List.length_cons]
      cases t with
      | nil =>
        simp [byte, numberOf, Rest.on]
      | cons d t =>
        by_cases hdg : isDigit d = true
        · have hd45 : d ≠ 45 := fun q => by rw [q, dig45] at hdg; cases hdg
          by_cases h0 : c = 48
          · subst h0
            simp [List.takeWhile_cons, hdg, byte, hd45]
          · have hp := isDigit_pos hc h0
            simp only [hdg, List.takeWhile_cons, if_true, and_true, hp, Option.some.injEq, h0, false_and, if_false, List.length_cons]
            cases t with
            | nil => simp [byte, numberOf, Rest.on]
            | cons g t =>
              by_cases hg : isDigit g = true
              · have hg45 : g ≠ 45 := fun q => by rw [q, dig45] at hg; cases hg
                simp [List.takeWhile_cons, hg, byte, hg45]
              · simp [List.takeWhile_cons, hg, byte, numberOf, Rest.on, Nat.mul_comm]
        · simp [List.takeWhile_cons, hdg, byte, numberOf, Rest.on]
    · simp [inchM, dig, digits, hc, List.takeWhile_cons]

/-! ### one thing read behind another -/
def bnd {α β : Type} (g : Got α) (f : α → Rest → Got β) : Got β := match g with
  | .bad k p => .bad k p
  | .ok v r => f v r
theorem bnd_bnd {α β γ : Type} (g : Got α) (f : α → Rest → Got β) (h : β → Rest → Got γ) : bnd (bnd g f) h = bnd g fun v r => bnd (f v r) h := by
  cases g <;> rfl
theorem bnd_ok {α β : Type} (v : α) (r : Rest) (f : α → Rest → Got β) : bnd (.ok v r) f = f v r := rfl
def endS (below : Bool) (f i : Nat) (r : Rest) : Got Written := match r.text with
  | c :: _ => if isDigit c = false then .bad 1 r.at_
    else if (r.on 1).text.head? = some 43 then .ok ⟨below, f, i, c.toNat - 48, true⟩ (r.on 2) else .ok ⟨below, f, i, c.toNat - 48, false⟩ (r.on 1)
  | [] => .bad 1 r.at_
set_option smartUnfolding false in
theorem shape_bnd (r : Rest) : shape r = bnd (bnd (digits none (if (r.text.head? == some 45) = true then r.on 1 else r)) fun f s => bnd (byte 45 s) fun _ s => .ok f s) fun f s =>
    bnd (bnd (digits (some 2) s) fun i s => bnd (byte 45 s) fun _ s => .ok i s) fun i s => endS (r.text.head? == some 45) f i s := by
  rw [bnd_bnd]
  simp only [bnd_bnd, bnd_ok]
  rfl
theorem endM_eq (below : Bool) (f i : Nat) (r4 : Rest) : (match dig r4 with
    | .bad k p => (Got.bad k p : Got Written)
    | .ok e r5 => .ok ⟨below, f, i, e, (ifThere 43 r5).1⟩ (ifThere 43 r5).2) = endS below f i r4 := by
  obtain ⟨t, p⟩ := r4
  cases t with
  | nil => rfl
  | cons c t =>
    unfold endS dig
    dsimp only
    by_cases hc : isDigit c = true
    · simp only [hc, if_true, Bool.true_eq_false, if_false]
      unfold ifThere
      by_cases h : ((⟨c :: t, p⟩ : Rest).on 1).text.head? = some 43
      · rw [if_pos h, if_pos h, on_on]
      · rw [if_neg h, if_neg h]
    · have hc' : isDigit c = false := by simpa using hc
      simp [hc']
set_option smartUnfolding false in
theorem shapeM_bnd (r : Rest) : shapeM r = bnd (bnd (feetM (if (r.text.head? == some 45) = true then r.on 1 else r)) fun f s => bnd (byte 45 s) fun _ s => .ok f s) fun f s =>
    bnd (bnd (inchM s) fun i s => bnd (byte 45 s) fun _ s => .ok i s) fun i s => endS (r.text.head? == some 45) f i s := by
  have e0 : (ifThere 45 r).2 = (if (r.text.head? == some 45) = true then r.on 1 else r) := by
    unfold ifThere
    by_cases h : r.text.head? = some 45
    · simp [h]
    · simp [h]
  have e1 : (ifThere 45 r).1 = (r.text.head? == some 45) := by
    unfold ifThere
    by_cases h : r.text.head? = some 45
    · simp [h]
    · simp [h]
  rw [bnd_bnd]
  simp only [bnd_bnd, bnd_ok]
  rw [← e0, ← e1]
  simp only [← endM_eq]
  rfl
/-- a measure's shape, as it is run: the feet capped -/
def capped (w : Written) : Written := { w with feet := min w.feet 5462 }
set_option smartUnfolding false in
theorem shapeM_eq (r : Rest) : shapeM r = bnd (shape r) fun w s => .ok (capped w) s := by
  have k1 : ∀ r, (bnd (feetM r) fun f s => bnd (byte 45 s) fun _ s => (.ok f s : Got Nat)) = bnd (bnd (digits none r) fun f s => bnd (byte 45 s) fun _ s => (.ok f s : Got Nat)) fun f s => .ok (min f 5462) s := fun r => by
    rw [bnd_bnd]
    simp only [bnd_bnd, bnd_ok]
    exact feet_dash r
  have k2 : ∀ r, (bnd (inchM r) fun f s => bnd (byte 45 s) fun _ s => (.ok f s : Got Nat)) = (bnd (digits (some 2) r) fun f s => bnd (byte 45 s) fun _ s => (.ok f s : Got Nat)) := fun r => inch_dash r
  have k3 : ∀ below f i s, endS below (min f 5462) i s = bnd (endS below f i s) fun w s => .ok (capped w) s := fun below f i s => by
    unfold endS
    split
    · split
      · rfl
      · split <;> rfl
    · rfl
  rw [shapeM_bnd, shape_bnd, k1, bnd_bnd _ (fun f s => .ok (min f 5462) s), bnd_bnd _ _ fun w s => (.ok (capped w) s : Got Written)]
  refine congrArg (bnd _) (funext fun f => funext fun s => ?_)
  rw [bnd_ok, k2, bnd_bnd _ _ fun w s => (.ok (capped w) s : Got Written)]
  exact congrArg (bnd _) (funext fun i => funext fun s => k3 _ _ _ _)

/-- a measure, as it is run -/
def measM (from0 : Bool) (r : Rest) : Got Int := bnd (shapeM r) fun w s => match s.text with
  | [] => .bad 1 s.at_
  | c :: _ => if isDigit c = true ∨ c = 43 then .bad 1 s.at_ else if 5461 < w.feet ∨ 11 < w.inches ∨ 7 < w.eighths then .bad 2 r.at_ else if MOST < w.size ∨ (w.below = true ∧ w.size = 0) then .bad 2 r.at_ else
    if from0 = true ∧ w.below = true then .bad 2 r.at_ else .ok (if w.below = true then -(w.size : Int) else (w.size : Int)) s
theorem measM_eq (from0 : Bool) (r : Rest) : measM from0 r = Loft.measure from0 none r := by
  unfold measM Loft.measure
  rw [shapeM_eq, bnd_bnd]
  cases shape r with
  | bad k p => rfl
  | ok w s =>
    dsimp only [bnd]
    cases s.text with
    | nil => rfl
    | cons c t =>
      dsimp only
      by_cases h1 : isDigit c = true ∨ c = 43
      · rw [if_pos h1, if_pos h1]
      · rw [if_neg h1, if_neg h1]
        have ef : (capped w).feet = min w.feet 5462 := rfl
        have ei : (capped w).inches = w.inches := rfl
        have ee : (capped w).eighths = w.eighths := rfl
        have eb : (capped w).below = w.below := rfl
        rw [ef, ei, ee, eb]
        unfold Written.worth
        by_cases h2 : 5461 < w.feet ∨ 11 < w.inches ∨ 7 < w.eighths
        · rw [if_pos (by omega), if_pos (by rcases h2 with h | h | h <;> simp [h])]
        · have es : capped w = w := by
            obtain ⟨b, f, i, e, pl⟩ := w
            simp only [capped, Written.mk.injEq, true_and, and_true]
            simp only at h2
            omega
          rw [if_neg (by omega), es]
          by_cases h3 : MOST < w.size ∨ (w.below = true ∧ w.size = 0)
          · rw [if_pos h3, if_pos (.inr (.inr (.inr h3)))]
          · have h4 : ¬ (5461 < w.feet ∨ 11 < w.inches ∨ 7 < w.eighths ∨ MOST < w.size ∨ (w.below = true ∧ w.size = 0)) := by
              rintro (z | z | z | z)
              · exact h2 (.inl z)
              · exact h2 (.inr (.inl z))
              · exact h2 (.inr (.inr z))
              · exact h3 z
            rw [if_neg h3, if_neg h4]
            cases hb : w.below with
            | true =>
              have hs : w.size ≠ 0 := fun z => h3 (.inr ⟨hb, z⟩)
              cases from0 with
              | true => simp <;> omega
              | false => simp
            | false =>
              cases from0 with
              | true => simp <;> omega
              | false => simp
/-- with the one before it -/
theorem measure_above (from0 : Bool) (y : Int) (r : Rest) : Loft.measure from0 (some y) r = bnd (Loft.measure from0 none r) fun z s => if z ≤ y then .bad 3 r.at_ else .ok z s := by
  unfold Loft.measure
  cases shape r with
  | bad k p => rfl
  | ok w s =>
    dsimp only
    cases s.text with
    | nil => rfl
    | cons c t =>
      dsimp only
      split
      · rfl
      · cases w.worth with
        | none => rfl
        | some z =>
          dsimp only
          split <;> rfl
end Off

end
section
set_option Elab.async false
set_option linter.all false
namespace Off
open Loft

/-! ### a measure's writing alone: byte 10 put behind it -/
structure Ext (r r' : Rest) : Prop where
  t : r'.text = r.text ++ [10]
  a : r'.at_ = r.at_
theorem Ext.on {r r' : Rest} (e : Ext r r') {n : Nat} (h : n ≤ r.text.length) : Ext (r.on n) (r'.on n) :=
  ⟨by show r'.text.drop n = r.text.drop n ++ [10]; rw [e.t, List.drop_append_of_le_length h], by show r'.at_ + n = r.at_ + n; rw [e.a]⟩
def GExt {α : Type} (g g' : Got α) : Prop := match g with
  | .ok v s => ∃ s', g' = .ok v s' ∧ Ext s s'
  | .bad _ _ => ∃ k p, g' = .bad k p
theorem GExt.bnd {α β : Type} {g g' : Got α} {f f' : α → Rest → Got β} (h : GExt g g') (hf : ∀ v s s', Ext s s' → GExt (f v s) (f' v s')) : GExt (Off.bnd g f) (Off.bnd g' f') := by
  cases g with
  | ok v s => obtain ⟨s', rfl, e⟩ := h; exact hf v s s' e
  | bad k p => obtain ⟨k', p', rfl⟩ := h; exact ⟨k', p', rfl⟩
theorem ext_head {r r' : Rest} (e : Ext r r') {c : UInt8} (hc : ¬ (10 : UInt8) = c) : r'.text.head? = some c ↔ r.text.head? = some c := by
  rw [e.t]
  cases r.text with
  | nil =>
    constructor
    · intro z; injection z with z; exact absurd z hc
    · intro z; cases z
  | cons d t => exact Iff.rfl
theorem head_len {r : Rest} {c : UInt8} (h : r.text.head? = some c) : 1 ≤ r.text.length := by
  cases q : r.text with
  | nil => rw [q] at h; cases h
  | cons d t => rw [List.length_cons]; omega
theorem ext_byte {r r' : Rest} (e : Ext r r') : GExt (byte 45 r) (byte 45 r') := by
  unfold byte
  by_cases h : r.text.head? = some 45
  · rw [if_pos h, if_pos ((ext_head e (by decide)).mpr h)]
    exact ⟨_, rfl, e.on (head_len h)⟩
  · rw [if_neg h, if_neg (fun z => h ((ext_head e (by decide)).mp z))]
    exact ⟨_, _, rfl⟩
theorem tw_ext : ∀ t : Bytes, (t ++ [10]).takeWhile isDigit = t.takeWhile isDigit
  | [] => by decide
  | c :: t => by rw [List.cons_append, List.takeWhile_cons, List.takeWhile_cons, tw_ext t]
theorem tw_len : ∀ t : Bytes, (t.takeWhile isDigit).length ≤ t.length
  | [] => Nat.le_refl _
  | c :: t => by
    rw [List.takeWhile_cons, List.length_cons]
    have := tw_len t
    split
    · rw [List.length_cons]; omega
    · exact Nat.zero_le _
theorem ext_digits {r r' : Rest} (most : Option Nat) (e : Ext r r') : GExt (digits most r) (digits most r') := by
  unfold digits
  rw [e.t, tw_ext]
  have hl := tw_len r.text
  generalize r.text.takeWhile isDigit = d at hl
  dsimp only
  by_cases h1 : d = []
  · rw [if_pos h1, if_pos h1]; exact ⟨_, _, rfl⟩
  · rw [if_neg h1, if_neg h1]
    by_cases h2 : d.head? = some 48 ∧ 1 < d.length
    · rw [if_pos h2, if_pos h2]; exact ⟨_, _, rfl⟩
    · rw [if_neg h2, if_neg h2]
      cases most with
      | none => exact ⟨_, rfl, e.on hl⟩
      | some k =>
        dsimp only
        by_cases h3 : k < d.length
        · rw [if_pos h3, if_pos h3]; exact ⟨_, _, rfl⟩
        · rw [if_neg h3, if_neg h3]; exact ⟨_, rfl, e.on hl⟩
theorem ext_end {r r' : Rest} (b : Bool) (f i : Nat) (e : Ext r r') : GExt (endS b f i r) (endS b f i r') := by
  have e1 : ∀ c t, r.text = c :: t → Ext (r.on 1) (r'.on 1) := fun c t q => e.on (by rw [q, List.length_cons]; omega)
  unfold endS
  cases q : r.text with
  | nil =>
    have q' : r'.text = [10] := by rw [e.t, q]; rfl
    rw [q']
    dsimp only
    rw [if_pos (show isDigit 10 = false by decide)]
    exact ⟨_, _, rfl⟩
  | cons c t =>
    have q' : r'.text = c :: (t ++ [10]) := by rw [e.t, q]; rfl
    rw [q']
    dsimp only
    by_cases h1 : isDigit c = false
    · rw [if_pos h1, if_pos h1]; exact ⟨_, _, rfl⟩
    · rw [if_neg h1, if_neg h1]
      have e2 := e1 c t q
      by_cases h2 : (r.on 1).text.head? = some 43
      · rw [if_pos h2, if_pos ((ext_head e2 (by decide)).mpr h2)]
        refine ⟨_, rfl, e.on ?_⟩
        have h3 := head_len h2
        have h4 : (r.on 1).text = t := by show r.text.drop 1 = t; rw [q]; rfl
        rw [h4] at h3
        rw [q, List.length_cons]
        omega
      · rw [if_neg h2, if_neg (fun z => h2 ((ext_head e2 (by decide)).mp z))]
        exact ⟨_, rfl, e2⟩
theorem ext_shape {r r' : Rest} (e : Ext r r') : GExt (shape r) (shape r') := by
  rw [shape_bnd, shape_bnd]
  have h45 : (r'.text.head? == some 45) = (r.text.head? == some 45) := by
    rw [Bool.eq_iff_iff, beq_iff_eq, beq_iff_eq]
    exact ext_head e (by decide)
  rw [h45]
  refine GExt.bnd (GExt.bnd (ext_digits none ?_) fun f s s' e => GExt.bnd (ext_byte e) fun _ s s' e => ⟨_, rfl, e⟩) fun f s s' e =>
    GExt.bnd (GExt.bnd (ext_digits _ e) fun i s s' e => GExt.bnd (ext_byte e) fun _ s s' e => ⟨_, rfl, e⟩) fun i s s' e => ext_end _ _ _ e
  by_cases h : r.text.head? = some 45
  · rw [if_pos (beq_iff_eq.mpr h), if_pos (beq_iff_eq.mpr h)]
    exact e.on (head_len h)
  · rw [if_neg (fun z => h (beq_iff_eq.mp z)), if_neg (fun z => h (beq_iff_eq.mp z))]
    exact e
/-- what is read of the writing with byte 10 behind it -/
theorem value_of {t : Bytes} {z : Int} {s : Rest} (g : Loft.measure false none ⟨t ++ [10], 0⟩ = .ok z s) (hs : s.text = (t ++ [10]).drop s.at_) : readMeasure t = if s.at_ < t.length then none else some z := by
  have E := ext_shape (r := ⟨t, 0⟩) (r' := ⟨t ++ [10], 0⟩) ⟨rfl, rfl⟩
  unfold Loft.measure at g
  unfold readMeasure
  cases q : shape ⟨t, 0⟩ with
  | bad k p =>
    rw [q] at E
    obtain ⟨k', p', E⟩ := E
    rw [E] at g
    cases g
  | ok w s0 =>
    rw [q] at E
    obtain ⟨s', E, e⟩ := E
    rw [E] at g
    dsimp only at g ⊢
    have len : s'.text = s.text → s'.at_ = s.at_ → s0.text.length + 1 = t.length + 1 - s0.at_ := fun h1 h2 => by
      have h3 := congrArg List.length (e.t.symm.trans (h1.trans hs))
      rw [List.length_append, List.length_drop, List.length_append, ← h2, e.a] at h3
      exact h3
    have t' := e.t
    cases q0 : s0.text with
    | nil =>
      rw [q0, List.nil_append] at t'
      rw [t'] at g
      dsimp only at g
      rw [if_neg (show ¬ (isDigit 10 = true ∨ (10 : UInt8) = 43) by decide)] at g
      rw [if_pos rfl]
      cases qw : w.worth with
      | none => rw [qw] at g; cases g
      | some z' =>
        rw [qw] at g
        dsimp only at g
        rw [if_neg (fun z => Bool.noConfusion z.1)] at g
        cases g
        have := len rfl rfl
        rw [q0, List.length_nil] at this
        rw [if_neg (by rw [e.a]; omega)]
    | cons c r =>
      rw [q0, List.cons_append] at t'
      rw [t'] at g
      dsimp only at g
      rw [if_neg (fun z => nomatch z)]
      by_cases h : isDigit c = true ∨ c = 43
      · rw [if_pos h] at g; cases g
      · rw [if_neg h] at g
        cases qw : w.worth with
        | none => rw [qw] at g; cases g
        | some z' =>
          rw [qw] at g
          dsimp only at g
          rw [if_neg (fun z => Bool.noConfusion z.1)] at g
          cases g
          have := len rfl rfl
          rw [q0, List.length_cons] at this
          rw [if_pos (by rw [e.a]; omega)]
theorem value_bad {t : Bytes} {k p : Nat} (g : Loft.measure false none ⟨t ++ [10], 0⟩ = .bad k p) : readMeasure t = none := by
  have E := ext_shape (r := ⟨t, 0⟩) (r' := ⟨t ++ [10], 0⟩) ⟨rfl, rfl⟩
  unfold Loft.measure at g
  unfold readMeasure
  cases q : shape ⟨t, 0⟩ with
  | bad k p => rfl
  | ok w s0 =>
    rw [q] at E
    obtain ⟨s', E, e⟩ := E
    rw [E] at g
    dsimp only at g ⊢
    have t' := e.t
    cases q0 : s0.text with
    | nil =>
      rw [q0, List.nil_append] at t'
      rw [t'] at g
      dsimp only at g
      rw [if_neg (show ¬ (isDigit 10 = true ∨ (10 : UInt8) = 43) by decide)] at g
      rw [if_pos rfl]
      cases qw : w.worth with
      | none => rfl
      | some z' =>
        rw [qw] at g
        dsimp only at g
        rw [if_neg (fun z => Bool.noConfusion z.1)] at g
        cases g
    | cons c r => rw [if_neg (fun z => nomatch z)]
end Off

end
section
set_option Elab.async false
set_option linter.all false
set_option maxRecDepth 100000
set_option maxHeartbeats 4000000
namespace XL
open PySem

/-! ### an exception that is noted in a frame -/
structure Noted (fs : List Addr) (e : Addr) (oe : Obj) (fl : Value) (h h' : Heap) : Prop where
  keep : ∀ b o, b ≠ e → b ∉ fs → h.get? b = some o → h'.get? b = some o
  slot : ∀ b o, b ≠ e → h.get? b = some o → ∃ sl, h'.get? b = some { o with slots := sl }
  at_ : ∃ T oT ts, h.objs.size ≤ T ∧ h'.get? e = some (oe.mapFields (·.setIfInBounds 1 (.ref T))) ∧ h'.get? T = some oT ∧ oT.data = .fields ts ∧ ts[3]? = some fl

section
variable {M : Model} {A : Around} {E : Value → Shared → Prop} {s : Shared} {base : Heap} {env : Env} {outer : List Env} {L e : Addr} {oe : Obj} {vs : Array Value} {head : Value} {hadNext : Bool} {Q : Unit → Shared → Prop}

theorem frames_not (hl : s.heap.FunFrames base (env :: outer)) (he : s.heap.get? e = some oe) (hd : oe.data = .fields vs) : e ∉ (env :: outer).filterMap (·.frame) := by
  intro m
  obtain ⟨-, o, ho, no⟩ := hl.mem m
  obtain rfl : oe = o := Option.some.inj (he.symm.trans ho)
  exact no vs hd

theorem tail_wp (hfr : A.frames = some (env :: outer)) (hl : s.heap.FunFrames base (env :: outer)) (hf : env.frame = some L) (he : s.heap.get? e = some oe) (hd : oe.data = .fields vs) (hz : 1 < vs.size)
    (h : ∀ h', Noted ((env :: outer).filterMap (·.frame)) e oe (rawInt L) s.heap h' → Q () { s with heap := h' }) :
    wpAny M A (do setField (.ref e) 1 (← EntryCells.newEntry head (← frameOf env) .none (rawInt L) .none (← entryPlaceOf L hadNext))) Q E s := by
  have en := frames_not hl he hd
  refine wpAny_bind (wpAny_frameOf_fun hfr hl hf fun h1 so => wpAny_bind (wpAny_entryPlaceOf fun pl isp => ?_))
  have e1 : h1.get? e = some oe := by rw [so.2.1 e en]; exact he
  unfold EntryCells.newEntry newFields
  refine wpAny_bind (wpAny_newObj_type ?_ (isp.sizeOk5 _ _ _ _ _))
  generalize hob : ({ cls := .type "traceback", dict := none, data := .fields ([head, .ref L, .none, rawInt L, .none] ++ (if pl.isEmpty then List.replicate 6 Value.none else pl)).toArray } : Obj) = ob
  have hobd : ∃ ts : Array Value, ob.data = .fields ts ∧ ts[3]? = some (rawInt L) := ⟨_, by rw [← hob], by simp⟩
  have hobf : ob.isFreed = false := by rw [← hob]; rfl
  have e2 : (h1.push ob).get? e = some oe := Heap.get?_push_of_some ob e1
  have ne : e ≠ h1.objs.size := Nat.ne_of_lt (Heap.lt_size e1)
  refine wpAny_setField e2 hd hz (h _ ⟨fun b o hb hm hq => ?_, fun b o hb hq => ?_, h1.objs.size, ob, ?_⟩)
  · rw [Heap.get?_update_other _ _ (Ne.symm hb)]
    exact Heap.get?_push_of_some ob (by rw [so.2.1 b hm]; exact hq)
  · obtain ⟨sl, q⟩ := so.2.2 b o hq
    exact ⟨sl, by rw [Heap.get?_update_other _ _ (Ne.symm hb)]; exact Heap.get?_push_of_some ob q⟩
  · obtain ⟨ts, d1, d2⟩ := hobd
    refine ⟨ts, by rw [so.1]; exact Nat.le_refl _, Heap.get?_update_self _ e2 (Obj.isFreed_of_fields (Obj.data_mapFields hd _)), ?_, d1, d2⟩
    rw [Heap.get?_update_other _ _ ne]
    exact Heap.get?_push_size h1 hobf

/-- noted for the first time, or anew in another frame -/
theorem note_wp (hfr : A.frames = some (env :: outer)) (hl : s.heap.FunFrames base (env :: outer)) (hf : env.frame = some L) (he : s.heap.get? e = some oe) (hd : oe.data = .fields vs)
    (hh : vs[1]? = some .none ∨ ∃ T oT ts, vs[1]? = some (.ref T) ∧ s.heap.get? T = some oT ∧ oT.data = .fields ts ∧ ts[3]? = some .none)
    (h : ∀ h', Noted ((env :: outer).filterMap (·.frame)) e oe (rawInt L) s.heap h' → Q () { s with heap := h' }) : wpAny M A (noteFrame (.ref e) env) Q E s := by
  unfold noteFrame
  simp only [hf]
  rcases hh with h1 | ⟨T, oT, ts, h1, hT, hdT, h3⟩
  · refine wpAny_bind (wpAny_field he hd h1 ?_)
    rw [if_neg (by decide)]
    exact tail_wp hfr hl hf he hd (Array.getElem?_eq_some_iff.mp h1).1 h
  · refine wpAny_bind (wpAny_field he hd h1 ?_)
    have t1 : (Value.ref T != Value.none) = true := rfl
    rw [if_pos t1]
    refine wpAny_bind (wpAny_field hT hdT h3 ?_)
    have t2 : (Value.none == rawInt L) = false := rfl
    rw [t2, if_neg Bool.false_ne_true]
    refine wpAny_bind (wpAny_setField hT hdT (Array.getElem?_eq_some_iff.mp h3).1 ?_)
    rw [Heap.update_setField_same s.heap T oT ts 3 .none hT hdT h3]
    exact tail_wp hfr hl hf he hd (Array.getElem?_eq_some_iff.mp h1).1 h
end

/-! ### made by an own class with an own __init__ -/
abbrev bmE : List Value := [.type "Exception", .type "BaseException", .type "object"]
abbrev excObj (C t : Addr) : Obj := { cls := .ref C, data := .fields #[.ref t, .none, .none, .none, .bool false, .none] }
abbrev argTup (rest : List Value) : Obj := { cls := .type "tuple", data := .seq rest.toArray }
/-- what __init__ gives back -/
def Back (x : Addr) (R : Result → Shared → Prop) (r : Result) (s' : Shared) : Prop := match r with
  | .ok (.ret v) => v = .none ∧ R (.ok (.ret (.ref x))) s'
  | .ok _ => False
  | .error e => R (.error e) s'

section
variable {prog : Program} {w : World} {A : Around} {E : Value → Shared → Prop} {R : Result → Shared → Prop} {h : Heap} {g : Array GenState} {d : Drawn} {t : Nat} {os : OsState}
variable {nm q : Str} {C N f : Addr} {bs : List Value} {sn : List Str} {sub : List Value} {ab : Bool} {col : Option Bool} {dd : Option Addr} {k0 k1 k2 k3 k5 : Option Value} {mN : Str → Option Value} {of : Obj}

theorem fn_lookup (self : Value) {s : Shared} {M : Model} {Q : Value × List Value → Shared → Prop} (hf : s.heap.get? f = some of) (hc : of.cls = .type "function") (hq : Q (.ref f, [self]) s) :
    wpAny M A (bindSpecial (.ref f) self) Q E s := by
  have T : s.TypeIs (.ref f) "function" := ⟨_, hf, hc⟩
  unfold bindSpecial
  refine wpAny_bind (wpAny_typeOf T ?_)
  refine wpAny_of_eq (a := (.ref f, [self])) (by kernel_rfl) hq

theorem xmake {rest : List Value} (hC : h.get? C = some (excClassObj nm q C N bs bmE true sn sub ab col dd k0 k1 k2 k3 k5 "Exception.__new__")) (hN : h.Ns N mN) (hi : mN "__init__" = some (.ref f))
    (hf : h.get? f = some of) (hfc : of.cls = .type "function") (hz : rest.length ≤ sizeLine)
    (hq : codeAny (model prog w) (A.under (.builtin "type.__call__" ⟨.ref C :: rest, []⟩)) (.call (.ref f) ⟨.ref (h.objs.size + 1) :: rest, []⟩) (Back (h.objs.size + 1) R)
      ⟨(h.push (argTup rest)).push (excObj C h.objs.size), g, d, t, os⟩) :
    codeAny (model prog w) A (.call (.ref C) ⟨rest, []⟩) R ⟨h, g, d, t, os⟩ := by
  have F := PySem.F.excBase_Exception
  have f1 := tc_lookup
  have f2 := tc_bind (.ref C)
  have hT : (⟨h, g, d, t, os⟩ : Shared).TypeIs (.ref C) "type" := ⟨_, hC, rfl⟩
  refine codeAny_of_tree ?_
  show wpAny _ _ (callAny (.ref C) _) _ _ _
  repeat (any_goals (first | assumption | with_reducible refine wpAny_loadPart_at hC ?_ | wp_step))
  refine ⟨rfl, ?_⟩
  refine codeAny_call_builtin_at (Code.quiet_builtin _ (by decide +kernel)) entry_typeCall (wpAny_check_type_call_sub hC ?_)
  repeat (first | with_reducible refine wpAny_loadPart_at hC ?_ | with_reducible refine wpAny_madeBy_exc hC ?_ | wp_step)
  refine codeAny_call_builtin_code (Code.quiet_builtin _ F.quiet) (wpAny_check_new_sub F hC ?_)
  refine codeAny_exc_new_sub F hC ?_ hz
  show wpAny _ _ _ _ _ _
  have kp : ∀ b o, h.get? b = some o → ((h.push (argTup rest)).push (excObj C h.objs.size)).get? b = some o := fun b o z => Heap.get?_push_of_some _ (Heap.get?_push_of_some _ z)
  have hC1 := kp _ _ hC
  have hf1 := kp _ _ hf
  have hN1 : ((h.push (argTup rest)).push (excObj C h.objs.size)).Ns N mN := let ⟨o, es, ep, z, r⟩ := hN; ⟨o, es, ep, kp _ _ z, r⟩
  have hx : ((h.push (argTup rest)).push (excObj C h.objs.size)).get? (h.objs.size + 1) = some { cls := .ref C, data := .fields #[.ref h.objs.size, .none, .none, .none, .bool false, .none] } := by heap_get
  have hcC : (Value.ref C :: bmE).contains (.ref C) = true := by simp
  unfold isInstance
  repeat (first | with_reducible refine wpAny_loadPart_at hx ?_ | wp_step)
  refine wpAny_isSubtype_exc hC1 ?_
  rw [hcC]
  repeat (first | with_reducible refine wpAny_loadPart_at hx ?_ | wp_step)
  show wpAny _ _ (typeLookup (.ref C) _) _ _ _
  refine wpAny_typeLookup_exc hC1 hN1 F.mroIs F.init.lookup ?_
  rw [hi]
  refine wpAny_holding (wpAny_bind (fn_lookup _ hf1 hfc ?_))
  refine wpAny_bind (wpAny_call (codeAny_mono hq fun r s' z => ?_))
  cases r with
  | error x => exact z
  | ok fl =>
    cases fl with
    | ret v =>
      obtain ⟨rfl, z⟩ := z
      exact wpAny_pure (wpAny_pure z)
    | next => exact z.elim
    | brk => exact z.elim
    | cont => exact z.elim
end

/-! ### an attribute stored, an attribute read -/
section
variable {prog : Program} {w : World} {A : Around} {E : Value → Shared → Prop} {s : Shared}
variable {nm q : Str} {C N x dx : Addr} {bs : List Value} {sn : List Str} {sub : List Value} {ab : Bool} {col : Option Bool} {dd : Option Addr} {k0 k1 k2 k3 k5 : Option Value} {mN mA : Str → Option Value} {o od : Obj} {name : Str} {u : Value} {vs : Array Value} {osl : Array (Option Value)}

/-- e.name for an exception of an own class, read from its own dict -/
theorem xget {expr : Bool} {Q : Value → Shared → Prop} (hC : s.heap.get? C = some (excClassObj nm q C N bs bmE true sn sub ab col dd k0 k1 k2 k3 k5 "Exception.__new__")) (hN : s.heap.Ns N mN)
    (h1 : mN "__getattribute__" = none) (h2 : mN "__getattr__" = none) (h3 : mN name = none) (hB : typeLookup (.type "Exception") name = pure none)
    (hx : s.heap.get? x = some o) (hc : o.cls = .ref C) (hd : o.data = .fields vs) (hdx : o.dict = some dx) (hn : s.heap.Ns dx mA) (hv : mA name = some u) (hu : handedOut u = pure u)
    (hq : Q u { s with toks := s.toks + 1 }) : wpAny (model prog w) A (getAttr (.ref x) name expr) Q E s := by
  obtain ⟨h, g, d, t, os⟩ := s
  have FB := PySem.F.attrBase_Exception
  have f3 := FB.ga.bind (.ref x)
  have e0 : (expr && onTheHeap (Value.builtin "BaseException.__getattribute__")) = false := by cases expr <;> rfl
  have e2 : (Value.builtin "BaseException.__getattribute__" == Value.builtin "object.__getattribute__") = false := by decide +kernel
  have e1 : (onTheHeap (Value.ref C) && Value.builtin "BaseException.__getattribute__" == Value.builtin "object.__getattribute__") = false := by rw [e2]; rfl
  have g1 : ∀ {A' : Around} {tk : Nat} {Q' : Option Value → Shared → Prop} {E' : Value → Shared → Prop}, Q' (some (.builtin "BaseException.__getattribute__")) ⟨h, g, d, tk, os⟩ → wpAny (model prog w) A' (typeLookup (.ref C) "__getattribute__") Q' E' ⟨h, g, d, tk, os⟩ :=
    fun z => wpAny_typeLookup_exc hC hN FB.mro FB.ga.lookup (by rw [h1]; exact z)
  have g2 : ∀ {A' : Around} {tk : Nat} {Q' : Option Value → Shared → Prop} {E' : Value → Shared → Prop}, Q' none ⟨h, g, d, tk, os⟩ → wpAny (model prog w) A' (typeLookup (.ref C) "__getattr__") Q' E' ⟨h, g, d, tk, os⟩ :=
    fun z => wpAny_typeLookup_exc hC hN FB.mro FB.noGetattr (by rw [h2]; exact z)
  have g3 : ∀ {A' : Around} {tk : Nat} {Q' : Option Value → Shared → Prop} {E' : Value → Shared → Prop}, Q' none ⟨h, g, d, tk, os⟩ → wpAny (model prog w) A' (typeLookup (.ref C) name) Q' E' ⟨h, g, d, tk, os⟩ :=
    fun z => wpAny_typeLookup_exc hC hN FB.mro hB (by rw [h3]; exact z)
  unfold getAttr getAttrBy
  refine wpAny_bind (wpAny_mkText (wpAny_holding ?_))
  repeat (any_goals (first | assumption | (with_reducible refine wpAny_loadPart_at hx ?_; rw [hc]) | with_reducible refine g1 ?_ | with_reducible refine g2 ?_ | wp_step))
  refine codeAny_call_builtin FB.ga.plain PySem.F.entry_bexc_ga (wpAny_check_ga_own FB hC .base hx hc ?_)
  obtain ⟨oc, odi, oda, osl⟩ := o
  obtain rfl : oc = .ref C := hc
  obtain rfl : odi = some dx := hdx
  obtain rfl : oda = .fields vs := hd
  have hx : h.get? x = some ⟨.ref C, some dx, .fields vs, osl⟩ := hx
  have hC : h.get? C = some (excClassObj nm q C N bs bmE true sn sub ab col dd k0 k1 k2 k3 k5 "Exception.__new__") := hC
  unfold Builtin.«object.__getattribute__»
  have hn : h.Ns dx mA := hn
  have g4 : ∀ {A' : Around} {tk : Nat} {Q' : Option Value → Shared → Prop} {E' : Value → Shared → Prop}, Q' (some u) ⟨h, g, d, tk, os⟩ → wpAny (model prog w) A' (nsGet dx name) Q' E' ⟨h, g, d, tk, os⟩ :=
    fun z => wpAny_nsGet hn (by rw [hv]; exact z)
  repeat (any_goals (first | assumption | with_reducible refine g4 ?_ | with_reducible refine wpAny_loadPart_at hx ?_ | with_reducible refine g3 ?_ | wp_step))

end
end XL

end
section
set_option Elab.async false
set_option linter.all false
set_option maxRecDepth 100000
set_option maxHeartbeats 4000000
namespace XL
open PySem
section
variable {prog : Program} {w : World} {A : Around} {E : Value → Shared → Prop} {s : Shared}
variable {nm q : Str} {C N x dx : Addr} {bs : List Value} {sn : List Str} {sub : List Value} {ab : Bool} {col : Option Bool} {dd : Option Addr} {k0 k1 k2 k3 k5 : Option Value} {mN mA : Str → Option Value} {o od : Obj} {name : Str} {u : Value} {vs : Array Value} {osl : Array (Option Value)}
/-- the last step of a store -/
theorem xstore {M : Model} {n : Addr} {tk : Tok} {ns : List Str} {Q : Fin → Shared → Prop} (hn : s.heap.Ns1 n mA) (hw : Within mA ns) (hz : ns.length < sizeLine)
    (hq : ∀ h' t, h'.Ns1 n (fun y => if y = name then some u else mA y) → Heap.SameBut n s.heap h' → Q (.done (.ret .none)) { s with heap := h', toks := t }) :
    wpAny M A (Builtin.ObjectAttr.storeInDict n (.str name tk) name u) Q E s := by
  unfold Builtin.ObjectAttr.storeInDict Builtin.ObjectAttr.newKeyGuard
  refine wpAny_bind (wpAny_pure (wpAny_bind (wpAny_nsSet1 hn fun h' hn' hs => ?_)))
  obtain ⟨oD, es, ep, g1, g2, g3⟩ := hn'.count (Within.cons name u hw)
  refine wpAny_bind (wpAny_lookBehind g1 (by rw [g2]; exact pastItsLine_dict (Nat.le_trans g3 (by rw [List.length_cons]; omega))) ?_)
  exact wpAny_pure (hq h' _ hn' hs)

theorem osa_call {B sa owner : String} {bm : List Value} {R : Result → Shared → Prop} {h : Heap} {g : Array GenState} {d : Drawn} {t : Nat} {os : OsState} {tk : Tok} {newId : String} (SF : StoreFacts B bm sa owner) (hC : h.get? C = some (excClassObj nm q C N bs bm true sn sub ab col dd k0 k1 k2 k3 k5 newId))
    (hx : h.get? x = some o) (hc : o.cls = .ref C)
    (hq : wpAny (model prog w) A.in1 (Builtin.«object.__setattr__» ⟨[.ref x, .str name tk, u], []⟩)
      (fun fin s' => match fin with | .done f => R (.ok f) s' | .again c' => c'.quiet = true ∧ codeAny (model prog w) A c' R s') (fun e s' => R (.error e) s') ⟨h, g, d, t, os⟩) :
    codeAny (model prog w) A (.call (.builtin sa) ⟨[.ref x, .str name tk, u], []⟩) R ⟨h, g, d, t, os⟩ :=
  codeAny_call_builtin SF.slot.plain SF.entry (wpAny_check_sa SF hC hx hc hq)

/-- e.name = u, the first attribute: its dict is made at the heap's end -/
theorem xset0 {Q : Unit → Shared → Prop} (hC : s.heap.get? C = some (excClassObj nm q C N bs bmE true sn sub ab col dd k0 k1 k2 k3 k5 "Exception.__new__")) (hN : s.heap.Ns N mN)
    (h1 : mN "__setattr__" = none) (h3 : mN name = none) (hB : typeLookup (.type "Exception") name = pure none) (hx : s.heap.get? x = some ⟨.ref C, none, .fields vs, osl⟩)
    (hq : ∀ h' tk, h'.get? x = some ⟨.ref C, some s.heap.objs.size, .fields vs, osl⟩ → h'.Ns1 s.heap.objs.size (fun y => if y = name then some u else none) → (∀ b ob, b ≠ x → s.heap.get? b = some ob → h'.get? b = some ob) →
      Q () { s with heap := h', toks := tk }) : wpAny (model prog w) A (setAttr (.ref x) name u) Q E s := by
  obtain ⟨h, g, d, t, os⟩ := s
  have SF := PySem.F.store_Exception
  have hC : h.get? C = some (excClassObj nm q C N bs bmE true sn sub ab col dd k0 k1 k2 k3 k5 "Exception.__new__") := hC
  have hx : h.get? x = some ⟨.ref C, none, .fields vs, osl⟩ := hx
  have f3 := SF.slot.bind (.ref x)
  have pass := SF.passes (.ref x)
  have g1 : ∀ {A' : Around} {tk : Nat} {Q' : Option Value → Shared → Prop} {E' : Value → Shared → Prop}, Q' (some (.builtin "object.__setattr__")) ⟨h, g, d, tk, os⟩ → wpAny (model prog w) A' (typeLookup (.ref C) "__setattr__") Q' E' ⟨h, g, d, tk, os⟩ :=
    fun z => wpAny_typeLookup_exc hC hN SF.mro SF.slot.lookup (by rw [h1]; exact z)
  have g3 : ∀ {A' : Around} {tk : Nat} {Q' : Option Value → Shared → Prop} {E' : Value → Shared → Prop}, Q' none ⟨h, g, d, tk, os⟩ → wpAny (model prog w) A' (typeLookup (.ref C) name) Q' E' ⟨h, g, d, tk, os⟩ :=
    fun z => wpAny_typeLookup_exc hC hN SF.mro hB (by rw [h3]; exact z)
  unfold setAttr callSpecial? specialOf
  repeat (any_goals (first | assumption | with_reducible refine g1 ?_ | with_reducible refine wpAny_loadPart_at hx ?_ | wp_step))
  have hxs : x ≠ h.objs.size := Nat.ne_of_lt (Heap.lt_size hx)
  have hx2 : (h.push { cls := .type "dict", data := .dict #[] }).get? x = some ⟨.ref C, none, .fields vs, osl⟩ := Heap.get?_push_of_some _ hx
  have hgd : ((h.push { cls := .type "dict", data := .dict #[] }).update x fun o => { o with dict := some h.objs.size }).get? h.objs.size = some { cls := .type "dict", data := .dict #[] } := by
    rw [Heap.get?_update_ne _ _ _ _ hxs.symm]
    exact Heap.get?_push_at rfl rfl
  have hx3 : ((h.push { cls := .type "dict", data := .dict #[] }).update x fun o => { o with dict := some h.objs.size }).get? x = some ⟨.ref C, some h.objs.size, .fields vs, osl⟩ := Heap.get?_update_self _ hx2 rfl
  have hnd : ((h.push { cls := .type "dict", data := .dict #[] }).update x fun o => { o with dict := some h.objs.size }).Ns1 h.objs.size (fun _ => none) :=
    Heap.Ns1.of_empty ⟨_, #[], _, hgd, rfl, fun e he => absurd he (by simp), fun _ => rfl⟩
  have hc : (⟨.ref C, none, .fields vs, osl⟩ : Obj).cls = .ref C := rfl
  refine osa_call SF hC hx hc ?_
  show wpAny _ _ (Builtin.«object.__setattr__» ⟨[.ref x, .str name t, u], []⟩) _ _ _
  rw [PySem.W.osa_eq, refuse_eq]
  have L0 : PySem.W.Looks (model prog w) h (typeOf (.ref x)) (.ref C) := (PySem.W.Looks.ld hx).andThen .now
  refine wpAny_bind (wpAny_bind (L0.at (wpAny_bind (wpAny_mroOf_exc hC ?_))))
  rw [refuseLoop_ref, pass]
  refine wpAny_pure (wpAny_bind (L0.at (wpAny_bind (g3 (wpAny_bind (wpAny_pure ?_))))))
  show wpAny _ _ (Builtin.ObjectAttr.storeInOwnDict (.ref x) (.ref C) _ name u _) _ _ _
  have L1 : PySem.W.Looks (model prog w) h (classData C) _ := (PySem.W.Looks.ld (part := none) hC).andThen .now
  refine wpAny_bind (wpAny_pure (wpAny_bind (wpAny_bind (wpAny_loadPart hx (wpAny_bind (L1.at ?_))))))
  show wpAny _ _ (do
    let d ← alloc { cls := .type "dict", data := .dict #[] }
    update x fun o => { o with dict := some d }
    pure (some d)) _ _ _
  refine wpAny_bind (wpAny_alloc (wpAny_bind (wpAny_update hx2 (wpAny_pure ?_))))
  refine xstore hnd Within.nil (by decide) fun h' t' n' sb => ?_
  refine wpAny_pure (wpAny_pure (hq h' t' ?_ n' fun b ob hb hq => ?_))
  · rw [sb.2 x hxs]
    exact hx3
  · rw [sb.2 b (Nat.ne_of_lt (Heap.lt_size hq)), Heap.get?_update_ne _ _ _ _ hb]
    exact Heap.get?_push_of_some _ hq

/-- e.name = u, its dict there -/
theorem xset1 {Q : Unit → Shared → Prop} {ns : List Str} (hC : s.heap.get? C = some (excClassObj nm q C N bs bmE true sn sub ab col dd k0 k1 k2 k3 k5 "Exception.__new__")) (hN : s.heap.Ns N mN)
    (h1 : mN "__setattr__" = none) (h3 : mN name = none) (hB : typeLookup (.type "Exception") name = pure none) (hx : s.heap.get? x = some ⟨.ref C, some dx, .fields vs, osl⟩)
    (hn : s.heap.Ns1 dx mA) (hw : Within mA ns) (hz : ns.length < sizeLine)
    (hq : ∀ h' tk, h'.Ns1 dx (fun y => if y = name then some u else mA y) → Heap.SameBut dx s.heap h' → Q () { s with heap := h', toks := tk }) : wpAny (model prog w) A (setAttr (.ref x) name u) Q E s := by
  obtain ⟨h, g, d, t, os⟩ := s
  have SF := PySem.F.store_Exception
  have hC : h.get? C = some (excClassObj nm q C N bs bmE true sn sub ab col dd k0 k1 k2 k3 k5 "Exception.__new__") := hC
  have hx : h.get? x = some ⟨.ref C, some dx, .fields vs, osl⟩ := hx
  have f3 := SF.slot.bind (.ref x)
  have pass := SF.passes (.ref x)
  have g1 : ∀ {A' : Around} {tk : Nat} {Q' : Option Value → Shared → Prop} {E' : Value → Shared → Prop}, Q' (some (.builtin "object.__setattr__")) ⟨h, g, d, tk, os⟩ → wpAny (model prog w) A' (typeLookup (.ref C) "__setattr__") Q' E' ⟨h, g, d, tk, os⟩ :=
    fun z => wpAny_typeLookup_exc hC hN SF.mro SF.slot.lookup (by rw [h1]; exact z)
  have g3 : ∀ {A' : Around} {tk : Nat} {Q' : Option Value → Shared → Prop} {E' : Value → Shared → Prop}, Q' none ⟨h, g, d, tk, os⟩ → wpAny (model prog w) A' (typeLookup (.ref C) name) Q' E' ⟨h, g, d, tk, os⟩ :=
    fun z => wpAny_typeLookup_exc hC hN SF.mro hB (by rw [h3]; exact z)
  unfold setAttr callSpecial? specialOf
  repeat (any_goals (first | assumption | with_reducible refine g1 ?_ | with_reducible refine wpAny_loadPart_at hx ?_ | wp_step))
  have hc : (⟨.ref C, some dx, .fields vs, osl⟩ : Obj).cls = .ref C := rfl
  refine osa_call SF hC hx hc ?_
  show wpAny _ _ (Builtin.«object.__setattr__» ⟨[.ref x, .str name t, u], []⟩) _ _ _
  rw [PySem.W.osa_eq, refuse_eq]
  have L0 : PySem.W.Looks (model prog w) h (typeOf (.ref x)) (.ref C) := (PySem.W.Looks.ld hx).andThen .now
  refine wpAny_bind (wpAny_bind (L0.at (wpAny_bind (wpAny_mroOf_exc hC ?_))))
  rw [refuseLoop_ref, pass]
  refine wpAny_pure (wpAny_bind (L0.at (wpAny_bind (g3 (wpAny_bind (wpAny_pure ?_))))))
  show wpAny _ _ (Builtin.ObjectAttr.storeInOwnDict (.ref x) (.ref C) _ name u _) _ _ _
  have L1 : PySem.W.Looks (model prog w) h (classData C) _ := (PySem.W.Looks.ld (part := none) hC).andThen .now
  refine wpAny_bind (wpAny_pure (wpAny_bind (wpAny_bind (wpAny_loadPart hx (wpAny_bind (L1.at ?_))))))
  show wpAny _ _ (pure (some dx)) _ _ _
  refine wpAny_pure ?_
  refine xstore hn hw hz fun h' t' n' sb => ?_
  exact wpAny_pure (wpAny_pure (hq h' t' n' sb))
end
end XL

end
section
set_option Elab.async false
set_option linter.all false
set_option maxRecDepth 100000
set_option maxHeartbeats 4000000
namespace XL
open PySem
/-- the class of an own exception, as it stands -/
def XC (h : Heap) (C : Addr) : Prop := ∃ nm q N bs sn sub ab col dd k0 k1 k2 k3 k5, h.get? C = some (excClassObj nm q C N bs bmE true sn sub ab col dd k0 k1 k2 k3 k5 "Exception.__new__")
/-- an exception that was made and not noted -/
def Fresh (s : Shared) (v : Value) (K : Addr → Prop) : Prop := ∃ x oe vs C, v = .ref x ∧ s.heap.get? x = some oe ∧ oe.cls = .ref C ∧ oe.data = .fields vs ∧ vs[1]? = some .none ∧ XC s.heap C ∧ K x
theorem xraise {M : Model} {A : Around} {E : Value → Shared → Prop} {s : Shared} {env : Env} {e : Expr} {pos : Pos} {Q : Flow → Shared → Prop} (hh : A.handled = none)
    (h : wpAny M A (eval e env) (fun v s1 => Fresh s1 v fun x => E (.ref x) s1) E s) : wpAny M A (exec (.Raise (some e) none pos) env) Q E s := by
  rw [arm_exec_Raise]
  refine wpAny_bind (wpAny_standAt ?_)
  show wpAny M A (raiseStmt env (some (do let v ← eval e env; standAt pos; pure v)) none) Q E s
  unfold raiseStmt
  dsimp only
  refine wpAny_bind (wpAny_bind (wpAny_mono h (fun v s1 z => wpAny_bind (wpAny_standAt (wpAny_pure ?_))) fun _ _ x => x))
  obtain ⟨x, oe, vs, C, rfl, hx, hc, hd, h1, ⟨nm, q, N, bs, sn, sub, ab, col, dd, k0, k1, k2, k3, k5, hC⟩, hE⟩ := z
  obtain ⟨hp, g, d, tk, os⟩ := s1
  obtain ⟨oc, odi, oda, osl⟩ := oe
  obtain rfl : oc = .ref C := hc
  obtain rfl : oda = .fields vs := hd
  have hcB : (Value.ref C :: bmE).contains (.type "BaseException") = true := by rw [List.contains_cons]; rfl
  have hx : hp.get? x = some ⟨.ref C, odi, .fields vs, osl⟩ := hx
  have hC : hp.get? C = some (excClassObj nm q C N bs bmE true sn sub ab col dd k0 k1 k2 k3 k5 "Exception.__new__") := hC
  repeat (first | with_reducible refine wpAny_loadPart_at hx ?_ | with_reducible refine wpAny_loadPart_at hC ?_ | with_reducible refine wpAny_field hx rfl h1 ?_ | (with_reducible refine wpAny_isSubtype_exc hC ?_; rw [hcB]) | wp_step)
  exact wpAny_raiseNew_none hh hE
end XL

end
section
set_option Elab.async false
set_option linter.all false
set_option maxRecDepth 100000
set_option maxHeartbeats 4000000
namespace L2
open PySem PySem.Spec PyProof.Rows XL

/-! ### an exception that flies: its class, its dict; it and its newest record are not tracked -/
structure Fly (H : Hp) (n m : Nat) (h : Heap) (e C dx : Addr) (fl : Value) : Prop where
  ex : ∃ oe vs T oT ts, h.get? e = some oe ∧ oe.cls = .ref C ∧ oe.dict = some dx ∧ oe.data = .fields vs ∧ vs[1]? = some (.ref T) ∧ h.get? T = some oT ∧ oT.data = .fields ts ∧ ts[3]? = some fl ∧ m ≤ T ∧ H T = none
  new : n ≤ e
  free : H e = none
def CX1 (P : Program) (w : World) : CXT := fun outer H s E ev s' => ∃ e C dx H', ev = .ref e ∧ s'.os = s.os ∧ AllBare s'.gens ∧ Un (frs outer) [] H H' s.heap s'.heap ∧ HOk P w H' s'.heap ∧
  Fly H' s.heap.objs.size s.heap.objs.size s'.heap e C dx .none ∧ E (.ref C) (some dx) H'
/-- what is known of an exception that is thrown: not noted yet, or noted and no more in flight -/
def Thrown (h : Heap) (e C dx : Addr) : Prop := ∃ oe vs, h.get? e = some oe ∧ oe.cls = .ref C ∧ oe.dict = some dx ∧ oe.data = .fields vs ∧
  (vs[1]? = some .none ∨ ∃ T oT ts, vs[1]? = some (.ref T) ∧ h.get? T = some oT ∧ oT.data = .fields ts ∧ ts[3]? = some .none)
theorem Fly.thrown {H : Hp} {n m : Nat} {h : Heap} {e C dx : Addr} (F : Fly H n m h e C dx .none) : Thrown h e C dx := by
  obtain ⟨oe, vs, T, oT, ts, h1, h2, h3, h4, h5, h6, h7, h8, _⟩ := F.ex
  exact ⟨oe, vs, h1, h2, h3, h4, .inr ⟨T, oT, ts, h5, h6, h7, h8⟩⟩
/-- a body from which such an exception may leave -/
def Throws (X : Cx) (E : XK) : Prop := ∀ (pins : List (Addr × Obj)) (σ : St) (H : Hp) (s : Shared) (e C dx : Addr), Inv X pins σ H s → Thrown s.heap e C dx → FpOk X pins H e → E (.ref C) (some dx) H → X.xe (.ref e) s
theorem Throws.passes {X : Cx} {E : XK} (t : Throws X E) : Passes (CX1 X.prog X.w) X E := by
  rintro pins σ H s ev s' I ⟨e, C, dx, H', rfl, os, bare, un, hok, F, hE⟩
  have I' : Inv X pins σ H' s' := I.call' os un hok bare (fun b z => absurd z (by simp))
  exact t pins σ H' s' e C dx I' F.thrown (I.fpOk F.new F.free) hE

theorem dict_mapFields (f : Array Value → Array Value) (o : Obj) : (o.mapFields f).dict = o.dict := by
  obtain ⟨c, d, dt, sl⟩ := o
  cases dt <;> rfl

section
variable {X : Cx} {pins : List (Addr × Obj)} {σ : St} {H : Hp} {s : Shared} {e C dx : Addr} {oe : Obj} {fl : Value} {h' : Heap}
theorem Inv.noted (I : Inv X pins σ H s) (N : Noted (frs X.stack) e oe fl s.heap h') (fe : FpOk X pins H e) : Inv X pins σ H { s with heap := h' } := by
  have keepT : ∀ c o, H c ≠ none → s.heap.get? c = some o → h'.get? c = some o := fun c o hc ho =>
    N.keep c o (fun z => hc (by rw [z]; exact fe.1)) (fun z => hc (I.stkFree c z)) ho
  refine I.call (g' := s.gens) (t' := s.toks) (d' := s.drawn) (ch := [e]) ⟨fun b o q _ hb hx => N.keep b o (fun z => hx (by simp [z])) hb q, fun b o q _ _ hx => N.slot b o (fun z => hx (by simp [z])) q, fun _ _ _ n _ => n,
    fun b o q hx => ?_, fun _ _ q => q, fun _ _ _ q => q, fun b ps q => ⟨#[], by rw [q]; simp⟩⟩ (fun b u q => ?_) I.bare (fun b hb => ?_)
  · obtain ⟨sl, z⟩ := N.slot b o (fun z => hx (by simp [z])) q
    exact ⟨_, z⟩
  · refine (I.hok b u q).stay (fun c v hc z => keepT c v ?_ z) (fun _ z => z) fun _ _ z => z
    rcases hc with rfl | hc
    · rw [q]; exact fun z => nomatch z
    · rw [hc]; exact fun z => nomatch z
  · have z : b = e := by simpa using hb
    subst z
    exact ⟨fe.2.2.2.1, fe.2.1, fe.2.2.2.2.1, fe.2.2.2.2.2⟩

/-- it is noted in the frame that runs -/
theorem note_ok {M : Model} {E : Value → Shared → Prop} {n : Nat} {Q : Unit → Shared → Prop} (I : Inv X pins σ H s) (hst : X.stack = X.env :: X.outer) (hfr : X.env.frame = some X.env.locals) (t : Thrown s.heap e C dx) (fe : FpOk X pins H e)
    (hn : n ≤ e)
    (hq : ∀ h', Inv X pins σ H { s with heap := h' } → Fly H n s.heap.objs.size h' e C dx (rawInt X.env.locals) → Q () { s with heap := h' }) : wpAny M X.A (noteFrame (.ref e) X.env) Q E s := by
  obtain ⟨oe, vs, he, hc, hd, hdt, hh⟩ := t
  refine note_wp (base := X.base) (by rw [I.ok.frames, hst]) (by rw [← hst]; exact I.stack) hfr he hdt hh fun h1 N => ?_
  have N' : Noted (frs X.stack) e oe (rawInt X.env.locals) s.heap h1 := by rw [hst]; exact N
  obtain ⟨T, oT, ts, hT, e1, eT, dT, t3⟩ := N.at_
  have hz : 1 < vs.size := by
    rcases hh with h1 | ⟨_, _, _, h1, _⟩
    · exact (Array.getElem?_eq_some_iff.mp h1).1
    · exact (Array.getElem?_eq_some_iff.mp h1).1
  refine hq h1 (I.noted N' fe) ⟨⟨_, _, T, oT, ts, e1, by rw [Obj.cls_mapFields]; exact hc, by rw [dict_mapFields]; exact hd, Obj.data_mapFields hdt _, by simp [hz], eT, dT, t3, hT, I.hok.fresh hT⟩, hn, fe.1⟩

/-- it is in flight no more -/
theorem land_ok {M : Model} {A : Around} {E : Value → Shared → Prop} {n m : Nat} {Q : Unit → Shared → Prop} (I : Inv X pins σ H s) (F : Fly H n m s.heap e C dx fl) (ft : ∀ T, m ≤ T → H T = none → FpOk X pins H T)
    (hq : ∀ h', Inv X pins σ H { s with heap := h' } → Fly H n m h' e C dx .none → Q () { s with heap := h' }) : wpAny M A (setFlight (.ref e) none) Q E s := by
  obtain ⟨oe, vs, T, oT, ts, he, hc, hd, hdt, h1, hT, dT, t3, nT, fT⟩ := F.ex
  have z3 := (Array.getElem?_eq_some_iff.mp t3).1
  refine wpAny_setFlight_none he hdt h1 hT dT z3 (hq _ ?_ ?_)
  · obtain ⟨f0, f1, f2, f3, f4, f5⟩ := ft T nT fT
    exact I.turned (t' := s.toks) (fun b o hb z => by rw [Heap.get?_update_other _ _ (Ne.symm hb)]; exact z) f0 f1 f3 f4 f5
  · by_cases q : T = e
    · subst q
      rw [he] at hT
      cases hT
      rw [hdt] at dT
      cases dT
      have e2 := Heap.get?_update_self (Obj.mapFields (·.setIfInBounds 3 .none)) he (Obj.isFreed_of_fields (Obj.data_mapFields hdt _))
      exact ⟨⟨_, _, T, _, _, e2, by rw [Obj.cls_mapFields]; exact hc, by rw [dict_mapFields]; exact hd, Obj.data_mapFields hdt _, by rw [Array.getElem?_setIfInBounds_ne (by decide)]; exact h1, e2, Obj.data_mapFields hdt _, by simp [z3], nT, fT⟩, F.new, F.free⟩
    · have e2 := Heap.get?_update_self (Obj.mapFields (·.setIfInBounds 3 .none)) hT (Obj.isFreed_of_fields (Obj.data_mapFields dT _))
      exact ⟨⟨oe, vs, T, _, _, by rw [Heap.get?_update_other _ _ q]; exact he, hc, hd, hdt, h1, e2, Obj.data_mapFields dT _, by simp [z3], nT, fT⟩, F.new, F.free⟩
/-- it leaves the frame that runs -/
theorem leave_ok {M : Model} {E : Value → Shared → Prop} {n : Nat} {Q : Unit → Shared → Prop} (I : Inv X pins σ H s) (hst : X.stack = X.env :: X.outer) (hfr : X.env.frame = some X.env.locals) (t : Thrown s.heap e C dx) (fe : FpOk X pins H e)
    (hn : n ≤ e) (hq : ∀ h', Inv X pins σ H { s with heap := h' } → Fly H n s.heap.objs.size h' e C dx .none → Q () { s with heap := h' }) : wpAny M X.A (leaving X.env (.ref e)) Q E s := by
  unfold leaving
  refine wpAny_bind (note_ok I hst hfr t fe hn fun h1 I1 F1 => ?_)
  exact land_ok I1 F1 (fun T hT fT => I.fpOk hT fT) fun h2 I2 F2 => hq h2 I2 F2
theorem Fly.less {n n' m m' : Nat} {h : Heap} (F : Fly H n m h e C dx fl) (h1 : n' ≤ n) (h2 : m' ≤ m) : Fly H n' m' h e C dx fl := by
  obtain ⟨oe, vs, T, oT, ts, a1, a2, a3, a4, a5, a6, a7, a8, a9, a10⟩ := F.ex
  exact ⟨⟨oe, vs, T, oT, ts, a1, a2, a3, a4, a5, a6, a7, a8, Nat.le_trans h2 a9, a10⟩, Nat.le_trans h1 F.new, F.free⟩
end

/-! ### a def from which exceptions may leave -/
section
variable {P : Program} {w : World} {K : PySem.W.Frag} {mg : Str → Option Value} {base : Heap}
theorem throws_def {N : List Str} {qual : Str} {scope : Scope} {f : Addr} {cd : Value} {A : Around} {outer : List Env} {s0 : Shared} {H0 : Hp} {E : XK} : Throws (cxOf (CX1 P w) P w K mg base N qual scope f cd A outer s0 H0 E) E := by
  intro pins σ H s e C dx I t fe hE
  have hn : s0.heap.objs.size ≤ e := by
    rcases fe.2.2.2.1 with z | z
    · exact absurd (show e ∈ ([] : List Addr) from z) (by simp)
    · exact z
  exact leave_ok (X := cxOf (CX1 P w) P w K mg base N qual scope f cd A outer s0 H0 E) I rfl rfl t fe hn fun h' I' F => ⟨e, C, dx, H, rfl, I'.os, I'.bare, I'.base, I'.hok, F.less (Nat.le_refl _) I.sz, hE⟩
theorem own_def {N : List Str} {qual : Str} {scope : Scope} {f : Addr} {cd : Value} {A : Around} {outer : List Env} {s0 : Shared} {H0 : Hp} {E : XK} :
    PassesOwn (model P w) (cxOf (CX1 P w) P w K mg base N qual scope f cd A outer s0 H0 E).A (cxOf (CX1 P w) P w K mg base N qual scope f cd A outer s0 H0 E).env (cxOf (CX1 P w) P w K mg base N qual scope f cd A outer s0 H0 E).xe := PassesOwn.leaving
theorem Fun.okX {x qual : Str} {st : Stmt} {f : Addr} {fd : FuncData} {N ps : List Str} {k : Nat} {sp : Sp} (F : Fun K x qual st f fd) (S : FnScope N ps (defScope st)) (len : ∀ vs H Q E, sp vs H Q E → vs.length = ps.length)
    (hbody : ∀ (cdv : Value) (A : Around) (outer : List Env) (s : Shared) (H : Hp) (vs : List V) (Q : VK) (E : XK), Room k (A.deeper (envOfC qual (defScope st) s.heap.objs.size f cdv)) → sp vs H Q E →
      ∃ t, PSs (cxOf (CX1 P w) P w K mg base N qual (defScope st) f cdv A outer s H E) (defBody st) t ∧ t { nx := fun _ H' => Q .non H', rt := Q } (start N vs) H) : FnOk P w K mg base (CX1 P w) (k + 1) f fd ps sp := by
  obtain ⟨oc, od, kV, doc, pm, an, cdv, ct, osl, rfl, lk, hcd⟩ := F.ex
  exact fn_of lk hcd S len fun A outer s H vs Q E hr hsp => hbody cdv A outer s H vs Q E hr hsp
end
end L2

end
section
set_option Elab.async false
set_option linter.all false
set_option maxRecDepth 100000
set_option maxHeartbeats 4000000
namespace L2
open PySem PySem.Spec PyProof.Rows XL

/-! ### the class of an own exception, of the text -/
def keysB (es : Array DictEntry) : Bool := es.toList.all fun e => match e.key with
  | .str _ _ => true
  | _ => false
theorem keysB_ok {es : Array DictEntry} (h : keysB es = true) : StrKeys es := fun e he => by
  have q := List.all_eq_true.mp h e (Array.mem_toList_iff.mpr he)
  revert q
  cases hk : e.key with
  | str n t => exact fun _ => ⟨n, t, rfl⟩
  | _ => intro q; cases q
/-- fs: the names of its attributes -/
structure XCls (K : PySem.W.Frag) (C f : Addr) (fs : List Str) : Prop where
  ex : ∃ nm q N bs sn sub ab col dd k0 k1 k2 k3 k5 oc od es ep sl, K.lookup C = some (excClassObj nm q C N bs bmE true sn sub ab col dd k0 k1 k2 k3 k5 "Exception.__new__") ∧ K.lookup N = some ⟨oc, od, .dict es ep, sl⟩ ∧ keysB es = true ∧
    nsFind es "__init__" = some (.ref f) ∧ nsFind es "__setattr__" = none ∧ nsFind es "__getattribute__" = none ∧ nsFind es "__getattr__" = none ∧ ∀ x ∈ fs, nsFind es x = none
  at_ : ∀ x ∈ fs, typeLookup (.type "Exception") x = pure none
  fn : PySem.W.isFn K (.ref f) = true
  kp : PySem.W.keepIn K (.ref C) = true
theorem XCls.fnAt {K : PySem.W.Frag} {C f : Addr} {fs : List Str} (T : XCls K C f fs) {h : Heap} (X : K.In h) : ∃ of, h.get? f = some of ∧ of.cls = .type "function" := by
  have q : PySem.W.typeIn K (.ref f) = some (.type "function") := beq_iff_eq.mp T.fn
  obtain ⟨o, ho, e⟩ := Option.map_eq_some_iff.mp (show (K.lookup f).map (·.cls) = some (.type "function") from q)
  exact ⟨o, X _ _ ho, e⟩
theorem XCls.xc {K : PySem.W.Frag} {C f : Addr} {fs : List Str} (T : XCls K C f fs) {h : Heap} (X : K.In h) : XC h C := by
  obtain ⟨nm, q, N, bs, sn, sub, ab, col, dd, k0, k1, k2, k3, k5, oc, od, es, ep, sl, h1, _⟩ := T.ex
  exact ⟨nm, q, N, bs, sn, sub, ab, col, dd, k0, k1, k2, k3, k5, X _ _ h1⟩

/-! ### what stands for it -/
def xobj (C : Addr) (d : Option Addr) (t : Addr) : Obj := { cls := .ref C, dict := d, data := .fields #[.ref t, .none, .none, .none, .bool false, .none] }
/-- not noted -/
def XO (e C : Addr) (d : Option Addr) (t : Addr) : HO := .ext fun h => h.get? e = some (xobj C d t)
/-- caught -/
def XV (e C d : Addr) : HO := .ext fun h => ∃ vs osl, h.get? e = some ⟨.ref C, some d, .fields vs, osl⟩
/-- its attributes -/
def XD (d : Addr) (fs : List (Str × V)) : HO := .ext fun h => ∃ mA, h.Ns1 d mA ∧ (∀ f, RelO (fs.lookup f) (mA f)) ∧ PySem.Within mA (fs.map (·.1))
section
variable {P : Program} {w : World} {H : Hp} {h : Heap} {e C t d : Addr} {od : Option Addr} {fs : List (Str × V)}
theorem xo_ok (q : h.get? e = some (xobj C od t)) : ObjOk P w H h e (XO e C od t) := ⟨q, ⟨_, q⟩, fun _ _ a b => b _ a⟩
theorem xv_ok {vs : Array Value} {osl : Array (Option Value)} (q : h.get? e = some ⟨.ref C, some d, .fields vs, osl⟩) : ObjOk P w H h e (XV e C d) := ⟨⟨vs, osl, q⟩, ⟨_, q⟩, fun _ _ ⟨vs, osl, a⟩ b => ⟨vs, osl, b _ a⟩⟩
theorem xd_ok {mA : Str → Option Value} (n : h.Ns1 d mA) (r : ∀ f, RelO (fs.lookup f) (mA f)) (q : PySem.Within mA (fs.map (·.1))) : ObjOk P w H h d (XD d fs) :=
  ⟨⟨mA, n, r, q⟩, let ⟨o, _, _, a, _⟩ := n; ⟨o, a⟩, fun _ _ ⟨mA, n, r, q⟩ b => ⟨mA, n.at b, r, q⟩⟩
theorem xo_get (ok : HOk P w H h) (q : H e = some (XO e C od t)) : h.get? e = some (xobj C od t) := (show ObjOk P w H h e (XO e C od t) from ok e _ q).1
theorem xv_get (ok : HOk P w H h) (q : H e = some (XV e C d)) : ∃ vs osl, h.get? e = some ⟨.ref C, some d, .fields vs, osl⟩ := (show ObjOk P w H h e (XV e C d) from ok e _ q).1
theorem xd_get (ok : HOk P w H h) (q : H d = some (XD d fs)) : ∃ mA, h.Ns1 d mA ∧ (∀ f, RelO (fs.lookup f) (mA f)) ∧ PySem.Within mA (fs.map (·.1)) := (show ObjOk P w H h d (XD d fs) from ok d _ q).1
end
theorem ext_ne {φ ψ : Heap → Prop} {u : HO} (h : u = .ext φ) (g : ∀ ψ, u ≠ .ext ψ) : False := g φ h

/-- e is tracked no more -/
def off (H : Hp) (e : Addr) : Hp := fun b => if b = e then none else H b
theorem off_same {H : Hp} {e : Addr} : off H e e = none := if_pos rfl
theorem off_ne {H : Hp} {e b : Addr} (h : b ≠ e) : off H e b = H b := if_neg h

section
variable {X : Cx} {pins : List (Addr × Obj)} {σ : St} {H : Hp} {s : Shared} {e : Addr}
/-- an object of the last kind that is younger than the entry: forgotten -/
theorem Inv.off {φ : Heap → Prop} (I : Inv X pins σ H s) (q : H e = some (.ext φ)) (hn : X.s_0.heap.objs.size ≤ e) : Inv X pins σ (off H e) s := by
  have ne : ∀ b u, H b = some u → (∀ ψ, u ≠ .ext ψ) → b ≠ e := fun b u hb hu z => by rw [z, q] at hb; cases hb; exact hu φ rfl
  have no : ∀ b, H b = none → L2.off H e b = none := fun b hb => by
    by_cases z : b = e
    · rw [z]; exact off_same
    · rw [off_ne z]; exact hb
  refine ⟨I.ok, I.os, I.bare, ⟨I.base.keep, I.base.slot, fun b o h1 h2 h3 => no b (I.base.free b o h1 h2 h3), I.base.there, fun b xs h1 => ?_, fun b o u h1 => ?_, fun b ps h1 => ?_⟩, I.loc, I.cell, no _ I.free, fun x c hc => no c (I.freeC x c hc), fun p hp => ?_, fun b u hb => ?_, I.len⟩
  · have z := I.base.tups b xs h1
    rw [off_ne (ne b _ z fun ψ => nofun)]; exact z
  · have z := I.base.frzs b o u h1
    rw [off_ne (ne b _ z fun ψ => nofun)]; exact z
  · obtain ⟨more, z⟩ := I.base.tbls b ps h1
    exact ⟨more, by rw [off_ne (ne b _ z fun ψ => nofun)]; exact z⟩
  · obtain ⟨h1, h2, h3⟩ := I.pin p hp
    exact ⟨h1, no _ h2, h3⟩
  · have hbe : b ≠ e := fun z => by rw [z, off_same] at hb; cases hb
    rw [off_ne hbe] at hb
    refine (I.hok b u hb).stay (fun c v _ z => z) (fun c z => ?_) fun c xs z => ?_
    · rw [off_ne (ne c _ z fun ψ => nofun)]; exact z
    · rw [off_ne (ne c _ z fun ψ => nofun)]; exact z
end
end L2

end
section
set_option Elab.async false
set_option linter.all false
set_option maxRecDepth 100000
set_option maxHeartbeats 4000000
namespace L2
open PySem PySem.Spec PyProof.Rows XL

/-! ### attributes of an own exception -/
def HasX (K : PySem.W.Frag) (C : Addr) (f : Str) : Prop := ∃ g fl, XCls K C g fl ∧ f ∈ fl
/-- self.f = value in __init__, the first one -/
def sX0 (K : PySem.W.Frag) (ta tv : TE) (f : Str) : TS := fun D σ H => tv σ H fun y H1 => ta σ H1 fun x H2 => ∃ e C t, x = .ref e ∧ H2 e = some (XO e C none t) ∧ HasX K C f ∧
  ∀ d, H2 d = none → D.nx σ (upd (upd H2 d (XD d [(f, y)])) e (XO e C (some d) t))
/-- .. and further ones -/
def sX1 (K : PySem.W.Frag) (ta tv : TE) (f : Str) : TS := fun D σ H => tv σ H fun y H1 => ta σ H1 fun x H2 => ∃ e C t d fs, x = .ref e ∧ H2 e = some (XO e C (some d) t) ∧ H2 d = some (XD d fs) ∧ HasX K C f ∧ fs.length < 1000 ∧
  D.nx σ (upd H2 d (XD d (putF f y fs)))
def tX (K : PySem.W.Frag) (ta : TE) (f : Str) : TE := fun σ H Q => ta σ H fun x H1 => ∃ e C d fs v, x = .ref e ∧ H1 e = some (XV e C d) ∧ H1 d = some (XD d fs) ∧ HasX K C f ∧ fs.lookup f = some v ∧ Q v H1
section
variable {X : Cx} {o value : Expr} {f : Str} {pos pos' : Pos} {ta tv : TE}
theorem ps_xset0 (ha : PE X o ta) (hv : PE X value tv) (hs : swapsWith value (some (.Attribute o f pos')) pos.line X.env = pure false) : PS X (.Assign [.Attribute o f pos'] value pos) (sX0 X.K ta tv f) := by
  intro pins s σ H D I h
  refine plainObj_wpAny_Assign_Attribute (thn (hv pins s σ H _ I h) fun u s1 ⟨y, H1, I1, ry, q⟩ => thn (ha pins s1 σ H1 _ I1 q) fun ov s2 ⟨x, H2, I2, rx, e, C, t, ex, ee, ⟨g, fl, T, hf⟩, q2⟩ => ?_) hs
  subst ex
  obtain rfl : ov = Value.ref e := rx
  have ge := xo_get I2.hok ee
  obtain ⟨nm, q, N, bs, sn, sub, ab, col, dd, k0, k1, k2, k3, k5, oc, od, es, ep, sl, l1, l2, kb, n1, n2, n3, n4, n5⟩ := T.ex
  have hC := I2.kIn _ _ l1
  have hN : s2.heap.Ns N (nsFind es) := ⟨_, es, ep, I2.kIn _ _ l2, rfl, keysB_ok kb, fun _ => rfl⟩
  refine xset0 hC hN n2 (n5 f hf) (T.at_ f hf) ge fun h' tk a1 a2 a3 => ?_
  have fr : H2 s2.heap.objs.size = none := I2.hok.fresh (Nat.le_refl _)
  have ned : e ≠ s2.heap.objs.size := ne_of_none ee fr
  refine ⟨σ, _, ?_, q2 s2.heap.objs.size fr⟩
  have oth : ∀ b, b ≠ e → b ≠ s2.heap.objs.size → (upd (upd H2 s2.heap.objs.size (XD s2.heap.objs.size [(f, y)])) e (XO e C (some s2.heap.objs.size) t)) b = H2 b := fun b h1 h2 => by rw [upd_ne h1, upd_ne h2]
  have ne : ∀ b u, H2 b = some u → (∀ ψ, u ≠ .ext ψ) → b ≠ e := fun b u hb hu z => by rw [z, ee] at hb; cases hb; exact hu _ rfl
  have nd : ∀ b u, H2 b = some u → b ≠ s2.heap.objs.size := fun b u hb => ne_of_none hb fr
  refine I2.un (t' := tk) ⟨fun b ob h1 h2 _ _ => a3 b ob (fun z => by rw [z, ee] at h2; cases h2) h1, fun b ob h1 h2 _ _ => ⟨ob.slots, a3 b ob (fun z => by rw [z, ee] at h2; cases h2) h1⟩, fun b ob h1 h2 _ => ?_, fun b ob h1 _ => ?_,
    fun b xs h1 => ?_, fun b ob u h1 => ?_, fun b ps h1 => ⟨#[], ?_⟩⟩ (fun b u hb => ?_)
  · rw [oth b (fun z => by rw [z, ee] at h2; cases h2) (Nat.ne_of_lt (Heap.lt_size h1))]; exact h2
  · by_cases z : b = e
    · exact ⟨_, by rw [z]; exact a1⟩
    · exact ⟨ob, a3 b ob z h1⟩
  · rw [oth b (ne b _ h1 fun ψ => nofun) (nd b _ h1)]; exact h1
  · rw [oth b (ne b _ h1 fun ψ => nofun) (nd b _ h1)]; exact h1
  · rw [oth b (ne b _ h1 fun ψ => nofun) (nd b _ h1), h1]; simp
  · by_cases z : b = e
    · subst z
      rw [upd_same] at hb
      cases hb
      exact xo_ok a1
    · by_cases z2 : b = s2.heap.objs.size
      · subst z2
        rw [upd_ne z, upd_same] at hb
        cases hb
        refine xd_ok a2 (fun k => ?_) fun k hk => ?_
        · by_cases w : k = f
          · subst w
            rw [if_pos rfl]
            show RelO (List.lookup k [(k, y)]) (some u)
            rw [List.lookup_cons_self]
            exact ry
          · rw [if_neg w]
            have e1 : List.lookup k [(f, y)] = none := by
              rw [List.lookup_cons, show (k == f) = false from beq_eq_false_iff_ne.mpr w]
              rfl
            rw [e1]
            exact True.intro
        · by_cases w : k = f
          · subst w; simp
          · exact absurd (if_neg w) hk
      · rw [oth b z z2] at hb
        refine (I2.hok b u hb).stay (fun c v hc hq => a3 c v ?_ hq) (fun c hc => ?_) fun c xs hc => ?_
        · rcases hc with rfl | hc
          · exact z
          · exact ne c _ hc fun ψ => nofun
        · rw [oth c (ne c _ hc fun ψ => nofun) (nd c _ hc)]; exact hc
        · rw [oth c (ne c _ hc fun ψ => nofun) (nd c _ hc)]; exact hc
theorem ps_xset1 (ha : PE X o ta) (hv : PE X value tv) (hs : swapsWith value (some (.Attribute o f pos')) pos.line X.env = pure false) : PS X (.Assign [.Attribute o f pos'] value pos) (sX1 X.K ta tv f) := by
  intro pins s σ H D I h
  refine plainObj_wpAny_Assign_Attribute (thn (hv pins s σ H _ I h) fun u s1 ⟨y, H1, I1, ry, q⟩ => thn (ha pins s1 σ H1 _ I1 q) fun ov s2 ⟨x, H2, I2, rx, e, C, t, d, fs, ex, ee, ed, ⟨g, fl, T, hf⟩, hl, q2⟩ => ?_) hs
  subst ex
  obtain rfl : ov = Value.ref e := rx
  have ge := xo_get I2.hok ee
  obtain ⟨mA, n, r, wi⟩ := xd_get I2.hok ed
  obtain ⟨nm, q, N, bs, sn, sub, ab, col, dd, k0, k1, k2, k3, k5, oc, od, es, ep, sl, l1, l2, kb, n1, n2, n3, n4, n5⟩ := T.ex
  have hC := I2.kIn _ _ l1
  have hN : s2.heap.Ns N (nsFind es) := ⟨_, es, ep, I2.kIn _ _ l2, rfl, keysB_ok kb, fun _ => rfl⟩
  refine xset1 hC hN n2 (n5 f hf) (T.at_ f hf) ge n wi (by rw [List.length_map, sizeLine_eq]; omega) fun h' tk a1 a2 => ?_
  have hd : ∃ o, h'.get? d = some o := let ⟨o, _, _, z, _⟩ := a1; ⟨o, z⟩
  refine ⟨σ, _, I2.write (x := d) (e := d) (t' := tk) (by rw [ed]; exact True.intro) (.inl rfl) (fun b ob hb z => (a2.2 b hb).trans z) hd ?_, q2⟩
  refine xd_ok a1 (fun k => ?_) fun k hk => ?_
  · rw [lookup_putF]
    by_cases w : k = f
    · rw [if_pos w, if_pos w]; exact ry
    · rw [if_neg w, if_neg w]; exact r k
  · by_cases w : k = f
    · rw [w]; exact (keys_putF f y fs).1
    · exact (keys_putF f y fs).2 k (wi k fun z => hk (by show (if k = f then some u else mA k) = none; rw [if_neg w]; exact z))
theorem pe_x (he : PE X o ta) (hb : attributeBase o f X.env (eval o X.env) = eval o X.env) : PE X (.Attribute o f pos) (tX X.K ta f) := by
  intro pins s σ H Q I h
  refine attr_of hb (thn (he pins s σ H _ I h) fun ov s1 ⟨x, H1, I1, rx, e, C, d, fs, v, ex, ee, ed, ⟨g, fl, T, hf⟩, l, q⟩ => ?_)
  subst ex
  obtain rfl : ov = Value.ref e := rx
  obtain ⟨vs, osl, ge⟩ := xv_get I1.hok ee
  obtain ⟨mA, n, r, wi⟩ := xd_get I1.hok ed
  obtain ⟨u, hu, ru⟩ := RelO.some_of (v := v) (o := mA f) (by rw [← l]; exact r f)
  obtain ⟨nm, q', N, bs, sn, sub, ab, col, dd, k0, k1, k2, k3, k5, oc, od, es, ep, sl, l1, l2, kb, n1, n2, n3, n4, n5⟩ := T.ex
  have hC := I1.kIn _ _ l1
  have hN : s1.heap.Ns N (nsFind es) := ⟨_, es, ep, I1.kIn _ _ l2, rfl, keysB_ok kb, fun _ => rfl⟩
  exact xget hC hN n3 n4 (n5 f hf) (T.at_ f hf) ge rfl rfl rfl n.ns hu (PySem.W.handedOut_of (handed_of ru)) ⟨v, H1, I1.tok _, ru, q⟩
end

/-! ### raise C(e, ..) -/
def tRaise (C : Addr) (sp : Sp) (E : XK) (t : TA) : TS := fun _ σ H => t σ H fun vs H1 => vs.length ≤ sizeLine ∧ ∀ x t0, H1 x = none →
  sp (.ref x :: vs) (upd H1 x (XO x C none t0)) (fun v H2 => v = .non ∧ ∃ d, H2 x = some (XO x C (some d) t0) ∧ E (.ref C) (some d) (off H2 x)) E0
section
variable {X : Cx} {k : Nat} {f C : Addr} {fd : FuncData} {ps fl : List Str} {sp : Sp} {E : XK} {x : Str} {np cpos pos : Pos} {e : Expr} {es : List Expr} {t : TA}
theorem ps_raise (T : XCls X.K C f fl) (F : FnOk X.prog X.w X.K X.mg X.base CX0 k f fd ps sp) (hr : Room (k + 1) X.A) (hg : Gl X x) (hm : X.mg x = some (.ref C)) (hb : Binds X.K fd ps []) (th : Throws X E) (ha : PA X (e :: es) t)
    (hdb : (x == ("__debug__" : Str)) = false := by decide) (he : starEach (e :: es) X.env = (false, eval e X.env) :: starEach es X.env := by rfl) (hpl : (backTo cpos (starEach es X.env)).any (·.1) = false := by rfl) :
    PS X (.Raise (some (.Call (.Name x np) (e :: es) [] cpos)) none pos) (tRaise C sp E t) := by
  intro pins s σ H D I h
  refine xraise hr.hd (wpAny_Call_Name_kw (ld_glob I hg hm ?_ hdb))
  refine PySem.W.callWith_K (h₀ := X.base) I.ok.mod.kin T.kp (thn (ha cpos pins s σ H _ I h) fun us s1 ⟨vs, H1, I1, r, hz, q⟩ => ⟨I1.kIn, ?_⟩) he hpl
  -- the instance, its arguments' tuple behind it
  have hf1 : H1 (s1.heap.objs.size + 1) = none := I1.hok.fresh (Nat.le_succ _)
  have hq := q (s1.heap.objs.size + 1) s1.heap.objs.size hf1
  obtain ⟨nm, qn, N, bs, sn, sub, ab, col, dd, k0, k1, k2, k3, k5, oc, od, es', ep, sl, l1, l2, kb, n1, n2, n3, n4, n5⟩ := T.ex
  have hC := I1.kIn _ _ l1
  have hN : s1.heap.Ns N (nsFind es') := ⟨_, es', ep, I1.kIn _ _ l2, rfl, keysB_ok kb, fun _ => rfl⟩
  obtain ⟨of, hof, ofc⟩ := T.fnAt I1.kIn
  have ex1 : ((s1.heap.push (argTup us)).push (excObj C s1.heap.objs.size)).get? (s1.heap.objs.size + 1) = some (xobj C none s1.heap.objs.size) := by
    have z := Heap.get?_push_size (s1.heap.push (argTup us)) (o := excObj C s1.heap.objs.size) rfl
    rw [Heap.size_push] at z
    exact z
  have I2 : Inv X pins σ (upd H1 (s1.heap.objs.size + 1) (XO (s1.heap.objs.size + 1) C none s1.heap.objs.size)) { s1 with heap := (s1.heap.push (argTup us)).push (excObj C s1.heap.objs.size), toks := s1.toks } :=
    I1.laid (fun b u z => Heap.get?_push_of_some _ (Heap.get?_push_of_some _ z)) (Nat.le_succ _) (xo_ok ex1)
  have r2 : Vals (V.ref (s1.heap.objs.size + 1) :: vs) (Value.ref (s1.heap.objs.size + 1) :: us) := .cons rfl r
  have hl : (Value.ref (s1.heap.objs.size + 1) :: us).length = ps.length := by
    have z := r2.length
    rw [F.len _ _ _ _ hq] at z
    exact z.symm
  have hz' : us.length ≤ sizeLine := by rw [← r.length]; exact hz
  refine wpAny_call (xmake hC hN n1 hof ofc hz' (codeAny_mono (F.run _ X.stack _ _ ⟨Value.ref (s1.heap.objs.size + 1) :: us, []⟩ (Value.ref (s1.heap.objs.size + 1) :: us) _ _ E0 (hr.make C us []) (I2.env0.make C us [])
    (by have z := hb _ (Value.ref (s1.heap.objs.size + 1) :: us) I2.kIn (by rw [List.append_nil]; exact hl); rw [List.append_nil] at z; exact z) r2 hq) fun rr s' hq' => ?_))
  cases rr with
  | error z => exact (show False from hq').elim
  | ok flw =>
    cases flw with
    | ret u =>
      obtain ⟨v, H3, I3, rv, ev, d, e3, hE⟩ := I2.after hq'
      subst ev
      have g3 := xo_get I3.hok e3
      have hn : X.s_0.heap.objs.size ≤ s1.heap.objs.size + 1 := Nat.le_trans I1.sz (Nat.le_succ _)
      refine ⟨rv, s1.heap.objs.size + 1, _, _, C, rfl, g3, rfl, rfl, rfl, T.xc I3.kIn, ?_⟩
      exact th pins σ _ s' (s1.heap.objs.size + 1) C d (I3.off e3 hn) ⟨_, _, g3, rfl, rfl, rfl, .inl rfl⟩ (I1.fpOk (Nat.le_succ _) off_same) hE
    | next => exact False.elim hq'
    | brk => exact False.elim hq'
    | cont => exact False.elim hq'
end
end L2

end
section
set_option Elab.async false
set_option linter.all false
set_option maxRecDepth 100000
set_option maxHeartbeats 4000000
namespace L2
open PySem PySem.Spec PyProof.Rows XL

/-! ### try: .. except C as n: .. -/
/-- nothing is known of the names -/
def none_ (X : Cx) : St := List.replicate X.N.length none
/-- the body of an except suite: an exception is handled there; none leaves it -/
abbrev Cx.exc (X : Cx) (e : Addr) : Cx := { X with A := X.A.mark (some (.ref e)), calm := false, xe := fun _ _ => False }
section
variable {X : Cx} {pins : List (Addr × Obj)} {σ : St} {H : Hp} {s : Shared} {e C d : Addr}
theorem Cx.Ok.exc (ok : X.Ok) (e : Addr) : (X.exc e).Ok :=
  ⟨ok.mod, ok.kind, ok.glob, ok.blt, ok.above, ok.inj, ok.has, ok.cab, fun z => Bool.noConfusion (show false = true from z), ok.frames, ok.stk, ok.exf, ok.bs, ok.bsz, ok.noex, ok.exfs, ok.funs, ok.frf⟩
theorem Inv.exc (I : Inv X pins σ H s) (e : Addr) : Inv (X.exc e) pins σ H s := ⟨I.ok.exc e, I.os, I.bare, I.base, I.loc, I.cell, I.free, I.freeC, I.pin, I.hok, I.len⟩
theorem Inv.unexc (ok : X.Ok) (I : Inv (X.exc e) pins σ H s) : Inv X pins σ H s := ⟨ok, I.os, I.bare, I.base, I.loc, I.cell, I.free, I.freeC, I.pin, I.hok, I.len⟩
/-- the frame's own map is another; of the names nothing is known -/
theorem Inv.relocal {h' : Heap} {m : Str → Option Value} {t' : Nat} (I : Inv X pins σ H s) (hn : h'.Ns X.env.locals m) (sb : Heap.SameBut X.env.locals s.heap h') : Inv X pins (none_ X) H { s with heap := h', toks := t' } := by
  have kp : ∀ b o, b ≠ X.env.locals → s.heap.get? b = some o → h'.get? b = some o := fun b o hb z => (sb.2 b hb).trans z
  have neL : ∀ b o, X.s_0.heap.get? b = some o → b ≠ X.env.locals := fun b o z => Nat.ne_of_lt (Nat.lt_of_lt_of_le (Heap.lt_size z) I.ok.above)
  refine ⟨I.ok, I.os, I.bare, ⟨fun b o h1 h2 h3 h4 => kp b o (neL b o h1) (I.base.keep b o h1 h2 h3 h4), fun b o h1 h2 h3 h4 => ?_, I.base.free, fun b o h1 h2 => ?_, I.base.tups, I.base.frzs, I.base.tbls⟩,
    ⟨m, hn, fun i x v h1 h2 => ?_⟩, fun x c hc => ?_, I.free, I.freeC, fun p hp => ?_, fun b u hb => ?_, by unfold none_; rw [List.length_replicate]⟩
  · obtain ⟨sl, z⟩ := I.base.slot b o h1 h2 h3 h4
    exact ⟨sl, kp b _ (neL b o h1) z⟩
  · obtain ⟨o', z⟩ := I.base.there b o h1 h2
    exact ⟨o', kp b _ (neL b o h1) z⟩
  · unfold none_ at h2
    rw [List.getElem?_replicate] at h2
    split at h2 <;> cases h2
  · obtain ⟨v, o, ho, hd⟩ := I.cell x c hc
    exact ⟨v, o, kp c o (I.cne x c hc) ho, hd⟩
  · obtain ⟨h1, h2, h3, h4, h5⟩ := I.pin p hp
    exact ⟨kp _ _ h3 h1, h2, h3, h4, h5⟩
  · have nl : ∀ c v, H c = some v → c ≠ X.env.locals := fun c v z q => by rw [q, I.free] at z; cases z
    refine (I.hok b u hb).stay (fun c v hc z => kp c v ?_ z) (fun _ z => z) fun _ _ z => z
    rcases hc with rfl | hc
    · exact nl _ _ hb
    · exact nl _ _ hc
theorem Inv.forget (I : Inv X pins σ H s) : Inv X pins (none_ X) H s := I.weak (by unfold none_; rw [List.length_replicate, I.len]) fun i v z => by
  unfold none_ at z
  rw [List.getElem?_replicate] at z
  split at z <;> cases z
/-- an exception that has landed is tracked -/
theorem Inv.caught {n m : Nat} (I : Inv X pins σ H s) (F : Fly H n m s.heap e C d .none) (fe : FpOk X pins H e) : Inv X pins σ (upd H e (XV e C d)) s := by
  obtain ⟨oe, vs, T, oT, ts, he, hc, hd, hdt, _⟩ := F.ex
  obtain ⟨f0, f1, f2, f3, f4, f5⟩ := fe
  obtain ⟨oc, odi, oda, osl⟩ := oe
  obtain rfl : oc = .ref C := hc
  obtain rfl : odi = some d := hd
  obtain rfl : oda = .fields vs := hdt
  have ne : ∀ b u, H b = some u → b ≠ e := fun b u z q => by rw [q, f0] at z; cases z
  have old : ∀ b o, X.s_0.heap.get? b = some o → b ∉ X.ex → b ≠ e := fun b o z hx q => by
    rcases f3 with y | y
    · exact hx (by rw [q]; exact y)
    · exact absurd (Nat.lt_of_lt_of_le (Heap.lt_size z) (by rw [q]; exact y)) (Nat.lt_irrefl _)
  refine ⟨I.ok, I.os, I.bare, ⟨I.base.keep, I.base.slot, fun b o h1 h2 h3 => ?_, I.base.there, fun b xs h1 => ?_, fun b o u h1 => ?_, fun b ps h1 => ?_⟩, I.loc, I.cell, ?_, fun x c hc => ?_, fun p hp => ?_, fun b u hb => ?_, I.len⟩
  · rw [upd_ne (old b o h1 h3)]; exact I.base.free b o h1 h2 h3
  · have z := I.base.tups b xs h1
    rw [upd_ne (ne b _ z)]; exact z
  · have z := I.base.frzs b o u h1
    rw [upd_ne (ne b _ z)]; exact z
  · obtain ⟨more, z⟩ := I.base.tbls b ps h1
    exact ⟨more, by rw [upd_ne (ne b _ z)]; exact z⟩
  · rw [upd_ne (Ne.symm f1)]; exact I.free
  · rw [upd_ne (f4 x c hc)]; exact I.freeC x c hc
  · obtain ⟨h1, h2, h3⟩ := I.pin p hp
    exact ⟨h1, by rw [upd_ne (f5 p hp)]; exact h2, h3⟩
  · by_cases z : b = e
    · subst z
      rw [upd_same] at hb
      cases hb
      exact xv_ok he
    · rw [upd_ne z] at hb
      refine (I.hok b u hb).stay (fun _ _ _ q => q) (fun c q => ?_) fun c xs q => ?_
      · rw [upd_ne (ne c _ q)]; exact q
      · rw [upd_ne (ne c _ q)]; exact q
end

/-- what is wanted of an exception of the body -/
def hand (X : Cx) (C : Addr) (i : Nat) (ts : TS) (D : Ends) : XK := fun c od H' => c = .ref C ∧ ∃ d, od = some d ∧ ∀ e, H' e = none →
  ts { nx := fun _ H2 => D.nx (none_ X) H2, rt := D.rt, bk := fun _ H2 => D.bk (none_ X) H2, ct := fun _ H2 => D.ct (none_ X) H2 } ((none_ X).set i (some (.ref e))) (upd H' e (XV e C d))
def tTry (X : Cx) (C : Addr) (i : Nat) (tb : XK → TS) (ts : TS) : TS := fun D σ H => tb (hand X C i ts D) D σ H
section
variable {X : Cx} {C f : Addr} {fl : List Str} {x n : Str} {np hpos pos : Pos} {body : List Stmt} {b0 : Stmt} {suite : List Stmt} {i : Nat} {tb : XK → TS} {ts : TS}
/-- the body of a try: another wish, the pins of all its states -/
abbrev Cx.tryc (X : Cx) (E : Value → Shared → Prop) (pn : List (Addr × Obj)) : Cx := { X with xe := E, pn := pn }
theorem Cx.Ok.tryc (ok : X.Ok) (E : Value → Shared → Prop) (pn : List (Addr × Obj)) : (X.tryc E pn).Ok :=
  ⟨ok.mod, ok.kind, ok.glob, ok.blt, ok.above, ok.inj, ok.has, ok.cab, ok.hd, ok.frames, ok.stk, ok.exf, ok.bs, ok.bsz, ok.noex, ok.exfs, ok.funs, ok.frf⟩
theorem Inv.tryc {pins : List (Addr × Obj)} {σ : St} {H : Hp} {s : Shared} (I : Inv X pins σ H s) (E : Value → Shared → Prop) : Inv (X.tryc E (X.pn ++ pins)) [] σ H s :=
  ⟨I.ok.tryc E _, I.os, I.bare, I.base, I.loc, I.cell, I.free, I.freeC, fun p hp => I.pin p (by rw [List.append_nil] at hp; exact hp), I.hok, I.len⟩
theorem Inv.untry {pins pins' : List (Addr × Obj)} {σ : St} {H : Hp} {s : Shared} {E : Value → Shared → Prop} (ok : X.Ok) (I : Inv (X.tryc E (X.pn ++ pins)) pins' σ H s) : Inv X pins σ H s :=
  ⟨ok, I.os, I.bare, I.base, I.loc, I.cell, I.free, I.freeC, fun p hp => I.pin p (List.mem_append_left _ hp), I.hok, I.len⟩
theorem FpOk.untry {pins pins' : List (Addr × Obj)} {H : Hp} {e : Addr} {E : Value → Shared → Prop} (F : FpOk (X.tryc E (X.pn ++ pins)) pins' H e) : FpOk X pins H e :=
  let ⟨f0, f1, f2, f3, f4, f5⟩ := F
  ⟨f0, f1, f2, f3, f4, fun p hp => f5 p (List.mem_append_left _ hp)⟩
theorem ps_try (hst : X.stack = X.env :: X.outer) (hfr : X.env.frame = some X.env.locals) (T : XCls X.K C f fl) (hg : Gl X x) (hm : X.mg x = some (.ref C)) (hN : X.N.Nodup) (hi : X.N[i]? = some n) (hl : X.env.kindOf n = some .local)
    (hb : ∀ (E1 : XK) (E' : Value → Shared → Prop) (pn : List (Addr × Obj)), Throws (X.tryc E' pn) E1 → PSs (X.tryc E' pn) body (tb E1)) (hs : ∀ e, PSs (X.exc e) (b0 :: suite) ts) (hdb : (x == ("__debug__" : Str)) = false := by decide) :
    PS X (.Try body [.ExceptHandler (some (.Name x np)) (some n) (b0 :: suite) hpos] [] [] pos) (tTry X C i tb ts) := by
  intro pins s σ H D I h
  refine wpAny_Try_except ?_
  have hp0 : (X.env.scope.kind == .class || (X.env.scope.kind == .module && X.env.locals != X.env.globals)) = false := by rw [I.ok.kind]; rfl
  have th : Throws (X.tryc (fun ev s1 => wpAny (model X.prog X.w) X.A (noteFrame ev X.env) (fun _ s2 => wpAny (model X.prog X.w) X.A (setFlight ev none) (fun _ s3 =>
      wpAny (model X.prog X.w) X.A (handleBy ev X.env [.ExceptHandler (some (.Name x np)) (some n) (b0 :: suite) hpos]) (SP X pins D) X.xe s3) X.xe s2) X.xe s1) (X.pn ++ pins)) (hand X C i ts D) := by
    intro pins' σ' H' s' e C' d I' t' fe' hE
    obtain ⟨z1, d', z2, hE⟩ := hE
    cases z1
    cases z2
    have I0 : Inv X pins σ' H' s' := I'.untry I.ok
    have fe : FpOk X pins H' e := fe'.untry
    refine note_ok (n := 0) I0 hst hfr t' fe (Nat.zero_le _) fun h1 I1 F1 => ?_
    refine land_ok I1 F1 (fun T hT fT => I0.fpOk hT fT) fun h2 I2 F2 => ?_
    refine wpAny_handleBy_cons (codeAny_handlers_test ?_) (by intro q; cases q)
    refine ld_glob (X := X.exc e) (I2.exc e) hg hm ?_ hdb
    obtain ⟨nm, qn, N, bs, sn, sub, ab, col, dd, k0, k1, k2, k3, k5, hC⟩ := T.xc I2.kIn
    obtain ⟨oe, vs, T0, oT, ts0, he, hc, _⟩ := F2.ex
    refine wpAny_excMatches_sub_self hC he hc (by decide +kernel) ?_
    refine codeAny_handlers_suite_as ?_
    refine land_ok I2 F2 (fun T hT fT => I0.fpOk hT fT) fun h3 I3 F3 => ?_
    have Ic := (I3.caught F3 fe).forget
    refine store_ok (v := .ref e) Ic hN hi (.inl hl) rfl (fun s4 I4 => ?_) (.inr hl)
    refine wpAny_mono (hs e pins s4 _ _ _ (I4.exc e) (hE e fe.1)) (fun fw s5 q => ?_) fun _ _ z => z.elim
    have fin : ∀ {σ5 : St} {H5 : Hp}, Inv (X.exc e) pins σ5 H5 s5 → ∀ {Q : Unit → Shared → Prop} {E : Value → Shared → Prop}, (∀ s6, Inv X pins (none_ X) H5 s6 → Q () s6) →
        wpAny (model X.prog X.w) X.A (do bindName X.env n .none; unbindBehindTheSuite X.env n hpos) Q E s5 := fun {σ5 H5} J {Q E} hq => by
      have J' : Inv X pins σ5 H5 s5 := J.unexc I.ok
      obtain ⟨m, hn, _⟩ := J'.loc
      exact wpAny_nameGoes hl hn hp0 fun h6 m6 n6 sb => hq _ (J'.relocal n6 sb)
    cases fw with
    | next =>
      obtain ⟨σ5, H5, J, q⟩ := q
      exact fin J fun s6 J6 => ⟨_, _, J6, q⟩
    | brk =>
      obtain ⟨σ5, H5, J, q⟩ := q
      exact fin J fun s6 J6 => ⟨_, _, J6, q⟩
    | cont =>
      obtain ⟨σ5, H5, J, q⟩ := q
      exact fin J fun s6 J6 => ⟨_, _, J6, q⟩
    | ret u =>
      obtain ⟨v, σ5, H5, J, rv, q⟩ := q
      exact fin J fun s6 J6 => ⟨v, _, _, J6, rv, q⟩
  refine wpAny_mono (hb (hand X C i ts D) _ _ th [] s σ H D (I.tryc _) h) (fun fw s1 q => ?_) fun _ _ z => z
  cases fw with
  | next =>
    obtain ⟨σ5, H5, J, q⟩ := q
    exact wpAny_execs_nil ⟨_, _, J.untry I.ok, q⟩
  | brk =>
    obtain ⟨σ5, H5, J, q⟩ := q
    exact ⟨_, _, J.untry I.ok, q⟩
  | cont =>
    obtain ⟨σ5, H5, J, q⟩ := q
    exact ⟨_, _, J.untry I.ok, q⟩
  | ret u =>
    obtain ⟨v, σ5, H5, J, rv, q⟩ := q
    exact ⟨v, _, _, J.untry I.ok, rv, q⟩
end
end L2

end
section
set_option Elab.async false
set_option linter.all false
set_option maxRecDepth 100000
set_option maxHeartbeats 4000000
namespace L2
open PySem PySem.Spec PyProof.Rows XL

/-! ### f-strings -/
abbrev TF := St → Hp → (Str → Hp → Prop) → Prop
abbrev TJ := Str → St → Hp → (Str → Hp → Prop) → Prop
def PF (X : Cx) (e : Expr) (t : TF) : Prop := ∀ (pins : List (Addr × Obj)) (s : Shared) (σ : St) (H : Hp) (Q : Str → Hp → Prop), Inv X pins σ H s → t σ H Q →
  wpAny (model X.prog X.w) X.A (eval e X.env) (fun v s' => ∃ y u H', v = .str y u ∧ Inv X pins σ H' s' ∧ Q y H') X.xe s
def PJ (X : Cx) (es : List Expr) (t : TJ) : Prop := ∀ (pins : List (Addr × Obj)) (s : Shared) (σ : St) (H : Hp) (acc : Str) (Q : Str → Hp → Prop), Inv X pins σ H s → t acc σ H Q →
  Joins (model X.prog X.w) X.A X.xe (evalEach es X.env) acc (fun out s' => ∃ H', Inv X pins σ H' s' ∧ Q out H') s
theorem joins_mono {M : Model} {A : Around} {E : Value → Shared → Prop} {Q Q' : Str → Shared → Prop} (hQ : ∀ x s, Q x s → Q' x s) : ∀ (l : List (Sem Value)) (acc : Str) (s : Shared), Joins M A E l acc Q s → Joins M A E l acc Q' s
  | [], acc, s, h => hQ acc s h
  | x :: r, acc, s, h => thn (show wpAny M A x _ E s from h) fun v s1 ⟨y, t, e1, e2, e3⟩ => ⟨y, t, e1, e2, joins_mono hQ r (acc ++ y) s1 e3⟩
section
variable {X : Cx} {e : Expr} {es : List Expr} {te : TE} {pos : Pos}
def fLit (x : Str) : TF := fun _ H Q => Q x H
def fInt (te : TE) : TF := fun σ H Q => te σ H fun x H1 => ∃ i, x = .int i ∧ i.natAbs.log2 < 1920 ∧ Q (toString i) H1
def fStr (te : TE) : TF := fun σ H Q => te σ H fun x H1 => ∃ z, x = .str z ∧ z.length ≤ sizeLine ∧ Q z H1
theorem pf_lit {x : Str} {j : Nat} : PF X (.Constant (.str x) j pos) (fLit x) := fun _ _ _ H _ I h => Calls.Constant_str ⟨x, _, H, rfl, I.tok _, h⟩
theorem pf_int (he : PE X e te) : PF X (.FormattedValue e (-1) none pos) (fInt te) := fun pins s σ H Q I h =>
  wpAny_FormattedValue_plain (thn (he pins s σ H _ I h) fun v s1 ⟨x, H1, I1, r, i, ex, hl, q⟩ => by
    subst ex
    obtain ⟨t, rfl⟩ := r
    exact wpAny_formatField_int hl ⟨_, _, H1, rfl, I1.tok _, q⟩)
theorem pf_str (he : PE X e te) : PF X (.FormattedValue e (-1) none pos) (fStr te) := fun pins s σ H Q I h =>
  wpAny_FormattedValue_plain (thn (he pins s σ H _ I h) fun v s1 ⟨x, H1, I1, r, z, ex, hl, q⟩ => by
    subst ex
    obtain ⟨t, rfl⟩ := r
    exact wpAny_formatField_str ⟨_, _, H1, rfl, I1, q⟩ ⟨_, _, H1, rfl, I1.tok _, q⟩ hl)
def jNil : TJ := fun acc _ H Q => Q acc H
def jCons (t : TF) (u : TJ) : TJ := fun acc σ H Q => t σ H fun y H1 => (acc ++ y).length ≤ sizeLine ∧ u (acc ++ y) σ H1 Q
theorem pj_nil : PJ X [] jNil := fun _ _ _ H acc _ I h => ⟨H, I, h⟩
theorem pj_cons {t : TF} {u : TJ} (h1 : PF X e t) (h2 : PJ X es u) (hs : evalEach (e :: es) X.env = eval e X.env :: evalEach es X.env := by rfl) : PJ X (e :: es) (jCons t u) := by
  intro pins s σ H acc Q I h
  rw [hs]
  exact thn (h1 pins s σ H _ I h) fun v s1 ⟨y, w, H1, ev, I1, hz, q⟩ => ⟨y, w, ev, hz, h2 pins s1 σ H1 _ Q I1 q⟩
def tFs (t : TJ) : TE := fun σ H Q => t Str.empty σ H fun out H1 => out.length ≤ sizeLine ∧ Q (.str out) H1
theorem pe_fs {e2 : Expr} {t : TJ} (h : PJ X (e :: e2 :: es) t) (hs : evalEach (e :: e2 :: es) X.env = eval e X.env :: eval e2 X.env :: evalEach es X.env := by rfl) : PE X (.JoinedStr (e :: e2 :: es) pos) (tFs t) := by
  intro pins s σ H Q I hq
  refine JoinedStr_many ?_
  rw [← hs]
  exact wpAny_joinPartsRec _ _ _ _ (joins_mono (fun out s1 ⟨H1, I1, hz, q⟩ => ⟨hz, ⟨.str out, H1, I1.tok _, ⟨_, rfl⟩, q⟩⟩) _ _ _ (h pins s σ H Str.empty _ I hq))
end
end L2

end
section
set_option Elab.async false
set_option linter.all false
set_option maxRecDepth 100000
set_option maxHeartbeats 4000000
namespace L2
open PySem PySem.Spec PyProof.Rows XL

/-! ### try: .. except C: .. (no name) -/
def hand0 (X : Cx) (C : Addr) (ts : TS) (D : Ends) : XK := fun c _ H' => c = .ref C ∧ ts D (none_ X) H'
def tTry0 (X : Cx) (C : Addr) (tb : XK → TS) (ts : TS) : TS := fun D σ H => tb (hand0 X C ts D) D σ H
section
variable {X : Cx} {C f : Addr} {fl : List Str} {x : Str} {np hpos pos : Pos} {body : List Stmt} {b0 : Stmt} {suite : List Stmt} {tb : XK → TS} {ts : TS}
theorem ps_try0 (hst : X.stack = X.env :: X.outer) (hfr : X.env.frame = some X.env.locals) (T : XCls X.K C f fl) (hg : Gl X x) (hm : X.mg x = some (.ref C))
    (hb : ∀ (E1 : XK) (E' : Value → Shared → Prop) (pn : List (Addr × Obj)), Throws (X.tryc E' pn) E1 → PSs (X.tryc E' pn) body (tb E1)) (hs : ∀ e, PSs (X.exc e) (b0 :: suite) ts) (hdb : (x == ("__debug__" : Str)) = false := by decide) :
    PS X (.Try body [.ExceptHandler (some (.Name x np)) none (b0 :: suite) hpos] [] [] pos) (tTry0 X C tb ts) := by
  intro pins s σ H D I h
  refine wpAny_Try_except ?_
  have th : Throws (X.tryc (fun ev s1 => wpAny (model X.prog X.w) X.A (noteFrame ev X.env) (fun _ s2 => wpAny (model X.prog X.w) X.A (setFlight ev none) (fun _ s3 =>
      wpAny (model X.prog X.w) X.A (handleBy ev X.env [.ExceptHandler (some (.Name x np)) none (b0 :: suite) hpos]) (SP X pins D) X.xe s3) X.xe s2) X.xe s1) (X.pn ++ pins)) (hand0 X C ts D) := by
    intro pins' σ' H' s' e C' d I' t' fe' hE
    obtain ⟨z1, hE⟩ := hE
    cases z1
    have I0 : Inv X pins σ' H' s' := I'.untry I.ok
    have fe : FpOk X pins H' e := fe'.untry
    refine note_ok (n := 0) I0 hst hfr t' fe (Nat.zero_le _) fun h1 I1 F1 => ?_
    refine land_ok I1 F1 (fun T hT fT => I0.fpOk hT fT) fun h2 I2 F2 => ?_
    refine wpAny_handleBy_cons (codeAny_handlers_test ?_) (by intro q; cases q)
    refine ld_glob (X := X.exc e) (I2.exc e) hg hm ?_ hdb
    obtain ⟨nm, qn, N, bs, sn, sub, ab, col, dd, k0, k1, k2, k3, k5, hC⟩ := T.xc I2.kIn
    obtain ⟨oe, vs, T0, oT, ts0, he, hc, _⟩ := F2.ex
    refine wpAny_excMatches_sub_self hC he hc (by decide +kernel) ?_
    refine codeAny_handlers_suite ?_
    refine land_ok I2 F2 (fun T hT fT => I0.fpOk hT fT) fun h3 I3 F3 => ?_
    refine wpAny_mono (hs e pins _ _ _ D (I3.forget.exc e) hE) (fun fw s5 q => ?_) fun _ _ z => z.elim
    cases fw with
    | next =>
      obtain ⟨σ5, H5, J, q⟩ := q
      exact ⟨_, _, J.unexc I.ok, q⟩
    | brk =>
      obtain ⟨σ5, H5, J, q⟩ := q
      exact ⟨_, _, J.unexc I.ok, q⟩
    | cont =>
      obtain ⟨σ5, H5, J, q⟩ := q
      exact ⟨_, _, J.unexc I.ok, q⟩
    | ret u =>
      obtain ⟨v, σ5, H5, J, rv, q⟩ := q
      exact ⟨v, _, _, J.unexc I.ok, rv, q⟩
  refine wpAny_mono (hb (hand0 X C ts D) _ _ th [] s σ H D (I.tryc _) h) (fun fw s1 q => ?_) fun _ _ z => z
  cases fw with
  | next =>
    obtain ⟨σ5, H5, J, q⟩ := q
    exact wpAny_execs_nil ⟨_, _, J.untry I.ok, q⟩
  | brk =>
    obtain ⟨σ5, H5, J, q⟩ := q
    exact ⟨_, _, J.untry I.ok, q⟩
  | cont =>
    obtain ⟨σ5, H5, J, q⟩ := q
    exact ⟨_, _, J.untry I.ok, q⟩
  | ret u =>
    obtain ⟨v, σ5, H5, J, rv, q⟩ := q
    exact ⟨v, _, _, J.untry I.ok, rv, q⟩
end
end L2

end
section
set_option Elab.async false
set_option linter.all false
set_option maxRecDepth 100000
set_option maxHeartbeats 4000000
namespace Off
open PySem PySem.Spec PyProof.Rows L2 XL
def top (i : Nat) : Stmt := PySem.Challenge.pw_offsettables_s01_answers.main.body.getD i (.Pass ⟨0, 0, 0, 0⟩)

/-! ### a def of the text: where it stands, how it is called -/
structure Fd (K : PySem.W.Frag) (mg : Str → Option Value) (x : Str) (st : Stmt) (ps : List Str) where
  f : Addr
  fd : FuncData
  F : Fun K x x st f fd
  b : Binds K fd ps []
  m : mg x = some (.ref f)
/-- a number of the module -/
def Num (mg : Str → Option Value) (x : Str) (i : Int) : Prop := ∃ t, mg x = some (.int i t)
section
variable {X : Cx}
theorem pn {x : Str} {i : Int} {pos : Pos} (h : Num X.mg x i) (hg : Gl X x := by rfl) (hd : (x == ("__debug__" : Str)) = false := by decide) : PE X (.Name x pos) (tC (.int i)) :=
  let ⟨t, h⟩ := h
  pe_glob (v := .int i) hg h ⟨t, rfl⟩ hd
end

/-! ### measures.written -/
abbrev sWritten : Stmt := top 11
/-- bytes as signs -/
def sg (b : Loft.Bytes) : List Nat := b.map (·.toNat)
def Txt (x : Str) (b : Loft.Bytes) : Prop := x.cps.toList = sg b
theorem Txt.app {x y : Str} {a b : Loft.Bytes} (h1 : Txt x a) (h2 : Txt y b) : Txt (x ++ y) (a ++ b) := by
  unfold Txt sg at *
  rw [cps_toList_append, h1, h2, List.map_append]
theorem digit_small : ∀ (c : Char), c.isDigit = true → (UInt8.ofNat c.toNat).toNat = c.toNat := fun c h => by
  have h1 : c.toNat ≤ 57 := by
    unfold Char.isDigit at h
    rw [Bool.and_eq_true, decide_eq_true_eq, decide_eq_true_eq] at h
    exact UInt32.le_iff_toNat_le.mp h.2
  rw [UInt8.toNat_ofNat']
  exact Nat.mod_eq_of_lt (by omega)
theorem txt_num (n : Nat) : Txt (PySem.Str.ofString (toString ((n : Nat) : Int))) (Loft.decimal n) := by
  unfold Txt sg Loft.decimal
  rw [PySem.W.KIN.signs_num, List.map_map]
  refine List.map_congr_left fun c hc => ?_
  exact (digit_small c (Nat.isDigit_of_mem_toDigits (by decide) (by decide) hc)).symm
theorem txt_empty : Txt Str.empty [] := rfl
theorem txt_dash : Txt "-" [45] := by
  show (Str.ofString "-").cps.toList = [45]
  decide +kernel
theorem txt_plus : Txt "+" [43] := by
  show (Str.ofString "+").cps.toList = [43]
  decide +kernel
theorem txt_no : Txt "" [] := by
  show (Str.ofString "").cps.toList = []
  decide +kernel
theorem Txt.len {x : Str} {b : Loft.Bytes} (h : Txt x b) : x.length = b.length := by
  have e := congrArg List.length h
  unfold sg at e
  rw [List.length_map, Array.length_toList] at e
  exact e
theorem dec_len : ∀ n : Nat, n < 10000 → (Loft.decimal n).length ≤ 4 := by
  intro n h
  unfold Loft.decimal
  rw [List.length_map]
  exact (Nat.length_toDigits_le_iff (by decide) (by decide)).mpr h
theorem log_small {n : Nat} (h : n ≤ 1048575) : n.log2 < 1920 := by
  by_cases z : n = 0
  · subst z; decide
  · have := (Nat.log2_lt z).mpr (Nat.lt_of_le_of_lt h (by decide : 1048575 < 2 ^ 20))
    omega
def spWritten : Sp := fun vs H Q _ => ∃ z : Int, vs = [.int z] ∧ z.natAbs ≤ 1048575 ∧ ∀ x, Txt x (Loft.writing z) → x.length ≤ 40 → Q (.str x) H
theorem scWritten : FnScope ["measure", "size", "sign", "feet", "inches", "eighths", "more"] ["measure"] (defScope sWritten) := ⟨rfl, rfl, rfl, by decide +kernel, rfl, by decide +kernel, by decide +kernel⟩
section
variable {P : Program} {w : World} {K : PySem.W.Frag} {mg : Str → Option Value} {base : Heap}
theorem ok_written {f : Addr} {fd : FuncData} (F : Fun K "written" "written" sWritten f fd) (cF : Num mg "FOOT" 192) (cI : Num mg "INCH" 16) (cE : Num mg "EIGHTH" 2) (bA : mg "abs" = none) :
    FnOk P w K mg base CX0 1 f fd ["measure"] spWritten := by
  refine F.ok scWritten (fun vs H Q E h => ?_) (fun cdv A outer s H vs Q E hr h => ?_)
  · obtain ⟨z, rfl, _⟩ := h
    rfl
  · obtain ⟨z, rfl, hz, k⟩ := h
    refine ⟨_, pss_cons (ps_set (i := 1) scWritten.nd rfl (Or.inl rfl) (pe_callB call_abs (by rfl) bA boot_abs (pa_cons (pv 0) pa_nil))) <|
      pss_cons (ps_set (i := 2) scWritten.nd rfl (Or.inl rfl) (pe_ifExp (pt_cmpR op_lt (pv 0) pe_int (nomark _)) pe_str pe_str)) <|
      pss_cons (ps_set (i := 3) scWritten.nd rfl (Or.inl rfl) (pe_op op_fdiv (pv 1) (pn cF))) <|
      pss_cons (ps_set (i := 4) scWritten.nd rfl (Or.inl rfl) (pe_op op_fdiv (pe_op op_mod (pv 1) (pn cF)) (pn cI))) <|
      pss_cons (ps_set (i := 5) scWritten.nd rfl (Or.inl rfl) (pe_op op_fdiv (pe_op op_mod (pv 1) (pn cI)) (pn cE))) <|
      pss_cons (ps_set (i := 6) scWritten.nd rfl (Or.inl rfl) (pe_ifExp (pt_cmpR op_eq (pe_op op_mod (pv 1) (pn cE)) pe_int (nomark _)) pe_str pe_str)) <|
      pss_one (ps_ret (pe_fs (pj_cons (pf_str (pv 2)) <| pj_cons (pf_int (pv 3)) <| pj_cons pf_lit <| pj_cons (pf_int (pv 4)) <| pj_cons pf_lit <| pj_cons (pf_int (pv 5)) <| pj_cons (pf_str (pv 6)) pj_nil))), ?_⟩
    refine ⟨_, rfl, _, rfl, ?_⟩
    have e0 : (if z < 0 then -z else z) = ((z.natAbs : Nat) : Int) := by split <;> omega
    rw [e0]
    have a1 : ((z.natAbs : Nat) : Int) / 192 = ((z.natAbs / 192 : Nat) : Int) := by omega
    have a2 : ((z.natAbs : Nat) : Int) % 192 / 16 = ((z.natAbs / 16 % 12 : Nat) : Int) := by omega
    have a3 : ((z.natAbs : Nat) : Int) % 16 / 2 = ((z.natAbs / 2 % 8 : Nat) : Int) := by omega
    have a4 : (((z.natAbs : Nat) : Int) % 2 = 1) ↔ z.natAbs % 2 = 1 := by omega
    have main : ∀ sgn pl : Str, sgn.length ≤ 1 → pl.length ≤ 1 → Txt sgn (if z < 0 then [45] else []) → Txt pl (if z.natAbs % 2 = 1 then [43] else []) →
        tRet (tFs (jCons (fStr (tVar 2)) <| jCons (fInt (tVar 3)) <| jCons (fLit "-") <| jCons (fInt (tVar 4)) <| jCons (fLit "-") <| jCons (fInt (tVar 5)) <| jCons (fStr (tVar 6)) jNil)) { nx := fun _ H' => Q .non H', rt := Q }
          [some (.int z), some (.int (z.natAbs : Nat)), some (.str sgn), some (.int (((z.natAbs : Nat) : Int) / 192)), some (.int (((z.natAbs : Nat) : Int) % 192 / 16)), some (.int (((z.natAbs : Nat) : Int) % 16 / 2)), some (.str pl)] H := by
      intro sgn pl l1 l2 t1 t2
      rw [a1, a2, a3]
      have t3 := t1.app (txt_num (z.natAbs / 192))
      have t4 := t3.app txt_dash
      have t5 := t4.app (txt_num (z.natAbs / 16 % 12))
      have t6 := t5.app txt_dash
      have t7 := t6.app (txt_num (z.natAbs / 2 % 8))
      have t8 := t7.app t2
      have z1 := dec_len (z.natAbs / 192) (by omega)
      have z2 := dec_len (z.natAbs / 16 % 12) (by omega)
      have z3 := dec_len (z.natAbs / 2 % 8) (by omega)
      have z4 : (if z < 0 then ([45] : Loft.Bytes) else []).length ≤ 1 := by split <;> decide
      have z5 : (if z.natAbs % 2 = 1 then ([43] : Loft.Bytes) else []).length ≤ 1 := by split <;> decide
      have k3 := t3.len; have k4 := t4.len; have k5 := t5.len; have k6 := t6.len; have k7 := t7.len; have k8 := t8.len
      simp only [List.length_append, List.length_cons, List.length_nil] at k3 k4 k5 k6 k7 k8
      have zl : (100 : Nat) ≤ sizeLine := by decide
      have ep : ∀ x : Str, Str.empty ++ x = x := fun x => by
        have : (Str.empty ++ x).cps = x.cps := by
          show Str.empty.cps ++ x.cps = x.cps
          simp [Str.empty]
        exact congrArg Str.mk this
      refine ⟨_, rfl, _, rfl, by omega, by rw [ep]; omega, ?_⟩
      rw [ep]
      refine ⟨_, rfl, _, rfl, log_small (by omega), by show (sgn ++ _).length ≤ _; omega, by show (sgn ++ _ ++ _).length ≤ _; omega, ?_⟩
      refine ⟨_, rfl, _, rfl, log_small (by omega), by show (sgn ++ _ ++ _ ++ _).length ≤ _; omega, by show (sgn ++ _ ++ _ ++ _ ++ _).length ≤ _; omega, ?_⟩
      refine ⟨_, rfl, _, rfl, log_small (by omega), by show (sgn ++ _ ++ _ ++ _ ++ _ ++ _).length ≤ _; omega, ?_⟩
      refine ⟨_, rfl, _, rfl, by omega, by show (sgn ++ _ ++ _ ++ _ ++ _ ++ _ ++ _).length ≤ _; omega, by show (sgn ++ _ ++ _ ++ _ ++ _ ++ _ ++ _).length ≤ _; omega, ?_⟩
      refine k _ ?_ (by show (sgn ++ _ ++ _ ++ _ ++ _ ++ _ ++ _).length ≤ _; omega)
      have e9 : Loft.writing z = ((((((if z < 0 then [45] else []) ++ Loft.decimal (z.natAbs / 192)) ++ [45]) ++ Loft.decimal (z.natAbs / 16 % 12)) ++ [45]) ++ Loft.decimal (z.natAbs / 2 % 8)) ++ (if z.natAbs % 2 = 1 then [43] else []) := by
        unfold Loft.writing Loft.FOOT Loft.INCH
        simp only [List.append_assoc, List.cons_append, List.nil_append]
      rw [e9]
      exact t8
    have tS1 : z < 0 → Txt "-" (if z < 0 then [45] else []) := fun h => by rw [if_pos h]; exact txt_dash
    have tS0 : ¬ z < 0 → Txt "" (if z < 0 then [45] else []) := fun h => by rw [if_neg h]; exact txt_no
    have tP1 : ((z.natAbs : Nat) : Int) % 2 = 1 → Txt "+" (if z.natAbs % 2 = 1 then [43] else []) := fun h => by rw [if_pos (a4.mp h)]; exact txt_plus
    have tP0 : ¬ ((z.natAbs : Nat) : Int) % 2 = 1 → Txt "" (if z.natAbs % 2 = 1 then [43] else []) := fun h => by rw [if_neg (fun q => h (a4.mpr q))]; exact txt_no
    -- sign
    refine ⟨_, rfl, _, _, rfl, rfl, _, rfl, ?_⟩
    refine ite2 (fun h1 => ?_) (fun h1 => ?_)
    all_goals
      refine ⟨_, rfl, _, _, rfl, rfl, ⟨by decide, by decide⟩, ?_⟩
      refine ⟨_, rfl, _, _, rfl, rfl, (by show (0 : Int) < 192; decide), _, _, rfl, rfl, ⟨by decide, by decide⟩, ?_⟩
      refine ⟨_, rfl, _, _, rfl, rfl, (by show (0 : Int) < 16; decide), _, _, rfl, rfl, ⟨by decide, by decide⟩, ?_⟩
      refine ⟨_, rfl, _, _, rfl, rfl, (by show (0 : Int) < 2; decide), rfl, _, rfl, ?_⟩
      refine ite2 (fun h2 => ?_) (fun h2 => ?_)
    · exact main _ _ (by decide +kernel) (by decide +kernel) (tS1 (of_decide_eq_true h1)) (tP1 (V.int.inj (of_decide_eq_true h2)))
    · exact main _ _ (by decide +kernel) (by decide +kernel) (tS1 (of_decide_eq_true h1)) (tP0 fun q => h2 (decide_eq_true (congrArg V.int q)))
    · exact main _ _ (by decide +kernel) (by decide +kernel) (tS0 fun q => h1 (decide_eq_true q)) (tP1 (V.int.inj (of_decide_eq_true h2)))
    · exact main _ _ (by decide +kernel) (by decide +kernel) (tS0 fun q => h1 (decide_eq_true q)) (tP0 fun q => h2 (decide_eq_true (congrArg V.int q)))
end
/-! ### measures.is_measure -/
abbrev sIsMeasure : Stmt := top 10
def okM (least z : Int) : Bool := decide (least ≤ z) && decide (z ≤ 1048575)
theorem okM_t {l z : Int} (h1 : l ≤ z) (h2 : z ≤ 1048575) : okM l z = true := by
  unfold okM
  rw [decide_eq_true h1, decide_eq_true h2]
  rfl
theorem okM_f {l z : Int} (h : z < l ∨ 1048575 < z) : okM l z = false := by
  unfold okM
  rcases h with h | h
  · rw [decide_eq_false (by omega : ¬ l ≤ z)]
    rfl
  · rw [decide_eq_false (by omega : ¬ z ≤ 1048575), Bool.and_false]
def spIsMeasure : Sp := fun vs H Q _ => ∃ z l : Int, vs = [.int z, .int l] ∧ Q (.bl (okM l z)) H
theorem scIsMeasure : FnScope ["number", "least"] ["number", "least"] (defScope sIsMeasure) := ⟨rfl, rfl, rfl, by decide +kernel, rfl, by decide +kernel, by decide +kernel⟩
section
variable {P : Program} {w : World} {K : PySem.W.Frag} {mg : Str → Option Value} {base : Heap}
theorem ok_isMeasure (I : Fd K mg "is_measure" sIsMeasure ["number", "least"]) (cL : Num mg "LARGEST" 1048575) : FnOk P w K mg base CX0 1 I.f I.fd ["number", "least"] spIsMeasure := by
  refine I.F.ok scIsMeasure (fun vs H Q E h => ?_) (fun cdv A outer s H vs Q E hr h => ?_)
  · obtain ⟨z, l, rfl, _⟩ := h
    rfl
  · obtain ⟨z, l, rfl, q⟩ := h
    refine ⟨_, pss_one (ps_ret (pe_chain op_le op_le (pv 1) (pv 0) (pn cL))), ?_⟩
    refine ⟨_, rfl, _, rfl, _, _, rfl, rfl, _, rfl, ?_⟩
    unfold okM at q
    refine ite2 (fun h => ?_) (fun h => ?_)
    · refine ⟨_, _, rfl, rfl, ?_⟩
      rw [decide_eq_true (of_decide_eq_true h)] at q
      exact q
    · rw [decide_eq_false (fun z => h (decide_eq_true z))] at q
      exact q
end
end Off

end
section
set_option Elab.async false
set_option linter.all false
set_option maxRecDepth 100000
set_option maxHeartbeats 4000000
namespace Off
open PySem PySem.Spec PyProof.Rows L2 XL
open Loft (Bytes Rest Got)

/-! ### reading.py: the text by places -/
abbrev sFaultI : Stmt := inClass (top 33) 0
abbrev sCurI : Stmt := inClass (top 34) 0
abbrev sCurB : Stmt := inClass (top 34) 1
abbrev sCurA : Stmt := inClass (top 34) 2
abbrev sIsDigit : Stmt := top 35
abbrev sTakeByte : Stmt := top 36
abbrev sTakeWord : Stmt := top 37
abbrev sTakeIf : Stmt := top 38
abbrev sTakeDigit : Stmt := top 39
abbrev sTakeFeet : Stmt := top 40
abbrev sTakeInches : Stmt := top 41
abbrev sCheckWhole : Stmt := top 42
abbrev sTakeMeasure : Stmt := top 43
abbrev sTakeRising : Stmt := top 44
abbrev sTakeBlank : Stmt := top 45
abbrev sTakeLineEnd : Stmt := top 46
abbrev sTakeStations : Stmt := top 47
abbrev sTakeHeight : Stmt := top 48
abbrev sTakeHalf : Stmt := top 49
abbrev sTableOf : Stmt := top 50
abbrev sMeasureOf : Stmt := top 51

/-! ### attributes by name -/
theorem put2 {a b : Str} (h : ¬ a = b) (x y : V) : putF b y (putF a x []) = [(a, x), (b, y)] := by
  show (if a = b then [(a, y)] else (a, x) :: putF b y []) = _
  rw [if_neg h]
  rfl
/-! ### what a fault bears -/
def fltF (k p : Int) : List (Str × V) := putF "place" (.int p) [("kind", .int k)]
theorem flt_kp : ¬ (("place" : Str) = "kind") := by decide +kernel
theorem flt_kind (k p : Int) : (fltF k p).lookup ("kind" : Str) = some (.int k) := by
  unfold fltF
  rw [lookup_putF, if_neg (fun q => flt_kp q.symm), List.lookup_cons_self]
theorem flt_place (k p : Int) : (fltF k p).lookup ("place" : Str) = some (.int p) := by
  unfold fltF
  rw [lookup_putF, if_pos rfl]
/-! ### a cursor -/
def curF (ta : Addr) (p : Int) : List (Str × V) := putF "place" (.int p) (putF "text" (.ref ta) [])
theorem cur_tp : ¬ (("text" : Str) = "place") := by decide +kernel
theorem cur_text (ta : Addr) (p : Int) : (curF ta p).lookup ("text" : Str) = some (.ref ta) := by
  unfold curF
  rw [lookup_putF, if_neg cur_tp, lookup_putF, if_pos rfl]
theorem cur_place (ta : Addr) (p : Int) : (curF ta p).lookup ("place" : Str) = some (.int p) := by
  unfold curF
  rw [lookup_putF, if_pos rfl]
theorem cur_no (ta : Addr) (p : Int) {m : Str} (h1 : ¬ m = "place") (h2 : ¬ m = "text") : (curF ta p).lookup m = none := by
  unfold curF
  rw [lookup_putF, if_neg h1, lookup_putF, if_neg h2]
  rfl
theorem cur_put (ta : Addr) (p q : Int) : putF "place" (.int q) (curF ta p) = curF ta q := by
  unfold curF
  rw [put2 cur_tp, put2 cur_tp]
  show (if ("text" : Str) = "place" then _ else (("text" : Str), V.ref ta) :: (if ("place" : Str) = "place" then [(("place" : Str), V.int q)] else _)) = _
  rw [if_neg cur_tp, if_pos rfl]
theorem cur_len (ta : Addr) (p : Int) : (curF ta p).length = 2 := by
  unfold curF
  rw [put2 cur_tp]
  rfl
/-- bytes as numbers -/
def bv (b : Bytes) : List V := b.map fun c => V.int (c.toNat : Int)
structure CurAt (C : Addr) (H : Hp) (c ta : Addr) (b : Bytes) (p : Nat) : Prop where
  ob : ∃ dx, H c = some (.ins C dx (curF ta (p : Int)))
  tx : H ta = some (.lst (bv b))
  le : p ≤ b.length
  sm : b.length ≤ 30000
/-- all but the thing at c is as it was -/
def Kp (H H' : Hp) (c : Addr) : Prop := ∀ x o, H x = some o → x ≠ c → H' x = some o
theorem Kp.refl (H : Hp) (c : Addr) : Kp H H c := fun _ _ h _ => h
theorem Kp.trans {H H1 H2 : Hp} {c : Addr} (a : Kp H H1 c) (b : Kp H1 H2 c) : Kp H H2 c := fun x o h n => b x o (a x o h n) n
theorem CurAt.ne {C : Addr} {H : Hp} {c ta : Addr} {b : Bytes} {p : Nat} (A : CurAt C H c ta b p) : ta ≠ c := by
  obtain ⟨dx, h⟩ := A.ob
  exact ne_of A.tx h (by intro z; cases z)
/-- the byte there; 256: the end -/
def byteAt (b : Bytes) (p : Nat) : Int := match b[p]? with
  | some c => (c.toNat : Int)
  | none => 256
def rst (b : Bytes) (p : Nat) : Rest := ⟨b.drop p, p⟩
theorem rst_on (b : Bytes) (p n : Nat) : (rst b p).on n = rst b (p + n) := by
  unfold rst Rest.on
  rw [List.drop_drop]
theorem rst_head (b : Bytes) (p : Nat) : (rst b p).text.head? = b[p]? := by
  unfold rst
  rw [List.head?_drop]
/-- what is wanted behind a fault -/
def FltE (CF : Addr) (E : XK) (H : Hp) (c : Addr) (k p : Nat) : Prop := ∀ (H' : Hp) (dx : Addr), H' dx = some (XD dx (fltF k p)) → Kp H H' c → E (.ref CF) (some dx) H'
theorem FltE.on {CF : Addr} {E : XK} {H H1 : Hp} {c : Addr} {k p : Nat} (f : FltE CF E H c k p) (kp : Kp H H1 c) : FltE CF E H1 c k p := fun H' dx h k2 => f H' dx h (kp.trans k2)
/-- .. behind something read -/
def Res {α : Type} (C CF : Addr) (H : Hp) (c ta : Addr) (b : Bytes) (Q : VK) (E : XK) (enc : α → V) (g : Got α) : Prop := match g with
  | .ok v r => ∀ H' : Hp, CurAt C H' c ta b r.at_ → Kp H H' c → Q (enc v) H'
  | .bad k p => FltE CF E H c k p
end Off

end
section
set_option Elab.async false
set_option linter.all false
set_option maxRecDepth 100000
set_option maxHeartbeats 4000000
namespace Off
open PySem PySem.Spec PyProof.Rows L2 XL
open Loft (Bytes Rest Got)

/-! ### what the text of reading.py has -/
structure TxR (K : PySem.W.Frag) (mg : Str → Option Value) where
  CF : Addr
  fF : Addr
  fdF : FuncData
  xF : XCls K CF fF ["kind", "place"]
  FF : Fun K "__init__" "Fault.__init__" sFaultI fF fdF
  bF : Binds K fdF ["self", "kind", "place"] []
  mF : mg "Fault" = some (.ref CF)
  C : Addr
  cl : Cls K C
  nT : NoAttr K C "text"
  nP : NoAttr K C "place"
  mC : mg "Cursor" = some (.ref C)
  fI : Addr
  fdI : FuncData
  mkC : Mk K C fI
  FI : Fun K "__init__" "Cursor.__init__" sCurI fI fdI
  bI : Binds K fdI ["self", "text"] []
  fB : Addr
  fdB : FuncData
  mB : Meth K C "byte" fB
  FB : Fun K "byte" "Cursor.byte" sCurB fB fdB
  bB : Binds K fdB ["self"] []
  fA : Addr
  fdA : FuncData
  mA : Meth K C "advance" fA
  FA : Fun K "advance" "Cursor.advance" sCurA fA fdA
  bA : Binds K fdA ["self"] []
  nSHAPE : Num mg "SHAPE" 1
  nNOMEAS : Num mg "NO_MEASURE" 2
  nNOTRIS : Num mg "NOT_RISING" 3
  nCOUNT : Num mg "COUNT" 4
  nLINE : Num mg "LINE_END" 10
  nBLANK : Num mg "BLANK" 32
  nPLUS : Num mg "PLUS" 43
  nDASH : Num mg "DASH" 45
  nZERO : Num mg "ZERO" 48
  nCOLON : Num mg "COLON" 58
  nNOBYTE : Num mg "NO_BYTE" 256
  nMF : Num mg "MOST_FEET" 5461
  nMI : Num mg "MOST_INCHES" 11
  nME : Num mg "MOST_EIGHTHS" 7
  nFOOT : Num mg "FOOT" 192
  nINCH : Num mg "INCH" 16
  nEIGHTH : Num mg "EIGHTH" 2
  nLARGEST : Num mg "LARGEST" 1048575
  nFEW : Num mg "FEWEST" 2
  nMS : Num mg "MOST_STATIONS" 24
  nML : Num mg "MOST_LEVELS" 16
  len : mg "len" = none
  min : mg "min" = none
  ord : mg "ord" = none
  isDigit : Fd K mg "is_digit" sIsDigit ["byte"]
  takeByte : Fd K mg "take_byte" sTakeByte ["cursor", "byte"]
  takeWord : Fd K mg "take_word" sTakeWord ["cursor", "word"]
  takeIf : Fd K mg "take_if_there" sTakeIf ["cursor", "byte"]
  takeDigit : Fd K mg "take_digit" sTakeDigit ["cursor"]
  takeFeet : Fd K mg "take_feet" sTakeFeet ["cursor"]
  takeInches : Fd K mg "take_inches" sTakeInches ["cursor"]
  checkWhole : Fd K mg "check_whole" sCheckWhole ["cursor"]
  takeMeasure : Fd K mg "take_measure" sTakeMeasure ["cursor", "least"]
  takeRising : Fd K mg "take_rising" sTakeRising ["cursor", "least", "before"]
  takeBlank : Fd K mg "take_blank" sTakeBlank ["cursor", "count", "most"]
  takeLineEnd : Fd K mg "take_line_end" sTakeLineEnd ["cursor", "count", "fewest"]
  takeStations : Fd K mg "take_stations" sTakeStations ["cursor"]
  takeHeight : Fd K mg "take_height" sTakeHeight ["cursor", "heights"]
  takeHalf : Fd K mg "take_half_breadths" sTakeHalf ["cursor", "stations"]
  tableOf : Fd K mg "table_of" sTableOf ["text"]
  isMeasure : Fd K mg "is_measure" sIsMeasure ["number", "least"]
  measureOf : Fd K mg "measure_of" sMeasureOf ["text"]

/-! ### promises -/
def spFault (CF : Addr) : Sp := fun vs H Q _ => ∃ (e t : Addr) (k p : Int), vs = [.ref e, .int k, .int p] ∧ H e = some (XO e CF none t) ∧
  ∀ (d : Addr) (H' : Hp), H d = none → d ≠ e → H' e = some (XO e CF (some d) t) → H' d = some (XD d (fltF k p)) → (∀ x o, H x = some o → x ≠ e → H' x = some o) → Q .non H'
def spByteM (C : Addr) : Sp := fun vs H Q _ => ∃ (c ta : Addr) (b : Bytes) (p : Nat), vs = [.ref c] ∧ CurAt C H c ta b p ∧ Q (.int (byteAt b p)) H
def spAdv (C : Addr) : Sp := fun vs H Q _ => ∃ (c ta : Addr) (b : Bytes) (p : Nat), vs = [.ref c] ∧ CurAt C H c ta b p ∧ p < b.length ∧ ∀ H', CurAt C H' c ta b (p + 1) → Kp H H' c → Q .non H'
def spCurI (C : Addr) : Sp := fun vs H Q _ => ∃ (c ta dx : Addr) (b : Bytes), vs = [.ref c, .ref ta] ∧ H c = some (.ins C dx []) ∧ H ta = some (.lst (bv b)) ∧ b.length ≤ 30000 ∧ ∀ H', CurAt C H' c ta b 0 → Kp H H' c → Q .non H'
def isDig (x : Int) : Bool := decide (48 ≤ x) && decide (x ≤ 57)
def spIsDigit : Sp := fun vs H Q _ => ∃ x : Int, vs = [.int x] ∧ Q (.bl (isDig x)) H

section
variable {P : Program} {w : World} {K : PySem.W.Frag} {mg : Str → Option Value} {base : Heap}
theorem scFault : FnScope ["self", "kind", "place"] ["self", "kind", "place"] (defScope sFaultI) := ⟨rfl, rfl, rfl, by decide +kernel, rfl, by decide +kernel, by decide +kernel⟩
theorem ok_fault (T : TxR K mg) : FnOk P w K mg base CX0 1 T.fF T.fdF ["self", "kind", "place"] (spFault T.CF) := by
  refine T.FF.ok scFault (fun vs H Q E h => ?_) (fun cdv A outer s H vs Q E hr h => ?_)
  · obtain ⟨e, t, k, p, rfl, _⟩ := h
    rfl
  · obtain ⟨e, t, k, p, rfl, he, kk⟩ := h
    refine ⟨_, pss_cons (ps_xset0 (pv 0) (pv 1) rfl) (pss_one (ps_xset1 (pv 0) (pv 2) rfl)), ?_⟩
    refine ⟨_, rfl, _, rfl, e, T.CF, t, rfl, he, ⟨_, _, T.xF, by simp⟩, fun d hd => ?_⟩
    have ned : d ≠ e := (ne_of_none he hd).symm
    refine ⟨_, rfl, _, rfl, e, T.CF, t, d, _, rfl, upd_same, by rw [upd_ne ned, upd_same], ⟨_, _, T.xF, by simp⟩, by show 1 < 1000; decide, ?_⟩
    refine kk d _ hd ned (by rw [upd_ne ned.symm, upd_same]) upd_same fun x o hx hxe => ?_
    rw [upd_ne (ne_of_none hx hd), upd_ne hxe, upd_ne (ne_of_none hx hd)]
    exact hx
/-- a fault raised -/
theorem raise_flt {CF : Addr} {E : XK} {H : Hp} {c x t0 : Addr} {k p : Nat} {k' p' : Int} (f : FltE CF E H c k p) (ek : k' = (k : Int)) (ep : p' = (p : Int)) (hx : H x = none) :
    spFault CF [.ref x, .int k', .int p'] (upd H x (XO x CF none t0)) (fun v H2 => v = .non ∧ ∃ d, H2 x = some (XO x CF (some d) t0) ∧ E (.ref CF) (some d) (off H2 x)) E0 := by
  subst ek ep
  refine ⟨x, t0, k, p, rfl, upd_same, fun d H' hd hdx h1 h2 h3 => ⟨rfl, d, h1, f _ d (by rw [off_ne hdx]; exact h2) fun y o hy _ => ?_⟩⟩
  have hyx : y ≠ x := ne_of_none hy hx
  rw [off_ne hyx]
  exact h3 y o (by rw [upd_ne hyx]; exact hy) hyx

theorem scCurI : FnScope ["self", "text"] ["self", "text"] (defScope sCurI) := ⟨rfl, rfl, rfl, by decide +kernel, rfl, by decide +kernel, by decide +kernel⟩
theorem ok_curI (T : TxR K mg) : FnOk P w K mg base CX0 1 T.fI T.fdI ["self", "text"] (spCurI T.C) := by
  refine T.FI.ok scCurI (fun vs H Q E h => ?_) (fun cdv A outer s H vs Q E hr h => ?_)
  · obtain ⟨c, ta, dx, b, rfl, _⟩ := h
    rfl
  · obtain ⟨c, ta, dx, b, rfl, hc, ht, hs, k⟩ := h
    have ne : ta ≠ c := ne_of ht hc (by intro z; cases z)
    refine ⟨_, pss_cons (ps_fld (pv 0) (pv 1) rfl) (pss_one (ps_fld (pv 0) pe_int rfl)), ?_⟩
    refine ⟨_, rfl, _, rfl, c, T.C, dx, [], rfl, hc, T.cl, T.nT, (by show 0 < 1000; decide), _, rfl, c, T.C, dx, _, rfl, upd_same, T.cl, T.nP, (by show 1 < 1000; decide), ?_⟩
    refine k _ ⟨⟨dx, upd_same⟩, by rw [upd_ne ne, upd_ne ne]; exact ht, Nat.zero_le _, hs⟩ fun x o h hx => ?_
    rw [upd_ne hx, upd_ne hx]
    exact h
theorem scCurB : FnScope ["self"] ["self"] (defScope sCurB) := ⟨rfl, rfl, rfl, by decide +kernel, rfl, by decide +kernel, by decide +kernel⟩
theorem bv_at {b : Bytes} {p : Nat} {c : UInt8} (h : b[p]? = some c) : (bv b)[p]? = some (V.int (c.toNat : Int)) := by
  unfold bv
  rw [List.getElem?_map, h]
  rfl
theorem bv_len (b : Bytes) : (bv b).length = b.length := List.length_map _
theorem ok_curB (T : TxR K mg) : FnOk P w K mg base CX0 1 T.fB T.fdB ["self"] (spByteM T.C) := by
  refine T.FB.ok scCurB (fun vs H Q E h => ?_) (fun cdv A outer s H vs Q E hr h => ?_)
  · obtain ⟨c, ta, b, p, rfl, _⟩ := h
    rfl
  · obtain ⟨c, ta, b, p, rfl, A1, q⟩ := h
    obtain ⟨dx, hc⟩ := A1.ob
    refine ⟨_, pss_cons (ps_if (pt_cmpR op_eq (pe_fld (pv 0) rfl) (pe_callB call_len_seq (by rfl) T.len PySem.boot_len (pa_cons (pe_fld (pv 0) rfl) pa_nil)) (nomark _)) (pss_one (ps_ret (pn T.nNOBYTE))) pss_nil)
      (pss_one (ps_ret (pe_ix ix_list (pe_fld (pv 0) rfl) (pe_fld (pv 0) rfl) (fun _ _ => rfl)))), ?_⟩
    refine ⟨_, rfl, c, T.C, dx, _, _, rfl, hc, T.cl, T.nP, cur_place _ _, _, rfl, c, T.C, dx, _, _, rfl, hc, T.cl, T.nT, cur_text _ _, ta, _, rfl, .inl (SqL.of A1.tx), rfl, _, rfl, ?_⟩
    refine ite2 (fun h => ?_) (fun h => ?_)
    · have e : (p : Int) = ((bv b).length : Int) := V.int.inj (of_decide_eq_true h)
      rw [bv_len] at e
      have e2 : b[p]? = none := List.getElem?_eq_none (by omega)
      have q' := q
      unfold byteAt at q'
      rw [e2] at q'
      exact q'
    · have hp : p < b.length := by
        have h1 := A1.le
        rcases Nat.lt_or_ge p b.length with z | z
        · exact z
        · exact absurd (decide_eq_true (congrArg V.int (by rw [bv_len]; omega))) h
      have e2 : b[p]? = some b[p] := List.getElem?_eq_getElem hp
      refine ⟨_, rfl, c, T.C, dx, _, _, rfl, hc, T.cl, T.nT, cur_text _ _, _, rfl, c, T.C, dx, _, _, rfl, hc, T.cl, T.nP, cur_place _ _, ta, _, _, _, rfl, rfl, SqL.of A1.tx, atI_nat (bv_at e2), ?_⟩
      unfold byteAt at q
      rw [e2] at q
      exact q
theorem scCurA : FnScope ["self"] ["self"] (defScope sCurA) := ⟨rfl, rfl, rfl, by decide +kernel, rfl, by decide +kernel, by decide +kernel⟩
theorem ok_curA (T : TxR K mg) : FnOk P w K mg base CX0 1 T.fA T.fdA ["self"] (spAdv T.C) := by
  refine T.FA.ok scCurA (fun vs H Q E h => ?_) (fun cdv A outer s H vs Q E hr h => ?_)
  · obtain ⟨c, ta, b, p, rfl, _⟩ := h
    rfl
  · obtain ⟨c, ta, b, p, rfl, A1, hp, k⟩ := h
    obtain ⟨dx, hc⟩ := A1.ob
    refine ⟨_, pss_one (ps_fldaug (pv 0) pe_int in_add), ?_⟩
    refine ⟨_, rfl, c, T.C, dx, _, _, rfl, hc, T.cl, T.nP, cur_place _ _, _, _, rfl, rfl, dx, _, hc, (by rw [cur_len]; decide), ?_⟩
    rw [cur_put]
    refine k _ ⟨⟨dx, upd_same⟩, by rw [upd_ne A1.ne]; exact A1.tx, hp, A1.sm⟩ fun x o h hx => ?_
    rw [upd_ne hx]
    exact h
theorem scIsDigit : FnScope ["byte"] ["byte"] (defScope sIsDigit) := ⟨rfl, rfl, rfl, by decide +kernel, rfl, by decide +kernel, by decide +kernel⟩
theorem ok_isDigit (T : TxR K mg) : FnOk P w K mg base CX0 1 T.isDigit.f T.isDigit.fd ["byte"] spIsDigit := by
  refine T.isDigit.F.ok scIsDigit (fun vs H Q E h => ?_) (fun cdv A outer s H vs Q E hr h => ?_)
  · obtain ⟨x, rfl, _⟩ := h
    rfl
  · obtain ⟨x, rfl, q⟩ := h
    refine ⟨_, pss_one (ps_ret (pe_chain op_le op_le (pn T.nZERO) (pv 0) (pe_op op_add (pn T.nZERO) pe_int))), ?_⟩
    refine ⟨_, rfl, _, _, rfl, rfl, _, rfl, ?_⟩
    unfold isDig at q
    refine ite2 (fun h => ?_) (fun h => ?_)
    · refine ⟨_, _, rfl, rfl, _, _, rfl, rfl, ?_⟩
      rw [decide_eq_true (of_decide_eq_true h)] at q
      exact q
    · rw [decide_eq_false (fun z => h (decide_eq_true z))] at q
      exact q
end
end Off

end
section
set_option Elab.async false
set_option linter.all false
set_option maxRecDepth 100000
set_option maxHeartbeats 4000000
namespace Off
open PySem PySem.Spec PyProof.Rows L2 XL
open Loft (Bytes Rest Got)

/-! ### the readers over a text, by the place -/
theorem byteAt_some {b : Bytes} {p : Nat} {c : UInt8} (h : b[p]? = some c) : byteAt b p = (c.toNat : Int) := by unfold byteAt; rw [h]
theorem byteAt_none {b : Bytes} {p : Nat} (h : b[p]? = none) : byteAt b p = 256 := by unfold byteAt; rw [h]
theorem byteAt_eq {b : Bytes} {p : Nat} {c : UInt8} : byteAt b p = (c.toNat : Int) ↔ b[p]? = some c := by
  cases h : b[p]? with
  | none =>
    rw [byteAt_none h]
    have := UInt8.toNat_lt c
    constructor
    · intro z; omega
    · intro z; cases z
  | some d =>
    rw [byteAt_some h]
    constructor
    · intro z
      exact congrArg some (UInt8.toNat_inj.mp (by omega))
    · intro z; cases z; rfl
theorem byte_ok {b : Bytes} {p : Nat} {c : UInt8} (h : b[p]? = some c) : Loft.byte c (rst b p) = .ok () (rst b (p + 1)) := by
  unfold Loft.byte
  rw [rst_head, if_pos h, rst_on]
theorem byte_bad {b : Bytes} {p : Nat} {c : UInt8} (h : ¬ b[p]? = some c) : Loft.byte c (rst b p) = .bad 1 p := by
  unfold Loft.byte
  rw [rst_head, if_neg h]
  rfl
theorem lt_of_at {b : Bytes} {p : Nat} {c : UInt8} (h : b[p]? = some c) : p < b.length := (List.getElem?_eq_some_iff.mp h).1
theorem isDig_byte {b : Bytes} {p : Nat} : isDig (byteAt b p) = true ↔ ∃ c, b[p]? = some c ∧ Loft.isDigit c = true := by
  unfold isDig
  cases h : b[p]? with
  | none => rw [byteAt_none h]; simp
  | some c =>
    rw [byteAt_some h]
    unfold Loft.isDigit
    have e1 : (48 ≤ c) ↔ 48 ≤ c.toNat := UInt8.le_iff_toNat_le
    have e2 : (c ≤ 57) ↔ c.toNat ≤ 57 := UInt8.le_iff_toNat_le
    rw [Bool.and_eq_true, decide_eq_true_eq, decide_eq_true_eq]
    constructor
    · rintro ⟨h1, h2⟩
      exact ⟨c, rfl, by rw [Bool.and_eq_true, decide_eq_true_eq, decide_eq_true_eq]; exact ⟨e1.mpr (by omega), e2.mpr (by omega)⟩⟩
    · rintro ⟨d, h0, h1⟩
      cases h0
      rw [Bool.and_eq_true, decide_eq_true_eq, decide_eq_true_eq] at h1
      have h2 := e1.mp h1.1
      have h3 := e2.mp h1.2
      exact ⟨by omega, by omega⟩
theorem rst_cons {b : Bytes} {p : Nat} {c : UInt8} (h : b[p]? = some c) : (rst b p).text = c :: (rst b (p + 1)).text := by
  unfold rst
  obtain ⟨hl, e⟩ := List.getElem?_eq_some_iff.mp h
  rw [List.drop_eq_getElem_cons hl, e]
theorem rst_nil {b : Bytes} {p : Nat} (h : b[p]? = none) : (rst b p).text = [] := by
  unfold rst
  exact List.drop_eq_nil_of_le (List.getElem?_eq_none_iff.mp h)
theorem dig_ok {b : Bytes} {p : Nat} {c : UInt8} (h : b[p]? = some c) (hd : Loft.isDigit c = true) : dig (rst b p) = .ok (c.toNat - 48) (rst b (p + 1)) := by
  unfold dig
  rw [rst_cons h]
  dsimp only
  rw [if_pos hd, rst_on]
theorem dig_bad {b : Bytes} {p : Nat} (h : ¬ ∃ c, b[p]? = some c ∧ Loft.isDigit c = true) : dig (rst b p) = .bad 1 p := by
  unfold dig
  cases q : b[p]? with
  | none => rw [rst_nil q]; rfl
  | some c =>
    rw [rst_cons q]
    dsimp only
    rw [if_neg fun z => h ⟨c, q, z⟩]
    rfl

/-! ### promises -/
def spTakeByte (C CF : Addr) : Sp := fun vs H Q E => ∃ (c ta : Addr) (b : Bytes) (p : Nat) (x : UInt8), vs = [.ref c, .int (x.toNat : Int)] ∧ CurAt C H c ta b p ∧ Res C CF H c ta b Q E (fun _ => V.non) (Loft.byte x (rst b p))
def spTakeIf (C : Addr) : Sp := fun vs H Q E => ∃ (c ta : Addr) (b : Bytes) (p : Nat) (x : UInt8), vs = [.ref c, .int (x.toNat : Int)] ∧ CurAt C H c ta b p ∧
  ∀ H', CurAt C H' c ta b (ifThere x (rst b p)).2.at_ → Kp H H' c → Q (.bl (ifThere x (rst b p)).1) H'
def spTakeDigit (C CF : Addr) : Sp := fun vs H Q E => ∃ (c ta : Addr) (b : Bytes) (p : Nat), vs = [.ref c] ∧ CurAt C H c ta b p ∧ Res C CF H c ta b Q E (fun n : Nat => V.int (n : Int)) (dig (rst b p))

section
variable {P : Program} {w : World} {K : PySem.W.Frag} {mg : Str → Option Value} {base : Heap}
theorem scTakeByte : FnScope ["cursor", "byte"] ["cursor", "byte"] (defScope sTakeByte) := ⟨rfl, rfl, rfl, by decide +kernel, rfl, by decide +kernel, by decide +kernel⟩
theorem ok_takeByte (T : TxR K mg) : FnOk P w K mg base (CX1 P w) 4 T.takeByte.f T.takeByte.fd ["cursor", "byte"] (spTakeByte T.C T.CF) := by
  refine T.takeByte.F.okX scTakeByte (fun vs H Q E h => ?_) (fun cdv A outer s H vs Q E hr h => ?_)
  · obtain ⟨c, ta, b, p, x, rfl, _⟩ := h
    rfl
  · obtain ⟨c, ta, b, p, x, rfl, A1, r⟩ := h
    obtain ⟨dx, hc⟩ := A1.ob
    have hr1 : Room 1 _ := hr.mono (by decide)
    have hr2 : Room 2 _ := hr.mono (by decide)
    refine ⟨_, pss_cons (ps_if (pt_cmpR op_ne (pe_meth0 (pv 0) T.cl T.mB (ok_curB T) hr1 T.bB .nil pass0) (pv 1) (nomark _))
        (pss_one (ps_raise T.xF (ok_fault T) hr2 rfl T.mF T.bF throws_def (pa_cons (pn T.nSHAPE) (pa_cons (pe_fld (pv 0) rfl) pa_nil)))) pss_nil)
      (pss_one (ps_expr (pe_meth0 (pv 0) T.cl T.mA (ok_curA T) hr1 T.bA .nil pass0))), ?_⟩
    refine ⟨_, rfl, c, dx, _, rfl, hc, cur_no _ _ (by decide +kernel) (by decide +kernel), c, ta, b, p, rfl, A1, _, rfl, rfl, _, rfl, ?_⟩
    by_cases hb : b[p]? = some x
    · rw [byte_ok hb] at r
      refine iteNS (congrArg V.int (byteAt_eq.mpr hb)) ?_
      refine ⟨_, rfl, c, dx, _, rfl, hc, cur_no _ _ (by decide +kernel) (by decide +kernel), c, ta, b, p, rfl, A1, lt_of_at hb, fun H' A2 kp => ?_⟩
      exact r H' A2 kp
    · rw [byte_bad hb] at r
      rw [decide_eq_false (fun q => hb (byteAt_eq.mp (V.int.inj q)))]
      refine iteT ?_
      refine ⟨_, rfl, c, T.C, dx, _, _, rfl, hc, T.cl, T.nP, cur_place _ _, by show 2 ≤ sizeLine; decide, fun e t0 he => raise_flt r rfl rfl he⟩
theorem scTakeIf : FnScope ["cursor", "byte"] ["cursor", "byte"] (defScope sTakeIf) := ⟨rfl, rfl, rfl, by decide +kernel, rfl, by decide +kernel, by decide +kernel⟩
theorem ok_takeIf (T : TxR K mg) : FnOk P w K mg base CX0 4 T.takeIf.f T.takeIf.fd ["cursor", "byte"] (spTakeIf T.C) := by
  refine T.takeIf.F.ok scTakeIf (fun vs H Q E h => ?_) (fun cdv A outer s H vs Q E hr h => ?_)
  · obtain ⟨c, ta, b, p, x, rfl, _⟩ := h
    rfl
  · obtain ⟨c, ta, b, p, x, rfl, A1, r⟩ := h
    obtain ⟨dx, hc⟩ := A1.ob
    have hr1 : Room 1 _ := hr.mono (by decide)
    refine ⟨_, pss_cons (ps_if (pt_cmpR op_ne (pe_meth0 (pv 0) T.cl T.mB (ok_curB T) hr1 T.bB .nil pass0) (pv 1) (nomark _)) (pss_one (ps_ret pe_bl)) pss_nil) <|
      pss_cons (ps_expr (pe_meth0 (pv 0) T.cl T.mA (ok_curA T) hr1 T.bA .nil pass0)) <| pss_one (ps_ret pe_bl), ?_⟩
    refine ⟨_, rfl, c, dx, _, rfl, hc, cur_no _ _ (by decide +kernel) (by decide +kernel), c, ta, b, p, rfl, A1, _, rfl, rfl, _, rfl, ?_⟩
    unfold ifThere at r
    rw [rst_head] at r
    by_cases hb : b[p]? = some x
    · rw [if_pos hb, rst_on] at r
      refine iteNS (congrArg V.int (byteAt_eq.mpr hb)) ?_
      refine ⟨_, rfl, c, dx, _, rfl, hc, cur_no _ _ (by decide +kernel) (by decide +kernel), c, ta, b, p, rfl, A1, lt_of_at hb, fun H' A2 kp => ?_⟩
      exact r H' A2 kp
    · rw [if_neg hb] at r
      rw [decide_eq_false (fun q => hb (byteAt_eq.mp (V.int.inj q)))]
      refine iteT ?_
      exact r H A1 (Kp.refl H c)
theorem scTakeDigit : FnScope ["cursor", "byte"] ["cursor"] (defScope sTakeDigit) := ⟨rfl, rfl, rfl, by decide +kernel, rfl, by decide +kernel, by decide +kernel⟩
theorem ok_takeDigit (T : TxR K mg) : FnOk P w K mg base (CX1 P w) 4 T.takeDigit.f T.takeDigit.fd ["cursor"] (spTakeDigit T.C T.CF) := by
  refine T.takeDigit.F.okX scTakeDigit (fun vs H Q E h => ?_) (fun cdv A outer s H vs Q E hr h => ?_)
  · obtain ⟨c, ta, b, p, rfl, _⟩ := h
    rfl
  · obtain ⟨c, ta, b, p, rfl, A1, r⟩ := h
    obtain ⟨dx, hc⟩ := A1.ob
    have hr1 : Room 1 _ := hr.mono (by decide)
    have hr2 : Room 2 _ := hr.mono (by decide)
    refine ⟨_, pss_cons (ps_set (i := 1) scTakeDigit.nd rfl (Or.inl rfl) (pe_meth0 (pv 0) T.cl T.mB (ok_curB T) hr1 T.bB .nil pass0)) <|
      pss_cons (ps_if (pt_not (pt_val (pe_call (ok_isDigit T) hr1 rfl T.isDigit.m T.isDigit.F.kp T.isDigit.b .nil pass0 (pa_cons (pv 1) pa_nil))))
        (pss_one (ps_raise T.xF (ok_fault T) hr2 rfl T.mF T.bF throws_def (pa_cons (pn T.nSHAPE) (pa_cons (pe_fld (pv 0) rfl) pa_nil)))) pss_nil) <|
      pss_cons (ps_expr (pe_meth0 (pv 0) T.cl T.mA (ok_curA T) hr1 T.bA .nil pass0)) <|
      pss_one (ps_ret (pe_op op_sub (pv 1) (pn T.nZERO))), ?_⟩
    refine ⟨_, rfl, c, dx, _, rfl, hc, cur_no _ _ (by decide +kernel) (by decide +kernel), c, ta, b, p, rfl, A1, ?_⟩
    refine ⟨_, rfl, _, rfl, _, rfl, ?_⟩
    by_cases hb : ∃ x, b[p]? = some x ∧ Loft.isDigit x = true
    · obtain ⟨x, h1, h2⟩ := id hb
      rw [dig_ok h1 h2] at r
      rw [isDig_byte.mpr hb]
      refine iteF ?_
      refine ⟨_, rfl, c, dx, _, rfl, hc, cur_no _ _ (by decide +kernel) (by decide +kernel), c, ta, b, p, rfl, A1, lt_of_at h1, fun H' A2 kp => ?_⟩
      refine ⟨_, rfl, _, _, rfl, rfl, ?_⟩
      have e : byteAt b p - 48 = ((x.toNat - 48 : Nat) : Int) := by
        rw [byteAt_some h1]
        unfold Loft.isDigit at h2
        rw [Bool.and_eq_true, decide_eq_true_eq] at h2
        have := UInt8.le_iff_toNat_le.mp h2.1
        have e48 : (48 : UInt8).toNat = 48 := rfl
        omega
      show Q (V.int (byteAt b p - 48)) H'
      rw [e]
      exact r H' A2 kp
    · rw [dig_bad hb] at r
      rw [show isDig (byteAt b p) = false from Bool.eq_false_iff.mpr fun z => hb (isDig_byte.mp z)]
      refine iteT ?_
      refine ⟨_, rfl, c, T.C, dx, _, _, rfl, hc, T.cl, T.nP, cur_place _ _, by show 2 ≤ sizeLine; decide, fun e t0 he => raise_flt r rfl rfl he⟩
end
end Off

end
section
set_option Elab.async false
set_option linter.all false
set_option maxRecDepth 100000
set_option maxHeartbeats 4000000
namespace Off
open PySem PySem.Spec PyProof.Rows L2 XL
open Loft (Bytes Rest Got)

theorem for_str {x : Str} {g : TG} {tb : TS} {D : Ends} {σ : L2.St} {H : Hp} (Pv : Nat → L2.St → Hp → Prop) (h0 : Pv 0 σ H)
    (hs : ∀ i c σ H, x.cps[i]? = some c → Pv i σ H → g (.str ⟨#[c]⟩) σ H fun σ2 H2 => tb { D with nx := Pv (i + 1), ct := Pv (i + 1), bk := D.nx } σ2 H2) (hd : ∀ σ H, Pv x.cps.size σ H → D.nx σ H) :
    ∃ W : Nat → Nat → L2.St → Hp → Prop, (∃ m, W 0 m σ H) ∧ ∀ i m σ H, W i m σ H →
      ((Its x).stop i H ∧ D.nx σ H) ∨ ((Its x).go i H ∧ ∃ N : L2.St → Hp → Prop, (∀ σ' H', N σ' H' → ∃ m', m' < m ∧ W (i + 1) m' σ' H') ∧ ∀ v H', (Its x).yld i H v H' → g v σ H' fun σ2 H2 => tb { D with nx := N, ct := N, bk := D.nx } σ2 H2) := by
  refine ⟨fun i m σ H => m = x.cps.size - i ∧ i ≤ x.cps.size ∧ Pv i σ H, ⟨x.cps.size, by simp, Nat.zero_le _, h0⟩, ?_⟩
  rintro i m σ H ⟨rfl, hi, p⟩
  by_cases hlt : i < x.cps.size
  · refine .inr ⟨hlt, Pv (i + 1), fun σ' H' p' => ⟨x.cps.size - (i + 1), by omega, rfl, hlt, p'⟩, fun v H' y => ?_⟩
    obtain ⟨e, c, hc, ev⟩ := y
    subst e ev
    exact hs i c σ _ hc p
  · have e : i = x.cps.size := by omega
    subst e
    exact .inl ⟨Nat.le_refl _, hd σ H p⟩

def spTakeWord (C CF : Addr) : Sp := fun vs H Q E => ∃ (c ta : Addr) (b : Bytes) (p : Nat) (x : Str) (wd : Bytes), vs = [.ref c, .str x] ∧ Txt x wd ∧ CurAt C H c ta b p ∧ Res C CF H c ta b Q E (fun _ => V.non) (Loft.word wd (rst b p))
def spTakeFeet (C CF : Addr) : Sp := fun vs H Q E => ∃ (c ta : Addr) (b : Bytes) (p : Nat), vs = [.ref c] ∧ CurAt C H c ta b p ∧ Res C CF H c ta b Q E (fun n : Nat => V.int (n : Int)) (feetM (rst b p))
def spTakeInches (C CF : Addr) : Sp := fun vs H Q E => ∃ (c ta : Addr) (b : Bytes) (p : Nat), vs = [.ref c] ∧ CurAt C H c ta b p ∧ Res C CF H c ta b Q E (fun n : Nat => V.int (n : Int)) (inchM (rst b p))
/-- no byte, a digit or + behind a measure -/
def wholeM (r : Rest) : Got Unit := match r.text with
  | [] => .bad 1 r.at_
  | c :: _ => if Loft.isDigit c = true ∨ c = 43 then .bad 1 r.at_ else .ok () r
def spCheckWhole (C CF : Addr) : Sp := fun vs H Q E => ∃ (c ta : Addr) (b : Bytes) (p : Nat), vs = [.ref c] ∧ CurAt C H c ta b p ∧ Res C CF H c ta b Q E (fun _ => V.non) (wholeM (rst b p))

theorem word_cons {b : Bytes} {p : Nat} {c : UInt8} {r : Bytes} : Loft.word (c :: r) (rst b p) = bnd (Loft.byte c (rst b p)) fun _ s => Loft.word r s := by
  rw [Loft.word]
  cases Loft.byte c (rst b p) <;> rfl
theorem feetGo_step {b : Bytes} {p f : Nat} {c : UInt8} (h : b[p]? = some c) (hd : Loft.isDigit c = true) (hf : 0 < f) : feetGo f (b.drop p) p = feetGo (min (f * 10 + (c.toNat - 48)) 5462) (b.drop (p + 1)) (p + 1) := by
  have e : b.drop p = c :: b.drop (p + 1) := rst_cons h
  rw [e, feetGo, if_pos ⟨hf, hd⟩]
theorem feetGo_stop {b : Bytes} {p f : Nat} (h : ¬ (0 < f ∧ ∃ c, b[p]? = some c ∧ Loft.isDigit c = true)) : feetGo f (b.drop p) p = (f, rst b p) := by
  cases q : b[p]? with
  | none =>
    have e : b.drop p = [] := rst_nil q
    show feetGo f (b.drop p) p = (f, ⟨b.drop p, p⟩)
    rw [e]
    rfl
  | some c =>
    have e : b.drop p = c :: b.drop (p + 1) := rst_cons q
    show feetGo f (b.drop p) p = (f, ⟨b.drop p, p⟩)
    rw [e, feetGo, if_neg fun z => h ⟨z.1, c, q, z.2⟩]

section
variable {P : Program} {w : World} {K : PySem.W.Frag} {mg : Str → Option Value} {base : Heap}
theorem scTakeWord : FnScope ["cursor", "word", "sign"] ["cursor", "word"] (defScope sTakeWord) := ⟨rfl, rfl, rfl, by decide +kernel, rfl, by decide +kernel, by decide +kernel⟩
theorem ok_takeWord (T : TxR K mg) : FnOk P w K mg base (CX1 P w) 6 T.takeWord.f T.takeWord.fd ["cursor", "word"] (spTakeWord T.C T.CF) := by
  refine T.takeWord.F.okX scTakeWord (fun vs H Q E h => ?_) (fun cdv A outer s H vs Q E hr h => ?_)
  · obtain ⟨c, ta, b, p, x, wd, rfl, _⟩ := h
    rfl
  · obtain ⟨c, ta, b, p, x, wd, rfl, tx, A1, r⟩ := h
    have hr4 : Room 4 _ := hr.mono (by decide)
    refine ⟨_, pss_one (ps_for own_def rfl (pi_str (pv 1)) (pg_name (i := 2) scTakeWord.nd rfl (Or.inl rfl))
      (pss_one (ps_expr (pe_call (ok_takeByte T) hr4 rfl T.takeByte.m T.takeByte.F.kp T.takeByte.b .nil throws_def.passes (pa_cons (pv 0) (pa_cons (pe_callB call_ord (by rfl) T.ord boot_ord (pa_cons (pv 2) pa_nil)) pa_nil)))))), ?_⟩
    refine ⟨_, rfl, x, rfl, for_str (fun i σ H' => ∃ (v : Option V) (p' : Nat), σ = [some (.ref c), some (.str x), v] ∧ CurAt T.C H' c ta b p' ∧ Kp H H' c ∧ Loft.word (wd.drop i) (rst b p') = Loft.word wd (rst b p)) ⟨none, p, rfl, A1, Kp.refl _ _, rfl⟩ ?_ ?_⟩
    · rintro i u σ H' hu ⟨v, p', rfl, A2, kp, e⟩
      have hx : x.cps.toList[i]? = some u := by rw [Array.getElem?_toList]; exact hu
      rw [show x.cps.toList = sg wd from tx] at hx
      unfold sg at hx
      rw [List.getElem?_map] at hx
      obtain ⟨d, hd, ed⟩ := Option.map_eq_some_iff.mp hx
      subst ed
      have e2 : wd.drop i = d :: wd.drop (i + 1) := rst_cons hd
      rw [e2, word_cons] at e
      refine ⟨_, rfl, _, rfl, _, rfl, rfl, c, ta, b, p', d, rfl, A2, ?_⟩
      by_cases hb : b[p']? = some d
      · rw [byte_ok hb] at e ⊢
        exact fun H2 A3 kp2 => ⟨_, p' + 1, rfl, A3, kp.trans kp2, e⟩
      · rw [byte_bad hb] at e ⊢
        rw [← e] at r
        exact FltE.on r kp
    · rintro σ H' ⟨v, p', rfl, A2, kp, e⟩
      have hl : x.cps.size = wd.length := by
        have z := tx.len
        exact z
      rw [hl, List.drop_length] at e
      rw [← e] at r
      exact r H' A2 kp
theorem scTakeFeet : FnScope ["cursor", "feet"] ["cursor"] (defScope sTakeFeet) := ⟨rfl, rfl, rfl, by decide +kernel, rfl, by decide +kernel, by decide +kernel⟩
theorem ok_takeFeet (T : TxR K mg) : FnOk P w K mg base (CX1 P w) 6 T.takeFeet.f T.takeFeet.fd ["cursor"] (spTakeFeet T.C T.CF) := by
  refine T.takeFeet.F.okX scTakeFeet (fun vs H Q E h => ?_) (fun cdv A outer s H vs Q E hr h => ?_)
  · obtain ⟨c, ta, b, p, rfl, _⟩ := h
    rfl
  · obtain ⟨c, ta, b, p, rfl, A1, r⟩ := h
    have hr1 : Room 1 _ := hr.mono (by decide)
    have hr4 : Room 4 _ := hr.mono (by decide)
    refine ⟨_, pss_cons (ps_set (i := 1) scTakeFeet.nd rfl (Or.inl rfl) (pe_call (ok_takeDigit T) hr4 rfl T.takeDigit.m T.takeDigit.F.kp T.takeDigit.b .nil throws_def.passes (pa_cons (pv 0) pa_nil))) <|
      pss_cons (ps_while own_def (PW.pt (pw_and (pt_cmpR op_gt (pv 1) pe_int (nomark _)) (pw_and1 (pt_val (pe_call (ok_isDigit T) hr1 rfl T.isDigit.m T.isDigit.F.kp T.isDigit.b .nil pass0 (pa_cons (pe_meth0 (pv 0) T.cl T.mB (ok_curB T) hr1 T.bB .nil pass0) pa_nil))))))
        (pss_one (ps_set (i := 1) scTakeFeet.nd rfl (Or.inl rfl) (pe_callB (call_min2 rfl) (by rfl) T.min boot_min (pa_cons (pe_op op_add (pe_op op_mul (pv 1) pe_int) (pe_call (ok_takeDigit T) hr4 rfl T.takeDigit.m T.takeDigit.F.kp T.takeDigit.b .nil throws_def.passes (pa_cons (pv 0) pa_nil)))
          (pa_cons (pe_op op_add (pn T.nMF) pe_int) pa_nil)))))) <|
      pss_one (ps_ret (pv 1)), ?_⟩
    refine ⟨_, rfl, c, ta, b, p, rfl, A1, ?_⟩
    unfold feetM at r
    cases hg : dig (rst b p) with
    | bad k q =>
      rw [hg] at r
      exact r
    | ok f0 s0 =>
      rw [hg] at r
      have hs0 : s0 = rst b (p + 1) ∧ f0 ≤ 9 := by
        by_cases hb : ∃ x, b[p]? = some x ∧ Loft.isDigit x = true
        · obtain ⟨x, h1, h2⟩ := hb
          rw [dig_ok h1 h2] at hg
          cases hg
          exact ⟨rfl, isDigit_lt h2⟩
        · rw [dig_bad hb] at hg
          cases hg
      obtain ⟨rfl, hf0⟩ := hs0
      intro H1 A2 kp1
      refine ⟨fun m σ H' => ∃ (f p' : Nat), m = b.length - p' ∧ σ = [some (.ref c), some (.int (f : Int))] ∧ CurAt T.C H' c ta b p' ∧ Kp H H' c ∧ f ≤ 5462 ∧ feetGo f (b.drop p') p' = feetGo f0 (b.drop (p + 1)) (p + 1), ⟨_, f0, p + 1, rfl, rfl, A2, kp1, by omega, rfl⟩, ?_⟩
      rintro m σ H' ⟨f, p', rfl, rfl, A3, kp, hf, e⟩
      obtain ⟨dx, hc⟩ := A3.ob
      have stop : ¬ (0 < f ∧ ∃ c, b[p']? = some c ∧ Loft.isDigit c = true) → tRet (tVar 1) { nx := fun _ H' => Q .non H', rt := Q } [some (.ref c), some (.int (f : Int))] H' := fun hn => by
        rw [feetGo_stop hn] at e
        have r' : ∀ H' : Hp, CurAt T.C H' c ta b (feetGo f0 (b.drop (p + 1)) (p + 1)).2.at_ → Kp H H' c → Q (.int ((feetGo f0 (b.drop (p + 1)) (p + 1)).1 : Int)) H' := r
        rw [← e] at r'
        exact ⟨_, rfl, r' H' A3 kp⟩
      refine ⟨_, rfl, _, _, rfl, rfl, _, rfl, ?_⟩
      refine ite2 (fun h1 => ?_) (fun h1 => ?_)
      · refine ⟨_, rfl, c, dx, _, rfl, hc, cur_no _ _ (by decide +kernel) (by decide +kernel), c, ta, b, p', rfl, A3, _, rfl, _, rfl, ?_⟩
        have hf0' : 0 < f := by
          have z : (0 : Int) < (f : Int) := of_decide_eq_true h1
          omega
        by_cases hb : ∃ x, b[p']? = some x ∧ Loft.isDigit x = true
        · rw [isDig_byte.mpr hb]
          obtain ⟨x, h2, h3⟩ := hb
          refine iteT ⟨_, fun σ' H' z => z, ?_⟩
          refine ⟨_, rfl, _, _, rfl, rfl, .inl ⟨by omega, by omega⟩, _, rfl, c, ta, b, p', rfl, A3, ?_⟩
          rw [dig_ok h2 h3]
          intro H2 A4 kp2
          refine ⟨_, _, rfl, rfl, _, _, rfl, rfl, _, _, rfl, ?_⟩
          have hl := lt_of_at h2
          have h9 := isDigit_lt h3
          refine ⟨b.length - (p' + 1), by omega, min (f * 10 + (x.toNat - 48)) 5462, p' + 1, rfl, ?_, A4, kp.trans kp2, by omega, by rw [← feetGo_step h2 h3 hf0']; exact e⟩
          have ev : (if ((5461 : Int) + 1) < (f : Int) * 10 + ((x.toNat - 48 : Nat) : Int) then (5461 : Int) + 1 else (f : Int) * 10 + ((x.toNat - 48 : Nat) : Int)) = ((min (f * 10 + (x.toNat - 48)) 5462 : Nat) : Int) := by
            split <;> omega
          show [some (V.ref c), some (V.int (if ((5461 : Int) + 1) < (f : Int) * 10 + ((x.toNat - 48 : Nat) : Int) then (5461 : Int) + 1 else (f : Int) * 10 + ((x.toNat - 48 : Nat) : Int)))] = _
          rw [ev]
        · rw [show isDig (byteAt b p') = false from Bool.eq_false_iff.mpr fun z => hb (isDig_byte.mp z)]
          exact iteF (stop fun z => hb z.2)
      · exact stop fun z => h1 (decide_eq_true (by have := z.1; omega))
end
end Off

end
section
set_option Elab.async false
set_option linter.all false
set_option maxRecDepth 100000
set_option maxHeartbeats 4000000
namespace Off
open PySem PySem.Spec PyProof.Rows L2 XL
open Loft (Bytes Rest Got)

theorem rst_at (b : Bytes) (p : Nat) : (rst b p).at_ = p := rfl
theorem ifThere_at (x : UInt8) (b : Bytes) (p : Nat) : (ifThere x (rst b p)).2 = rst b (ifThere x (rst b p)).2.at_ := by
  unfold ifThere
  split
  · rw [rst_on]; rfl
  · rfl
theorem dig_at {b : Bytes} {p n : Nat} {s : Rest} (h : dig (rst b p) = .ok n s) : s = rst b s.at_ ∧ n ≤ 9 := by
  by_cases hb : ∃ x, b[p]? = some x ∧ Loft.isDigit x = true
  · obtain ⟨x, h1, h2⟩ := hb
    rw [dig_ok h1 h2] at h
    cases h
    exact ⟨rfl, isDigit_lt h2⟩
  · rw [dig_bad hb] at h
    cases h
theorem byte_at {b : Bytes} {p : Nat} {x : UInt8} {u : Unit} {s : Rest} (h : Loft.byte x (rst b p) = .ok u s) : s = rst b s.at_ := by
  by_cases hb : b[p]? = some x
  · rw [byte_ok hb] at h; cases h; rfl
  · rw [byte_bad hb] at h; cases h
theorem feetGo_at {b : Bytes} : ∀ (n p f : Nat), b.length - p = n → f ≤ 5462 → (feetGo f (b.drop p) p).2 = rst b (feetGo f (b.drop p) p).2.at_ ∧ (feetGo f (b.drop p) p).1 ≤ 5462
  | n, p, f, hn, hf => by
    by_cases h : 0 < f ∧ ∃ c, b[p]? = some c ∧ Loft.isDigit c = true
    · obtain ⟨h0, c, h1, h2⟩ := h
      have hl := lt_of_at h1
      rw [feetGo_step h1 h2 h0]
      exact feetGo_at (b.length - (p + 1)) (p + 1) _ rfl (by omega)
    · rw [feetGo_stop h]
      exact ⟨rfl, hf⟩
  termination_by n => n
  decreasing_by omega
theorem feetM_at {b : Bytes} {p f : Nat} {s : Rest} (h : feetM (rst b p) = .ok f s) : s = rst b s.at_ ∧ f ≤ 5462 := by
  unfold feetM at h
  cases hg : dig (rst b p) with
  | bad k q => rw [hg] at h; cases h
  | ok f0 s0 =>
    rw [hg] at h
    obtain ⟨e, h9⟩ := dig_at hg
    cases h
    rw [e]
    exact feetGo_at _ _ _ rfl (by omega)
theorem inchM_at {b : Bytes} {p i : Nat} {s : Rest} (h : inchM (rst b p) = .ok i s) : s = rst b s.at_ ∧ i ≤ 99 := by
  unfold inchM at h
  cases hg : dig (rst b p) with
  | bad k q => rw [hg] at h; cases h
  | ok f0 s0 =>
    rw [hg] at h
    obtain ⟨e, h9⟩ := dig_at hg
    dsimp only at h
    rw [e] at h
    cases q : b[s0.at_]? with
    | none =>
      rw [rst_nil q] at h
      cases h
      exact ⟨rfl, by omega⟩
    | some c =>
      rw [rst_cons q] at h
      dsimp only at h
      split at h
      · rename_i hh
        cases h
        have := isDigit_lt hh.2
        exact ⟨by rw [rst_on]; rfl, by omega⟩
      · cases h
        exact ⟨rfl, by omega⟩

section
variable {P : Program} {w : World} {K : PySem.W.Frag} {mg : Str → Option Value} {base : Heap}
theorem scTakeInches : FnScope ["cursor", "inches"] ["cursor"] (defScope sTakeInches) := ⟨rfl, rfl, rfl, by decide +kernel, rfl, by decide +kernel, by decide +kernel⟩
theorem ok_takeInches (T : TxR K mg) : FnOk P w K mg base (CX1 P w) 6 T.takeInches.f T.takeInches.fd ["cursor"] (spTakeInches T.C T.CF) := by
  refine T.takeInches.F.okX scTakeInches (fun vs H Q E h => ?_) (fun cdv A outer s H vs Q E hr h => ?_)
  · obtain ⟨c, ta, b, p, rfl, _⟩ := h
    rfl
  · obtain ⟨c, ta, b, p, rfl, A1, r⟩ := h
    have hr1 : Room 1 _ := hr.mono (by decide)
    have hr4 : Room 4 _ := hr.mono (by decide)
    refine ⟨_, pss_cons (ps_set (i := 1) scTakeInches.nd rfl (Or.inl rfl) (pe_call (ok_takeDigit T) hr4 rfl T.takeDigit.m T.takeDigit.F.kp T.takeDigit.b .nil throws_def.passes (pa_cons (pv 0) pa_nil))) <|
      pss_cons (ps_if (PW.pt (pw_and (pt_cmpR op_gt (pv 1) pe_int (nomark _)) (pw_and1 (pt_val (pe_call (ok_isDigit T) hr1 rfl T.isDigit.m T.isDigit.F.kp T.isDigit.b .nil pass0 (pa_cons (pe_meth0 (pv 0) T.cl T.mB (ok_curB T) hr1 T.bB .nil pass0) pa_nil))))))
        (pss_one (ps_set (i := 1) scTakeInches.nd rfl (Or.inl rfl) (pe_op op_add (pe_op op_mul (pv 1) pe_int) (pe_call (ok_takeDigit T) hr4 rfl T.takeDigit.m T.takeDigit.F.kp T.takeDigit.b .nil throws_def.passes (pa_cons (pv 0) pa_nil))))) pss_nil) <|
      pss_one (ps_ret (pv 1)), ?_⟩
    refine ⟨_, rfl, c, ta, b, p, rfl, A1, ?_⟩
    unfold inchM at r
    cases hg : dig (rst b p) with
    | bad k q =>
      rw [hg] at r
      exact r
    | ok i0 s0 =>
      rw [hg] at r
      obtain ⟨e0, h9⟩ := dig_at hg
      intro H1 A2 kp1
      dsimp only at r
      generalize s0.at_ = p1 at e0 A2
      subst e0
      obtain ⟨dx, hc⟩ := A2.ob
      refine ⟨_, rfl, _, _, rfl, rfl, _, rfl, ?_⟩
      refine ite2 (fun h1 => ?_) (fun h1 => ?_)
      · refine ⟨_, rfl, c, dx, _, rfl, hc, cur_no _ _ (by decide +kernel) (by decide +kernel), c, ta, b, p1, rfl, A2, _, rfl, _, rfl, ?_⟩
        have hi0 : 0 < i0 := by
          have z : (0 : Int) < (i0 : Int) := of_decide_eq_true h1
          omega
        by_cases hb : ∃ x, b[p1]? = some x ∧ Loft.isDigit x = true
        · rw [isDig_byte.mpr hb]
          obtain ⟨x, h2, h3⟩ := hb
          rw [rst_cons h2] at r
          dsimp only at r
          rw [if_pos ⟨hi0, h3⟩, rst_on] at r
          refine iteT ?_
          refine ⟨_, rfl, _, _, rfl, rfl, .inl ⟨by omega, by omega⟩, _, rfl, c, ta, b, p1, rfl, A2, ?_⟩
          rw [dig_ok h2 h3]
          intro H2 A4 kp2
          refine ⟨_, _, rfl, rfl, _, rfl, ?_⟩
          have ev : (i0 : Int) * 10 + ((x.toNat - 48 : Nat) : Int) = ((i0 * 10 + (x.toNat - 48) : Nat) : Int) := by omega
          show Q (V.int ((i0 : Int) * 10 + ((x.toNat - 48 : Nat) : Int))) H2
          rw [ev]
          exact r H2 A4 (kp1.trans kp2)
        · rw [show isDig (byteAt b p1) = false from Bool.eq_false_iff.mpr fun z => hb (isDig_byte.mp z)]
          refine iteF ⟨_, rfl, ?_⟩
          cases q : b[p1]? with
          | none =>
            rw [rst_nil q] at r
            exact r H1 A2 kp1
          | some x =>
            rw [rst_cons q] at r
            dsimp only at r
            rw [if_neg fun z => hb ⟨x, q, z.2⟩] at r
            exact r H1 A2 kp1
      · have hi0 : ¬ 0 < i0 := fun z => h1 (decide_eq_true (by omega))
        refine ⟨_, rfl, ?_⟩
        cases q : b[p1]? with
        | none =>
          rw [rst_nil q] at r
          exact r H1 A2 kp1
        | some x =>
          rw [rst_cons q] at r
          dsimp only at r
          rw [if_neg fun z => hi0 z.1] at r
          exact r H1 A2 kp1
theorem scCheckWhole : FnScope ["cursor", "byte"] ["cursor"] (defScope sCheckWhole) := ⟨rfl, rfl, rfl, by decide +kernel, rfl, by decide +kernel, by decide +kernel⟩
theorem ok_checkWhole (T : TxR K mg) : FnOk P w K mg base (CX1 P w) 6 T.checkWhole.f T.checkWhole.fd ["cursor"] (spCheckWhole T.C T.CF) := by
  refine T.checkWhole.F.okX scCheckWhole (fun vs H Q E h => ?_) (fun cdv A outer s H vs Q E hr h => ?_)
  · obtain ⟨c, ta, b, p, rfl, _⟩ := h
    rfl
  · obtain ⟨c, ta, b, p, rfl, A1, r⟩ := h
    have hr1 : Room 1 _ := hr.mono (by decide)
    have hr2 : Room 2 _ := hr.mono (by decide)
    obtain ⟨dx, hc⟩ := A1.ob
    refine ⟨_, pss_cons (ps_set (i := 1) scCheckWhole.nd rfl (Or.inl rfl) (pe_meth0 (pv 0) T.cl T.mB (ok_curB T) hr1 T.bB .nil pass0)) <|
      pss_one (ps_if (PW.pt (pw_or (pt_cmpR op_eq (pv 1) (pn T.nNOBYTE) (nomark _)) (pw_or (pt_cmpR op_eq (pv 1) (pn T.nPLUS) (nomark _)) (pw_or1 (pt_val (pe_call (ok_isDigit T) hr1 rfl T.isDigit.m T.isDigit.F.kp T.isDigit.b .nil pass0 (pa_cons (pv 1) pa_nil)))))))
        (pss_one (ps_raise T.xF (ok_fault T) hr2 rfl T.mF T.bF throws_def (pa_cons (pn T.nSHAPE) (pa_cons (pe_fld (pv 0) rfl) pa_nil)))) pss_nil), ?_⟩
    refine ⟨_, rfl, c, dx, _, rfl, hc, cur_no _ _ (by decide +kernel) (by decide +kernel), c, ta, b, p, rfl, A1, ?_⟩
    have bad : FltE T.CF E H c 1 p → tRaise T.CF (spFault T.CF) E (tCons (tC (.int 1)) (tCons (tFld K (tVar 0) "place") tNil)) { nx := fun _ H' => Q .non H', rt := Q } [some (.ref c), some (.int (byteAt b p))] H := fun f =>
      ⟨_, rfl, c, T.C, dx, _, _, rfl, hc, T.cl, T.nP, cur_place _ _, by show 2 ≤ sizeLine; decide, fun e t0 he => raise_flt f rfl rfl he⟩
    unfold wholeM at r
    refine ⟨_, rfl, rfl, _, rfl, ?_⟩
    cases q : b[p]? with
    | none =>
      rw [rst_nil q] at r
      rw [byteAt_none q]
      rw [byteAt_none q] at bad
      exact iteT (bad r)
    | some x =>
      rw [rst_cons q] at r
      dsimp only at r
      have hx := UInt8.toNat_lt x
      refine ite2 (fun h1 => ?_) (fun h1 => ?_)
      · have z := V.int.inj (of_decide_eq_true h1)
        rw [byteAt_some q] at z
        omega
      · refine ⟨_, rfl, rfl, _, rfl, ?_⟩
        refine ite2 (fun h2 => ?_) (fun h2 => ?_)
        · have z := V.int.inj (of_decide_eq_true h2)
          rw [byteAt_some q] at z
          have e : x = 43 := UInt8.toNat_inj.mp (by show x.toNat = 43; omega)
          rw [if_pos (.inr e)] at r
          exact iteT (bad r)
        · have ne : ¬ x = 43 := fun e => h2 (decide_eq_true (by rw [byteAt_some q, e]; rfl))
          refine ⟨_, rfl, _, rfl, _, rfl, ?_⟩
          by_cases hd : Loft.isDigit x = true
          · rw [isDig_byte.mpr ⟨x, q, hd⟩]
            rw [if_pos (.inl hd)] at r
            exact iteT (bad r)
          · rw [show isDig (byteAt b p) = false from Bool.eq_false_iff.mpr fun z => by
              obtain ⟨y, h3, h4⟩ := isDig_byte.mp z
              rw [q] at h3
              cases h3
              exact hd h4]
            rw [if_neg fun z => z.elim hd ne] at r
            exact iteF (r H A1 (Kp.refl H c))
end
end Off

end
section
set_option Elab.async false
set_option linter.all false
set_option maxRecDepth 100000
set_option maxHeartbeats 4000000
namespace Off
open PySem PySem.Spec PyProof.Rows L2 XL
open Loft (Bytes Rest Got)

def leastOf (from0 : Bool) : Int := if from0 = true then 0 else -1048575
def spTakeMeasure (C CF : Addr) : Sp := fun vs H Q E => ∃ (c ta : Addr) (b : Bytes) (p : Nat) (from0 : Bool), vs = [.ref c, .int (leastOf from0)] ∧ CurAt C H c ta b p ∧ Res C CF H c ta b Q E V.int (Loft.measure from0 none (rst b p))
/-- the value of a measure by its parts, as it is run -/
def worthM (from0 below : Bool) (f i e mo : Nat) (p : Nat) (s : Rest) : Got Int :=
  if 5461 < f ∨ 11 < i ∨ 7 < e then .bad 2 p else if 1048575 < 192 * f + 16 * i + 2 * e + mo ∨ (below = true ∧ 192 * f + 16 * i + 2 * e + mo = 0) then .bad 2 p else
    if from0 = true ∧ below = true then .bad 2 p else .ok (if below = true then -((192 * f + 16 * i + 2 * e + mo : Nat) : Int) else ((192 * f + 16 * i + 2 * e + mo : Nat) : Int)) s
theorem measM_steps (from0 : Bool) (r : Rest) : measM from0 r = bnd (feetM (ifThere 45 r).2) fun f r1 => bnd (Loft.byte 45 r1) fun _ r2 => bnd (inchM r2) fun i r3 => bnd (Loft.byte 45 r3) fun _ r4 => bnd (dig r4) fun e r5 =>
    bnd (wholeM (ifThere 43 r5).2) fun _ r6 => worthM from0 (ifThere 45 r).1 f i e (if (ifThere 43 r5).1 = true then 1 else 0) r.at_ r6 := by
  unfold measM shapeM
  cases feetM (ifThere 45 r).2 with
  | bad k p => rfl
  | ok f r1 =>
    dsimp only [bnd]
    cases Loft.byte 45 r1 with
    | bad k p => rfl
    | ok u r2 =>
      dsimp only [bnd]
      cases inchM r2 with
      | bad k p => rfl
      | ok i r3 =>
        dsimp only [bnd]
        cases Loft.byte 45 r3 with
        | bad k p => rfl
        | ok u r4 =>
          dsimp only [bnd]
          cases dig r4 with
          | bad k p => rfl
          | ok e r5 =>
            dsimp only [bnd]
            unfold wholeM
            cases (ifThere 43 r5).2.text with
            | nil => rfl
            | cons c t =>
              dsimp only
              by_cases h : Loft.isDigit c = true ∨ c = 43
              · rw [if_pos h, if_pos h]
              · rw [if_neg h, if_neg h]
                rfl
theorem wholeM_at {r s : Rest} {u : Unit} (h : wholeM r = .ok u s) : s = r := by
  unfold wholeM at h
  split at h
  · cases h
  · split at h
    · cases h
    · cases h; rfl
theorem ite_tC {c : Bool} {a b : Int} {σ : L2.St} {H : Hp} {Q : VK} (h : Q (.int (if c = true then a else b)) H) : if c = true then tC (.int a) σ H Q else tC (.int b) σ H Q := by
  cases c <;> exact h
section
variable {P : Program} {w : World} {K : PySem.W.Frag} {mg : Str → Option Value} {base : Heap}
theorem scTakeMeasure : FnScope ["cursor", "least", "first", "below", "feet", "inches", "eighths", "more", "size", "measure"] ["cursor", "least"] (defScope sTakeMeasure) := ⟨rfl, rfl, rfl, by decide +kernel, rfl, by decide +kernel, by decide +kernel⟩
theorem ok_takeMeasure (T : TxR K mg) : FnOk P w K mg base (CX1 P w) 8 T.takeMeasure.f T.takeMeasure.fd ["cursor", "least"] (spTakeMeasure T.C T.CF) := by
  refine T.takeMeasure.F.okX scTakeMeasure (fun vs H Q E h => ?_) (fun cdv A outer s H vs Q E hr h => ?_)
  · obtain ⟨c, ta, b, p, from0, rfl, _⟩ := h
    rfl
  · obtain ⟨c, ta, b, p, from0, rfl, A1, r⟩ := h
    have hr1 : Room 1 _ := hr.mono (by decide)
    have hr2 : Room 2 _ := hr.mono (by decide)
    have hr4 : Room 4 _ := hr.mono (by decide)
    have hr6 : Room 6 _ := hr.mono (by decide)
    obtain ⟨dx, hc⟩ := A1.ob
    refine ⟨_, pss_cons (ps_set (i := 2) scTakeMeasure.nd rfl (Or.inl rfl) (pe_fld (pv 0) rfl)) <|
      pss_cons (ps_set (i := 3) scTakeMeasure.nd rfl (Or.inl rfl) (pe_call (ok_takeIf T) hr4 rfl T.takeIf.m T.takeIf.F.kp T.takeIf.b .nil pass0 (pa_cons (pv 0) (pa_cons (pn T.nDASH) pa_nil)))) <|
      pss_cons (ps_set (i := 4) scTakeMeasure.nd rfl (Or.inl rfl) (pe_call (ok_takeFeet T) hr6 rfl T.takeFeet.m T.takeFeet.F.kp T.takeFeet.b .nil throws_def.passes (pa_cons (pv 0) pa_nil))) <|
      pss_cons (ps_expr (pe_call (ok_takeByte T) hr4 rfl T.takeByte.m T.takeByte.F.kp T.takeByte.b .nil throws_def.passes (pa_cons (pv 0) (pa_cons (pn T.nDASH) pa_nil)))) <|
      pss_cons (ps_set (i := 5) scTakeMeasure.nd rfl (Or.inl rfl) (pe_call (ok_takeInches T) hr6 rfl T.takeInches.m T.takeInches.F.kp T.takeInches.b .nil throws_def.passes (pa_cons (pv 0) pa_nil))) <|
      pss_cons (ps_expr (pe_call (ok_takeByte T) hr4 rfl T.takeByte.m T.takeByte.F.kp T.takeByte.b .nil throws_def.passes (pa_cons (pv 0) (pa_cons (pn T.nDASH) pa_nil)))) <|
      pss_cons (ps_set (i := 6) scTakeMeasure.nd rfl (Or.inl rfl) (pe_call (ok_takeDigit T) hr4 rfl T.takeDigit.m T.takeDigit.F.kp T.takeDigit.b .nil throws_def.passes (pa_cons (pv 0) pa_nil))) <|
      pss_cons (ps_set (i := 7) scTakeMeasure.nd rfl (Or.inl rfl) (pe_ifExp (pt_val (pe_call (ok_takeIf T) hr4 rfl T.takeIf.m T.takeIf.F.kp T.takeIf.b .nil pass0 (pa_cons (pv 0) (pa_cons (pn T.nPLUS) pa_nil)))) pe_int pe_int)) <|
      pss_cons (ps_expr (pe_call (ok_checkWhole T) hr6 rfl T.checkWhole.m T.checkWhole.F.kp T.checkWhole.b .nil throws_def.passes (pa_cons (pv 0) pa_nil))) <|
      pss_cons (ps_if (PW.pt (pw_or (pt_cmpR op_gt (pv 4) (pn T.nMF) (nomark _)) (pw_or (pt_cmpR op_gt (pv 5) (pn T.nMI) (nomark _)) (pw_or1 (pt_cmpR op_gt (pv 6) (pn T.nME) (nomark _))))))
        (pss_one (ps_raise T.xF (ok_fault T) hr2 rfl T.mF T.bF throws_def (pa_cons (pn T.nNOMEAS) (pa_cons (pv 2) pa_nil)))) pss_nil) <|
      pss_cons (ps_set (i := 8) scTakeMeasure.nd rfl (Or.inl rfl) (pe_op op_add (pe_op op_add (pe_op op_add (pe_op op_mul (pv 4) (pn T.nFOOT)) (pe_op op_mul (pv 5) (pn T.nINCH))) (pe_op op_mul (pv 6) (pn T.nEIGHTH))) (pv 7))) <|
      pss_cons (ps_set (i := 9) scTakeMeasure.nd rfl (Or.inl rfl) (pe_ifExp (pt_val (pv 3)) (pe_un un_neg (pv 8)) (pv 8))) <|
      pss_cons (ps_if (PW.pt (pw_or (PW.pt (pw_and (pt_val (pv 3)) (pw_and1 (pt_cmpR op_eq (pv 8) pe_int (nomark _))))) (pw_or1 (pt_not (pt_val (pe_call (ok_isMeasure T.isMeasure T.nLARGEST) hr1 rfl T.isMeasure.m T.isMeasure.F.kp T.isMeasure.b .nil pass0 (pa_cons (pv 9) (pa_cons (pv 1) pa_nil))))))))
        (pss_one (ps_raise T.xF (ok_fault T) hr2 rfl T.mF T.bF throws_def (pa_cons (pn T.nNOMEAS) (pa_cons (pv 2) pa_nil)))) pss_nil) <|
      pss_one (ps_ret (pv 9)), ?_⟩
    rw [← measM_eq, measM_steps] at r
    -- first = cursor.place; below = take_if_there(cursor, DASH)
    refine ⟨_, rfl, c, T.C, dx, _, _, rfl, hc, T.cl, T.nP, cur_place _ _, _, rfl, c, ta, b, p, 45, rfl, A1, fun H1 A2 k1 => ?_⟩
    have e1 := ifThere_at 45 b p
    rw [show (rst b p).at_ = p from rfl] at r
    generalize hbl : (ifThere 45 (rst b p)).1 = below at r
    generalize hq1 : (ifThere 45 (rst b p)).2 = s1 at r e1 A2
    generalize s1.at_ = p1 at e1 A2
    subst e1
    -- feet
    refine ⟨_, rfl, c, ta, b, p1, rfl, A2, ?_⟩
    cases g1 : feetM (rst b p1) with
    | bad k q => rw [g1] at r; exact FltE.on r k1
    | ok f s2 =>
    rw [g1] at r
    intro H2 A3 k2
    obtain ⟨e2, hf⟩ := feetM_at g1
    dsimp only [bnd] at r
    generalize s2.at_ = p2 at e2 A3
    subst e2
    have k12 := k1.trans k2
    -- the dash
    refine ⟨_, rfl, c, ta, b, p2, 45, rfl, A3, ?_⟩
    cases g2 : Loft.byte 45 (rst b p2) with
    | bad k q => rw [g2] at r; exact FltE.on r k12
    | ok u s3 =>
    rw [g2] at r
    intro H3 A4 k3
    have e3 := byte_at g2
    dsimp only [bnd] at r
    generalize s3.at_ = p3 at e3 A4
    subst e3
    have k13 := k12.trans k3
    -- inches
    refine ⟨_, rfl, c, ta, b, p3, rfl, A4, ?_⟩
    cases g3 : inchM (rst b p3) with
    | bad k q => rw [g3] at r; exact FltE.on r k13
    | ok i s4 =>
    rw [g3] at r
    intro H4 A5 k4
    obtain ⟨e4, hi⟩ := inchM_at g3
    dsimp only [bnd] at r
    generalize s4.at_ = p4 at e4 A5
    subst e4
    have k14 := k13.trans k4
    -- the dash
    refine ⟨_, rfl, c, ta, b, p4, 45, rfl, A5, ?_⟩
    cases g4 : Loft.byte 45 (rst b p4) with
    | bad k q => rw [g4] at r; exact FltE.on r k14
    | ok u s5 =>
    rw [g4] at r
    intro H5 A6 k5
    have e5 := byte_at g4
    dsimp only [bnd] at r
    generalize s5.at_ = p5 at e5 A6
    subst e5
    have k15 := k14.trans k5
    -- eighths
    refine ⟨_, rfl, c, ta, b, p5, rfl, A6, ?_⟩
    cases g5 : dig (rst b p5) with
    | bad k q => rw [g5] at r; exact FltE.on r k15
    | ok e s6 =>
    rw [g5] at r
    intro H6 A7 k6
    obtain ⟨e6, he⟩ := dig_at g5
    dsimp only [bnd] at r
    generalize s6.at_ = p6 at e6 A7
    subst e6
    have k16 := k15.trans k6
    -- more
    refine ⟨_, rfl, c, ta, b, p6, 43, rfl, A7, fun H7 A8 k7 => ⟨_, rfl, ?_⟩⟩
    have e7 := ifThere_at 43 b p6
    generalize (ifThere 43 (rst b p6)).1 = pl at r
    generalize (ifThere 43 (rst b p6)).2 = s7 at r e7 A8
    generalize s7.at_ = p7 at e7 A8
    subst e7
    have k17 := k16.trans k7
    refine ite_tC ?_
    obtain ⟨mo, hmo, hm1⟩ : ∃ mo : Nat, (if pl = true then 1 else 0) = mo ∧ mo ≤ 1 := ⟨_, rfl, by split <;> omega⟩
    have hmi : (if pl = true then (1 : Int) else 0) = (mo : Int) := by rw [← hmo]; split <;> rfl
    rw [hmo] at r
    rw [hmi]
    refine ⟨_, rfl, c, ta, b, p7, rfl, A8, ?_⟩
    cases g6 : wholeM (rst b p7) with
    | bad k q => rw [g6] at r; exact FltE.on r k17
    | ok u s8 =>
      rw [g6] at r
      intro H8 A9 k8
      have e8 := wholeM_at g6
      subst e8
      dsimp only [bnd] at r
      have k18 := k17.trans k8
      have A9 : CurAt T.C H8 c ta b p7 := A9
      unfold worthM at r
      by_cases w1 : 5461 < f ∨ 11 < i ∨ 7 < e
      · rw [if_pos w1] at r
        have bad := FltE.on r k18
        refine ⟨_, rfl, _, _, rfl, rfl, _, rfl, ?_⟩
        refine ite2 (fun h2 => iteT ⟨_, rfl, by show 2 ≤ sizeLine; decide, fun x t0 hx => raise_flt bad rfl rfl hx⟩) (fun h2 => ?_)
        refine ⟨_, rfl, _, _, rfl, rfl, _, rfl, ?_⟩
        refine ite2 (fun h3 => iteT ⟨_, rfl, by show 2 ≤ sizeLine; decide, fun x t0 hx => raise_flt bad rfl rfl hx⟩) (fun h3 => ?_)
        refine ⟨_, rfl, _, _, rfl, rfl, _, rfl, ?_⟩
        have d2 : ¬ 5461 < f := fun z => h2 (decide_eq_true (by omega))
        have d3 : ¬ 11 < i := fun z => h3 (decide_eq_true (by omega))
        rw [decide_eq_true (by omega : (7 : Int) < (e : Int))]
        exact iteT ⟨_, rfl, by show 2 ≤ sizeLine; decide, fun x t0 hx => raise_flt bad rfl rfl hx⟩
      · rw [if_neg w1] at r
        refine ⟨_, rfl, _, _, rfl, rfl, _, rfl, ?_⟩
        rw [decide_eq_false (by omega : ¬ (5461 : Int) < (f : Int))]
        refine iteF ⟨_, rfl, _, _, rfl, rfl, _, rfl, ?_⟩
        rw [decide_eq_false (by omega : ¬ (11 : Int) < (i : Int))]
        refine iteF ⟨_, rfl, _, _, rfl, rfl, _, rfl, ?_⟩
        rw [decide_eq_false (by omega : ¬ (7 : Int) < (e : Int))]
        refine iteF ?_
        -- size
        refine ⟨_, rfl, _, _, rfl, rfl, .inl ⟨by omega, by omega⟩, _, rfl, _, _, rfl, rfl, .inl ⟨by omega, by omega⟩, _, _, rfl, rfl, _, rfl, _, _, rfl, rfl, .inl ⟨by omega, by omega⟩, _, _, rfl, rfl, _, rfl, _, _, rfl, rfl, ?_⟩
        generalize hn : 192 * f + 16 * i + 2 * e + mo = n at r
        have es : (f : Int) * 192 + (i : Int) * 16 + (e : Int) * 2 + (mo : Int) = (n : Int) := by omega
        have bad2 : FltE T.CF E H c 2 p → FltE T.CF E H8 c 2 p := fun z => FltE.on z k18
        show (tSeq _ _) _ _ _
        rw [show ((fun i j => V.int (i + j)) ((f : Int) * 192 + (i : Int) * 16 + (e : Int) * 2) (mo : Int)) = V.int (n : Int) from congrArg V.int es]
        have hn7 : n ≤ 1048575 + 1000 := by omega
        cases below with
        | true =>
          refine ⟨_, rfl, _, rfl, iteT ⟨_, rfl, _, rfl, ?_⟩⟩
          refine ⟨_, rfl, _, rfl, iteT ⟨_, rfl, rfl, _, rfl, ?_⟩⟩
          by_cases n0 : n = 0
          · subst n0
            rw [if_pos (.inr ⟨rfl, rfl⟩)] at r
            have bad := bad2 r
            rw [decide_eq_true (show V.int ((0 : Nat) : Int) = V.int 0 from rfl)]
            exact iteT (iteT ⟨_, rfl, by show 2 ≤ sizeLine; decide, fun x t0 hx => raise_flt bad rfl rfl hx⟩)
          · rw [decide_eq_false (fun z => n0 (by have := V.int.inj z; omega) : ¬ V.int (n : Int) = V.int 0)]
            refine iteF ⟨_, rfl, _, rfl, -(n : Int), leastOf from0, rfl, _, rfl, ?_⟩
            by_cases w2 : 1048575 < n ∨ from0 = true
            · have bad : FltE T.CF E H8 c 2 p := by
                by_cases w3 : 1048575 < n
                · rw [if_pos (.inl w3)] at r; exact bad2 r
                · rw [if_neg (fun z => z.elim w3 fun q => n0 q.2), if_pos ⟨w2.resolve_left w3, rfl⟩] at r; exact bad2 r
              rw [okM_f (l := leastOf from0) (z := -(n : Int)) (by unfold leastOf; rcases w2 with w3 | w3 <;> split <;> omega)]
              exact iteT ⟨_, rfl, by show 2 ≤ sizeLine; decide, fun x t0 hx => raise_flt bad rfl rfl hx⟩
            · have f0 : ¬ from0 = true := fun z => w2 (.inr z)
              rw [if_neg (fun z => z.elim (fun q => w2 (.inl q)) fun q => n0 q.2), if_neg (fun z => f0 z.1)] at r
              rw [okM_t (l := leastOf from0) (z := -(n : Int)) (by unfold leastOf; rw [if_neg f0]; have : ¬ 1048575 < n := fun q => w2 (.inl q); omega) (by omega)]
              exact iteF ⟨_, rfl, r H8 A9 k18⟩
        | false =>
          refine ⟨_, rfl, _, rfl, iteF ⟨_, rfl, ?_⟩⟩
          refine ⟨_, rfl, _, rfl, iteF (iteF ⟨_, rfl, _, rfl, (n : Int), leastOf from0, rfl, _, rfl, ?_⟩)⟩
          by_cases w2 : 1048575 < n
          · rw [if_pos (.inl w2)] at r
            have bad := bad2 r
            rw [okM_f (l := leastOf from0) (z := (n : Int)) (.inr (by omega))]
            exact iteT ⟨_, rfl, by show 2 ≤ sizeLine; decide, fun x t0 hx => raise_flt bad rfl rfl hx⟩
          · rw [if_neg (fun z => z.elim w2 fun q => Bool.noConfusion q.1), if_neg (fun z => Bool.noConfusion z.2)] at r
            rw [okM_t (l := leastOf from0) (z := (n : Int)) (by unfold leastOf; split <;> omega) (by omega)]
            exact iteF ⟨_, rfl, r H8 A9 k18⟩
end
end Off

end
section
set_option Elab.async false
set_option linter.all false
set_option maxRecDepth 100000
set_option maxHeartbeats 4000000
namespace Off
open PySem PySem.Spec PyProof.Rows L2 XL
open Loft (Bytes Rest Got)

def iv (l : List Int) : List V := l.map V.int
theorem iv_len (l : List Int) : (iv l).length = l.length := List.length_map _
theorem iv_app (l : List Int) (z : Int) : iv l ++ [V.int z] = iv (l ++ [z]) := by unfold iv; rw [List.map_append]; rfl
def spTakeRising (C CF : Addr) : Sp := fun vs H Q E => ∃ (c ta : Addr) (b : Bytes) (p : Nat) (from0 : Bool) (ba : Addr) (l : List Int), vs = [.ref c, .int (leastOf from0), .ref ba] ∧ H ba = some (.lst (iv l)) ∧ CurAt C H c ta b p ∧
  Res C CF H c ta b Q E V.int (Loft.measure from0 l.getLast? (rst b p))
def blankM (n m : Nat) (r : Rest) : Got Unit := if n = m then .bad 4 r.at_ else Loft.byte 32 r
def spTakeBlank (C CF : Addr) : Sp := fun vs H Q E => ∃ (c ta : Addr) (b : Bytes) (p n m : Nat), vs = [.ref c, .int (n : Int), .int (m : Int)] ∧ CurAt C H c ta b p ∧ Res C CF H c ta b Q E (fun _ => V.non) (blankM n m (rst b p))
def endM (n m : Nat) (r : Rest) : Got Unit := if r.text.head? = some 10 ∧ n < m then .bad 4 r.at_ else Loft.byte 10 r
def spTakeLineEnd (C CF : Addr) : Sp := fun vs H Q E => ∃ (c ta : Addr) (b : Bytes) (p n m : Nat), vs = [.ref c, .int (n : Int), .int (m : Int)] ∧ CurAt C H c ta b p ∧ Res C CF H c ta b Q E (fun _ => V.non) (endM n m (rst b p))

section
variable {P : Program} {w : World} {K : PySem.W.Frag} {mg : Str → Option Value} {base : Heap}
theorem scTakeRising : FnScope ["cursor", "least", "before", "first", "measure"] ["cursor", "least", "before"] (defScope sTakeRising) := ⟨rfl, rfl, rfl, by decide +kernel, rfl, by decide +kernel, by decide +kernel⟩
theorem ok_takeRising (T : TxR K mg) : FnOk P w K mg base (CX1 P w) 10 T.takeRising.f T.takeRising.fd ["cursor", "least", "before"] (spTakeRising T.C T.CF) := by
  refine T.takeRising.F.okX scTakeRising (fun vs H Q E h => ?_) (fun cdv A outer s H vs Q E hr h => ?_)
  · obtain ⟨c, ta, b, p, from0, ba, l, rfl, _⟩ := h
    rfl
  · obtain ⟨c, ta, b, p, from0, ba, l, rfl, hl, A1, r⟩ := h
    have hr2 : Room 2 _ := hr.mono (by decide)
    have hr8 : Room 8 _ := hr.mono (by decide)
    obtain ⟨dx, hc⟩ := A1.ob
    have nbc : ba ≠ c := ne_of hl hc (by intro z; cases z)
    refine ⟨_, pss_cons (ps_set (i := 3) scTakeRising.nd rfl (Or.inl rfl) (pe_fld (pv 0) rfl)) <|
      pss_cons (ps_set (i := 4) scTakeRising.nd rfl (Or.inl rfl) (pe_call (ok_takeMeasure T) hr8 rfl T.takeMeasure.m T.takeMeasure.F.kp T.takeMeasure.b .nil throws_def.passes (pa_cons (pv 0) (pa_cons (pv 1) pa_nil)))) <|
      pss_cons (ps_if (PW.pt (pw_and (pt_cmpR op_gt (pe_callB call_len_seq (by rfl) T.len PySem.boot_len (pa_cons (pv 2) pa_nil)) pe_int (nomark _)) (pw_and1 (pt_cmpR op_le (pv 4) (pe_ix ix_list (pv 2) (pe_un un_neg pe_int) (fun _ _ => rfl)) (nomark _)))))
        (pss_one (ps_raise T.xF (ok_fault T) hr2 rfl T.mF T.bF throws_def (pa_cons (pn T.nNOTRIS) (pa_cons (pv 3) pa_nil)))) pss_nil) <|
      pss_one (ps_ret (pv 4)), ?_⟩
    refine ⟨_, rfl, c, T.C, dx, _, _, rfl, hc, T.cl, T.nP, cur_place _ _, _, rfl, _, rfl, c, ta, b, p, from0, rfl, A1, ?_⟩
    rcases List.eq_nil_or_concat l with rfl | ⟨l0, y, rfl⟩
    · cases g : Loft.measure from0 none (rst b p) with
      | bad k q =>
        rw [show ([] : List Int).getLast? = none from rfl, g] at r
        exact r
      | ok z s1 =>
        rw [show ([] : List Int).getLast? = none from rfl, g] at r
        intro H1 A2 k1
        refine ⟨_, rfl, ba, _, rfl, .inl (SqL.of (k1 _ _ hl nbc)), _, _, rfl, rfl, _, rfl, ?_⟩
        refine iteF (iteF ⟨_, rfl, r H1 A2 k1⟩)
    · rw [List.concat_eq_append, List.getLast?_concat, measure_above] at r
      rw [List.concat_eq_append] at hl
      cases g : Loft.measure from0 none (rst b p) with
      | bad k q =>
        rw [g] at r
        exact r
      | ok z s1 =>
        rw [g] at r
        dsimp only [bnd] at r
        intro H1 A2 k1
        have hl1 := k1 _ _ hl nbc
        refine ⟨_, rfl, ba, _, rfl, .inl (SqL.of hl1), _, _, rfl, rfl, _, rfl, ?_⟩
        rw [decide_eq_true (show (0 : Int) < ((iv (l0 ++ [y])).length : Int) by rw [iv_len, List.length_append]; simp)]
        refine iteT ⟨_, rfl, _, rfl, _, rfl, ba, _, _, _, rfl, rfl, SqL.of hl1, (by rw [← iv_app]; exact atI_last _ _), _, _, rfl, rfl, _, rfl, ?_⟩
        refine ite2 (fun h1 => ?_) (fun h1 => ?_)
        · rw [if_pos (of_decide_eq_true h1)] at r
          exact ⟨_, rfl, by show 2 ≤ sizeLine; decide, fun x t0 hx => raise_flt (FltE.on r k1) rfl rfl hx⟩
        · rw [if_neg fun q => h1 (decide_eq_true q)] at r
          exact ⟨_, rfl, r H1 A2 k1⟩
theorem scTakeBlank : FnScope ["cursor", "count", "most"] ["cursor", "count", "most"] (defScope sTakeBlank) := ⟨rfl, rfl, rfl, by decide +kernel, rfl, by decide +kernel, by decide +kernel⟩
theorem ok_takeBlank (T : TxR K mg) : FnOk P w K mg base (CX1 P w) 6 T.takeBlank.f T.takeBlank.fd ["cursor", "count", "most"] (spTakeBlank T.C T.CF) := by
  refine T.takeBlank.F.okX scTakeBlank (fun vs H Q E h => ?_) (fun cdv A outer s H vs Q E hr h => ?_)
  · obtain ⟨c, ta, b, p, n, m, rfl, _⟩ := h
    rfl
  · obtain ⟨c, ta, b, p, n, m, rfl, A1, r⟩ := h
    have hr2 : Room 2 _ := hr.mono (by decide)
    have hr4 : Room 4 _ := hr.mono (by decide)
    obtain ⟨dx, hc⟩ := A1.ob
    refine ⟨_, pss_cons (ps_if (pt_cmpR op_eq (pv 1) (pv 2) (nomark _)) (pss_one (ps_raise T.xF (ok_fault T) hr2 rfl T.mF T.bF throws_def (pa_cons (pn T.nCOUNT) (pa_cons (pe_fld (pv 0) rfl) pa_nil)))) pss_nil) <|
      pss_one (ps_expr (pe_call (ok_takeByte T) hr4 rfl T.takeByte.m T.takeByte.F.kp T.takeByte.b .nil throws_def.passes (pa_cons (pv 0) (pa_cons (pn T.nBLANK) pa_nil)))), ?_⟩
    unfold blankM at r
    refine ⟨_, rfl, _, rfl, rfl, _, rfl, ?_⟩
    refine ite2 (fun h1 => ?_) (fun h1 => ?_)
    · have e : n = m := by have := V.int.inj (of_decide_eq_true h1); omega
      rw [if_pos e] at r
      exact ⟨_, rfl, c, T.C, dx, _, _, rfl, hc, T.cl, T.nP, cur_place _ _, by show 2 ≤ sizeLine; decide, fun x t0 hx => raise_flt r rfl rfl hx⟩
    · rw [if_neg (fun e => h1 (decide_eq_true (by rw [e])))] at r
      refine ⟨_, rfl, c, ta, b, p, 32, rfl, A1, ?_⟩
      exact r
theorem scTakeLineEnd : FnScope ["cursor", "count", "fewest"] ["cursor", "count", "fewest"] (defScope sTakeLineEnd) := ⟨rfl, rfl, rfl, by decide +kernel, rfl, by decide +kernel, by decide +kernel⟩
theorem ok_takeLineEnd (T : TxR K mg) : FnOk P w K mg base (CX1 P w) 6 T.takeLineEnd.f T.takeLineEnd.fd ["cursor", "count", "fewest"] (spTakeLineEnd T.C T.CF) := by
  refine T.takeLineEnd.F.okX scTakeLineEnd (fun vs H Q E h => ?_) (fun cdv A outer s H vs Q E hr h => ?_)
  · obtain ⟨c, ta, b, p, n, m, rfl, _⟩ := h
    rfl
  · obtain ⟨c, ta, b, p, n, m, rfl, A1, r⟩ := h
    have hr1 : Room 1 _ := hr.mono (by decide)
    have hr2 : Room 2 _ := hr.mono (by decide)
    have hr4 : Room 4 _ := hr.mono (by decide)
    obtain ⟨dx, hc⟩ := A1.ob
    refine ⟨_, pss_cons (ps_if (PW.pt (pw_and (pt_cmpR op_eq (pe_meth0 (pv 0) T.cl T.mB (ok_curB T) hr1 T.bB .nil pass0) (pn T.nLINE) (nomark _)) (pw_and1 (pt_cmpR op_lt (pv 1) (pv 2) (nomark _)))))
        (pss_one (ps_raise T.xF (ok_fault T) hr2 rfl T.mF T.bF throws_def (pa_cons (pn T.nCOUNT) (pa_cons (pe_fld (pv 0) rfl) pa_nil)))) pss_nil) <|
      pss_one (ps_expr (pe_call (ok_takeByte T) hr4 rfl T.takeByte.m T.takeByte.F.kp T.takeByte.b .nil throws_def.passes (pa_cons (pv 0) (pa_cons (pn T.nLINE) pa_nil)))), ?_⟩
    unfold endM at r
    rw [rst_head] at r
    refine ⟨_, rfl, c, dx, _, rfl, hc, cur_no _ _ (by decide +kernel) (by decide +kernel), c, ta, b, p, rfl, A1, rfl, _, rfl, ?_⟩
    have go : ¬ (b[p]? = some 10 ∧ n < m) → tDrop (tCall (spTakeByte T.C T.CF) [] E (tCons (tVar 0) (tCons (tC (.int 10)) tNil))) { nx := fun _ H' => Q .non H', rt := Q } [some (.ref c), some (.int (n : Int)), some (.int (m : Int))] H := fun hn => by
      rw [if_neg hn] at r
      exact ⟨_, rfl, c, ta, b, p, 10, rfl, A1, r⟩
    have e10 : byteAt b p = 10 ↔ b[p]? = some 10 := byteAt_eq (c := 10)
    refine ite2 (fun h1 => ?_) (fun h1 => ?_)
    · have z1 := e10.mp (V.int.inj (of_decide_eq_true h1))
      refine ⟨_, rfl, _, rfl, _, _, rfl, rfl, _, rfl, ?_⟩
      refine ite2 (fun h2 => ?_) (fun h2 => ?_)
      · have z2 : n < m := by have := of_decide_eq_true h2; omega
        rw [if_pos ⟨z1, z2⟩] at r
        exact ⟨_, rfl, c, T.C, dx, _, _, rfl, hc, T.cl, T.nP, cur_place _ _, by show 2 ≤ sizeLine; decide, fun x t0 hx => raise_flt r rfl rfl hx⟩
      · exact go fun z => h2 (decide_eq_true (by omega))
    · refine iteF ?_
      exact go fun z => h1 (decide_eq_true (by rw [e10.mpr z.1]))
end
end Off

end
section
set_option Elab.async false
set_option linter.all false
set_option maxRecDepth 100000
set_option maxHeartbeats 4000000
namespace Off
open PySem PySem.Spec PyProof.Rows L2 XL
open Loft (Bytes Rest Got)

/-! ### a row of measures -/
theorem dig_on {b : Bytes} {p n : Nat} {s : Rest} (h : dig (rst b p) = .ok n s) : s.at_ = p + 1 := by
  by_cases hb : ∃ x, b[p]? = some x ∧ Loft.isDigit x = true
  · obtain ⟨x, h1, h2⟩ := hb
    rw [dig_ok h1 h2] at h
    cases h
    rfl
  · rw [dig_bad hb] at h
    cases h
theorem byte_on {b : Bytes} {p : Nat} {x : UInt8} {u : Unit} {s : Rest} (h : Loft.byte x (rst b p) = .ok u s) : s.at_ = p + 1 := by
  by_cases hb : b[p]? = some x
  · rw [byte_ok hb] at h; cases h; rfl
  · rw [byte_bad hb] at h; cases h
theorem feetGo_on {b : Bytes} : ∀ (n p f : Nat), b.length - p = n → p ≤ (feetGo f (b.drop p) p).2.at_
  | n, p, f, hn => by
    by_cases h : 0 < f ∧ ∃ c, b[p]? = some c ∧ Loft.isDigit c = true
    · obtain ⟨h0, c, h1, h2⟩ := h
      have hl := lt_of_at h1
      rw [feetGo_step h1 h2 h0]
      exact Nat.le_trans (Nat.le_succ p) (feetGo_on (b.length - (p + 1)) (p + 1) _ rfl)
    · rw [feetGo_stop h]
      exact Nat.le_refl _
  termination_by n => n
  decreasing_by omega
theorem feetM_on {b : Bytes} {p f : Nat} {s : Rest} (h : feetM (rst b p) = .ok f s) : p < s.at_ := by
  unfold feetM at h
  cases hg : dig (rst b p) with
  | bad k q => rw [hg] at h; cases h
  | ok f0 s0 =>
    rw [hg] at h
    obtain ⟨e, h9⟩ := dig_at hg
    have e1 := dig_on hg
    cases h
    rw [e]
    have := feetGo_on (b := b) _ s0.at_ f0 rfl
    show p < (feetGo f0 (b.drop s0.at_) s0.at_).2.at_
    omega
theorem inchM_on {b : Bytes} {p i : Nat} {s : Rest} (h : inchM (rst b p) = .ok i s) : p < s.at_ := by
  unfold inchM at h
  cases hg : dig (rst b p) with
  | bad k q => rw [hg] at h; cases h
  | ok f0 s0 =>
    rw [hg] at h
    have e1 := dig_on hg
    dsimp only at h
    split at h
    · split at h
      · cases h
        show p < s0.at_ + 1
        omega
      · cases h; omega
    · cases h; omega
theorem ifThere_on (x : UInt8) (r : Rest) : r.at_ ≤ (ifThere x r).2.at_ := by
  unfold ifThere
  split
  · exact Nat.le_succ _
  · exact Nat.le_refl _
theorem bnd_inv {α β : Type} {g : Got α} {f : α → Rest → Got β} {v : β} {s : Rest} (h : bnd g f = .ok v s) : ∃ a r, g = .ok a r ∧ f a r = .ok v s := by
  cases g with
  | bad k p => cases h
  | ok a r => exact ⟨a, r, rfl, h⟩
theorem worthM_at {from0 below : Bool} {f i e mo p : Nat} {s r : Rest} {z : Int} (h : worthM from0 below f i e mo p s = .ok z r) : r = s := by
  unfold worthM at h
  split at h
  · cases h
  · split at h
    · cases h
    · split at h
      · cases h
      · cases h; rfl
theorem measure_at {b : Bytes} {p : Nat} {f0 : Bool} {z : Int} {s : Rest} (h : Loft.measure f0 none (rst b p) = .ok z s) : s = rst b s.at_ ∧ p < s.at_ := by
  rw [← measM_eq, measM_steps] at h
  have e0 := ifThere_at 45 b p
  have m0 := ifThere_on 45 (rst b p)
  rw [rst_at] at m0
  generalize (ifThere 45 (rst b p)).2 = s0 at h e0 m0
  generalize s0.at_ = p0 at e0 m0
  subst e0
  obtain ⟨f, r1, g1, h⟩ := bnd_inv h
  have e1 := (feetM_at g1).1
  have m1 := feetM_on g1
  generalize r1.at_ = p1 at e1 m1
  subst e1
  obtain ⟨u, r2, g2, h⟩ := bnd_inv h
  have e2 := byte_at g2
  have m2 := byte_on g2
  generalize r2.at_ = p2 at e2 m2
  subst e2
  obtain ⟨i, r3, g3, h⟩ := bnd_inv h
  have e3 := (inchM_at g3).1
  have m3 := inchM_on g3
  generalize r3.at_ = p3 at e3 m3
  subst e3
  obtain ⟨u, r4, g4, h⟩ := bnd_inv h
  have e4 := byte_at g4
  have m4 := byte_on g4
  generalize r4.at_ = p4 at e4 m4
  subst e4
  obtain ⟨e, r5, g5, h⟩ := bnd_inv h
  have e5 := (dig_at g5).1
  have m5 := dig_on g5
  generalize r5.at_ = p5 at e5 m5
  subst e5
  obtain ⟨u, r6, g6, h⟩ := bnd_inv h
  have e6 := wholeM_at g6
  have e7 := worthM_at h
  have e8 := ifThere_at 43 b p5
  have m8 := ifThere_on 43 (rst b p5)
  rw [rst_at] at m8
  subst e7 e6
  exact ⟨e8, by omega⟩
theorem measure_at' {b : Bytes} {p : Nat} {f0 : Bool} {o : Option Int} {z : Int} {s : Rest} (h : Loft.measure f0 o (rst b p) = .ok z s) : s = rst b s.at_ ∧ p < s.at_ := by
  cases o with
  | none => exact measure_at h
  | some y =>
    rw [measure_above] at h
    cases g : Loft.measure f0 none (rst b p) with
    | bad k q => rw [g] at h; cases h
    | ok z' s' =>
      rw [g] at h
      dsimp only [bnd] at h
      split at h
      · cases h
      · cases h; exact measure_at g
/-- one turn of a row -/
theorem measures_blank {f0 rs : Bool} {least most f p : Nat} {l : List Int} {b : Bytes} (h : b[p]? = some 32) : Loft.measures f0 rs least most (f + 1) l (rst b p) =
    bnd (blankM l.length most (rst b p)) fun _ s => bnd (Loft.measure f0 (if rs = true then l.getLast? else none) s) fun z s => Loft.measures f0 rs least most f (l ++ [z]) s := by
  rw [Loft.measures, rst_head, h]
  unfold blankM
  by_cases e : l.length = most
  · rw [if_pos e, if_pos e]; rfl
  · rw [if_neg e, if_neg e, byte_ok h, rst_on]
    dsimp only [bnd]
    cases Loft.measure f0 (if rs = true then l.getLast? else none) (rst b (p + 1)) <;> rfl
theorem measures_end {f0 rs : Bool} {least most f p : Nat} {l : List Int} {b : Bytes} (h : ¬ b[p]? = some 32) : Loft.measures f0 rs least most (f + 1) l (rst b p) = bnd (endM l.length least (rst b p)) fun _ s => .ok l s := by
  by_cases h10 : b[p]? = some 10
  · by_cases e : l.length < least
    · have hE : endM l.length least (rst b p) = .bad 4 p := by
        unfold endM
        rw [rst_head, if_pos ⟨h10, e⟩]
        rfl
      rw [hE, Loft.measures, rst_head, h10, if_pos e]
      rfl
    · have hE : endM l.length least (rst b p) = .ok () (rst b (p + 1)) := by
        unfold endM
        rw [rst_head, if_neg (fun z => e z.2), byte_ok h10]
      rw [hE, Loft.measures, rst_head, h10, if_neg e, rst_on]
      rfl
  · have hE : endM l.length least (rst b p) = .bad 1 p := by
      unfold endM
      rw [rst_head, if_neg (fun z => h10 z.1), byte_bad h10]
    rw [hE, Loft.measures, rst_head]
    split
    · rename_i z; exact absurd z h
    · rename_i z; exact absurd z h10
    · rfl
theorem endM_at {b : Bytes} {p n m : Nat} {u : Unit} {s : Rest} (h : endM n m (rst b p) = .ok u s) : s = rst b s.at_ := by
  unfold endM at h
  split at h
  · cases h
  · exact byte_at h
theorem word_at : ∀ {wd : Bytes} {b : Bytes} {p : Nat} {u : Unit} {s : Rest}, Loft.word wd (rst b p) = .ok u s → s = rst b s.at_
  | [], b, p, u, s, h => by cases h; rfl
  | c :: r, b, p, u, s, h => by
    rw [word_cons] at h
    cases g : Loft.byte c (rst b p) with
    | bad k q => rw [g] at h; cases h
    | ok u' s' =>
      rw [g] at h
      dsimp only [bnd] at h
      rw [byte_at g] at h
      exact word_at h
/-- a new list of numbers handed back -/
def ResL (C CF : Addr) (H : Hp) (c ta : Addr) (b : Bytes) (Q : VK) (E : XK) (g : Got (List Int)) : Prop := match g with
  | .ok l r => ∀ (H' : Hp) (la : Addr), H la = none → CurAt C H' c ta b r.at_ → H' la = some (.lst (iv l)) → Kp H H' c → Q (.ref la) H'
  | .bad k p => FltE CF E H c k p
def stationsM (r : Rest) : Got (List Int) := bnd (Loft.word (Loft.ascii "stations") r) fun _ r => Loft.measures true true 2 24 (r.text.length + 1) [] r
def spTakeStations (C CF : Addr) : Sp := fun vs H Q E => ∃ (c ta : Addr) (b : Bytes) (p : Nat), vs = [.ref c] ∧ CurAt C H c ta b p ∧ ResL C CF H c ta b Q E (stationsM (rst b p))
def spTakeHalf (C CF : Addr) : Sp := fun vs H Q E => ∃ (c ta : Addr) (b : Bytes) (p n : Nat), vs = [.ref c, .int (n : Int)] ∧ n ≤ 24 ∧ CurAt C H c ta b p ∧ ResL C CF H c ta b Q E (Loft.measures true false n n ((rst b p).text.length + 1) [] (rst b p))
theorem rst_len (b : Bytes) (p : Nat) : (rst b p).text.length = b.length - p := List.length_drop
theorem txt_stations : Txt "stations" (Loft.ascii "stations") := by
  show (Str.ofString "stations").cps.toList = _
  decide +kernel
theorem txt_level : Txt "level" (Loft.ascii "level") := by
  show (Str.ofString "level").cps.toList = _
  decide +kernel

section
variable {P : Program} {w : World} {K : PySem.W.Frag} {mg : Str → Option Value} {base : Heap}
theorem scTakeStations : FnScope ["cursor", "places"] ["cursor"] (defScope sTakeStations) := ⟨rfl, rfl, rfl, by decide +kernel, rfl, by decide +kernel, by decide +kernel⟩
theorem ok_takeStations (T : TxR K mg) : FnOk P w K mg base (CX1 P w) 12 T.takeStations.f T.takeStations.fd ["cursor"] (spTakeStations T.C T.CF) := by
  refine T.takeStations.F.okX scTakeStations (fun vs H Q E h => ?_) (fun cdv A outer s H vs Q E hr h => ?_)
  · obtain ⟨c, ta, b, p, rfl, _⟩ := h
    rfl
  · obtain ⟨c, ta, b, p, rfl, A1, r⟩ := h
    have hr1 : Room 1 _ := hr.mono (by decide)
    have hr6 : Room 6 _ := hr.mono (by decide)
    have hr10 : Room 10 _ := hr.mono (by decide)
    obtain ⟨dx, hc⟩ := A1.ob
    refine ⟨_, pss_cons (ps_set (i := 1) scTakeStations.nd rfl (Or.inl rfl) (pe_lst pa_nil)) <|
      pss_cons (ps_expr (pe_call (ok_takeWord T) hr6 rfl T.takeWord.m T.takeWord.F.kp T.takeWord.b .nil throws_def.passes (pa_cons (pv 0) (pa_cons pe_str pa_nil)))) <|
      pss_cons (ps_while own_def (pt_cmpR op_eq (pe_meth0 (pv 0) T.cl T.mB (ok_curB T) hr1 T.bB .nil pass0) (pn T.nBLANK) (nomark _))
        (pss_cons (ps_expr (pe_call (ok_takeBlank T) hr6 rfl T.takeBlank.m T.takeBlank.F.kp T.takeBlank.b .nil throws_def.passes (pa_cons (pv 0) (pa_cons (pe_callB call_len_seq (by rfl) T.len PySem.boot_len (pa_cons (pv 1) pa_nil)) (pa_cons (pn T.nMS) pa_nil))))) <|
        pss_one (ps_expr (pe_bm PySem.F.plainAttrs_list PySem.F.slot_list_append PySem.F.type_list_append mt_append (pv 1) (pa_cons (pe_call (ok_takeRising T) hr10 rfl T.takeRising.m T.takeRising.F.kp T.takeRising.b .nil throws_def.passes (pa_cons (pv 0) (pa_cons pe_int (pa_cons (pv 1) pa_nil)))) pa_nil))))) <|
      pss_cons (ps_expr (pe_call (ok_takeLineEnd T) hr6 rfl T.takeLineEnd.m T.takeLineEnd.F.kp T.takeLineEnd.b .nil throws_def.passes (pa_cons (pv 0) (pa_cons (pe_callB call_len_seq (by rfl) T.len PySem.boot_len (pa_cons (pv 1) pa_nil)) (pa_cons (pn T.nFEW) pa_nil))))) <|
      pss_one (ps_ret (pv 1)), ?_⟩
    refine ⟨by show 0 ≤ sizeLine; decide, fun la hla => ?_⟩
    have nla : la ≠ c := fun z => by rw [z, hc] at hla; cases hla
    have nlt : la ≠ ta := fun z => by rw [z, A1.tx] at hla; cases hla
    have A2 : CurAt T.C (upd H la (.lst (iv []))) c ta b p := ⟨⟨dx, by rw [upd_ne nla.symm]; exact hc⟩, by rw [upd_ne nlt.symm]; exact A1.tx, A1.le, A1.sm⟩
    have k1 : Kp H (upd H la (.lst (iv []))) c := fun x o hx _ => by rw [upd_ne (ne_of_none hx hla)]; exact hx
    refine ⟨_, rfl, c, ta, b, p, _, Loft.ascii "stations", rfl, txt_stations, A2, ?_⟩
    unfold stationsM at r
    cases g : Loft.word (Loft.ascii "stations") (rst b p) with
    | bad k q => rw [g] at r; exact FltE.on r k1
    | ok u s1 =>
    rw [g] at r
    have e1 := word_at g
    dsimp only [bnd] at r
    intro H2 A3 k2
    generalize s1.at_ = p1 at e1 A3
    subst e1
    have hl2 : H2 la = some (.lst (iv [])) := k2 la _ upd_same nla
    rw [rst_len] at r
    refine ⟨fun m σ H' => ∃ (l : List Int) (p' f : Nat), m = b.length - p' ∧ σ = [some (.ref c), some (.ref la)] ∧ CurAt T.C H' c ta b p' ∧ H' la = some (.lst (iv l)) ∧ Kp H H' c ∧ l.length ≤ 24 ∧ b.length - p' < f ∧
      Loft.measures true true 2 24 f l (rst b p') = Loft.measures true true 2 24 (b.length - p1 + 1) [] (rst b p1), ⟨_, [], p1, b.length - p1 + 1, rfl, rfl, A3, hl2, k1.trans k2, Nat.zero_le _, Nat.lt_succ_self _, rfl⟩, ?_⟩
    rintro m σ H3 ⟨l, p', f, rfl, rfl, A4, hl3, k3, h24, hf, e⟩
    obtain ⟨f, rfl⟩ : ∃ f', f = f' + 1 := ⟨f - 1, by omega⟩
    obtain ⟨dx3, hc3⟩ := A4.ob
    refine ⟨_, rfl, c, dx3, _, rfl, hc3, cur_no _ _ (by decide +kernel) (by decide +kernel), c, ta, b, p', rfl, A4, rfl, _, rfl, ?_⟩
    have e32 : byteAt b p' = 32 ↔ b[p']? = some 32 := byteAt_eq (c := 32)
    refine ite2 (fun h1 => ?_) (fun h1 => ?_)
    · have h32 := e32.mp (V.int.inj (of_decide_eq_true h1))
      have hlt := lt_of_at h32
      refine ⟨_, fun σ' H' z => z, ?_⟩
      rw [measures_blank h32, if_pos rfl] at e
      refine ⟨_, rfl, _, rfl, la, _, rfl, .inl (SqL.of hl3), c, ta, b, p', l.length, 24, (by rw [iv_len]; rfl), A4, ?_⟩
      cases g2 : blankM l.length 24 (rst b p') with
      | bad k q => rw [g2] at e; rw [← e] at r; exact FltE.on r k3
      | ok u s2 =>
      have e2 : s2 = rst b (p' + 1) := by
        unfold blankM at g2
        split at g2
        · cases g2
        · rw [byte_ok h32] at g2; cases g2; rfl
      have hne : ¬ l.length = 24 := fun z => by unfold blankM at g2; rw [if_pos z] at g2; cases g2
      subst e2
      rw [g2] at e
      dsimp only [bnd] at e
      intro H4 A5 k4
      have k34 := k3.trans k4
      have hl4 := k4 la _ hl3 nla
      refine ⟨_, rfl, .inl ⟨rfl, _, SqL.of hl4⟩, _, rfl, _, rfl, c, ta, b, p' + 1, true, la, l, rfl, hl4, A5, ?_⟩
      cases g3 : Loft.measure true l.getLast? (rst b (p' + 1)) with
      | bad k q => rw [g3] at e; rw [← e] at r; exact FltE.on r k34
      | ok z s3 =>
      rw [g3] at e
      obtain ⟨e3, hp3⟩ := measure_at' g3
      intro H5 A6 k5
      have hl5 := k5 la _ hl4 nla
      have k35 := k34.trans k5
      dsimp only [bnd] at e
      generalize s3.at_ = p3 at e3 A6 hp3
      subst e3
      refine ⟨la, _, _, rfl, rfl, hl5, by rw [iv_len]; exact Nat.lt_of_le_of_lt h24 (by decide), ?_⟩
      obtain ⟨dx6, hc6⟩ := A6.ob
      refine ⟨b.length - p3, by have := A6.le; omega, l ++ [z], p3, f, rfl, rfl, ⟨⟨dx6, by rw [upd_ne nla.symm]; exact hc6⟩, by rw [upd_ne nlt.symm]; exact A6.tx, A6.le, A6.sm⟩, by rw [upd_same, iv_app], ?_, by rw [List.length_append]; simp; omega, by have := A6.le; omega, e⟩
      exact fun x o hx hxc => by rw [upd_ne (ne_of_none hx hla)]; exact k35 x o hx hxc
    · have h32 : ¬ b[p']? = some 32 := fun z => h1 (decide_eq_true (by rw [e32.mpr z]))
      rw [measures_end h32] at e
      refine ⟨_, rfl, _, rfl, la, _, rfl, .inl (SqL.of hl3), c, ta, b, p', l.length, 2, (by rw [iv_len]; rfl), A4, ?_⟩
      cases g2 : endM l.length 2 (rst b p') with
      | bad k q => rw [g2] at e; rw [← e] at r; exact FltE.on r k3
      | ok u s2 =>
      rw [g2] at e
      dsimp only [bnd] at e
      rw [← e] at r
      intro H4 A5 k4
      exact ⟨_, rfl, r H4 la hla A5 (k4 la _ hl3 nla) (k3.trans k4)⟩
end
end Off

end
section
set_option Elab.async false
set_option linter.all false
set_option maxRecDepth 100000
set_option maxHeartbeats 4000000
namespace Off
open PySem PySem.Spec PyProof.Rows L2 XL
open Loft (Bytes Rest Got)

def heightM (before : List Int) (r : Rest) : Got Int := bnd (Loft.word (Loft.ascii "level") r) fun _ r => bnd (Loft.byte 32 r) fun _ r => bnd (Loft.measure false before.getLast? r) fun z r => bnd (Loft.byte 58 r) fun _ r => .ok z r
def spTakeHeight (C CF : Addr) : Sp := fun vs H Q E => ∃ (c ta : Addr) (b : Bytes) (p : Nat) (ba : Addr) (l : List Int), vs = [.ref c, .ref ba] ∧ H ba = some (.lst (iv l)) ∧ CurAt C H c ta b p ∧ Res C CF H c ta b Q E V.int (heightM l (rst b p))
theorem word_snoc : ∀ (a : Bytes) (c : UInt8) (b : Bytes) (p : Nat), Loft.word (a ++ [c]) (rst b p) = bnd (Loft.word a (rst b p)) fun _ s => Loft.byte c s
  | [], c, b, p => by
    rw [List.nil_append, word_cons]
    show bnd _ _ = Loft.byte c (rst b p)
    cases Loft.byte c (rst b p) <;> rfl
  | d :: a, c, b, p => by
    rw [List.cons_append, word_cons, word_cons, bnd_bnd]
    cases g : Loft.byte d (rst b p) with
    | bad k q => rfl
    | ok u s =>
      rw [byte_at g]
      exact word_snoc a c b _
theorem levelLine_eq (n : Nat) (before : List (Int × List Int)) (b : Bytes) (p : Nat) : Loft.levelLine n before (rst b p) =
    bnd (heightM (before.map Prod.fst) (rst b p)) fun z r => bnd (Loft.measures true false n n (r.text.length + 1) [] r) fun l r => .ok (z, l) r := by
  unfold Loft.levelLine heightM
  rw [show Loft.ascii "level " = Loft.ascii "level" ++ [32] from by decide +kernel, word_snoc, List.getLast?_map]
  cases Loft.word (Loft.ascii "level") (rst b p) with
  | bad k q => rfl
  | ok u s =>
    dsimp only [bnd]
    cases Loft.byte 32 s with
    | bad k q => rfl
    | ok u s =>
      dsimp only [bnd]
      cases Loft.measure false (Option.map Prod.fst before.getLast?) s with
      | bad k q => rfl
      | ok z s =>
        dsimp only [bnd]
        cases Loft.byte 58 s with
        | bad k q => rfl
        | ok u s =>
          dsimp only [bnd]
          cases Loft.measures true false n n (s.text.length + 1) [] s <;> rfl
theorem heightM_at {l : List Int} {b : Bytes} {p : Nat} {z : Int} {s : Rest} (h : heightM l (rst b p) = .ok z s) : s = rst b s.at_ := by
  unfold heightM at h
  obtain ⟨u, r1, g1, h⟩ := bnd_inv h
  rw [word_at g1] at h
  obtain ⟨u, r2, g2, h⟩ := bnd_inv h
  rw [byte_at g2] at h
  obtain ⟨u, r3, g3, h⟩ := bnd_inv h
  rw [(measure_at' g3).1] at h
  obtain ⟨u, r4, g4, h⟩ := bnd_inv h
  cases h
  exact byte_at g4
theorem measures_at {f0 rs : Bool} {least most : Nat} {b : Bytes} : ∀ {f : Nat} {l : List Int} {p : Nat} {v : List Int} {s : Rest}, Loft.measures f0 rs least most f l (rst b p) = .ok v s → s = rst b s.at_
  | 0, l, p, v, s, h => by cases h
  | f + 1, l, p, v, s, h => by
    by_cases h32 : b[p]? = some 32
    · rw [measures_blank h32] at h
      obtain ⟨u, r1, g1, h⟩ := bnd_inv h
      have e1 : r1 = rst b r1.at_ := by
        unfold blankM at g1
        split at g1
        · cases g1
        · exact byte_at g1
      rw [e1] at h
      obtain ⟨z, r2, g2, h⟩ := bnd_inv h
      rw [(measure_at' g2).1] at h
      exact measures_at h
    · rw [measures_end h32] at h
      obtain ⟨u, r1, g1, h⟩ := bnd_inv h
      cases h
      exact endM_at g1

section
variable {P : Program} {w : World} {K : PySem.W.Frag} {mg : Str → Option Value} {base : Heap}
theorem scTakeHeight : FnScope ["cursor", "heights", "height"] ["cursor", "heights"] (defScope sTakeHeight) := ⟨rfl, rfl, rfl, by decide +kernel, rfl, by decide +kernel, by decide +kernel⟩
theorem ok_takeHeight (T : TxR K mg) : FnOk P w K mg base (CX1 P w) 12 T.takeHeight.f T.takeHeight.fd ["cursor", "heights"] (spTakeHeight T.C T.CF) := by
  refine T.takeHeight.F.okX scTakeHeight (fun vs H Q E h => ?_) (fun cdv A outer s H vs Q E hr h => ?_)
  · obtain ⟨c, ta, b, p, ba, l, rfl, _⟩ := h
    rfl
  · obtain ⟨c, ta, b, p, ba, l, rfl, hl, A1, r⟩ := h
    have hr4 : Room 4 _ := hr.mono (by decide)
    have hr6 : Room 6 _ := hr.mono (by decide)
    have hr10 : Room 10 _ := hr.mono (by decide)
    obtain ⟨dx, hc⟩ := A1.ob
    have nbc : ba ≠ c := ne_of hl hc (by intro z; cases z)
    refine ⟨_, pss_cons (ps_expr (pe_call (ok_takeWord T) hr6 rfl T.takeWord.m T.takeWord.F.kp T.takeWord.b .nil throws_def.passes (pa_cons (pv 0) (pa_cons pe_str pa_nil)))) <|
      pss_cons (ps_expr (pe_call (ok_takeByte T) hr4 rfl T.takeByte.m T.takeByte.F.kp T.takeByte.b .nil throws_def.passes (pa_cons (pv 0) (pa_cons (pn T.nBLANK) pa_nil)))) <|
      pss_cons (ps_set (i := 2) scTakeHeight.nd rfl (Or.inl rfl) (pe_call (ok_takeRising T) hr10 rfl T.takeRising.m T.takeRising.F.kp T.takeRising.b .nil throws_def.passes (pa_cons (pv 0) (pa_cons (pe_un un_neg (pn T.nLARGEST)) (pa_cons (pv 1) pa_nil))))) <|
      pss_cons (ps_expr (pe_call (ok_takeByte T) hr4 rfl T.takeByte.m T.takeByte.F.kp T.takeByte.b .nil throws_def.passes (pa_cons (pv 0) (pa_cons (pn T.nCOLON) pa_nil)))) <|
      pss_one (ps_ret (pv 2)), ?_⟩
    unfold heightM at r
    refine ⟨_, rfl, c, ta, b, p, _, Loft.ascii "level", rfl, txt_level, A1, ?_⟩
    cases g1 : Loft.word (Loft.ascii "level") (rst b p) with
    | bad k q => rw [g1] at r; exact r
    | ok u s1 =>
    rw [g1] at r
    have e1 := word_at g1
    dsimp only [bnd] at r
    intro H1 A2 k1
    generalize s1.at_ = p1 at e1 A2
    subst e1
    refine ⟨_, rfl, c, ta, b, p1, 32, rfl, A2, ?_⟩
    cases g2 : Loft.byte 32 (rst b p1) with
    | bad k q => rw [g2] at r; exact FltE.on r k1
    | ok u s2 =>
    rw [g2] at r
    have e2 := byte_at g2
    dsimp only [bnd] at r
    intro H2 A3 k2
    generalize s2.at_ = p2 at e2 A3
    subst e2
    have k12 := k1.trans k2
    refine ⟨_, rfl, _, rfl, _, rfl, c, ta, b, p2, false, ba, l, rfl, k12 _ _ hl nbc, A3, ?_⟩
    cases g3 : Loft.measure false l.getLast? (rst b p2) with
    | bad k q => rw [g3] at r; exact FltE.on r k12
    | ok z s3 =>
    rw [g3] at r
    have e3 := (measure_at' g3).1
    dsimp only [bnd] at r
    intro H3 A4 k3
    generalize s3.at_ = p3 at e3 A4
    subst e3
    have k13 := k12.trans k3
    refine ⟨_, rfl, c, ta, b, p3, 58, rfl, A4, ?_⟩
    cases g4 : Loft.byte 58 (rst b p3) with
    | bad k q => rw [g4] at r; exact FltE.on r k13
    | ok u s4 =>
    rw [g4] at r
    intro H4 A5 k4
    exact ⟨_, rfl, r H4 A5 (k13.trans k4)⟩
theorem scTakeHalf : FnScope ["cursor", "stations", "row"] ["cursor", "stations"] (defScope sTakeHalf) := ⟨rfl, rfl, rfl, by decide +kernel, rfl, by decide +kernel, by decide +kernel⟩
theorem ok_takeHalf (T : TxR K mg) : FnOk P w K mg base (CX1 P w) 12 T.takeHalf.f T.takeHalf.fd ["cursor", "stations"] (spTakeHalf T.C T.CF) := by
  refine T.takeHalf.F.okX scTakeHalf (fun vs H Q E h => ?_) (fun cdv A outer s H vs Q E hr h => ?_)
  · obtain ⟨c, ta, b, p, n, rfl, _⟩ := h
    rfl
  · obtain ⟨c, ta, b, p, n, rfl, hn, A1, r⟩ := h
    have hr1 : Room 1 _ := hr.mono (by decide)
    have hr6 : Room 6 _ := hr.mono (by decide)
    have hr8 : Room 8 _ := hr.mono (by decide)
    obtain ⟨dx, hc⟩ := A1.ob
    refine ⟨_, pss_cons (ps_set (i := 2) scTakeHalf.nd rfl (Or.inl rfl) (pe_lst pa_nil)) <|
      pss_cons (ps_while own_def (pt_cmpR op_eq (pe_meth0 (pv 0) T.cl T.mB (ok_curB T) hr1 T.bB .nil pass0) (pn T.nBLANK) (nomark _))
        (pss_cons (ps_expr (pe_call (ok_takeBlank T) hr6 rfl T.takeBlank.m T.takeBlank.F.kp T.takeBlank.b .nil throws_def.passes (pa_cons (pv 0) (pa_cons (pe_callB call_len_seq (by rfl) T.len PySem.boot_len (pa_cons (pv 2) pa_nil)) (pa_cons (pv 1) pa_nil))))) <|
        pss_one (ps_expr (pe_bm PySem.F.plainAttrs_list PySem.F.slot_list_append PySem.F.type_list_append mt_append (pv 2) (pa_cons (pe_call (ok_takeMeasure T) hr8 rfl T.takeMeasure.m T.takeMeasure.F.kp T.takeMeasure.b .nil throws_def.passes (pa_cons (pv 0) (pa_cons pe_int pa_nil))) pa_nil))))) <|
      pss_cons (ps_expr (pe_call (ok_takeLineEnd T) hr6 rfl T.takeLineEnd.m T.takeLineEnd.F.kp T.takeLineEnd.b .nil throws_def.passes (pa_cons (pv 0) (pa_cons (pe_callB call_len_seq (by rfl) T.len PySem.boot_len (pa_cons (pv 2) pa_nil)) (pa_cons (pv 1) pa_nil))))) <|
      pss_one (ps_ret (pv 2)), ?_⟩
    refine ⟨by show 0 ≤ sizeLine; decide, fun la hla => ?_⟩
    have nla : la ≠ c := fun z => by rw [z, hc] at hla; cases hla
    have nlt : la ≠ ta := fun z => by rw [z, A1.tx] at hla; cases hla
    have A2 : CurAt T.C (upd H la (.lst (iv []))) c ta b p := ⟨⟨dx, by rw [upd_ne nla.symm]; exact hc⟩, by rw [upd_ne nlt.symm]; exact A1.tx, A1.le, A1.sm⟩
    have k1 : Kp H (upd H la (.lst (iv []))) c := fun x o hx _ => by rw [upd_ne (ne_of_none hx hla)]; exact hx
    rw [rst_len] at r
    refine ⟨fun m σ H' => ∃ (l : List Int) (p' f : Nat), m = b.length - p' ∧ σ = [some (.ref c), some (.int (n : Int)), some (.ref la)] ∧ CurAt T.C H' c ta b p' ∧ H' la = some (.lst (iv l)) ∧ Kp H H' c ∧ l.length ≤ n ∧ b.length - p' < f ∧
      Loft.measures true false n n f l (rst b p') = Loft.measures true false n n (b.length - p + 1) [] (rst b p), ⟨_, [], p, b.length - p + 1, rfl, rfl, A2, upd_same, k1, Nat.zero_le _, Nat.lt_succ_self _, rfl⟩, ?_⟩
    rintro m σ H3 ⟨l, p', f, rfl, rfl, A4, hl3, k3, h24, hf, e⟩
    obtain ⟨f, rfl⟩ : ∃ f', f = f' + 1 := ⟨f - 1, by omega⟩
    obtain ⟨dx3, hc3⟩ := A4.ob
    refine ⟨_, rfl, c, dx3, _, rfl, hc3, cur_no _ _ (by decide +kernel) (by decide +kernel), c, ta, b, p', rfl, A4, rfl, _, rfl, ?_⟩
    have e32 : byteAt b p' = 32 ↔ b[p']? = some 32 := byteAt_eq (c := 32)
    refine ite2 (fun h1 => ?_) (fun h1 => ?_)
    · have h32 := e32.mp (V.int.inj (of_decide_eq_true h1))
      have hlt := lt_of_at h32
      refine ⟨_, fun σ' H' z => z, ?_⟩
      rw [measures_blank h32, if_neg Bool.false_ne_true] at e
      refine ⟨_, rfl, _, rfl, la, _, rfl, .inl (SqL.of hl3), _, rfl, c, ta, b, p', l.length, n, (by rw [iv_len]; rfl), A4, ?_⟩
      cases g2 : blankM l.length n (rst b p') with
      | bad k q => rw [g2] at e; rw [← e] at r; exact FltE.on r k3
      | ok u s2 =>
      have e2 : s2 = rst b (p' + 1) := by
        unfold blankM at g2
        split at g2
        · cases g2
        · rw [byte_ok h32] at g2; cases g2; rfl
      have hne : ¬ l.length = n := fun z => by unfold blankM at g2; rw [if_pos z] at g2; cases g2
      subst e2
      rw [g2] at e
      dsimp only [bnd] at e
      intro H4 A5 k4
      have k34 := k3.trans k4
      have hl4 := k4 la _ hl3 nla
      refine ⟨_, rfl, .inl ⟨rfl, _, SqL.of hl4⟩, _, rfl, c, ta, b, p' + 1, true, rfl, A5, ?_⟩
      cases g3 : Loft.measure true none (rst b (p' + 1)) with
      | bad k q => rw [g3] at e; rw [← e] at r; exact FltE.on r k34
      | ok z s3 =>
      rw [g3] at e
      obtain ⟨e3, hp3⟩ := measure_at' g3
      intro H5 A6 k5
      have hl5 := k5 la _ hl4 nla
      have k35 := k34.trans k5
      dsimp only [bnd] at e
      generalize s3.at_ = p3 at e3 A6 hp3
      subst e3
      refine ⟨la, _, _, rfl, rfl, hl5, by rw [iv_len]; exact Nat.lt_of_le_of_lt (Nat.le_trans h24 hn) (by decide), ?_⟩
      obtain ⟨dx6, hc6⟩ := A6.ob
      refine ⟨b.length - p3, by have := A6.le; omega, l ++ [z], p3, f, rfl, rfl, ⟨⟨dx6, by rw [upd_ne nla.symm]; exact hc6⟩, by rw [upd_ne nlt.symm]; exact A6.tx, A6.le, A6.sm⟩, by rw [upd_same, iv_app], ?_, ?_, by have := A6.le; omega, e⟩
      · exact fun x o hx hxc => by rw [upd_ne (ne_of_none hx hla)]; exact k35 x o hx hxc
      · rw [List.length_append]
        show l.length + 1 ≤ n
        omega
    · have h32 : ¬ b[p']? = some 32 := fun z => h1 (decide_eq_true (by rw [e32.mpr z]))
      rw [measures_end h32] at e
      refine ⟨_, rfl, _, rfl, la, _, rfl, .inl (SqL.of hl3), _, rfl, c, ta, b, p', l.length, n, (by rw [iv_len]; rfl), A4, ?_⟩
      cases g2 : endM l.length n (rst b p') with
      | bad k q => rw [g2] at e; rw [← e] at r; exact FltE.on r k3
      | ok u s2 =>
      rw [g2] at e
      dsimp only [bnd] at e
      rw [← e] at r
      intro H4 A5 k4
      exact ⟨_, rfl, r H4 la hla A5 (k4 la _ hl3 nla) (k3.trans k4)⟩
end
end Off

end
section
set_option Elab.async false
set_option linter.all false
set_option maxRecDepth 100000
set_option maxHeartbeats 4000000
namespace Off
open PySem PySem.Spec PyProof.Rows L2 XL
open Loft (Bytes Rest Got)

abbrev sTabI : Stmt := inClass (top 4) 0
abbrev sTabHas : Stmt := inClass (top 4) 1
abbrev sTabNum : Stmt := inClass (top 4) 2
/-! ### a table -/
def tabF (pa ha ba : Addr) : List (Str × V) := putF "half_breadths" (.ref ba) (putF "heights" (.ref ha) (putF "places" (.ref pa) []))
theorem tab_ph : ¬ (("places" : Str) = "heights") := by decide +kernel
theorem tab_pb : ¬ (("places" : Str) = "half_breadths") := by decide +kernel
theorem tab_hb : ¬ (("heights" : Str) = "half_breadths") := by decide +kernel
theorem tab_places (pa ha ba : Addr) : (tabF pa ha ba).lookup ("places" : Str) = some (.ref pa) := by
  unfold tabF
  rw [lookup_putF, if_neg tab_pb, lookup_putF, if_neg tab_ph, lookup_putF, if_pos rfl]
theorem tab_heights (pa ha ba : Addr) : (tabF pa ha ba).lookup ("heights" : Str) = some (.ref ha) := by
  unfold tabF
  rw [lookup_putF, if_neg tab_hb, lookup_putF, if_pos rfl]
theorem tab_breadths (pa ha ba : Addr) : (tabF pa ha ba).lookup ("half_breadths" : Str) = some (.ref ba) := by
  unfold tabF
  rw [lookup_putF, if_pos rfl]
theorem tab_no (pa ha ba : Addr) {m : Str} (h1 : ¬ m = "half_breadths") (h2 : ¬ m = "heights") (h3 : ¬ m = "places") : (tabF pa ha ba).lookup m = none := by
  unfold tabF
  rw [lookup_putF, if_neg h1, lookup_putF, if_neg h2, lookup_putF, if_neg h3]
  rfl
structure TabAt (CT : Addr) (H : Hp) (t : Addr) (xs zs ys : List Int) : Prop where
  ex : ∃ dx pa ha ba, H t = some (.ins CT dx (tabF pa ha ba)) ∧ H pa = some (.lst (iv xs)) ∧ H ha = some (.lst (iv zs)) ∧ H ba = some (.lst (iv ys)) ∧ pa ≠ ha ∧ pa ≠ ba ∧ ha ≠ ba
/-- .. its lists by name -/
structure TabOn (CT : Addr) (H : Hp) (t dx pa ha ba : Addr) (xs zs ys : List Int) : Prop where
  ob : H t = some (.ins CT dx (tabF pa ha ba))
  p : H pa = some (.lst (iv xs))
  h : H ha = some (.lst (iv zs))
  b : H ba = some (.lst (iv ys))
  ph : pa ≠ ha
  pb : pa ≠ ba
  hb : ha ≠ ba
theorem TabOn.at {CT : Addr} {H : Hp} {t dx pa ha ba : Addr} {xs zs ys : List Int} (T : TabOn CT H t dx pa ha ba xs zs ys) : TabAt CT H t xs zs ys := ⟨⟨dx, pa, ha, ba, T.ob, T.p, T.h, T.b, T.ph, T.pb, T.hb⟩⟩
structure TxT (K : PySem.W.Frag) (mg : Str → Option Value) where
  CT : Addr
  clT : Cls K CT
  nPl : NoAttr K CT "places"
  nHe : NoAttr K CT "heights"
  nHb : NoAttr K CT "half_breadths"
  mT : mg "Table" = some (.ref CT)
  fT : Addr
  fdT : FuncData
  mkT : Mk K CT fT
  FT : Fun K "__init__" "Table.__init__" sTabI fT fdT
  bT : Binds K fdT ["self", "places", "heights", "half_breadths"] []
  fHas : Addr
  fdHas : FuncData
  mHas : Meth K CT "has_level_and_station" fHas
  FHas : Fun K "has_level_and_station" "Table.has_level_and_station" sTabHas fHas fdHas
  bHas : Binds K fdHas ["self", "level", "station"] []
  fNum : Addr
  fdNum : FuncData
  mNum : Meth K CT "number_of" fNum
  FNum : Fun K "number_of" "Table.number_of" sTabNum fNum fdNum
  bNum : Binds K fdNum ["self", "level", "station"] []
  lenT : mg "len" = none
def spTabI (CT : Addr) : Sp := fun vs H Q _ => ∃ (t dx pa ha ba : Addr), vs = [.ref t, .ref pa, .ref ha, .ref ba] ∧ H t = some (.ins CT dx []) ∧ ∀ H', H' t = some (.ins CT dx (tabF pa ha ba)) → Kp H H' t → Q .non H'
def spTabHas (CT : Addr) : Sp := fun vs H Q _ => ∃ (t dx pa ha ba : Addr) (xs zs ys : List Int) (j i : Int), vs = [.ref t, .int j, .int i] ∧ TabOn CT H t dx pa ha ba xs zs ys ∧ Q (.bl (LoftTableSeed.within j zs.length && LoftTableSeed.within i xs.length)) H
def spTabNum (CT : Addr) : Sp := fun vs H Q _ => ∃ (t dx pa ha ba : Addr) (xs zs ys : List Int) (j i : Int), vs = [.ref t, .int j, .int i] ∧ TabOn CT H t dx pa ha ba xs zs ys ∧ 0 ≤ j ∧ j ≤ 1000 ∧ xs.length ≤ 1000 ∧ Q (.int (j * (xs.length : Int) + i)) H
def spTableOf (CT CF : Addr) : Sp := fun vs H Q E => ∃ (ta : Addr) (b : Bytes), vs = [.ref ta] ∧ H ta = some (.lst (bv b)) ∧ b.length ≤ 30000 ∧ match Loft.readText b with
  | .ok T => ∀ (H' : Hp) (t dx pa ha ba : Addr), H t = none → H pa = none → H ha = none → H ba = none → TabOn CT H' t dx pa ha ba T.xs T.zs T.ys.flatten → Same H H' → Q (.ref t) H'
  | .error f => ∀ (H' : Hp) (dx : Addr), H' dx = some (XD dx (fltF (f.1 : Nat) (f.2 : Nat))) → Same H H' → E (.ref CF) (some dx) H'
theorem readText_eq (b : Bytes) : Loft.readText b = match (bnd (stationsM (rst b 0)) fun xs r => bnd (Loft.levelLines xs.length 18 [] r) fun l r => .ok (xs, l) r) with
    | .bad k p => .error (k, p)
    | .ok v _ => .ok ⟨v.1, v.2.map Prod.fst, v.2.map Prod.snd⟩ := by
  unfold Loft.readText stationsM
  show (match Loft.word (Loft.ascii "stations") (rst b 0) with
    | .bad k p => (Except.error (k, p) : Except Loft.Fault Loft.Table)
    | .ok _ r => _) = _
  cases Loft.word (Loft.ascii "stations") (rst b 0) with
  | bad k p => rfl
  | ok u r =>
    dsimp only [bnd]
    show (match Loft.measures true true 2 24 (r.text.length + 1) [] r with
      | .bad k p => (Except.error (k, p) : Except Loft.Fault Loft.Table)
      | .ok xs r => _) = _
    cases Loft.measures true true 2 24 (r.text.length + 1) [] r with
    | bad k p => rfl
    | ok xs r =>
      dsimp only [bnd]
      show (match Loft.levelLines xs.length 18 [] r with
        | .bad k p => (Except.error (k, p) : Except Loft.Fault Loft.Table)
        | .ok l _ => _) = _
      cases Loft.levelLines xs.length 18 [] r <;> rfl
theorem levelLines_end {n f p : Nat} {l : List (Int × List Int)} {b : Bytes} (h : b[p]? = none) : Loft.levelLines n (f + 1) l (rst b p) = if l.length < 2 then .bad 4 p else .ok l (rst b p) := by
  rw [Loft.levelLines, if_pos (rst_nil h)]
  rfl
theorem levelLines_more {n f p : Nat} {l : List (Int × List Int)} {b : Bytes} (h : ¬ b[p]? = none) : Loft.levelLines n (f + 1) l (rst b p) = if l.length = 16 then .bad 4 p else bnd (Loft.levelLine n l (rst b p)) fun x s => Loft.levelLines n f (l ++ [x]) s := by
  have h1 : ¬ (rst b p).text = [] := by
    cases q : b[p]? with
    | none => exact absurd q h
    | some c => rw [rst_cons q]; exact fun z => nomatch z
  rw [Loft.levelLines, if_neg h1]
  show (if l.length = 16 then _ else _) = _
  by_cases e : l.length = 16
  · rw [if_pos e, if_pos e]; rfl
  · rw [if_neg e, if_neg e]
    cases Loft.levelLine n l (rst b p) <;> rfl
theorem measures_len {f0 rs : Bool} {least most : Nat} {b : Bytes} : ∀ {f : Nat} {l : List Int} {p : Nat} {v : List Int} {s : Rest}, l.length ≤ most → Loft.measures f0 rs least most f l (rst b p) = .ok v s → v.length ≤ most
  | 0, l, p, v, s, hl, h => by cases h
  | f + 1, l, p, v, s, hl, h => by
    by_cases h32 : b[p]? = some 32
    · rw [measures_blank h32] at h
      obtain ⟨u, r1, g1, h⟩ := bnd_inv h
      have e1 : r1 = rst b r1.at_ ∧ l.length ≠ most := by
        unfold blankM at g1
        split at g1
        · cases g1
        · rename_i q; exact ⟨byte_at g1, q⟩
      rw [e1.1] at h
      obtain ⟨z, r2, g2, h⟩ := bnd_inv h
      rw [(measure_at' g2).1] at h
      exact measures_len (by rw [List.length_append]; have := e1.2; simp; omega) h
    · rw [measures_end h32] at h
      obtain ⟨u, r1, g1, h⟩ := bnd_inv h
      cases h
      exact hl

section
variable {P : Program} {w : World} {K : PySem.W.Frag} {mg : Str → Option Value} {base : Heap}
theorem scTabI : FnScope ["self", "places", "heights", "half_breadths"] ["self", "places", "heights", "half_breadths"] (defScope sTabI) := ⟨rfl, rfl, rfl, by decide +kernel, rfl, by decide +kernel, by decide +kernel⟩
theorem ok_tabI (T : TxT K mg) : FnOk P w K mg base CX0 1 T.fT T.fdT ["self", "places", "heights", "half_breadths"] (spTabI T.CT) := by
  refine T.FT.ok scTabI (fun vs H Q E h => ?_) (fun cdv A outer s H vs Q E hr h => ?_)
  · obtain ⟨t, dx, pa, ha, ba, rfl, _⟩ := h
    rfl
  · obtain ⟨t, dx, pa, ha, ba, rfl, ht, k⟩ := h
    refine ⟨_, pss_cons (ps_fld (pv 0) (pv 1) rfl) <| pss_cons (ps_fld (pv 0) (pv 2) rfl) <| pss_one (ps_fld (pv 0) (pv 3) rfl), ?_⟩
    refine ⟨_, rfl, _, rfl, t, T.CT, dx, [], rfl, ht, T.clT, T.nPl, (by show 0 < 1000; decide), ?_⟩
    refine ⟨_, rfl, _, rfl, t, T.CT, dx, _, rfl, upd_same, T.clT, T.nHe, (by show 1 < 1000; decide), ?_⟩
    refine ⟨_, rfl, _, rfl, t, T.CT, dx, _, rfl, upd_same, T.clT, T.nHb, (by rw [put2 tab_ph]; show 2 < 1000; decide), ?_⟩
    refine k _ upd_same fun x o h hx => ?_
    rw [upd_ne hx, upd_ne hx, upd_ne hx]
    exact h
theorem scTabHas : FnScope ["self", "level", "station"] ["self", "level", "station"] (defScope sTabHas) := ⟨rfl, rfl, rfl, by decide +kernel, rfl, by decide +kernel, by decide +kernel⟩
theorem ok_tabHas (T : TxT K mg) : FnOk P w K mg base CX0 1 T.fHas T.fdHas ["self", "level", "station"] (spTabHas T.CT) := by
  refine T.FHas.ok scTabHas (fun vs H Q E h => ?_) (fun cdv A outer s H vs Q E hr h => ?_)
  · obtain ⟨t, dx, pa, ha, ba, xs, zs, ys, j, i, rfl, _⟩ := h
    rfl
  · obtain ⟨t, dx, pa, ha, ba, xs, zs, ys, j, i, rfl, tb, q⟩ := h
    refine ⟨_, pss_one (ps_ret (pe_and (pe_chain op_le op_lt pe_int (pv 1) (pe_callB call_len_seq (by rfl) T.lenT PySem.boot_len (pa_cons (pe_fld (pv 0) rfl) pa_nil)))
      (pe_one (pe_chain op_le op_lt pe_int (pv 2) (pe_callB call_len_seq (by rfl) T.lenT PySem.boot_len (pa_cons (pe_fld (pv 0) rfl) pa_nil)))))), ?_⟩
    unfold LoftTableSeed.within at q
    refine ⟨_, rfl, _, _, rfl, rfl, _, rfl, ?_⟩
    refine ite2 (fun h1 => ?_) (fun h1 => ?_)
    · have h1 : 0 ≤ j := of_decide_eq_true h1
      rw [decide_eq_true h1, Bool.true_and] at q
      refine ⟨_, rfl, t, T.CT, dx, _, _, rfl, tb.ob, T.clT, T.nHe, tab_heights _ _ _, ha, _, rfl, .inl (SqL.of tb.h), _, _, rfl, rfl, _, rfl, ?_⟩
      rw [iv_len]
      refine ite2 (fun h2 => ?_) (fun h2 => ?_)
      · have h2 : j < (zs.length : Int) := of_decide_eq_true h2
        rw [decide_eq_true h2, Bool.true_and] at q
        refine ⟨_, rfl, _, _, rfl, rfl, _, rfl, ?_⟩
        refine ite2 (fun h3 => ?_) (fun h3 => ?_)
        · have h3 : 0 ≤ i := of_decide_eq_true h3
          rw [decide_eq_true h3, Bool.true_and] at q
          refine ⟨_, rfl, t, T.CT, dx, _, _, rfl, tb.ob, T.clT, T.nPl, tab_places _ _ _, pa, _, rfl, .inl (SqL.of tb.p), _, _, rfl, rfl, ?_⟩
          rw [iv_len]
          exact q
        · rw [decide_eq_false (fun z => h3 (decide_eq_true z)), Bool.false_and] at q
          exact q
      · rw [decide_eq_false (fun z => h2 (decide_eq_true z)), Bool.false_and] at q
        exact q
    · rw [decide_eq_false (fun z => h1 (decide_eq_true z)), Bool.false_and, Bool.false_and] at q
      exact ⟨_, rfl, q⟩
theorem scTabNum : FnScope ["self", "level", "station"] ["self", "level", "station"] (defScope sTabNum) := ⟨rfl, rfl, rfl, by decide +kernel, rfl, by decide +kernel, by decide +kernel⟩
theorem ok_tabNum (T : TxT K mg) : FnOk P w K mg base CX0 1 T.fNum T.fdNum ["self", "level", "station"] (spTabNum T.CT) := by
  refine T.FNum.ok scTabNum (fun vs H Q E h => ?_) (fun cdv A outer s H vs Q E hr h => ?_)
  · obtain ⟨t, dx, pa, ha, ba, xs, zs, ys, j, i, rfl, _⟩ := h
    rfl
  · obtain ⟨t, dx, pa, ha, ba, xs, zs, ys, j, i, rfl, tb, j0, j1, hx, q⟩ := h
    refine ⟨_, pss_one (ps_ret (pe_op op_add (pe_op op_mul (pv 1) (pe_callB call_len_seq (by rfl) T.lenT PySem.boot_len (pa_cons (pe_fld (pv 0) rfl) pa_nil))) (pv 2))), ?_⟩
    refine ⟨_, rfl, _, rfl, t, T.CT, dx, _, _, rfl, tb.ob, T.clT, T.nPl, tab_places _ _ _, pa, _, rfl, .inl (SqL.of tb.p), ?_⟩
    rw [iv_len]
    exact ⟨_, _, rfl, rfl, .inl ⟨by omega, by omega⟩, _, rfl, _, _, rfl, rfl, q⟩
theorem scTableOf : FnScope ["text", "cursor", "places", "heights", "half_breadths"] ["text"] (defScope sTableOf) := ⟨rfl, rfl, rfl, by decide +kernel, rfl, by decide +kernel, by decide +kernel⟩
theorem ok_tableOf (T : TxR K mg) (TT : TxT K mg) : FnOk P w K mg base (CX1 P w) 14 T.tableOf.f T.tableOf.fd ["text"] (spTableOf TT.CT T.CF) := by
  refine T.tableOf.F.okX scTableOf (fun vs H Q E h => ?_) (fun cdv A outer s H vs Q E hr h => ?_)
  · obtain ⟨ta, b, rfl, _⟩ := h
    rfl
  · obtain ⟨ta, b, rfl, hta, hsm, r⟩ := h
    have hr1 : Room 1 _ := hr.mono (by decide)
    have hr2 : Room 2 _ := hr.mono (by decide)
    have hr12 : Room 12 _ := hr.mono (by decide)
    refine ⟨_, pss_cons (ps_set (i := 1) scTableOf.nd rfl (Or.inl rfl) (pe_make T.mkC (ok_curI T) hr2 rfl T.mC T.bI .nil pass0 (pa_cons (pv 0) pa_nil))) <|
      pss_cons (ps_set (i := 2) scTableOf.nd rfl (Or.inl rfl) (pe_call (ok_takeStations T) hr12 rfl T.takeStations.m T.takeStations.F.kp T.takeStations.b .nil throws_def.passes (pa_cons (pv 1) pa_nil))) <|
      pss_cons (ps_set (i := 3) scTableOf.nd rfl (Or.inl rfl) (pe_lst pa_nil)) <|
      pss_cons (ps_set (i := 4) scTableOf.nd rfl (Or.inl rfl) (pe_lst pa_nil)) <|
      pss_cons (ps_while own_def (pt_cmpR op_ne (pe_meth0 (pv 1) T.cl T.mB (ok_curB T) hr1 T.bB .nil pass0) (pn T.nNOBYTE) (nomark _))
        (pss_cons (ps_if (pt_cmpR op_eq (pe_callB call_len_seq (by rfl) T.len PySem.boot_len (pa_cons (pv 3) pa_nil)) (pn T.nML) (nomark _))
            (pss_one (ps_raise T.xF (ok_fault T) hr2 rfl T.mF T.bF throws_def (pa_cons (pn T.nCOUNT) (pa_cons (pe_fld (pv 1) rfl) pa_nil)))) pss_nil) <|
          pss_cons (ps_expr (pe_bm PySem.F.plainAttrs_list PySem.F.slot_list_append PySem.F.type_list_append mt_append (pv 3) (pa_cons (pe_call (ok_takeHeight T) hr12 rfl T.takeHeight.m T.takeHeight.F.kp T.takeHeight.b .nil throws_def.passes (pa_cons (pv 1) (pa_cons (pv 3) pa_nil))) pa_nil))) <|
          pss_one (ps_expr (pe_bm PySem.F.plainAttrs_list PySem.F.slot_list_extend PySem.F.type_list_extend mt_extend (pv 4) (pa_cons (pe_call (ok_takeHalf T) hr12 rfl T.takeHalf.m T.takeHalf.F.kp T.takeHalf.b .nil throws_def.passes
            (pa_cons (pv 1) (pa_cons (pe_callB call_len_seq (by rfl) T.len PySem.boot_len (pa_cons (pv 2) pa_nil)) pa_nil))) pa_nil))))) <|
      pss_cons (ps_if (pt_cmpR op_lt (pe_callB call_len_seq (by rfl) T.len PySem.boot_len (pa_cons (pv 3) pa_nil)) (pn T.nFEW) (nomark _))
        (pss_one (ps_raise T.xF (ok_fault T) hr2 rfl T.mF T.bF throws_def (pa_cons (pn T.nCOUNT) (pa_cons (pe_fld (pv 1) rfl) pa_nil)))) pss_nil) <|
      pss_one (ps_ret (pe_make TT.mkT (ok_tabI TT) hr2 rfl TT.mT TT.bT .nil pass0 (pa_cons (pv 2) (pa_cons (pv 3) (pa_cons (pv 4) pa_nil))))), ?_⟩
    -- cursor = Cursor(text)
    refine ⟨_, rfl, fun c dxc hcn hdn hdc => ?_⟩
    have nct : ta ≠ c := ne_of_none hta hcn
    have ndt : ta ≠ dxc := ne_of_none hta hdn
    refine ⟨c, ta, dxc, b, rfl, upd_same, by rw [upd_ne nct, upd_ne ndt]; exact hta, hsm, fun H1 A1 k1 => ⟨rfl, ?_⟩⟩
    have s1 : Same H H1 := fun x o hx => k1 x o (by rw [upd_ne (ne_of_none hx hcn), upd_ne (ne_of_none hx hdn)]; exact hx) (ne_of_none hx hcn)
    rw [readText_eq] at r
    have fail : ∀ {k p : Nat} {H2 : Hp}, Kp H1 H2 c → (∀ (H' : Hp) (dx : Addr), H' dx = some (XD dx (fltF (k : Nat) (p : Nat))) → Same H H' → E (.ref T.CF) (some dx) H') → FltE T.CF E H2 c k p := fun {k p H2} k2 z H' dx hx k3 =>
      z H' dx hx fun x o hx => k3 x o (k2 x o (s1 x o hx) (ne_of_none hx hcn)) (ne_of_none hx hcn)
    -- places = take_stations(cursor)
    refine ⟨_, rfl, c, ta, b, 0, rfl, A1, ?_⟩
    cases g1 : stationsM (rst b 0) with
    | bad k p => rw [g1] at r; exact fail (Kp.refl _ _) r
    | ok xs s1' =>
    rw [g1] at r
    dsimp only [bnd] at r
    have e1 : s1' = rst b s1'.at_ ∧ xs.length ≤ 24 := by
      unfold stationsM at g1
      obtain ⟨u, r1, g1a, g1b⟩ := bnd_inv g1
      rw [word_at g1a] at g1b
      exact ⟨measures_at g1b, measures_len (Nat.zero_le _) g1b⟩
    obtain ⟨e1, h24⟩ := e1
    intro H2 pa hpa A2 hp2 k2
    generalize s1'.at_ = p1 at e1 A2
    subst e1
    obtain ⟨dx2, hc2⟩ := A2.ob
    have npc : pa ≠ c := fun z => by
      obtain ⟨dx, hc⟩ := A1.ob
      rw [z, hc] at hpa; cases hpa
    have npt : pa ≠ ta := fun z => by rw [z, A1.tx] at hpa; cases hpa
    -- heights = []; half_breadths = []
    refine ⟨by show 0 ≤ sizeLine; decide, fun ha hha => ⟨by show 0 ≤ sizeLine; decide, fun ba hba => ?_⟩⟩
    have nhc : ha ≠ c := fun z => by rw [z, hc2] at hha; cases hha
    have nht : ha ≠ ta := fun z => by rw [z, A2.tx] at hha; cases hha
    have nhp : ha ≠ pa := fun z => by rw [z, hp2] at hha; cases hha
    have nbh : ba ≠ ha := fun z => by rw [z, upd_same] at hba; cases hba
    have hba2 : H2 ba = none := by rw [upd_ne nbh] at hba; exact hba
    have nbc : ba ≠ c := fun z => by rw [z, hc2] at hba2; cases hba2
    have nbt : ba ≠ ta := fun z => by rw [z, A2.tx] at hba2; cases hba2
    have nbp : ba ≠ pa := fun z => by rw [z, hp2] at hba2; cases hba2
    have hh1 : H1 ha = none := by
      cases q : H1 ha with
      | none => rfl
      | some o => have := k2 ha o q nhc; rw [hha] at this; cases this
    have hb1 : H1 ba = none := by
      cases q : H1 ba with
      | none => rfl
      | some o => have := k2 ba o q nbc; rw [hba2] at this; cases this
    have up : ∀ x, x ≠ ha → x ≠ ba → (upd (upd H2 ha (.lst [])) ba (.lst [])) x = H2 x := fun x h1 h2 => by rw [upd_ne h2, upd_ne h1]
    refine ⟨fun m σ H' => ∃ (ls : List (Int × List Int)) (p' f : Nat), m = f ∧ f + ls.length = 18 ∧ ls.length ≤ 16 ∧ (((ls.map Prod.snd).flatten).length ≤ 24 * ls.length) ∧ σ = [some (.ref ta), some (.ref c), some (.ref pa), some (.ref ha), some (.ref ba)] ∧
      CurAt T.C H' c ta b p' ∧ H' pa = some (.lst (iv xs)) ∧ H' ha = some (.lst (iv (ls.map Prod.fst))) ∧ H' ba = some (.lst (iv (ls.map Prod.snd).flatten)) ∧ Kp H1 H' c ∧ Loft.levelLines xs.length f ls (rst b p') = Loft.levelLines xs.length 18 [] (rst b p1),
      ⟨_, [], p1, 18, rfl, rfl, Nat.zero_le _, Nat.zero_le _, rfl, ⟨⟨dx2, by rw [up c nhc.symm nbc.symm]; exact hc2⟩, by rw [up ta nht.symm nbt.symm]; exact A2.tx, A2.le, A2.sm⟩, by rw [up pa nhp.symm nbp.symm]; exact hp2, by rw [upd_ne nbh.symm, upd_same]; rfl, upd_same, ?_, rfl⟩, ?_⟩
    · exact fun x o hx hxc => by rw [up x (ne_of_none hx hh1) (ne_of_none hx hb1)]; exact k2 x o hx hxc
    rintro m σ H3 ⟨ls, p', f, rfl, hf, h16, hfl, rfl, A3, hp3, hh3, hb3, k3, e⟩
    obtain ⟨f, rfl⟩ : ∃ f', m = f' + 1 := ⟨m - 1, by omega⟩
    obtain ⟨dx3, hc3⟩ := A3.ob
    refine ⟨_, rfl, c, dx3, _, rfl, hc3, cur_no _ _ (by decide +kernel) (by decide +kernel), c, ta, b, p', rfl, A3, rfl, _, rfl, ?_⟩
    cases q : b[p']? with
    | none =>
      rw [byteAt_none q]
      refine iteNS rfl ?_
      rw [levelLines_end q] at e
      refine ⟨_, rfl, ha, _, rfl, .inl (SqL.of hh3), _, _, rfl, rfl, _, rfl, ?_⟩
      refine ite2 (fun h1 => ?_) (fun h1 => ?_)
      · have h2 : ls.length < 2 := by have z := of_decide_eq_true h1; rw [iv_len, List.length_map] at z; omega
        rw [if_pos h2] at e
        rw [← e] at r
        exact ⟨_, rfl, c, T.C, dx3, _, _, rfl, hc3, T.cl, T.nP, cur_place _ _, by show 2 ≤ sizeLine; decide, fun x t0 hx => raise_flt (fail k3 r) rfl rfl hx⟩
      · have h2 : ¬ ls.length < 2 := fun z => h1 (decide_eq_true (by rw [iv_len, List.length_map]; omega))
        rw [if_neg h2] at e
        rw [← e] at r
        refine ⟨_, rfl, _, rfl, _, rfl, fun t dxt htn hdtn hdt => ⟨t, dxt, pa, ha, ba, rfl, upd_same, fun H4 ht4 k4 => ⟨rfl, ?_⟩⟩⟩
        have keep : ∀ x o, H3 x = some o → H4 x = some o := fun x o hx => k4 x o (by rw [upd_ne (ne_of_none hx htn), upd_ne (ne_of_none hx hdtn)]; exact hx) (ne_of_none hx htn)
        refine r H4 t dxt pa ha ba ?_ (s1.free hpa) (s1.free hh1) (s1.free hb1) ⟨ht4, keep _ _ hp3, keep _ _ hh3, keep _ _ hb3, nhp.symm, nbp.symm, nbh.symm⟩ fun x o hx => keep x o (k3 x o (s1 x o hx) (ne_of_none hx hcn))
        cases q2 : H t with
        | none => rfl
        | some o => have := k3 t o (s1 t o q2) (ne_of_none q2 hcn); rw [htn] at this; cases this
    | some x =>
      have hx := UInt8.toNat_lt x
      rw [decide_eq_false (fun z => by have := V.int.inj z; rw [byteAt_some q] at this; omega)]
      refine iteT ⟨_, fun σ' H' z => z, ?_⟩
      rw [levelLines_more (by rw [q]; exact fun z => nomatch z)] at e
      refine ⟨_, rfl, ha, _, rfl, .inl (SqL.of hh3), rfl, _, rfl, ?_⟩
      refine ite2 (fun h1 => ?_) (fun h1 => ?_)
      · have h2 : ls.length = 16 := by have z := V.int.inj (of_decide_eq_true h1); rw [iv_len, List.length_map] at z; omega
        rw [if_pos h2] at e
        rw [← e] at r
        exact ⟨_, rfl, c, T.C, dx3, _, _, rfl, hc3, T.cl, T.nP, cur_place _ _, by show 2 ≤ sizeLine; decide, fun x t0 hx => raise_flt (fail k3 r) rfl rfl hx⟩
      · have h2 : ¬ ls.length = 16 := fun z => h1 (decide_eq_true (by rw [iv_len, List.length_map, z]; rfl))
        rw [if_neg h2, levelLine_eq, bnd_bnd] at e
        -- heights.append(take_height(cursor, heights))
        refine ⟨_, rfl, .inl ⟨rfl, _, SqL.of hh3⟩, _, rfl, _, rfl, c, ta, b, p', ha, _, rfl, hh3, A3, ?_⟩
        cases g2 : heightM (ls.map Prod.fst) (rst b p') with
        | bad k p2 => rw [g2] at e; rw [← e] at r; exact fail k3 r
        | ok z s2 =>
        rw [g2] at e
        have e2 := heightM_at g2
        dsimp only [bnd] at e
        intro H4 A4 k4
        generalize s2.at_ = p2 at e2 A4
        subst e2
        have hh4 := k4 ha _ hh3 nhc
        refine ⟨ha, _, _, rfl, rfl, hh4, by rw [iv_len, List.length_map]; exact Nat.lt_of_le_of_lt h16 (by decide), ?_⟩
        rw [iv_app]
        -- half_breadths.extend(take_half_breadths(cursor, len(places)))
        obtain ⟨dx4, hc4⟩ := A4.ob
        have A5 : CurAt T.C (upd H4 ha (.lst (iv (ls.map Prod.fst ++ [z])))) c ta b p2 := ⟨⟨dx4, by rw [upd_ne nhc.symm]; exact hc4⟩, by rw [upd_ne nht.symm]; exact A4.tx, A4.le, A4.sm⟩
        have hb4 : (upd H4 ha (.lst (iv (ls.map Prod.fst ++ [z])))) ba = some (.lst (iv (ls.map Prod.snd).flatten)) := by rw [upd_ne nbh]; exact k4 ba _ hb3 nbc
        have hp4 : (upd H4 ha (.lst (iv (ls.map Prod.fst ++ [z])))) pa = some (.lst (iv xs)) := by rw [upd_ne nhp.symm]; exact k4 pa _ hp3 npc
        have k5 : Kp H1 (upd H4 ha (.lst (iv (ls.map Prod.fst ++ [z])))) c := fun x o hx hxc => by rw [upd_ne (ne_of_none hx hh1)]; exact k4 x o (k3 x o hx hxc) hxc
        refine ⟨_, rfl, .inl ⟨rfl, _, SqL.of hb4⟩, _, rfl, _, rfl, pa, _, rfl, .inl (SqL.of hp4), c, ta, b, p2, xs.length, by rw [iv_len]; rfl, h24, A5, ?_⟩
        cases g3 : Loft.measures true false xs.length xs.length ((rst b p2).text.length + 1) [] (rst b p2) with
        | bad k p3 => rw [g3] at e; rw [← e] at r; exact fail k5 r
        | ok l s3 =>
        rw [g3] at e
        have e3 := measures_at g3
        have hl := measures_len (Nat.zero_le _) g3
        dsimp only [bnd] at e
        intro H6 la hla A6 hl6 k6
        generalize s3.at_ = p3 at e3 A6
        subst e3
        have hb6 := k6 ba _ hb4 nbc
        have hp6 := k6 pa _ hp4 npc
        have hh6 := k6 ha _ upd_same nhc
        have hlen : (ls.map Prod.snd).flatten.length + l.length ≤ 24 * (ls.length + 1) := by omega
        refine ⟨ba, la, _, _, rfl, rfl, hb6, hl6, by rw [iv_len, iv_len]; exact Nat.le_trans hlen (Nat.le_trans (Nat.mul_le_mul_left 24 (by omega : ls.length + 1 ≤ 17)) (by decide)), ?_⟩
        obtain ⟨dx6, hc6⟩ := A6.ob
        refine ⟨f, by omega, ls ++ [(z, l)], p3, f, rfl, by rw [List.length_append]; simp; omega, by rw [List.length_append]; simp; omega, ?_, rfl, ⟨⟨dx6, by rw [upd_ne nbc.symm]; exact hc6⟩, by rw [upd_ne nbt.symm]; exact A6.tx, A6.le, A6.sm⟩, by rw [upd_ne nbp.symm]; exact hp6, ?_, ?_, ?_, e⟩
        · rw [List.map_append, List.flatten_append, List.length_append, List.length_append]
          show (ls.map Prod.snd).flatten.length + ([l].flatten).length ≤ 24 * (ls.length + 1)
          rw [List.flatten_cons, List.flatten_nil, List.append_nil]
          exact hlen
        · rw [upd_ne nbh.symm, hh6, List.map_append]
          rfl
        · rw [upd_same, List.map_append, List.flatten_append]
          unfold iv
          rw [List.map_append]
          simp
        · exact fun x o hx hxc => by rw [upd_ne (ne_of_none hx hb1)]; exact k6 x o (k5 x o hx hxc) hxc
end
end Off

end
section
set_option Elab.async false
set_option linter.all false
set_option maxRecDepth 100000
set_option maxHeartbeats 4000000
namespace Off
open PySem PySem.Spec PyProof.Rows L2 XL
open Loft (Bytes Rest Got)

/-! ### making.py -/
abbrev sBounds : Stmt := top 13
abbrev sRising : Stmt := top 14
abbrev sCountF : Stmt := top 15
abbrev sNumberF : Stmt := top 16
abbrev sListsF : Stmt := top 17
structure TxM (K : PySem.W.Frag) (mg : Str → Option Value) where
  nLARGEST : Num mg "LARGEST" 1048575
  nFEW : Num mg "FEWEST" 2
  nMS : Num mg "MOST_STATIONS" 24
  nML : Num mg "MOST_LEVELS" 16
  len : mg "len" = none
  min : mg "min" = none
  enum : mg "enumerate" = none
  range : mg "range" = none
  isMeasure : Fd K mg "is_measure" sIsMeasure ["number", "least"]
  bounds : Fd K mg "bounds_fault" sBounds ["row", "least"]
  rising : Fd K mg "rising_fault" sRising ["row"]
  countF : Fd K mg "count_fault" sCountF ["places", "heights", "half_breadths"]
  numberF : Fd K mg "number_fault" sNumberF ["places", "heights", "half_breadths"]
  listsF : Fd K mg "lists_fault" sListsF ["places", "heights", "half_breadths"]

/-! ### the first bad one, as it is run -/
def bfM (least : Int) : List Int → Nat → Nat
  | [], k => k
  | z :: r, k => if z < least ∨ 1048575 < z then k else bfM least r (k + 1)
def rfM (y : Int) : List Int → Nat → Nat
  | [], k => k
  | z :: r, k => if z ≤ y then k else rfM z r (k + 1)
def rf (l : List Int) : Nat := match l with
  | [] => 0
  | x :: r => rfM x r 1
theorem bfM_ge (least : Int) : ∀ (l : List Int) (k : Nat), k ≤ bfM least l k ∧ bfM least l k ≤ k + l.length
  | [], k => ⟨Nat.le_refl _, Nat.le_refl _⟩
  | z :: r, k => by
    rw [bfM, List.length_cons]
    split
    · omega
    · have := bfM_ge least r (k + 1); omega
theorem rfM_ge : ∀ (l : List Int) (y : Int) (k : Nat), k ≤ rfM y l k ∧ rfM y l k ≤ k + l.length
  | [], y, k => ⟨Nat.le_refl _, Nat.le_refl _⟩
  | z :: r, y, k => by
    rw [rfM, List.length_cons]
    split
    · omega
    · have := rfM_ge r z (k + 1); omega
theorem bad_iff (from0 : Bool) (z : Int) : (z < leastOf from0 ∨ 1048575 < z) ↔ (Loft.isMeasure z = false ∨ (from0 = true ∧ z < 0)) := by
  unfold Loft.isMeasure Loft.MOST leastOf
  rw [decide_eq_false_iff_not]
  cases from0
  · rw [if_neg Bool.false_ne_true]
    constructor
    · intro h; left; omega
    · rintro (h | h)
      · omega
      · exact absurd h.1 Bool.false_ne_true
  · rw [if_pos rfl]
    constructor
    · intro h
      by_cases z0 : z < 0
      · exact .inr ⟨rfl, z0⟩
      · left; omega
    · rintro (h | h)
      · omega
      · exact .inl h.2
theorem firstBad_some (from0 : Bool) : ∀ (r : List Int) (y : Int) (k : Nat), Loft.firstBad from0 (some y) r k = if min (bfM (leastOf from0) r k) (rfM y r k) < k + r.length then some (min (bfM (leastOf from0) r k) (rfM y r k)) else none
  | [], y, k => by
    rw [Loft.firstBad, bfM, rfM, if_neg]
    show ¬ min k k < k + 0
    omega
  | z :: r, y, k => by
    rw [Loft.firstBad, bfM, rfM, List.length_cons]
    have hb := bfM_ge (leastOf from0) r (k + 1)
    have hr := rfM_ge r z (k + 1)
    by_cases h1 : z < leastOf from0 ∨ 1048575 < z
    · rw [if_pos h1, if_pos]
      · have e : min k (if z ≤ y then k else rfM z r (k + 1)) = k := by split <;> omega
        rw [e, if_pos (by omega)]
      · rcases (bad_iff from0 z).mp h1 with h | h
        · exact .inl h
        · exact .inr (.inl h)
    · have h1' : ¬ (Loft.isMeasure z = false ∨ (from0 = true ∧ z < 0)) := fun q => h1 ((bad_iff from0 z).mpr q)
      rw [if_neg h1]
      by_cases h2 : z ≤ y
      · have e : min (bfM (leastOf from0) r (k + 1)) k = k := by omega
        have c1 : Loft.isMeasure z = false ∨ (from0 = true ∧ z < 0) ∨ (some y : Option Int).any (fun (y : Int) => decide (z ≤ y)) = true := .inr (.inr (by simp [h2]))
        rw [if_pos c1, if_pos h2, e, if_pos (by omega : k < k + (r.length + 1))]
      · rw [if_neg h2, if_neg]
        · rw [show (some y : Option Int).isSome = true from rfl, if_pos rfl, firstBad_some from0 r z (k + 1), show k + 1 + r.length = k + (r.length + 1) by omega]
        · rintro (q | q | q)
          · exact h1' (.inl q)
          · exact h1' (.inr q)
          · simp [h2] at q
theorem firstBad_none : ∀ (r : List Int) (k : Nat), Loft.firstBad true none r k = if bfM 0 r k < k + r.length then some (bfM 0 r k) else none
  | [], k => by
    rw [Loft.firstBad, bfM, if_neg]
    show ¬ k < k + 0
    omega
  | z :: r, k => by
    rw [Loft.firstBad, bfM, List.length_cons]
    have hb := bfM_ge 0 r (k + 1)
    have bi := bad_iff true z
    rw [show leastOf true = 0 from rfl] at bi
    by_cases h1 : z < 0 ∨ 1048575 < z
    · rw [if_pos h1, if_pos (by omega : k < k + (r.length + 1)), if_pos]
      rcases bi.mp h1 with h | h
      · exact .inl h
      · exact .inr (.inl h)
    · rw [if_neg h1, if_neg]
      · rw [show (none : Option Int).isSome = false from rfl, if_neg Bool.false_ne_true, firstBad_none r (k + 1), show k + 1 + r.length = k + (r.length + 1) by omega]
      · rintro (q | q | q)
        · exact h1 (bi.mpr (.inl q))
        · exact h1 (bi.mpr (.inr q))
        · simp at q
theorem firstBad_rise (from0 : Bool) (l : List Int) : Loft.firstBad from0 (some Loft.BELOW) l 0 = if min (bfM (leastOf from0) l 0) (rf l) < l.length then some (min (bfM (leastOf from0) l 0) (rf l)) else none := by
  cases l with
  | nil => rfl
  | cons x r =>
    rw [Loft.firstBad, bfM, List.length_cons, rf]
    have hb := bfM_ge (leastOf from0) r 1
    have hr := rfM_ge r x 1
    by_cases h1 : x < leastOf from0 ∨ 1048575 < x
    · rw [if_pos h1, if_pos]
      · have e : min 0 (rfM x r 1) = 0 := by omega
        rw [e, if_pos (by omega)]
      · rcases (bad_iff from0 x).mp h1 with h | h
        · exact .inl h
        · exact .inr (.inl h)
    · have h1' : ¬ (Loft.isMeasure x = false ∨ (from0 = true ∧ x < 0)) := fun q => h1 ((bad_iff from0 x).mpr q)
      rw [if_neg h1, if_neg]
      · rw [show (some Loft.BELOW : Option Int).isSome = true from rfl, if_pos rfl, firstBad_some from0 r x (0 + 1), show 0 + 1 + r.length = r.length + 1 by omega]
      · rintro (q | q | q)
        · exact h1' (.inl q)
        · exact h1' (.inr q)
        · have q' : x ≤ Loft.BELOW := by simpa using q
          apply h1'
          left
          unfold Loft.isMeasure Loft.MOST
          rw [decide_eq_false_iff_not]
          unfold Loft.BELOW at q'
          omega
end Off

end
section
set_option Elab.async false
set_option linter.all false
set_option maxRecDepth 100000
set_option maxHeartbeats 4000000
namespace Off
open PySem PySem.Spec PyProof.Rows L2 XL
open Loft (Bytes Rest Got)

theorem for_enum {K : PySem.W.Frag} {a : Addr} {xs : List V} {g : TG} {tb : TS} {D : Ends} {σ : L2.St} {H : Hp} (Pv : Nat → L2.St → Hp → Prop) (h0 : Pv 0 σ H) (hl : ∀ i σ H, i ≤ xs.length → Pv i σ H → SqL K H a xs)
    (hs : ∀ i x σ H T, xs[i]? = some x → Pv i σ H → H T = none → g (.ref T) σ (upd H T (.tup [.int (i : Nat), x])) fun σ2 H2 => tb { D with nx := Pv (i + 1), ct := Pv (i + 1), bk := D.nx } σ2 H2) (hd : ∀ σ H, Pv xs.length σ H → D.nx σ H) :
    ∃ W : Nat → Nat → L2.St → Hp → Prop, (∃ m, W 0 m σ H) ∧ ∀ i m σ H, W i m σ H →
      ((Ite K a).stop i H ∧ D.nx σ H) ∨ ((Ite K a).go i H ∧ ∃ N : L2.St → Hp → Prop, (∀ σ' H', N σ' H' → ∃ m', m' < m ∧ W (i + 1) m' σ' H') ∧ ∀ v H', (Ite K a).yld i H v H' → g v σ H' fun σ2 H2 => tb { D with nx := N, ct := N, bk := D.nx } σ2 H2) := by
  refine ⟨fun i m σ H => m = xs.length - i ∧ i ≤ xs.length ∧ Pv i σ H, ⟨xs.length, by simp, Nat.zero_le _, h0⟩, ?_⟩
  rintro i m σ H ⟨rfl, hi, p⟩
  have q := hl i σ H hi p
  by_cases hlt : i < xs.length
  · refine .inr ⟨⟨xs, xs[i], q, by simp [hlt]⟩, Pv (i + 1), fun σ' H' p' => ⟨xs.length - (i + 1), by omega, rfl, hlt, p'⟩, fun v H' y => ?_⟩
    obtain ⟨T, x, ev, hT, eH, y⟩ := y
    subst ev eH
    exact hs i x σ _ T (y xs q) p hT
  · have e : i = xs.length := by omega
    subst e
    exact .inl ⟨⟨xs, q, Nat.le_refl _⟩, hd σ H p⟩
theorem iv_at {l : List Int} {i : Nat} {x : V} (h : (iv l)[i]? = some x) : ∃ z, l[i]? = some z ∧ x = .int z := by
  unfold iv at h
  rw [List.getElem?_map] at h
  obtain ⟨z, h1, h2⟩ := Option.map_eq_some_iff.mp h
  exact ⟨z, h1, h2.symm⟩
theorem iv_get {l : List Int} {i : Nat} {z : Int} (h : l[i]? = some z) : (iv l)[i]? = some (.int z) := by
  unfold iv
  rw [List.getElem?_map, h]
  rfl
theorem drop_at {α : Type} {l : List α} {i : Nat} {z : α} (h : l[i]? = some z) : l.drop i = z :: l.drop (i + 1) := by
  obtain ⟨hl, e⟩ := List.getElem?_eq_some_iff.mp h
  rw [List.drop_eq_getElem_cons hl, e]

def spBounds : Sp := fun vs H Q _ => ∃ (a : Addr) (l : List Int) (least : Int), vs = [.ref a, .int least] ∧ H a = some (.lst (iv l)) ∧ ∀ H', Same H H' → Q (.int (bfM least l 0 : Nat)) H'
def spRising : Sp := fun vs H Q _ => ∃ (a : Addr) (l : List Int), vs = [.ref a] ∧ H a = some (.lst (iv l)) ∧ l.length ≤ 30000 ∧ ∀ H', Same H H' → Q (.int (rf l : Nat)) H'
/-- three lists handed in, a list handed back -/
def sp3 (f : List Int → List Int → List Int → List Int) : Sp := fun vs H Q _ => ∃ (pa ha ba : Addr) (xs zs ys : List Int), vs = [.ref pa, .ref ha, .ref ba] ∧ H pa = some (.lst (iv xs)) ∧ H ha = some (.lst (iv zs)) ∧ H ba = some (.lst (iv ys)) ∧
  xs.length ≤ 30000 ∧ zs.length ≤ 30000 ∧ ys.length ≤ 30000 ∧ ∀ (H' : Hp) (la : Addr), H la = none → H' la = some (.lst (iv (f xs zs ys))) → Same H H' → Q (.ref la) H'
def countM (xs zs ys : List Int) : List Int := if xs.length < 2 ∨ 24 < xs.length then [2, 0] else if zs.length < 2 ∨ 16 < zs.length then [2, 1] else if ys.length ≠ xs.length * zs.length then [1, (ys.length : Int)] else [0, 0]
def numberM (xs zs ys : List Int) : List Int := if min (bfM 0 xs 0) (rf xs) < xs.length then [3, ((min (bfM 0 xs 0) (rf xs) : Nat) : Int)] else if min (bfM (-1048575) zs 0) (rf zs) < zs.length then [4, ((min (bfM (-1048575) zs 0) (rf zs) : Nat) : Int)] else
  if bfM 0 ys 0 < ys.length then [5, (bfM 0 ys 0 : Nat)] else [0, 0]
def listsM (xs zs ys : List Int) : List Int := if countM xs zs ys ≠ [0, 0] then countM xs zs ys else numberM xs zs ys

section
variable {P : Program} {w : World} {K : PySem.W.Frag} {mg : Str → Option Value} {base : Heap}
theorem scBounds : FnScope ["row", "least", "k", "number"] ["row", "least"] (defScope sBounds) := ⟨rfl, rfl, rfl, by decide +kernel, rfl, by decide +kernel, by decide +kernel⟩
theorem ok_bounds (T : TxM K mg) : FnOk P w K mg base CX0 3 T.bounds.f T.bounds.fd ["row", "least"] spBounds := by
  refine T.bounds.F.ok scBounds (fun vs H Q E h => ?_) (fun cdv A outer s H vs Q E hr h => ?_)
  · obtain ⟨a, l, least, rfl, _⟩ := h
    rfl
  · obtain ⟨a, l, least, rfl, ha, k⟩ := h
    have hr1 : Room 1 _ := hr.mono (by decide)
    refine ⟨_, pss_cons (ps_for PassesOwn.never rfl (pi_enum rfl T.enum (pa_cons (pv 0) pa_nil)) (pg_tup rfl (pgs_cons (pg_name (i := 2) scBounds.nd rfl (Or.inl rfl)) (pgs_cons (pg_name (i := 3) scBounds.nd rfl (Or.inl rfl)) pgs_nil)))
        (pss_one (ps_if (pt_not (pt_val (pe_call (ok_isMeasure T.isMeasure T.nLARGEST) hr1 rfl T.isMeasure.m T.isMeasure.F.kp T.isMeasure.b .nil pass0 (pa_cons (pv 3) (pa_cons (pv 1) pa_nil))))) (pss_one (ps_ret (pv 2))) pss_nil))) <|
      pss_one (ps_ret (pe_callB call_len_seq (by rfl) T.len PySem.boot_len (pa_cons (pv 0) pa_nil))), ?_⟩
    refine ⟨_, rfl, a, _, rfl, SqL.of ha, for_enum (K := K) (a := a) (xs := iv l) (fun i σ H' => ∃ v2 v3 : Option V, σ = [some (.ref a), some (.int least), v2, v3] ∧ Same H H' ∧ bfM least (l.drop i) i = bfM least l 0)
      ⟨none, none, rfl, Same.refl H, rfl⟩ (fun i σ H' _ ⟨_, _, _, s1, _⟩ => SqL.of (s1 _ _ ha)) ?_ ?_⟩
    · rintro i x σ H' t hx ⟨v2, v3, rfl, s1, e⟩ ht
      obtain ⟨z, hz, rfl⟩ := iv_at hx
      rw [drop_at hz, bfM] at e
      have s2 : Same H (upd H' t (.tup [.int (i : Nat), .int z])) := fun y o hy => by
        have := s1 y o hy
        rw [upd_ne (ne_of_none this ht)]
        exact this
      refine ⟨t, _, rfl, SqT.of upd_same, rfl, _, _, rfl, _, _, rfl, rfl, ?_⟩
      refine ⟨_, rfl, _, rfl, z, least, rfl, _, rfl, ?_⟩
      by_cases h1 : z < least ∨ 1048575 < z
      · rw [if_pos h1] at e
        rw [okM_f h1]
        refine iteT ⟨_, rfl, ?_⟩
        rw [← e] at k
        exact k _ s2
      · rw [if_neg h1] at e
        rw [okM_t (l := least) (z := z) (by omega) (by omega)]
        exact iteF ⟨_, _, rfl, s2, e⟩
    · rintro σ H' ⟨v2, v3, rfl, s1, e⟩
      refine ⟨_, rfl, a, _, rfl, .inl (SqL.of (s1 _ _ ha)), ?_⟩
      rw [iv_len, List.drop_length, bfM] at e
      rw [← e] at k
      rw [iv_len]
      exact k H' s1
theorem scRising : FnScope ["row", "k"] ["row"] (defScope sRising) := ⟨rfl, rfl, rfl, by decide +kernel, rfl, by decide +kernel, by decide +kernel⟩
theorem ok_rising (T : TxM K mg) : FnOk P w K mg base CX0 1 T.rising.f T.rising.fd ["row"] spRising := by
  refine T.rising.F.ok scRising (fun vs H Q E h => ?_) (fun cdv A outer s H vs Q E hr h => ?_)
  · obtain ⟨a, l, rfl, _⟩ := h
    rfl
  · obtain ⟨a, l, rfl, ha, hsz, k⟩ := h
    refine ⟨_, pss_cons (ps_for PassesOwn.never rfl (pi_range2 rfl T.range (pa_cons pe_int (pa_cons (pe_callB call_len_seq (by rfl) T.len PySem.boot_len (pa_cons (pv 0) pa_nil)) pa_nil))) (pg_name (i := 1) scRising.nd rfl (Or.inl rfl))
        (pss_one (ps_if (pt_cmpR op_le (pe_ix ix_list (pv 0) (pv 1) (fun _ _ => rfl)) (pe_ix ix_list (pv 0) (pe_op op_sub (pv 1) pe_int) (fun _ _ => rfl)) (nomark _)) (pss_one (ps_ret (pv 1))) pss_nil))) <|
      pss_one (ps_ret (pe_callB call_len_seq (by rfl) T.len PySem.boot_len (pa_cons (pv 0) pa_nil))), ?_⟩
    refine ⟨_, rfl, a, _, rfl, .inl (SqL.of ha), _, _, rfl, ⟨by omega, by omega, by rw [iv_len]; omega, by rw [iv_len]; omega⟩, ?_⟩
    have en : ((((iv l).length : Nat) : Int) - 1).toNat = l.length - 1 := by rw [iv_len]; omega
    rw [en]
    refine for_range (lo := 1) (n := l.length - 1) (fun i σ H' => H' = H ∧ ∃ v : Option V, σ = [some (.ref a), v] ∧ ∀ z, l[i]? = some z → rfM z (l.drop (i + 1)) (i + 1) = rf l) ⟨rfl, none, rfl, fun z hz => ?_⟩ ?_ ?_
    · cases l with
      | nil => cases hz
      | cons x r => cases hz; rfl
    · rintro i σ H' hi ⟨rfl, v, rfl, e⟩
      obtain ⟨z, hz⟩ : ∃ z, l[i]? = some z := ⟨l[i], List.getElem?_eq_getElem (by omega)⟩
      obtain ⟨y, hy⟩ : ∃ y, l[i + 1]? = some y := ⟨l[i + 1], List.getElem?_eq_getElem (by omega)⟩
      have e := e z hz
      rw [drop_at hy, rfM] at e
      refine ⟨_, rfl, _, rfl, a, _, _, _, rfl, rfl, SqL.of ha, at_of (j := i + 1) (by omega) (iv_get hy), _, rfl, _, rfl, _, _, rfl, rfl, a, _, _, _, rfl, rfl, SqL.of ha, at_of (j := i) (by omega) (iv_get hz), _, _, rfl, rfl, _, rfl, ?_⟩
      refine ite2 (fun h1 => ?_) (fun h1 => ?_)
      · rw [if_pos (of_decide_eq_true h1)] at e
        refine ⟨_, rfl, ?_⟩
        rw [show (1 : Int) + (i : Nat) = ((i + 1 : Nat) : Int) by omega, e]
        exact k _ (Same.refl _)
      · rw [if_neg fun q => h1 (decide_eq_true q)] at e
        exact ⟨rfl, _, rfl, fun z' hz' => by rw [hy] at hz'; cases hz'; exact e⟩
    · rintro σ H' ⟨rfl, v, rfl, e⟩
      refine ⟨_, rfl, a, _, rfl, .inl (SqL.of ha), ?_⟩
      rw [iv_len]
      have : rf l = l.length := by
        cases l with
        | nil => rfl
        | cons x r =>
          obtain ⟨z, hz⟩ : ∃ z, (x :: r)[r.length]? = some z := ⟨(x :: r)[r.length], List.getElem?_eq_getElem (by simp)⟩
          have := e z (by rw [show (x :: r).length - 1 = r.length by simp]; exact hz)
          rw [← this, show (x :: r).length - 1 + 1 = (x :: r).length by simp, List.drop_length, rfM]
      rw [this] at k
      exact k _ (Same.refl _)
theorem scCountF : FnScope ["places", "heights", "half_breadths", "stations", "levels", "breadths"] ["places", "heights", "half_breadths"] (defScope sCountF) := ⟨rfl, rfl, rfl, by decide +kernel, rfl, by decide +kernel, by decide +kernel⟩
theorem ok_countF (T : TxM K mg) : FnOk P w K mg base CX0 1 T.countF.f T.countF.fd ["places", "heights", "half_breadths"] (sp3 countM) := by
  refine T.countF.F.ok scCountF (fun vs H Q E h => ?_) (fun cdv A outer s H vs Q E hr h => ?_)
  · obtain ⟨pa, ha, ba, xs, zs, ys, rfl, _⟩ := h
    rfl
  · obtain ⟨pa, ha, ba, xs, zs, ys, rfl, hp, hh, hb, z1, z2, z3, k⟩ := h
    refine ⟨_, pss_cons (ps_set (i := 3) scCountF.nd rfl (Or.inl rfl) (pe_callB call_len_seq (by rfl) T.len PySem.boot_len (pa_cons (pv 0) pa_nil))) <|
      pss_cons (ps_set (i := 4) scCountF.nd rfl (Or.inl rfl) (pe_callB call_len_seq (by rfl) T.len PySem.boot_len (pa_cons (pv 1) pa_nil))) <|
      pss_cons (ps_set (i := 5) scCountF.nd rfl (Or.inl rfl) (pe_callB call_len_seq (by rfl) T.len PySem.boot_len (pa_cons (pv 2) pa_nil))) <|
      pss_cons (ps_if (PW.pt (pw_or (pt_cmpR op_lt (pv 3) (pn T.nFEW) (nomark _)) (pw_or1 (pt_cmpR op_gt (pv 3) (pn T.nMS) (nomark _))))) (pss_one (ps_ret (pe_lst (pa_cons pe_int (pa_cons pe_int pa_nil))))) pss_nil) <|
      pss_cons (ps_if (PW.pt (pw_or (pt_cmpR op_lt (pv 4) (pn T.nFEW) (nomark _)) (pw_or1 (pt_cmpR op_gt (pv 4) (pn T.nML) (nomark _))))) (pss_one (ps_ret (pe_lst (pa_cons pe_int (pa_cons pe_int pa_nil))))) pss_nil) <|
      pss_cons (ps_if (pt_cmpR op_ne (pv 5) (pe_op op_mul (pv 3) (pv 4)) (nomark _)) (pss_one (ps_ret (pe_lst (pa_cons pe_int (pa_cons (pv 5) pa_nil))))) pss_nil) <|
      pss_one (ps_ret (pe_lst (pa_cons pe_int (pa_cons pe_int pa_nil)))), ?_⟩
    refine ⟨_, rfl, pa, _, rfl, .inl (SqL.of hp), _, rfl, ha, _, rfl, .inl (SqL.of hh), _, rfl, ba, _, rfl, .inl (SqL.of hb), ?_⟩
    rw [iv_len, iv_len, iv_len]
    have fin : ∀ {r : List Int}, countM xs zs ys = r → ∀ la, H la = none → Q (.ref la) (upd H la (.lst (iv r))) := fun {r} e la hla => by
      refine k _ la hla (by rw [upd_same, e]) fun x o hx => ?_
      rw [upd_ne (ne_of_none hx hla)]
      exact hx
    have rd2 : ∀ {la a b : Addr}, True := fun {_ _ _} => True.intro
    by_cases c1 : xs.length < 2 ∨ 24 < xs.length
    · have e : countM xs zs ys = [2, 0] := by unfold countM; rw [if_pos c1]
      refine ⟨_, rfl, _, _, rfl, rfl, _, rfl, ?_⟩
      refine ite2 (fun h1 => iteT ⟨by show 2 ≤ sizeLine; decide, fun la hla => fin e la hla⟩) (fun h1 => ?_)
      refine ⟨_, rfl, _, _, rfl, rfl, _, rfl, ?_⟩
      have d1 : ¬ xs.length < 2 := fun q => h1 (decide_eq_true (by omega))
      rw [decide_eq_true (by omega : (24 : Int) < (xs.length : Int))]
      exact iteT ⟨by show 2 ≤ sizeLine; decide, fun la hla => fin e la hla⟩
    · refine ⟨_, rfl, _, _, rfl, rfl, _, rfl, ?_⟩
      rw [decide_eq_false (by omega : ¬ (xs.length : Int) < 2)]
      refine iteF ⟨_, rfl, _, _, rfl, rfl, _, rfl, ?_⟩
      rw [decide_eq_false (by omega : ¬ (24 : Int) < (xs.length : Int))]
      refine iteF ?_
      by_cases c2 : zs.length < 2 ∨ 16 < zs.length
      · have e : countM xs zs ys = [2, 1] := by unfold countM; rw [if_neg c1, if_pos c2]
        refine ⟨_, rfl, _, _, rfl, rfl, _, rfl, ?_⟩
        refine ite2 (fun h1 => iteT ⟨by show 2 ≤ sizeLine; decide, fun la hla => fin e la hla⟩) (fun h1 => ?_)
        refine ⟨_, rfl, _, _, rfl, rfl, _, rfl, ?_⟩
        have d1 : ¬ zs.length < 2 := fun q => h1 (decide_eq_true (by omega))
        rw [decide_eq_true (by omega : (16 : Int) < (zs.length : Int))]
        exact iteT ⟨by show 2 ≤ sizeLine; decide, fun la hla => fin e la hla⟩
      · refine ⟨_, rfl, _, _, rfl, rfl, _, rfl, ?_⟩
        rw [decide_eq_false (by omega : ¬ (zs.length : Int) < 2)]
        refine iteF ⟨_, rfl, _, _, rfl, rfl, _, rfl, ?_⟩
        rw [decide_eq_false (by omega : ¬ (16 : Int) < (zs.length : Int))]
        refine iteF ⟨_, rfl, _, rfl, _, rfl, _, _, rfl, rfl, .inl ⟨by omega, by omega⟩, rfl, _, rfl, ?_⟩
        have em : ((xs.length : Int) * (zs.length : Int)) = ((xs.length * zs.length : Nat) : Int) := by rw [Int.natCast_mul]
        by_cases c3 : ys.length = xs.length * zs.length
        · have e : countM xs zs ys = [0, 0] := by unfold countM; rw [if_neg c1, if_neg c2, if_neg (fun q => q c3)]
          refine iteNS (congrArg V.int (by rw [em, ← c3])) ⟨by show 2 ≤ sizeLine; decide, fun la hla => fin e la hla⟩
        · have e : countM xs zs ys = [1, (ys.length : Int)] := by unfold countM; rw [if_neg c1, if_neg c2, if_pos c3]
          rw [decide_eq_false (fun q => c3 (by have z := V.int.inj q; rw [em] at z; omega))]
          exact iteT ⟨_, rfl, by show 2 ≤ sizeLine; decide, fun la hla => fin e la hla⟩
end
end Off

end
section
set_option Elab.async false
set_option linter.all false
set_option maxRecDepth 100000
set_option maxHeartbeats 4000000
namespace Off
open PySem PySem.Spec PyProof.Rows L2 XL
open Loft (Bytes Rest Got)

/-! ### two numbers as a list, compared -/
def d2 (a b : Int) : PyData := .list [.int a, .int b]
theorem d2_shaped (a b : Int) : SeqAt.shaped (d2 a b) = true := by
  have h1 : (d2 a b).canLay0 = true := by unfold d2; simp [PyData.canLay0, PyData.canLayAll0]
  have h2 : (d2 a b).depth ≤ 64 := by
    unfold d2
    simp [PyData.depth, PyData.depthAll]
  unfold SeqAt.shaped
  rw [h1, decide_eq_true h2]
  rfl
theorem d2_eqv (a b c d : Int) : PyData.eqv (d2 a b) (d2 c d) = decide (([a, b] : List Int) = [c, d]) := by
  unfold d2
  simp only [PyData.eqv, PyData.eqvAll, Bool.and_true]
  by_cases h1 : a = c
  · by_cases h2 : b = d
    · simp [h1, h2]
    · simp [h1, h2]
  · simp [h1]
theorem dp2 {K : PySem.W.Frag} {H : Hp} {p : Addr} {a b : Int} (h : H p = some (.lst (iv [a, b]))) : Dp K H (.ref p) (d2 a b) := .lst (SqL.of h) (.cons (.int a) (.cons (.int b) .nil))

theorem countM_two (xs zs ys : List Int) : ∃ a b, countM xs zs ys = [a, b] := by
  unfold countM
  split
  · exact ⟨_, _, rfl⟩
  · split
    · exact ⟨_, _, rfl⟩
    · split
      · exact ⟨_, _, rfl⟩
      · exact ⟨_, _, rfl⟩
theorem numberM_two (xs zs ys : List Int) : ∃ a b, numberM xs zs ys = [a, b] := by
  unfold numberM
  split
  · exact ⟨_, _, rfl⟩
  · split
    · exact ⟨_, _, rfl⟩
    · split
      · exact ⟨_, _, rfl⟩
      · exact ⟨_, _, rfl⟩
theorem listsM_two (xs zs ys : List Int) : ∃ a b, listsM xs zs ys = [a, b] := by
  unfold listsM
  split
  · exact countM_two xs zs ys
  · exact numberM_two xs zs ys
/-- the table that is made -/
def tabOf (xs zs ys : List Int) : Loft.Table := ⟨xs, zs, (List.range zs.length).map fun (j : Nat) => (ys.drop (j * xs.length)).take xs.length⟩
/-- the document's judgement, by the lists -/
theorem judge_eq (xs zs ys : List Int) : (∃ k p : Nat, Loft.judge xs zs ys = .error (k, p) ∧ listsM xs zs ys = [(k : Int), (p : Int)] ∧ k ≠ 0) ∨
    (Loft.judge xs zs ys = .ok (tabOf xs zs ys) ∧ listsM xs zs ys = [0, 0] ∧ 2 ≤ xs.length ∧ xs.length ≤ 24 ∧ 2 ≤ zs.length ∧ zs.length ≤ 16 ∧ ys.length = xs.length * zs.length) := by
  unfold Loft.judge listsM countM
  rw [show Loft.STATIONS = 24 from rfl, show Loft.LEVELS = 16 from rfl]
  by_cases c1 : xs.length < 2 ∨ 24 < xs.length
  · rw [if_pos c1, if_pos c1]
    exact .inl ⟨2, 0, rfl, by rw [if_pos (by decide)]; rfl, by decide⟩
  · rw [if_neg c1, if_neg c1]
    by_cases c2 : zs.length < 2 ∨ 16 < zs.length
    · rw [if_pos c2, if_pos c2]
      exact .inl ⟨2, 1, rfl, by rw [if_pos (by decide)]; rfl, by decide⟩
    · rw [if_neg c2, if_neg c2]
      by_cases c3 : ys.length ≠ xs.length * zs.length
      · rw [if_pos c3, if_pos c3]
        exact .inl ⟨1, ys.length, rfl, by rw [if_pos (by intro q; cases q)]; rfl, by decide⟩
      · rw [if_neg c3, if_neg c3, if_neg (fun q => q rfl)]
        rw [firstBad_rise true xs, firstBad_rise false zs, firstBad_none ys 0]
        unfold numberM
        rw [show leastOf true = 0 from rfl, show leastOf false = -1048575 from rfl, Nat.zero_add]
        by_cases n1 : min (bfM 0 xs 0) (rf xs) < xs.length
        · rw [if_pos n1, if_pos n1]
          exact .inl ⟨3, _, rfl, rfl, by decide⟩
        · rw [if_neg n1, if_neg n1]
          dsimp only
          by_cases n2 : min (bfM (-1048575) zs 0) (rf zs) < zs.length
          · rw [if_pos n2, if_pos n2]
            exact .inl ⟨4, _, rfl, rfl, by decide⟩
          · rw [if_neg n2, if_neg n2]
            dsimp only
            by_cases n3 : bfM 0 ys 0 < ys.length
            · rw [if_pos n3, if_pos n3]
              exact .inl ⟨5, _, rfl, rfl, by decide⟩
            · rw [if_neg n3, if_neg n3]
              exact .inr ⟨rfl, rfl, by omega, by omega, by omega, by omega, by omega⟩

section
variable {P : Program} {w : World} {K : PySem.W.Frag} {mg : Str → Option Value} {base : Heap}
theorem scNumberF : FnScope ["places", "heights", "half_breadths", "place", "height", "breadth"] ["places", "heights", "half_breadths"] (defScope sNumberF) := ⟨rfl, rfl, rfl, by decide +kernel, rfl, by decide +kernel, by decide +kernel⟩
theorem ok_numberF (T : TxM K mg) : FnOk P w K mg base CX0 5 T.numberF.f T.numberF.fd ["places", "heights", "half_breadths"] (sp3 numberM) := by
  refine T.numberF.F.ok scNumberF (fun vs H Q E h => ?_) (fun cdv A outer s H vs Q E hr h => ?_)
  · obtain ⟨pa, ha, ba, xs, zs, ys, rfl, _⟩ := h
    rfl
  · obtain ⟨pa, ha, ba, xs, zs, ys, rfl, hp, hh, hb, z1, z2, z3, k⟩ := h
    have hr3 : Room 3 _ := hr.mono (by decide)
    have hr1 : Room 1 _ := hr.mono (by decide)
    refine ⟨_, pss_cons (ps_set (i := 3) scNumberF.nd rfl (Or.inl rfl) (pe_callB (call_min2 rfl) (by rfl) T.min boot_min (pa_cons (pe_call (ok_bounds T) hr3 rfl T.bounds.m T.bounds.F.kp T.bounds.b .nil pass0 (pa_cons (pv 0) (pa_cons pe_int pa_nil)))
        (pa_cons (pe_call (ok_rising T) hr1 rfl T.rising.m T.rising.F.kp T.rising.b .nil pass0 (pa_cons (pv 0) pa_nil)) pa_nil)))) <|
      pss_cons (ps_if (pt_cmpR op_lt (pv 3) (pe_callB call_len_seq (by rfl) T.len PySem.boot_len (pa_cons (pv 0) pa_nil)) (nomark _)) (pss_one (ps_ret (pe_lst (pa_cons pe_int (pa_cons (pv 3) pa_nil))))) pss_nil) <|
      pss_cons (ps_set (i := 4) scNumberF.nd rfl (Or.inl rfl) (pe_callB (call_min2 rfl) (by rfl) T.min boot_min (pa_cons (pe_call (ok_bounds T) hr3 rfl T.bounds.m T.bounds.F.kp T.bounds.b .nil pass0 (pa_cons (pv 1) (pa_cons (pe_un un_neg (pn T.nLARGEST)) pa_nil)))
        (pa_cons (pe_call (ok_rising T) hr1 rfl T.rising.m T.rising.F.kp T.rising.b .nil pass0 (pa_cons (pv 1) pa_nil)) pa_nil)))) <|
      pss_cons (ps_if (pt_cmpR op_lt (pv 4) (pe_callB call_len_seq (by rfl) T.len PySem.boot_len (pa_cons (pv 1) pa_nil)) (nomark _)) (pss_one (ps_ret (pe_lst (pa_cons pe_int (pa_cons (pv 4) pa_nil))))) pss_nil) <|
      pss_cons (ps_set (i := 5) scNumberF.nd rfl (Or.inl rfl) (pe_call (ok_bounds T) hr3 rfl T.bounds.m T.bounds.F.kp T.bounds.b .nil pass0 (pa_cons (pv 2) (pa_cons pe_int pa_nil)))) <|
      pss_cons (ps_if (pt_cmpR op_lt (pv 5) (pe_callB call_len_seq (by rfl) T.len PySem.boot_len (pa_cons (pv 2) pa_nil)) (nomark _)) (pss_one (ps_ret (pe_lst (pa_cons pe_int (pa_cons (pv 5) pa_nil))))) pss_nil) <|
      pss_one (ps_ret (pe_lst (pa_cons pe_int (pa_cons pe_int pa_nil)))), ?_⟩
    have fin : ∀ {r : List Int} {H' : Hp}, Same H H' → numberM xs zs ys = r → ∀ la, H' la = none → Q (.ref la) (upd H' la (.lst (iv r))) := fun {r H'} sm e la hla => by
      refine k _ la (sm.free hla) (by rw [upd_same, e]) fun x o hx => ?_
      have := sm x o hx
      rw [upd_ne (ne_of_none this hla)]
      exact this
    have mi : ∀ a b : Nat, (if ((b : Nat) : Int) < ((a : Nat) : Int) then ((b : Nat) : Int) else ((a : Nat) : Int)) = ((min a b : Nat) : Int) := fun a b => by split <;> omega
    refine ⟨_, rfl, pa, xs, 0, rfl, hp, fun H1 s1 => ⟨_, rfl, pa, xs, rfl, s1 _ _ hp, z1, fun H2 s2 => ⟨_, _, rfl, ?_⟩⟩⟩
    rw [mi]
    have s12 := s1.trans s2
    refine ⟨_, rfl, _, rfl, pa, _, rfl, .inl (SqL.of (s12 _ _ hp)), _, _, rfl, rfl, _, rfl, ?_⟩
    unfold numberM at fin
    rw [iv_len]
    refine ite2 (fun h1 => ?_) (fun h1 => ?_)
    · have n1 : min (bfM 0 xs 0) (rf xs) < xs.length := by have := of_decide_eq_true h1; omega
      rw [if_pos n1] at fin
      exact ⟨_, rfl, by show 2 ≤ sizeLine; decide, fun la hla => fin s12 rfl la hla⟩
    · have n1 : ¬ min (bfM 0 xs 0) (rf xs) < xs.length := fun q => h1 (decide_eq_true (by omega))
      rw [if_neg n1] at fin
      refine ⟨_, rfl, _, rfl, ha, zs, -1048575, rfl, s12 _ _ hh, fun H3 s3 => ⟨_, rfl, ha, zs, rfl, (s12.trans s3) _ _ hh, z2, fun H4 s4 => ⟨_, _, rfl, ?_⟩⟩⟩
      rw [mi]
      have s14 := (s12.trans s3).trans s4
      refine ⟨_, rfl, _, rfl, ha, _, rfl, .inl (SqL.of (s14 _ _ hh)), _, _, rfl, rfl, _, rfl, ?_⟩
      rw [iv_len]
      refine ite2 (fun h2 => ?_) (fun h2 => ?_)
      · have n2 : min (bfM (-1048575) zs 0) (rf zs) < zs.length := by have := of_decide_eq_true h2; omega
        rw [if_pos n2] at fin
        exact ⟨_, rfl, by show 2 ≤ sizeLine; decide, fun la hla => fin s14 rfl la hla⟩
      · have n2 : ¬ min (bfM (-1048575) zs 0) (rf zs) < zs.length := fun q => h2 (decide_eq_true (by omega))
        rw [if_neg n2] at fin
        refine ⟨_, rfl, ba, ys, 0, rfl, s14 _ _ hb, fun H5 s5 => ?_⟩
        have s15 := s14.trans s5
        refine ⟨_, rfl, _, rfl, ba, _, rfl, .inl (SqL.of (s15 _ _ hb)), _, _, rfl, rfl, _, rfl, ?_⟩
        rw [iv_len]
        refine ite2 (fun h3 => ?_) (fun h3 => ?_)
        · have n3 : bfM 0 ys 0 < ys.length := by have := of_decide_eq_true h3; omega
          rw [if_pos n3] at fin
          exact ⟨_, rfl, by show 2 ≤ sizeLine; decide, fun la hla => fin s15 rfl la hla⟩
        · have n3 : ¬ bfM 0 ys 0 < ys.length := fun q => h3 (decide_eq_true (by omega))
          rw [if_neg n3] at fin
          exact ⟨by show 2 ≤ sizeLine; decide, fun la hla => fin s15 rfl la hla⟩
theorem scListsF : FnScope ["places", "heights", "half_breadths", "fault"] ["places", "heights", "half_breadths"] (defScope sListsF) := ⟨rfl, rfl, rfl, by decide +kernel, rfl, by decide +kernel, by decide +kernel⟩
theorem ok_listsF (T : TxM K mg) : FnOk P w K mg base CX0 7 T.listsF.f T.listsF.fd ["places", "heights", "half_breadths"] (sp3 listsM) := by
  refine T.listsF.F.ok scListsF (fun vs H Q E h => ?_) (fun cdv A outer s H vs Q E hr h => ?_)
  · obtain ⟨pa, ha, ba, xs, zs, ys, rfl, _⟩ := h
    rfl
  · obtain ⟨pa, ha, ba, xs, zs, ys, rfl, hp, hh, hb, z1, z2, z3, k⟩ := h
    have hr1 : Room 1 _ := hr.mono (by decide)
    have hr5 : Room 5 _ := hr.mono (by decide)
    have hr3 : Room 3 _ := hr.mono (by decide)
    refine ⟨_, pss_cons (ps_set (i := 3) scListsF.nd rfl (Or.inl rfl) (pe_call (ok_countF T) hr1 rfl T.countF.m T.countF.F.kp T.countF.b .nil pass0 (pa_cons (pv 0) (pa_cons (pv 1) (pa_cons (pv 2) pa_nil))))) <|
      pss_cons (ps_if (pt_cmpR (op_neD hr.units) (pv 3) (pe_lst (pa_cons pe_int (pa_cons pe_int pa_nil))) (nomark _)) (pss_one (ps_ret (pv 3))) pss_nil) <|
      pss_one (ps_ret (pe_call (ok_numberF T) hr5 rfl T.numberF.m T.numberF.F.kp T.numberF.b .nil pass0 (pa_cons (pv 0) (pa_cons (pv 1) (pa_cons (pv 2) pa_nil))))), ?_⟩
    refine ⟨_, rfl, _, rfl, _, rfl, pa, ha, ba, xs, zs, ys, rfl, hp, hh, hb, z1, z2, z3, fun H1 la hla hl1 s1 => ?_⟩
    obtain ⟨u, v, e⟩ := countM_two xs zs ys
    rw [e] at hl1
    refine ⟨_, rfl, by show 2 ≤ sizeLine; decide, fun lb hlb => ?_⟩
    have hla2 : (upd H1 lb (.lst [.int 0, .int 0])) la = some (.lst (iv [u, v])) := by rw [upd_ne (ne_of_none hl1 hlb)]; exact hl1
    have s2 : Same H (upd H1 lb (.lst [.int 0, .int 0])) := fun x o hx => by
      have := s1 x o hx
      rw [upd_ne (ne_of_none this hlb)]
      exact this
    refine ⟨d2 u v, d2 0 0, dp2 hla2, dp2 upd_same, d2_shaped _ _, d2_shaped _ _, _, rfl, ?_⟩
    rw [d2_eqv]
    unfold listsM at k
    rw [e] at k
    by_cases c : ([u, v] : List Int) = [0, 0]
    · rw [if_neg (fun q => q c)] at k
      refine iteNS c ?_
      refine ⟨_, rfl, _, rfl, _, rfl, pa, ha, ba, xs, zs, ys, rfl, s2 _ _ hp, s2 _ _ hh, s2 _ _ hb, z1, z2, z3, fun H3 lc hlc hl3 s3 => ?_⟩
      exact k H3 lc (s2.free hlc) hl3 (s2.trans s3)
    · rw [if_pos c] at k
      rw [decide_eq_false c]
      exact iteT ⟨_, rfl, k _ la hla hla2 s2⟩
end
end Off

end
section
set_option Elab.async false
set_option linter.all false
set_option maxRecDepth 100000
set_option maxHeartbeats 4000000
namespace Off
open PySem PySem.Spec PyProof.Rows L2 XL
open Loft (Bytes Rest Got)

/-! ### writing.py -/
abbrev sBytesOf : Stmt := top 53
abbrev sWritingOf : Stmt := top 54
abbrev sRowOf : Stmt := top 55
abbrev sLevelLine : Stmt := top 56
abbrev sTextOf : Stmt := top 57
structure TxW (K : PySem.W.Frag) (mg : Str → Option Value) where
  cF : Num mg "FOOT" 192
  cI : Num mg "INCH" 16
  cE : Num mg "EIGHTH" 2
  abs : mg "abs" = none
  len : mg "len" = none
  ord : mg "ord" = none
  range : mg "range" = none
  written : Fd K mg "written" sWritten ["measure"]
  bytesOf : Fd K mg "bytes_of" sBytesOf ["signs"]
  writingOf : Fd K mg "writing_of" sWritingOf ["measure"]
  rowOf : Fd K mg "row_of" sRowOf ["measures"]
  levelLine : Fd K mg "level_line" sLevelLine ["table", "level"]
  textOf : Fd K mg "text_of" sTextOf ["table"]
theorem joinL_nil : ∀ ps : List (List Nat), TL.joinL [] ps = ps.flatten
  | [] => rfl
  | [p] => by rw [TL.joinL]; simp
  | p :: q :: r => by
    rw [TL.joinL, joinL_nil (q :: r)]
    rfl
def cat (acc : List Str) : List Nat := (acc.map fun x => x.cps.toList).flatten
theorem txt_cat {acc : List Str} {b : Bytes} (h : cat acc = sg b) : Txt (PySem.Txt.join "" acc) b := by
  unfold Txt
  rw [TL.join_eq]
  have e := TL.tl_join "" acc
  have e0 : TL.tl ("" : Str) = [] := by
    show (Str.ofString "").cps.toList = []
    decide +kernel
  rw [e0, joinL_nil] at e
  exact e.trans h
theorem cat_app (acc : List Str) (x : Str) : cat (acc ++ [x]) = cat acc ++ x.cps.toList := by
  unfold cat
  rw [List.map_append, List.flatten_append]
  simp
def Meas (l : List Int) : Prop := ∀ z ∈ l, z.natAbs ≤ 1048575
theorem row_snoc (l : List Int) (z : Int) : Loft.row (l ++ [z]) = Loft.row l ++ (32 :: Loft.writing z) := by
  unfold Loft.row
  rw [List.flatMap_append]
  simp
theorem take_snoc {α : Type} {l : List α} {i : Nat} {x : α} (h : l[i]? = some x) : l.take (i + 1) = l.take i ++ [x] := by
  obtain ⟨hl, e⟩ := List.getElem?_eq_some_iff.mp h
  rw [← e, List.take_succ_eq_append_getElem hl]
theorem txt_blank : Txt " " [32] := by
  show (Str.ofString " ").cps.toList = [32]
  decide +kernel
def spRowOf : Sp := fun vs H Q _ => ∃ (a : Addr) (l : List Int), vs = [.ref a] ∧ H a = some (.lst (iv l)) ∧ Meas l ∧ l.length ≤ 600 ∧ ∀ (H' : Hp) (x : Str), Same H H' → Txt x (Loft.row l) → x.length ≤ 41 * l.length → Q (.str x) H'
section
variable {P : Program} {w : World} {K : PySem.W.Frag} {mg : Str → Option Value} {base : Heap}
theorem ok_written' (T : TxW K mg) : FnOk P w K mg base CX0 1 T.written.f T.written.fd ["measure"] spWritten := ok_written T.written.F T.cF T.cI T.cE T.abs
theorem scRowOf : FnScope ["measures", "measure"] ["measures"] (defScope sRowOf) := ⟨rfl, rfl, rfl, by decide +kernel, rfl, by decide +kernel, by decide +kernel⟩
theorem blkRow : BlkOk ["measures", "measure"] (defScope sRowOf) { kind := .function, names := [(".0", .local), ("measure", .local), ("written", .globalImplicit)], isGenerator := false, isCoroutine := false } [("measure", 1)] :=
  ⟨rfl, by decide +kernel, by decide +kernel, by decide +kernel, by decide +kernel⟩
theorem ok_rowOf (T : TxW K mg) : FnOk P w K mg base CX0 3 T.rowOf.f T.rowOf.fd ["measures"] spRowOf := by
  refine T.rowOf.F.ok scRowOf (fun vs H Q E h => ?_) (fun cdv A outer s H vs Q E hr h => ?_)
  · obtain ⟨a, l, rfl, _⟩ := h
    rfl
  · obtain ⟨a, l, rfl, ha, hm, hz, k⟩ := h
    have hr1 : Room 1 _ := hr.mono (by decide)
    refine ⟨_, pss_one (ps_ret (pe_join pe_str (pe_lc (own := [("measure", 1)]) rfl scRowOf.nd (pi_list (pv 0)) blkRow
      (fun _ _ _ _ _ => pg_name (i := 1) scRowOf.nd rfl (Or.inl rfl)) (fun _ _ _ _ _ => pts_nil)
      (fun _ _ _ _ _ => pe_op op_add_str pe_str (pe_call (ok_written' T) hr1 rfl T.written.m T.written.F.kp T.written.b .nil pass0 (pa_cons (pv 1) pa_nil)))))), ?_⟩
    refine ⟨⟨_, rfl⟩, _, rfl, a, rfl, ⟨_, SqL.of ha⟩, fun D hD => ?_⟩
    refine ⟨fun i m H' => m = l.length - i ∧ i ≤ l.length ∧ Same H H' ∧ ∃ acc : List Str, H' D = some (.lst (acc.map V.str)) ∧ acc.length = i ∧ cat acc = sg (Loft.row (l.take i)) ∧ (acc.map (·.length)).sum ≤ 41 * i, ⟨_, rfl, Nat.zero_le _, ?_, [], upd_same, rfl, rfl, Nat.le_refl _⟩, ?_⟩
    · exact fun x o hx => by rw [upd_ne (ne_of_none hx hD)]; exact hx
    · rintro i m H' ⟨rfl, hi, s1, acc, hacc, hlen, hcat, hsum⟩
      by_cases hlt : i < l.length
      · refine .inr ⟨⟨iv l, _, SqL.of (s1 _ _ ha), iv_get (List.getElem?_eq_getElem hlt)⟩, _, fun H2 z => ⟨l.length - (i + 1), by omega, z⟩, fun x H2 hy => ?_⟩
        obtain ⟨rfl, hy⟩ := hy
        obtain ⟨z, hz1, rfl⟩ := iv_at (hy _ (SqL.of (s1 _ _ ha)))
        refine ⟨rfl, ?_⟩
        refine ⟨_, rfl, z, rfl, hm z (List.mem_of_getElem? hz1), fun y ty hyl => ?_⟩
        have zl : (1000 : Nat) ≤ sizeLine := by decide
        have t1 := txt_blank.app ty
        have l1 : ((" " : Str) ++ y).length = y.length + 1 := by
          have h1 := t1.len
          have h2 := ty.len
          rw [h1, List.length_append, ← h2]
          show 1 + y.length = _
          omega
        have lb : (Str.ofString " ").length = 1 := by decide +kernel
        refine ⟨_, _, rfl, rfl, by show (Str.ofString " ").length + y.length ≤ sizeLine; omega, acc.map V.str, hacc, by rw [List.length_map]; omega, rfl, hlt, ?_, acc ++ [" " ++ y], by rw [upd_same, List.map_append]; rfl, by rw [List.length_append, hlen]; rfl, ?_, ?_⟩
        · exact fun x o hx => by
            have := s1 x o hx
            rw [upd_ne]
            · exact this
            · intro q
              rw [q] at hx
              rw [hD] at hx
              cases hx
        · rw [cat_app, hcat, take_snoc hz1, row_snoc]
          unfold sg
          rw [List.map_append]
          exact congrArg _ t1
        · rw [List.map_append, List.sum_append]
          show _ + (((" " : Str) ++ y).length + 0) ≤ _
          omega
      · have e : i = l.length := by omega
        subst e
        refine .inl ⟨⟨iv l, SqL.of (s1 _ _ ha), by rw [iv_len]; exact Nat.le_refl _⟩, _, D, acc, rfl, rfl, .inl (SqL.of hacc), ?_, ?_⟩
        · have lb : (Str.ofString "").length = 0 := by decide +kernel
          show _ + _ * (Str.ofString "").length ≤ _
          rw [lb]
          omega
        · have tj := txt_cat hcat
          rw [List.take_length] at tj
          refine k H' _ s1 tj ?_
          have e1 := tj.len
          have e2 : (cat acc).length = (Loft.row l).length := by
            rw [List.take_length] at hcat
            rw [hcat]
            unfold sg
            rw [List.length_map]
          have e3 : (cat acc).length = (acc.map (·.length)).sum := by
            unfold cat
            rw [List.length_flatten, List.map_map]
            rfl
          omega
theorem scBytesOf : FnScope ["signs", "sign"] ["signs"] (defScope sBytesOf) := ⟨rfl, rfl, rfl, by decide +kernel, rfl, by decide +kernel, by decide +kernel⟩
theorem blkBytes : BlkOk ["signs", "sign"] (defScope sBytesOf) { kind := .function, names := [(".0", .local), ("sign", .local), ("ord", .globalImplicit)], isGenerator := false, isCoroutine := false } [("sign", 1)] :=
  ⟨rfl, by decide +kernel, by decide +kernel, by decide +kernel, by decide +kernel⟩
def spBytesOf : Sp := fun vs H Q _ => ∃ (x : Str) (b : Bytes), vs = [.str x] ∧ Txt x b ∧ b.length ≤ 40000 ∧ ∀ (H' : Hp) (la : Addr), H la = none → H' la = some (.lst (bv b)) → Same H H' → Q (.ref la) H'
theorem ok_bytesOf (T : TxW K mg) : FnOk P w K mg base CX0 1 T.bytesOf.f T.bytesOf.fd ["signs"] spBytesOf := by
  refine T.bytesOf.F.ok scBytesOf (fun vs H Q E h => ?_) (fun cdv A outer s H vs Q E hr h => ?_)
  · obtain ⟨x, b, rfl, _⟩ := h
    rfl
  · obtain ⟨x, b, rfl, tj, hb, k⟩ := h
    have zl : (100000 : Nat) ≤ sizeLine := by decide
    have lj := tj.len
    refine ⟨_, pss_one (ps_ret (pe_lc (own := [("sign", 1)]) rfl scBytesOf.nd (pi_str (pv 0)) blkBytes (fun _ _ _ _ _ => pg_name (i := 1) scBytesOf.nd rfl (Or.inl rfl)) (fun _ _ _ _ _ => pts_nil)
        (fun _ _ _ _ _ => pe_callB call_ord (by rfl) T.ord boot_ord (pa_cons (pv 1) pa_nil)))), ?_⟩
    refine ⟨_, rfl, _, rfl, fun D hD => ?_⟩
    have xsz : x.cps.size = b.length := lj
    refine ⟨fun i m H2 => m = b.length - i ∧ i ≤ b.length ∧ Same H H2 ∧ H2 D = some (.lst (bv (b.take i))), ⟨_, rfl, Nat.zero_le _, ?_, upd_same⟩, ?_⟩
    · exact fun y o hy => by rw [upd_ne (ne_of_none hy hD)]; exact hy
    rintro i m H2 ⟨rfl, hi, s4, hD2⟩
    by_cases hlt : i < b.length
    · refine .inr ⟨by show i < x.cps.size; omega, _, fun H3 z => ⟨b.length - (i + 1), by omega, z⟩, fun y H3 hy => ?_⟩
      obtain ⟨rfl, c, hc, rfl⟩ := hy
      have hc2 : (sg b)[i]? = some c := by
        rw [← tj, Array.getElem?_toList]
        exact hc
      unfold sg at hc2
      rw [List.getElem?_map] at hc2
      obtain ⟨d, hd, ed⟩ := Option.map_eq_some_iff.mp hc2
      refine ⟨rfl, _, rfl, _, rfl, rfl, _, hD2, by rw [bv_len, List.length_take]; omega, rfl, hlt, ?_, ?_⟩
      · exact fun y o hy => by rw [upd_ne (ne_of_none hy hD)]; exact s4 y o hy
      · rw [upd_same, take_snoc hd]
        unfold bv
        rw [List.map_append]
        subst ed
        rfl
    · have e : i = b.length := by omega
      subst e
      exact .inl ⟨by show x.cps.size ≤ _; omega, k H2 D hD (by rw [hD2, List.take_length]) s4⟩
theorem scWritingOf : FnScope ["measure"] ["measure"] (defScope sWritingOf) := ⟨rfl, rfl, rfl, by decide +kernel, rfl, by decide +kernel, by decide +kernel⟩
def spWritingOf : Sp := fun vs H Q _ => ∃ z : Int, vs = [.int z] ∧ z.natAbs ≤ 1048575 ∧ ∀ (H' : Hp) (la : Addr), H la = none → H' la = some (.lst (bv (Loft.writing z))) → (Loft.writing z).length ≤ 40 → Same H H' → Q (.ref la) H'
theorem ok_writingOf (T : TxW K mg) : FnOk P w K mg base CX0 3 T.writingOf.f T.writingOf.fd ["measure"] spWritingOf := by
  refine T.writingOf.F.ok scWritingOf (fun vs H Q E h => ?_) (fun cdv A outer s H vs Q E hr h => ?_)
  · obtain ⟨z, rfl, _⟩ := h
    rfl
  · obtain ⟨z, rfl, hz, k⟩ := h
    have hr1 : Room 1 _ := hr.mono (by decide)
    refine ⟨_, pss_one (ps_ret (pe_call (ok_bytesOf T) hr1 rfl T.bytesOf.m T.bytesOf.F.kp T.bytesOf.b .nil pass0 (pa_cons (pe_call (ok_written' T) hr1 rfl T.written.m T.written.F.kp T.written.b .nil pass0 (pa_cons (pv 0) pa_nil)) pa_nil))), ?_⟩
    refine ⟨_, rfl, z, rfl, hz, fun x tx lx => ?_⟩
    have e := tx.len
    exact ⟨x, _, rfl, tx, by omega, fun H' la h1 h2 h3 => k H' la h1 h2 (by omega) h3⟩
end
end Off

end
section
set_option Elab.async false
set_option linter.all false
set_option maxRecDepth 100000
set_option maxHeartbeats 4000000
namespace Off
open PySem PySem.Spec PyProof.Rows L2 XL
open Loft (Bytes Rest Got)

theorem sIx_nat {len d a : Nat} (h : a ≤ len) : HT.sIx len d (some (a : Int)) = a := by
  rw [HT.sIx_nat]
  omega
theorem cut_iv {l : List Int} {a b : Nat} (h1 : a ≤ b) (h2 : b ≤ l.length) : cutV (iv l) (some (a : Int)) (some (b : Int)) = iv ((l.drop a).take (b - a)) := by
  unfold cutV
  rw [iv_len, sIx_nat (a := a) (by omega), sIx_nat (a := b) h2]
  unfold iv
  rw [← List.map_drop, ← List.map_take]
theorem flat_row {n : Nat} : ∀ (ys : List (List Int)) (j : Nat) (r : List Int), (∀ r ∈ ys, r.length = n) → ys[j]? = some r → (ys.flatten.drop (j * n)).take n = r ∧ j * n + n ≤ ys.flatten.length
  | [], j, r, _, h => by cases h
  | y :: ys, 0, r, hn, h => by
    cases h
    have e := hn y (by simp)
    rw [List.flatten_cons, Nat.zero_mul, List.drop_zero, List.take_append_of_le_length (by omega), ← e, List.take_length, List.length_append]
    exact ⟨rfl, by omega⟩
  | y :: ys, j + 1, r, hn, h => by
    have e := hn y (by simp)
    obtain ⟨h1, h2⟩ := flat_row ys j r (fun r hr => hn r (by simp [hr])) (by simpa using h)
    rw [List.flatten_cons, List.length_append]
    have e2 : (j + 1) * n = y.length + j * n := by rw [Nat.succ_mul, e]; omega
    rw [e2, ← List.drop_drop, List.drop_left]
    exact ⟨h1, by omega⟩
/-- a table of the document -/
structure WfT (T : Loft.Table) : Prop where
  x2 : 2 ≤ T.xs.length
  x24 : T.xs.length ≤ 24
  z2 : 2 ≤ T.zs.length
  z16 : T.zs.length ≤ 16
  ylen : T.ys.length = T.zs.length
  rows : ∀ r ∈ T.ys, r.length = T.xs.length
  mx : Meas T.xs
  mz : Meas T.zs
  my : ∀ r ∈ T.ys, Meas r
def lineB (z : Int) (r : List Int) : Bytes := Loft.ascii "level " ++ (Loft.writing z ++ (58 :: (Loft.row r ++ [10])))
def spLevelLine (CT : Addr) : Sp := fun vs H Q _ => ∃ (t : Addr) (T : Loft.Table) (j : Nat) (z : Int) (r : List Int), vs = [.ref t, .int (j : Int)] ∧ TabAt CT H t T.xs T.zs T.ys.flatten ∧ WfT T ∧ T.zs[j]? = some z ∧ T.ys[j]? = some r ∧
  ∀ (H' : Hp) (x : Str), Same H H' → Txt x (lineB z r) → x.length ≤ 2000 → Q (.str x) H'
theorem txt_lev : Txt "level " (Loft.ascii "level ") := by
  show (Str.ofString "level ").cps.toList = _
  decide +kernel
theorem txt_colon : Txt ":" [58] := by
  show (Str.ofString ":").cps.toList = [58]
  decide +kernel
theorem txt_nl : Txt "\n" [10] := by
  show (Str.ofString "\n").cps.toList = [10]
  decide +kernel
theorem empty_app (x : Str) : Str.empty ++ x = x := by
  have : (Str.empty ++ x).cps = x.cps := by
    show Str.empty.cps ++ x.cps = x.cps
    simp [Str.empty]
  exact congrArg Str.mk this
section
variable {P : Program} {w : World} {K : PySem.W.Frag} {mg : Str → Option Value} {base : Heap}
theorem scLevelLine : FnScope ["table", "level", "begin", "behind", "height", "row"] ["table", "level"] (defScope sLevelLine) := ⟨rfl, rfl, rfl, by decide +kernel, rfl, by decide +kernel, by decide +kernel⟩
theorem ok_levelLine (T : TxW K mg) (TT : TxT K mg) : FnOk P w K mg base CX0 5 T.levelLine.f T.levelLine.fd ["table", "level"] (spLevelLine TT.CT) := by
  refine T.levelLine.F.ok scLevelLine (fun vs H Q E h => ?_) (fun cdv A outer s H vs Q E hr h => ?_)
  · obtain ⟨t, TB, j, z, r, rfl, _⟩ := h
    rfl
  · obtain ⟨t, TB, j, z, r, rfl, ⟨dx, pa, ha, ba, ht, hp, hh, hb, ne1, ne2, ne3⟩, W, hz, hrw, k⟩ := h
    have hr1 : Room 1 _ := hr.mono (by decide)
    have hr3 : Room 3 _ := hr.mono (by decide)
    have tb : TabOn TT.CT H t dx pa ha ba TB.xs TB.zs TB.ys.flatten := ⟨ht, hp, hh, hb, ne1, ne2, ne3⟩
    refine ⟨_, pss_cons (ps_set (i := 2) scLevelLine.nd rfl (Or.inl rfl) (pe_meth (pv 0) TT.clT TT.mNum (ok_tabNum TT) hr1 TT.bNum .nil pass0 (pa_cons (pv 1) (pa_cons pe_int pa_nil)))) <|
      pss_cons (ps_set (i := 3) scLevelLine.nd rfl (Or.inl rfl) (pe_meth (pv 0) TT.clT TT.mNum (ok_tabNum TT) hr1 TT.bNum .nil pass0 (pa_cons (pe_op op_add (pv 1) pe_int) (pa_cons pe_int pa_nil)))) <|
      pss_cons (ps_set (i := 4) scLevelLine.nd rfl (Or.inl rfl) (pe_call (ok_written' T) hr1 rfl T.written.m T.written.F.kp T.written.b .nil pass0 (pa_cons (pe_ix ix_list (pe_fld (pv 0) rfl) (pv 1) (fun _ _ => rfl)) pa_nil))) <|
      pss_cons (ps_set (i := 5) scLevelLine.nd rfl (Or.inl rfl) (pe_call (ok_rowOf T) hr3 rfl T.rowOf.m T.rowOf.F.kp T.rowOf.b .nil pass0 (pa_cons (pe_slice sl_list (pe_fld (pv 0) rfl) (po_some (pv 2)) (po_some (pv 3))) pa_nil))) <|
      pss_one (ps_ret (pe_fs (pj_cons pf_lit <| pj_cons (pf_str (pv 4)) <| pj_cons pf_lit <| pj_cons (pf_str (pv 5)) <| pj_cons pf_lit pj_nil))), ?_⟩
    have hj : j < TB.zs.length := (List.getElem?_eq_some_iff.mp hz).1
    have hx24 := W.x24
    have hz16 := W.z16
    have em : (j : Int) * (TB.xs.length : Int) + 0 = ((j * TB.xs.length : Nat) : Int) := by rw [Int.natCast_mul, Int.add_zero]
    have em1 : ((j : Int) + 1) * (TB.xs.length : Int) + 0 = ((j * TB.xs.length + TB.xs.length : Nat) : Int) := by rw [Int.add_zero, Int.add_mul, Int.one_mul, Int.natCast_add, Int.natCast_mul]
    refine ⟨_, rfl, t, dx, _, rfl, ht, tab_no _ _ _ (by decide +kernel) (by decide +kernel) (by decide +kernel), _, rfl, t, dx, pa, ha, ba, _, _, _, (j : Int), 0, rfl, tb, by omega, by omega, by omega, ?_⟩
    rw [em]
    refine ⟨_, rfl, t, dx, _, rfl, ht, tab_no _ _ _ (by decide +kernel) (by decide +kernel) (by decide +kernel), _, rfl, _, _, rfl, rfl, t, dx, pa, ha, ba, _, _, _, (j : Int) + 1, 0, rfl, tb, by omega, by omega, by omega, ?_⟩
    rw [em1]
    refine ⟨_, rfl, t, TT.CT, dx, _, _, rfl, ht, TT.clT, TT.nHe, tab_heights _ _ _, _, rfl, ha, _, _, _, rfl, rfl, SqL.of hh, atI_nat (iv_get hz), z, rfl, W.mz z (List.mem_of_getElem? hz), fun hx t1 l1 => ?_⟩
    obtain ⟨fr, fl⟩ := flat_row TB.ys j r W.rows hrw
    refine ⟨_, rfl, t, TT.CT, dx, _, _, rfl, ht, TT.clT, TT.nHb, tab_breadths _ _ _, _, rfl, _, rfl, _, rfl, _, rfl, ba, _, rfl, SqL.of hb, fun la hla => ?_⟩
    have cv : cutV (iv TB.ys.flatten) (some ((j * TB.xs.length : Nat) : Int)) (some ((j * TB.xs.length + TB.xs.length : Nat) : Int)) = iv r := by
      rw [cut_iv (by omega) fl, Nat.add_sub_cancel_left, fr]
    rw [cv]
    have hrl := W.rows r (List.mem_of_getElem? hrw)
    refine ⟨la, r, rfl, upd_same, W.my r (List.mem_of_getElem? hrw), by omega, fun H1 rx s1 t2 l2 => ?_⟩
    have sm : Same H H1 := fun x o hx => s1 x o (by rw [upd_ne (ne_of_none hx hla)]; exact hx)
    have t3 := txt_lev.app t1
    have t4 := t3.app txt_colon
    have t5 := t4.app t2
    have t6 := t5.app txt_nl
    have zl : (3000 : Nat) ≤ sizeLine := by decide
    have k1 := t1.len; have k2 := t2.len; have k3 := t3.len; have k4 := t4.len; have k5 := t5.len; have k6 := t6.len
    have kl : (Loft.ascii "level ").length = 6 := by decide +kernel
    simp only [List.length_append, List.length_cons, List.length_nil, kl] at k3 k4 k5 k6
    have k7 : (Str.ofString "level ").length = 6 := by decide +kernel
    refine ⟨by rw [empty_app]; show (Str.ofString "level ").length ≤ _; omega, ?_⟩
    rw [empty_app]
    refine ⟨_, rfl, _, rfl, by omega, by show (Str.ofString "level " ++ _).length ≤ _; omega, by show (Str.ofString "level " ++ _ ++ _).length ≤ _; omega, ?_⟩
    refine ⟨_, rfl, _, rfl, by omega, by show (Str.ofString "level " ++ _ ++ _ ++ _).length ≤ _; omega, by show (Str.ofString "level " ++ _ ++ _ ++ _ ++ _).length ≤ _; omega, by show (Str.ofString "level " ++ _ ++ _ ++ _ ++ _).length ≤ _; omega, ?_⟩
    refine k H1 _ sm ?_ (by show (Str.ofString "level " ++ _ ++ _ ++ _ ++ _).length ≤ _; omega)
    have e9 : lineB z r = (((Loft.ascii "level " ++ Loft.writing z) ++ [58]) ++ Loft.row r) ++ [10] := by
      unfold lineB
      simp only [List.append_assoc, List.cons_append, List.nil_append]
    rw [e9]
    exact t6
end
end Off

end
section
set_option Elab.async false
set_option linter.all false
set_option maxRecDepth 100000
set_option maxHeartbeats 4000000
namespace Off
open PySem PySem.Spec PyProof.Rows L2 XL
open Loft (Bytes Rest Got)

def headB (xs : List Int) : Bytes := Loft.ascii "stations" ++ (Loft.row xs ++ [10])
def linesB (T : Loft.Table) (i : Nat) : Bytes := ((T.zs.zip T.ys).take i).flatMap fun (x : Int × List Int) => lineB x.1 x.2
theorem text_eq (T : Loft.Table) (h : T.ys.length = T.zs.length) : T.text = headB T.xs ++ linesB T T.zs.length := by
  have e : (T.zs.zip T.ys).length = T.zs.length := by rw [List.length_zip]; omega
  unfold Loft.Table.text headB linesB
  rw [← e, List.take_length]
  simp only [List.append_assoc, List.cons_append, List.nil_append]
  rfl
theorem linesB_succ {T : Loft.Table} {i : Nat} {z : Int} {r : List Int} (h1 : T.zs[i]? = some z) (h2 : T.ys[i]? = some r) : linesB T (i + 1) = linesB T i ++ lineB z r := by
  unfold linesB
  have e : (T.zs.zip T.ys)[i]? = some (z, r) := by rw [List.getElem?_zip_eq_some]; exact ⟨h1, h2⟩
  rw [take_snoc e, List.flatMap_append]
  simp
theorem txt_sta : Txt "stations" (Loft.ascii "stations") := txt_stations
def spTextOf (CT : Addr) : Sp := fun vs H Q _ => ∃ (t : Addr) (T : Loft.Table), vs = [.ref t] ∧ TabAt CT H t T.xs T.zs T.ys.flatten ∧ WfT T ∧ ∀ (H' : Hp) (la : Addr), H la = none → H' la = some (.lst (bv T.text)) → Same H H' → T.text.length ≤ 40000 → Q (.ref la) H'
section
variable {P : Program} {w : World} {K : PySem.W.Frag} {mg : Str → Option Value} {base : Heap}
theorem scTextOf : FnScope ["table", "places", "lines", "level"] ["table"] (defScope sTextOf) := ⟨rfl, rfl, rfl, by decide +kernel, rfl, by decide +kernel, by decide +kernel⟩
theorem ok_textOf (T : TxW K mg) (TT : TxT K mg) : FnOk P w K mg base CX0 7 T.textOf.f T.textOf.fd ["table"] (spTextOf TT.CT) := by
  refine T.textOf.F.ok scTextOf (fun vs H Q E h => ?_) (fun cdv A outer s H vs Q E hr h => ?_)
  · obtain ⟨t, TB, rfl, _⟩ := h
    rfl
  · obtain ⟨t, TB, rfl, tab, W, k⟩ := h
    obtain ⟨dx, pa, ha, ba, ht, hp, hh, hb, ne1, ne2, ne3⟩ := tab.ex
    have hr1 : Room 1 _ := hr.mono (by decide)
    have hr3 : Room 3 _ := hr.mono (by decide)
    have hr5 : Room 5 _ := hr.mono (by decide)
    refine ⟨_, pss_cons (ps_set (i := 1) scTextOf.nd rfl (Or.inl rfl) (pe_call (ok_rowOf T) hr3 rfl T.rowOf.m T.rowOf.F.kp T.rowOf.b .nil pass0 (pa_cons (pe_fld (pv 0) rfl) pa_nil))) <|
      pss_cons (ps_set (i := 2) scTextOf.nd rfl (Or.inl rfl) (pe_lst (pa_cons (pe_fs (pj_cons pf_lit <| pj_cons (pf_str (pv 1)) <| pj_cons pf_lit pj_nil)) pa_nil))) <|
      pss_cons (ps_for PassesOwn.never rfl (pi_range1 rfl T.range (pa_cons (pe_callB call_len_seq (by rfl) T.len PySem.boot_len (pa_cons (pe_fld (pv 0) rfl) pa_nil)) pa_nil)) (pg_name (i := 3) scTextOf.nd rfl (Or.inl rfl))
        (pss_one (ps_expr (pe_bm PySem.F.plainAttrs_list PySem.F.slot_list_append PySem.F.type_list_append mt_append (pv 2) (pa_cons (pe_call (ok_levelLine T TT) hr5 rfl T.levelLine.m T.levelLine.F.kp T.levelLine.b .nil pass0 (pa_cons (pv 0) (pa_cons (pv 3) pa_nil))) pa_nil))))) <|
      pss_one (ps_ret (pe_call (ok_bytesOf T) hr1 rfl T.bytesOf.m T.bytesOf.F.kp T.bytesOf.b .nil pass0 (pa_cons (pe_join pe_str (pv 2)) pa_nil))), ?_⟩
    have hx24 := W.x24
    have hz16 := W.z16
    have zl : (100000 : Nat) ≤ sizeLine := by decide
    refine ⟨_, rfl, t, TT.CT, dx, _, _, rfl, ht, TT.clT, TT.nPl, tab_places _ _ _, pa, TB.xs, rfl, hp, W.mx, by omega, fun H1 px s1 t1 l1 => ?_⟩
    have t2 := txt_sta.app t1
    have t3 := t2.app txt_nl
    have k1 := t1.len; have k2 := t2.len; have k3 := t3.len
    have kl : (Loft.ascii "stations").length = 8 := by decide +kernel
    have k7 : (Str.ofString "stations").length = 8 := by decide +kernel
    simp only [List.length_append, List.length_cons, List.length_nil, kl] at k2 k3
    refine ⟨by rw [empty_app]; show (Str.ofString "stations").length ≤ _; omega, ?_⟩
    rw [empty_app]
    refine ⟨_, rfl, _, rfl, by omega, by show (Str.ofString "stations" ++ _).length ≤ _; omega, by show (Str.ofString "stations" ++ _ ++ _).length ≤ _; omega, by show (Str.ofString "stations" ++ _ ++ _).length ≤ _; omega, by show 1 ≤ sizeLine; omega, fun ln hln => ?_⟩
    have s2 : Same H (upd H1 ln (.lst [V.str (Str.ofString "stations" ++ px ++ Str.ofString "\n")])) := fun x o hx => by
      have := s1 x o hx
      rw [upd_ne (ne_of_none this hln)]
      exact this
    have hlnH : H ln = none := s1.free hln
    refine ⟨_, rfl, t, TT.CT, dx, _, _, rfl, s2 _ _ ht, TT.clT, TT.nHe, tab_heights _ _ _, ha, _, rfl, .inl (SqL.of (s2 _ _ hh)), _, rfl, by rw [iv_len]; omega, by rw [iv_len]; omega, ?_⟩
    rw [iv_len, Int.toNat_natCast]
    have len : TB.ys.length = TB.zs.length := W.ylen
    refine for_range (lo := 0) (n := TB.zs.length) (fun i σ H' => ∃ v : Option V, σ = [some (.ref t), some (.str px), some (.ref ln), v] ∧ Same H H' ∧ ∃ acc : List Str, H' ln = some (.lst (acc.map V.str)) ∧ acc.length = i + 1 ∧ cat acc = sg (headB TB.xs ++ linesB TB i) ∧ (acc.map (·.length)).sum ≤ 2000 * (i + 1))
      ⟨none, rfl, s2, [Str.ofString "stations" ++ px ++ Str.ofString "\n"], upd_same, rfl, ?_, ?_⟩ ?_ ?_
    · have e : headB TB.xs ++ linesB TB 0 = (Loft.ascii "stations" ++ Loft.row TB.xs) ++ [10] := by
        unfold headB linesB
        simp only [List.take_zero, List.flatMap_nil, List.append_nil, List.append_assoc]
      rw [e]
      unfold cat
      rw [List.map_cons, List.map_nil, List.flatten_cons, List.flatten_nil, List.append_nil]
      exact t3
    · show (Str.ofString "stations" ++ px ++ Str.ofString "\n").length + 0 ≤ 2000 * 1
      have : (Str.ofString "stations" ++ px ++ Str.ofString "\n").length = 8 + (Loft.row TB.xs).length + 1 := k3
      omega
    · rintro i σ H' hi ⟨v, rfl, s3, acc, hacc, hlen, hcat, hsum⟩
      obtain ⟨z, hz⟩ : ∃ z, TB.zs[i]? = some z := ⟨TB.zs[i], List.getElem?_eq_getElem (by omega)⟩
      obtain ⟨r, hrw⟩ : ∃ r, TB.ys[i]? = some r := ⟨TB.ys[i], List.getElem?_eq_getElem (by omega)⟩
      refine ⟨_, rfl, .inl ⟨rfl, _, SqL.of hacc⟩, _, rfl, _, rfl, t, TB, i, z, r, by rw [Int.zero_add]; rfl, ⟨⟨dx, pa, ha, ba, s3 _ _ ht, s3 _ _ hp, s3 _ _ hh, s3 _ _ hb, ne1, ne2, ne3⟩⟩, W, hz, hrw, fun H2 x s4 tx lx => ?_⟩
      refine ⟨ln, _, _, rfl, rfl, s4 _ _ hacc, by rw [List.length_map]; omega, ?_⟩
      refine ⟨_, rfl, ?_, acc ++ [x], by rw [upd_same, List.map_append]; rfl, by rw [List.length_append, hlen]; rfl, ?_, ?_⟩
      · exact fun y o hy => by rw [upd_ne (ne_of_none hy hlnH)]; exact s4 y o (s3 y o hy)
      · rw [cat_app, hcat, linesB_succ hz hrw, ← List.append_assoc]
        unfold sg
        rw [List.map_append (l₁ := headB TB.xs ++ linesB TB i)]
        exact congrArg _ tx
      · rw [List.map_append, List.sum_append]
        show _ + (x.length + 0) ≤ _
        omega
    · rintro σ H' ⟨v, rfl, s3, acc, hacc, hlen, hcat, hsum⟩
      rw [← text_eq TB len] at hcat
      have tj := txt_cat hcat
      have lj := tj.len
      have e3 : (cat acc).length = (acc.map (·.length)).sum := by
        unfold cat
        rw [List.length_flatten, List.map_map]
        rfl
      have e4 : (cat acc).length = TB.text.length := by
        rw [hcat]
        unfold sg
        rw [List.length_map]
      refine ⟨⟨_, rfl⟩, _, rfl, _, ln, acc, rfl, rfl, .inl (SqL.of hacc), ?_, _, TB.text, rfl, tj, by omega, fun H2 la h1 h2 h3 => k H2 la (s3.free h1) h2 (s3.trans h3) (by omega)⟩
      have lb : (Str.ofString "").length = 0 := by decide +kernel
      show _ + _ * (Str.ofString "").length ≤ _
      rw [lb]
      omega
end
end Off

end
section
set_option Elab.async false
set_option linter.all false
set_option maxRecDepth 100000
set_option maxHeartbeats 4000000
namespace Off
open PySem PySem.Spec PyProof.Rows L2 XL
open Loft (Bytes Rest Got)

/-! ### what is read is a table -/
theorem worthM_ok {from0 below : Bool} {f i e mo p : Nat} {s r : Rest} {z : Int} (h : worthM from0 below f i e mo p s = .ok z r) : z.natAbs ≤ 1048575 ∧ (from0 = true → 0 ≤ z) := by
  unfold worthM at h
  split at h
  · cases h
  · split at h
    · cases h
    · rename_i h2
      split at h
      · cases h
      · rename_i h3
        injection h with h4 h5
        subst h4
        cases below with
        | true =>
          rw [if_pos rfl]
          exact ⟨by omega, fun q => absurd ⟨q, rfl⟩ h3⟩
        | false =>
          rw [if_neg Bool.false_ne_true]
          exact ⟨by omega, fun _ => by omega⟩
theorem measure_ok0 {b : Bytes} {p : Nat} {f0 : Bool} {z : Int} {s : Rest} (h : Loft.measure f0 none (rst b p) = .ok z s) : z.natAbs ≤ 1048575 ∧ (f0 = true → 0 ≤ z) := by
  rw [← measM_eq, measM_steps] at h
  obtain ⟨f, r1, g1, h⟩ := bnd_inv h
  obtain ⟨u, r2, g2, h⟩ := bnd_inv h
  obtain ⟨i, r3, g3, h⟩ := bnd_inv h
  obtain ⟨u, r4, g4, h⟩ := bnd_inv h
  obtain ⟨e, r5, g5, h⟩ := bnd_inv h
  obtain ⟨u, r6, g6, h⟩ := bnd_inv h
  exact worthM_ok h
theorem measure_ok {b : Bytes} {p : Nat} {f0 : Bool} {o : Option Int} {z : Int} {s : Rest} (h : Loft.measure f0 o (rst b p) = .ok z s) : z.natAbs ≤ 1048575 ∧ (f0 = true → 0 ≤ z) := by
  cases o with
  | none => exact measure_ok0 h
  | some y =>
    rw [measure_above] at h
    obtain ⟨z', s', g, h⟩ := bnd_inv h
    split at h
    · cases h
    · cases h; exact measure_ok0 g
theorem endM_ge {b : Bytes} {p n m : Nat} {u : Unit} {s : Rest} (h : endM n m (rst b p) = .ok u s) : m ≤ n := by
  unfold endM at h
  rw [rst_head] at h
  by_cases h10 : b[p]? = some 10
  · split at h
    · cases h
    · rename_i q
      exact Nat.not_lt.mp fun z => q ⟨h10, z⟩
  · rw [if_neg (fun q => h10 q.1), byte_bad h10] at h
    cases h
theorem measures_ok {f0 rs : Bool} {least most : Nat} {b : Bytes} : ∀ {f : Nat} {l : List Int} {p : Nat} {v : List Int} {s : Rest}, Meas l → Loft.measures f0 rs least most f l (rst b p) = .ok v s → Meas v ∧ least ≤ v.length
  | 0, l, p, v, s, hl, h => by cases h
  | f + 1, l, p, v, s, hl, h => by
    by_cases h32 : b[p]? = some 32
    · rw [measures_blank h32] at h
      obtain ⟨u, r1, g1, h⟩ := bnd_inv h
      have e1 : r1 = rst b r1.at_ := by
        unfold blankM at g1
        split at g1
        · cases g1
        · exact byte_at g1
      rw [e1] at h
      obtain ⟨z, r2, g2, h⟩ := bnd_inv h
      rw [(measure_at' g2).1] at h
      refine measures_ok (fun y hy => ?_) h
      rcases List.mem_append.mp hy with q | q
      · exact hl y q
      · rw [List.mem_singleton.mp q]; exact (measure_ok g2).1
    · rw [measures_end h32] at h
      obtain ⟨u, r1, g1, h⟩ := bnd_inv h
      cases h
      exact ⟨hl, endM_ge g1⟩
theorem heightM_ok {l : List Int} {b : Bytes} {p : Nat} {z : Int} {s : Rest} (h : heightM l (rst b p) = .ok z s) : z.natAbs ≤ 1048575 := by
  unfold heightM at h
  obtain ⟨u, r1, g1, h⟩ := bnd_inv h
  rw [word_at g1] at h
  obtain ⟨u, r2, g2, h⟩ := bnd_inv h
  rw [byte_at g2] at h
  obtain ⟨u, r3, g3, h⟩ := bnd_inv h
  obtain ⟨u', r4, g4, h⟩ := bnd_inv h
  cases h
  exact (measure_ok g3).1
/-- the lines of levels -/
def LsOk (n : Nat) (ls : List (Int × List Int)) : Prop := ∀ x ∈ ls, x.1.natAbs ≤ 1048575 ∧ x.2.length = n ∧ Meas x.2
theorem levelLines_ok {n : Nat} {b : Bytes} : ∀ {f : Nat} {ls : List (Int × List Int)} {p : Nat} {v : List (Int × List Int)} {s : Rest}, LsOk n ls → ls.length ≤ 16 → Loft.levelLines n f ls (rst b p) = .ok v s → LsOk n v ∧ 2 ≤ v.length ∧ v.length ≤ 16
  | 0, ls, p, v, s, _, _, h => by cases h
  | f + 1, ls, p, v, s, hl, h16, h => by
    cases q : b[p]? with
    | none =>
      rw [levelLines_end q] at h
      split at h
      · cases h
      · cases h; exact ⟨hl, by omega, h16⟩
    | some c =>
      rw [levelLines_more (by rw [q]; exact fun z => nomatch z)] at h
      split at h
      · cases h
      · rename_i h3
        rw [levelLine_eq, bnd_bnd] at h
        obtain ⟨z, r1, g1, h⟩ := bnd_inv h
        rw [heightM_at g1, bnd_bnd] at h
        obtain ⟨l, r2, g2, h⟩ := bnd_inv h
        rw [bnd_ok, measures_at g2] at h
        obtain ⟨m1, m2⟩ := measures_ok (fun _ z => absurd z List.not_mem_nil) g2
        have m3 := measures_len (Nat.zero_le _) g2
        refine levelLines_ok (fun x hx => ?_) (by rw [List.length_append]; simp; omega) h
        rcases List.mem_append.mp hx with y | y
        · exact hl x y
        · rw [List.mem_singleton.mp y]; exact ⟨heightM_ok g1, by show l.length = n; omega, m1⟩
theorem readText_wf {b : Bytes} {T : Loft.Table} (h : Loft.readText b = .ok T) : WfT T := by
  rw [readText_eq] at h
  cases g1 : stationsM (rst b 0) with
  | bad k p => rw [g1] at h; cases h
  | ok xs s1 =>
    rw [g1] at h
    dsimp only [bnd] at h
    unfold stationsM at g1
    obtain ⟨u, r1, g1a, g1b⟩ := bnd_inv g1
    rw [word_at g1a] at g1b
    rw [measures_at g1b] at h
    obtain ⟨m1, m2⟩ := measures_ok (fun _ z => absurd z List.not_mem_nil) g1b
    have m3 := measures_len (Nat.zero_le _) g1b
    cases g2 : Loft.levelLines xs.length 18 [] (rst b s1.at_) with
    | bad k p => rw [g2] at h; cases h
    | ok ls s2 =>
      rw [g2] at h
      cases h
      obtain ⟨n1, n2, n3⟩ := levelLines_ok (fun _ z => absurd z List.not_mem_nil) (Nat.zero_le _) g2
      refine ⟨m2, m3, by rw [List.length_map]; exact n2, by rw [List.length_map]; exact n3, by rw [List.length_map, List.length_map], fun r hr => ?_, m1, fun z hz => ?_, fun r hr => ?_⟩
      · obtain ⟨x, hx, rfl⟩ := List.mem_map.mp hr
        exact (n1 x hx).2.1
      · obtain ⟨x, hx, rfl⟩ := List.mem_map.mp hz
        exact (n1 x hx).1
      · obtain ⟨x, hx, rfl⟩ := List.mem_map.mp hr
        exact (n1 x hx).2.2
/-! ### what is made is one -/
theorem bfM_all {least : Int} : ∀ {l : List Int} {k : Nat}, ¬ bfM least l k < k + l.length → ∀ z ∈ l, least ≤ z ∧ z ≤ 1048575
  | [], k, _, z, hz => nomatch hz
  | y :: r, k, h, z, hz => by
    rw [bfM, List.length_cons] at h
    have hb := bfM_ge least r (k + 1)
    split at h
    · omega
    · rename_i q
      rcases List.mem_cons.mp hz with rfl | hz
      · omega
      · exact bfM_all (k := k + 1) (by omega) z hz
theorem flat_tab (n : Nat) : ∀ (m : Nat) (ys : List Int), ys.length = n * m → ((List.range m).map fun (j : Nat) => (ys.drop (j * n)).take n).flatten = ys ∧ ∀ r ∈ (List.range m).map (fun (j : Nat) => (ys.drop (j * n)).take n), r.length = n
  | 0, ys, h => by
    rw [Nat.mul_zero] at h
    have : ys = [] := List.length_eq_zero_iff.mp h
    subst this
    exact ⟨rfl, fun r hr => nomatch hr⟩
  | m + 1, ys, h => by
    have hm : ys.length = n + n * m := by rw [h, Nat.mul_succ]; omega
    obtain ⟨i1, i2⟩ := flat_tab n m (ys.drop n) (by rw [List.length_drop]; omega)
    have e : (List.range (m + 1)).map (fun (j : Nat) => (ys.drop (j * n)).take n) = ys.take n :: (List.range m).map (fun (j : Nat) => ((ys.drop n).drop (j * n)).take n) := by
      rw [List.range_succ_eq_map, List.map_cons, List.map_map, Nat.zero_mul, List.drop_zero]
      refine congrArg _ (List.map_congr_left fun j _ => ?_)
      show (ys.drop ((j + 1) * n)).take n = _
      rw [List.drop_drop, Nat.succ_mul, Nat.add_comm]
    rw [e]
    refine ⟨by rw [List.flatten_cons, i1, List.take_append_drop], fun r hr => ?_⟩
    rcases List.mem_cons.mp hr with rfl | hr
    · rw [List.length_take]; omega
    · exact i2 r hr
theorem made_wf {xs zs ys : List Int} (h : listsM xs zs ys = [0, 0]) (h1 : 2 ≤ xs.length) (h2 : xs.length ≤ 24) (h3 : 2 ≤ zs.length) (h4 : zs.length ≤ 16) (h5 : ys.length = xs.length * zs.length) : WfT (tabOf xs zs ys) ∧ (tabOf xs zs ys).ys.flatten = ys := by
  obtain ⟨f1, f2⟩ := flat_tab xs.length zs.length ys h5
  have hc : countM xs zs ys = [0, 0] := by
    unfold countM
    rw [if_neg (by omega), if_neg (by omega), if_neg (fun q => q h5)]
  unfold listsM at h
  rw [hc, if_neg (fun q => q rfl)] at h
  unfold numberM at h
  split at h
  · cases h
  · rename_i n1
    split at h
    · cases h
    · rename_i n2
      split at h
      · cases h
      · rename_i n3
        have b1 := bfM_all (least := 0) (l := xs) (k := 0) (by have := rfM_ge; omega)
        have b2 := bfM_all (least := -1048575) (l := zs) (k := 0) (by omega)
        have b3 := bfM_all (least := 0) (l := ys) (k := 0) (by omega)
        refine ⟨⟨h1, h2, h3, h4, by show ((List.range zs.length).map _).length = zs.length; rw [List.length_map, List.length_range], f2, fun z hz => by have := b1 z hz; omega, fun z hz => by have := b2 z hz; omega, fun r hr z hz => ?_⟩, f1⟩
        have : z ∈ ys := by rw [← f1]; exact List.mem_flatten.mpr ⟨r, hr, hz⟩
        have := b3 z this
        omega
end Off

end
section
set_option Elab.async false
set_option linter.all false
set_option maxRecDepth 100000
set_option maxHeartbeats 4000000
namespace Off
open PySem PySem.Spec PyProof.Rows L2 XL
open Loft (Bytes Rest Got)

abbrev sKeepI : Stmt := inClass (top 73) 0
abbrev sHandI : Stmt := inClass (top 74) 0
abbrev sHasMore : Stmt := inClass (top 74) 1
abbrev sTakeNum : Stmt := inClass (top 74) 2
abbrev sTakeRow : Stmt := inClass (top 74) 3
/-! ### what the text of tables.py has: its classes -/
structure TxK (K : PySem.W.Frag) (mg : Str → Option Value) where
  CK : Addr
  clK : Cls K CK
  nTa : NoAttr K CK "table"
  mK : mg "Keeper" = some (.ref CK)
  fK : Addr
  fdK : FuncData
  mkK : Mk K CK fK
  FK : Fun K "__init__" "Keeper.__init__" sKeepI fK fdK
  bK : Binds K fdK ["self"] []
  CH : Addr
  clH : Cls K CH
  nCa : NoAttr K CH "calls"
  nPc : NoAttr K CH "place"
  mH : mg "Handed" = some (.ref CH)
  fH : Addr
  fdH : FuncData
  mkH : Mk K CH fH
  FH : Fun K "__init__" "Handed.__init__" sHandI fH fdH
  bH : Binds K fdH ["self", "calls"] []
  fM : Addr
  fdM : FuncData
  mM : Meth K CH "has_more" fM
  FM : Fun K "has_more" "Handed.has_more" sHasMore fM fdM
  bM : Binds K fdM ["self"] []
  fN : Addr
  fdN : FuncData
  mN : Meth K CH "take_number" fN
  FN : Fun K "take_number" "Handed.take_number" sTakeNum fN fdN
  bN : Binds K fdN ["self"] []
  fR : Addr
  fdR : FuncData
  mR : Meth K CH "take_row" fR
  FR : Fun K "take_row" "Handed.take_row" sTakeRow fR fdR
  bR : Binds K fdR ["self"] []
  lenK : mg "len" = none
/-! ### who keeps the table -/
def keepF (v : V) : List (Str × V) := putF "table" v []
theorem keep_table (v : V) : (keepF v).lookup ("table" : Str) = some v := by
  unfold keepF
  rw [lookup_putF, if_pos rfl]
theorem keep_put (v v' : V) : putF "table" v' (keepF v) = keepF v' := by
  show (if ("table" : Str) = "table" then _ else _) = _
  rw [if_pos rfl]
  rfl
theorem keep_len (v : V) : (keepF v).length = 1 := rfl
def KeepV (CK CT : Addr) (H : Hp) (k : Addr) (S : Addr → Prop) : Option Loft.Table → Prop
  | none => ∃ dk, H k = some (.ins CK dk (keepF .non))
  | some T => WfT T ∧ ∃ dk t dx pa ha ba, H k = some (.ins CK dk (keepF (.ref t))) ∧ TabOn CT H t dx pa ha ba T.xs T.zs T.ys.flatten ∧ S t ∧ S pa ∧ S ha ∧ S ba
def isFz : HO → Bool
  | .frz _ _ => true
  | _ => false
structure KeepAt (CK CT : Addr) (H : Hp) (k : Addr) (st : Option Loft.Table) (S : Addr → Prop) : Prop where
  own : S k
  val : KeepV CK CT H k S st
  dom : ∀ x, S x → ∃ o, H x = some o ∧ isFz o = false
/-- what it owns is as it was -/
theorem KeepAt.stay {CK CT : Addr} {H H' : Hp} {k : Addr} {st : Option Loft.Table} {S : Addr → Prop} (A : KeepAt CK CT H k st S) (e : ∀ x o, H x = some o → S x → H' x = some o) : KeepAt CK CT H' k st S := by
  refine ⟨A.own, ?_, fun x hx => let ⟨o, ho, hf⟩ := A.dom x hx; ⟨o, e x o ho hx, hf⟩⟩
  have v := A.val
  cases st with
  | none =>
    obtain ⟨dk, h⟩ := v
    exact ⟨dk, e _ _ h A.own⟩
  | some T =>
    obtain ⟨W, dk, t, dx, pa, ha, ba, h, o, s1, s2, s3, s4⟩ := v
    exact ⟨W, dk, t, dx, pa, ha, ba, e _ _ h A.own, ⟨e _ _ o.ob s1, e _ _ o.p s2, e _ _ o.h s3, e _ _ o.b s4, o.ph, o.pb, o.hb⟩, s1, s2, s3, s4⟩
theorem KeepAt.same {CK CT : Addr} {H H' : Hp} {k : Addr} {st : Option Loft.Table} {S : Addr → Prop} (A : KeepAt CK CT H k st S) (e : Same H H') : KeepAt CK CT H' k st S := A.stay fun x o h _ => e x o h
theorem KeepAt.ob {CK CT : Addr} {H : Hp} {k : Addr} {st : Option Loft.Table} {S : Addr → Prop} (A : KeepAt CK CT H k st S) : ∃ dk v, H k = some (.ins CK dk (keepF v)) := by
  have v := A.val
  cases st with
  | none => obtain ⟨dk, h⟩ := v; exact ⟨dk, _, h⟩
  | some T => obtain ⟨W, dk, t, dx, pa, ha, ba, h, _⟩ := v; exact ⟨dk, _, h⟩
/-- behind an answer: all that isn't owned is as it was; what is owned then was owned or is new; N: what may have come to be owned -/
def Ans (CK CT : Addr) (H : Hp) (k : Addr) (S N : Addr → Prop) (r : Option Loft.Table × List Int) (Q : VK) : Prop :=
  ∀ (H' : Hp) (la : Addr) (S' : Addr → Prop), KeepAt CK CT H' k r.1 S' → (∀ x, S' x → S x ∨ N x) → (∀ x o, H x = some o → ¬ S x → H' x = some o) → H la = none → H' la = some (.lst (iv r.2)) → Q (.ref la) H'
/-- nothing was changed -/
theorem Ans.same {CK CT : Addr} {H H' : Hp} {k la : Addr} {S N : Addr → Prop} {st : Option Loft.Table} {l : List Int} {Q : VK} (a : Ans CK CT H k S N (st, l) Q) (A : KeepAt CK CT H k st S) (e : Same H H') (h1 : H' la = none) : Q (.ref la) (upd H' la (.lst (iv l))) := by
  have s2 : Same H (upd H' la (.lst (iv l))) := fun x o hx => by
    have := e x o hx
    rw [upd_ne (ne_of_none this h1)]
    exact this
  exact a _ la S (A.same s2) (fun x z => .inl z) (fun x o hx _ => s2 x o hx) (e.free h1) upd_same
/-! ### what is handed in -/
def handF (ca : Addr) (p : Int) : List (Str × V) := putF "place" (.int p) (putF "calls" (.ref ca) [])
theorem hand_cp : ¬ (("calls" : Str) = "place") := by decide +kernel
theorem hand_calls (ca : Addr) (p : Int) : (handF ca p).lookup ("calls" : Str) = some (.ref ca) := by
  unfold handF
  rw [lookup_putF, if_neg hand_cp, lookup_putF, if_pos rfl]
theorem hand_place (ca : Addr) (p : Int) : (handF ca p).lookup ("place" : Str) = some (.int p) := by
  unfold handF
  rw [lookup_putF, if_pos rfl]
theorem hand_no (ca : Addr) (p : Int) {m : Str} (h1 : ¬ m = "place") (h2 : ¬ m = "calls") : (handF ca p).lookup m = none := by
  unfold handF
  rw [lookup_putF, if_neg h1, lookup_putF, if_neg h2]
  rfl
theorem hand_put (ca : Addr) (p q : Int) : putF "place" (.int q) (handF ca p) = handF ca q := by
  unfold handF
  rw [put2 hand_cp, put2 hand_cp]
  show (if ("calls" : Str) = "place" then _ else (("calls" : Str), V.ref ca) :: (if ("place" : Str) = "place" then [(("place" : Str), V.int q)] else _)) = _
  rw [if_neg hand_cp, if_pos rfl]
theorem hand_len (ca : Addr) (p : Int) : (handF ca p).length = 2 := by
  unfold handF
  rw [put2 hand_cp]
  rfl
/-- a list that stays -/
def FzL (K : PySem.W.Frag) (H : Hp) (a : Addr) (xs : List V) : Prop := (∃ o, H a = some (.frz o (.lst xs))) ∨ ∀ H', SqL K H' a xs
theorem FzL.sq {K : PySem.W.Frag} {H : Hp} {a : Addr} {xs : List V} (h : FzL K H a xs) : SqL K H a xs := by
  rcases h with ⟨o, h⟩ | h
  · exact .inl (.inr ⟨o, h⟩)
  · exact h H
theorem FzL.stay {K : PySem.W.Frag} {H H' : Hp} {a : Addr} {xs : List V} (h : FzL K H a xs) (e : ∀ o, H a = some o → isFz o = true → H' a = some o) : FzL K H' a xs := by
  rcases h with ⟨o, h⟩ | h
  · exact .inl ⟨o, e _ h rfl⟩
  · exact .inr h
theorem FzL.of {K : PySem.W.Frag} {H : Hp} {a : Addr} {xs : List V} (hO : OnlyF H) (h : SqL K H a xs) : FzL K H a xs := by
  rcases h with (h | ⟨o, h⟩) | h
  · rcases hO a with z | ⟨o, u, z⟩
    · rw [z] at h; cases h
    · rw [z] at h; cases h
  · exact .inl ⟨o, h⟩
  · exact .inr fun _ => .inr h
structure HandAt (K : PySem.W.Frag) (CH : Addr) (H : Hp) (h ca : Addr) (ns : List Int) (p : Nat) : Prop where
  ob : ∃ dx, H h = some (.ins CH dx (handF ca (p : Int)))
  fz : FzL K H ca (iv ns)
theorem HandAt.tx {K : PySem.W.Frag} {CH : Addr} {H : Hp} {h ca : Addr} {ns : List Int} {p : Nat} (A : HandAt K CH H h ca ns p) : SqL K H ca (iv ns) := A.fz.sq
theorem HandAt.put {K : PySem.W.Frag} {CH : Addr} {H : Hp} {h ca dx : Addr} {ns : List Int} {p : Nat} (A : HandAt K CH H h ca ns p) (q : Nat) : HandAt K CH (upd H h (.ins CH dx (handF ca (q : Int)))) h ca ns q :=
  ⟨⟨dx, upd_same⟩, A.fz.stay fun o ho hf => by
    obtain ⟨dx', e⟩ := A.ob
    rw [upd_ne (ne_of ho e (by intro z; cases z; cases hf))]
    exact ho⟩
/-- where the thing itself and what stays are as they were -/
theorem HandAt.stay {K : PySem.W.Frag} {CH : Addr} {H H' : Hp} {h ca : Addr} {ns : List Int} {p : Nat} (A : HandAt K CH H h ca ns p) (e : ∀ x o, H x = some o → x = h ∨ isFz o = true → H' x = some o) : HandAt K CH H' h ca ns p :=
  let ⟨dx, o⟩ := A.ob
  ⟨⟨dx, e _ _ o (.inl rfl)⟩, A.fz.stay fun o ho hf => e _ _ ho (.inr hf)⟩
theorem HandAt.same {K : PySem.W.Frag} {CH : Addr} {H H' : Hp} {h ca : Addr} {ns : List Int} {p : Nat} (A : HandAt K CH H h ca ns p) (e : Same H H') : HandAt K CH H' h ca ns p := A.stay fun x o hx _ => e x o hx
/-! ### promises -/
def spKeepI (CK : Addr) : Sp := fun vs H Q _ => ∃ (k dk : Addr), vs = [.ref k] ∧ H k = some (.ins CK dk []) ∧ ∀ H', H' k = some (.ins CK dk (keepF .non)) → Kp H H' k → Q .non H'
def spHandI (K : PySem.W.Frag) (CH : Addr) : Sp := fun vs H Q _ => ∃ (h ca dx : Addr), vs = [.ref h, .ref ca] ∧ H h = some (.ins CH dx []) ∧ ∀ H', H' h = some (.ins CH dx (handF ca 0)) → Kp H H' h → Q .non H'
def spHasMore (K : PySem.W.Frag) (CH : Addr) : Sp := fun vs H Q _ => ∃ (h ca : Addr) (ns : List Int) (p : Nat), vs = [.ref h] ∧ HandAt K CH H h ca ns p ∧ Q (.bl (decide (p < ns.length))) H
def spTakeNum (K : PySem.W.Frag) (CH : Addr) : Sp := fun vs H Q _ => ∃ (h ca : Addr) (ns : List Int) (p : Nat) (z : Int), vs = [.ref h] ∧ HandAt K CH H h ca ns p ∧ ns[p]? = some z ∧ ∀ H', HandAt K CH H' h ca ns (p + 1) → Kp H H' h → Q (.int z) H'
def spTakeRow (K : PySem.W.Frag) (CH : Addr) : Sp := fun vs H Q _ => ∃ (h ca : Addr) (ns : List Int) (p n : Nat), vs = [.ref h] ∧ HandAt K CH H h ca ns p ∧ ns[p]? = some (n : Int) ∧ p + 1 + n ≤ ns.length ∧
  ∀ (H' : Hp) (la : Addr), H la = none → HandAt K CH H' h ca ns (p + 1 + n) → H' la = some (.lst (iv ((ns.drop (p + 1)).take n))) → Kp H H' h → Q (.ref la) H'
section
variable {P : Program} {w : World} {K : PySem.W.Frag} {mg : Str → Option Value} {base : Heap}
theorem scKeepI : FnScope ["self"] ["self"] (defScope sKeepI) := ⟨rfl, rfl, rfl, by decide +kernel, rfl, by decide +kernel, by decide +kernel⟩
theorem ok_keepI (T : TxK K mg) : FnOk P w K mg base CX0 1 T.fK T.fdK ["self"] (spKeepI T.CK) := by
  refine T.FK.ok scKeepI (fun vs H Q E h => ?_) (fun cdv A outer s H vs Q E hr h => ?_)
  · obtain ⟨k, dk, rfl, _⟩ := h
    rfl
  · obtain ⟨k, dk, rfl, hk, q⟩ := h
    refine ⟨_, pss_one (ps_fld (pv 0) pe_non rfl), ?_⟩
    refine ⟨_, rfl, k, T.CK, dk, [], rfl, hk, T.clK, T.nTa, (by show 0 < 1000; decide), ?_⟩
    exact q _ upd_same fun x o h hx => by rw [upd_ne hx]; exact h
theorem scHandI : FnScope ["self", "calls"] ["self", "calls"] (defScope sHandI) := ⟨rfl, rfl, rfl, by decide +kernel, rfl, by decide +kernel, by decide +kernel⟩
theorem ok_handI (T : TxK K mg) : FnOk P w K mg base CX0 1 T.fH T.fdH ["self", "calls"] (spHandI K T.CH) := by
  refine T.FH.ok scHandI (fun vs H Q E h => ?_) (fun cdv A outer s H vs Q E hr h => ?_)
  · obtain ⟨h, ca, dx, rfl, _⟩ := h
    rfl
  · obtain ⟨h, ca, dx, rfl, hh, q⟩ := h
    refine ⟨_, pss_cons (ps_fld (pv 0) (pv 1) rfl) (pss_one (ps_fld (pv 0) pe_int rfl)), ?_⟩
    refine ⟨_, rfl, _, rfl, h, T.CH, dx, [], rfl, hh, T.clH, T.nCa, (by show 0 < 1000; decide), _, rfl, h, T.CH, dx, _, rfl, upd_same, T.clH, T.nPc, (by show 1 < 1000; decide), ?_⟩
    exact q _ upd_same fun x o h hx => by rw [upd_ne hx, upd_ne hx]; exact h
theorem scHasMore : FnScope ["self"] ["self"] (defScope sHasMore) := ⟨rfl, rfl, rfl, by decide +kernel, rfl, by decide +kernel, by decide +kernel⟩
theorem ok_hasMore (T : TxK K mg) : FnOk P w K mg base CX0 1 T.fM T.fdM ["self"] (spHasMore K T.CH) := by
  refine T.FM.ok scHasMore (fun vs H Q E h => ?_) (fun cdv A outer s H vs Q E hr h => ?_)
  · obtain ⟨h, ca, ns, p, rfl, _⟩ := h
    rfl
  · obtain ⟨h, ca, ns, p, rfl, A1, q⟩ := h
    obtain ⟨dx, hh⟩ := A1.ob
    refine ⟨_, pss_one (ps_ret (pe_cmpR op_lt (pe_fld (pv 0) rfl) (pe_callB call_len_seq (by rfl) T.lenK PySem.boot_len (pa_cons (pe_fld (pv 0) rfl) pa_nil)) (nomark _))), ?_⟩
    refine ⟨_, rfl, h, T.CH, dx, _, _, rfl, hh, T.clH, T.nPc, hand_place _ _, _, rfl, h, T.CH, dx, _, _, rfl, hh, T.clH, T.nCa, hand_calls _ _, ca, _, rfl, .inl A1.tx, _, _, rfl, rfl, ?_⟩
    rw [iv_len]
    rw [show decide (p < ns.length) = decide ((p : Int) < (ns.length : Int)) from by simp only [Int.ofNat_lt]] at q
    exact q
theorem scTakeNum : FnScope ["self", "number"] ["self"] (defScope sTakeNum) := ⟨rfl, rfl, rfl, by decide +kernel, rfl, by decide +kernel, by decide +kernel⟩
theorem ok_takeNum (T : TxK K mg) : FnOk P w K mg base CX0 1 T.fN T.fdN ["self"] (spTakeNum K T.CH) := by
  refine T.FN.ok scTakeNum (fun vs H Q E h => ?_) (fun cdv A outer s H vs Q E hr h => ?_)
  · obtain ⟨h, ca, ns, p, z, rfl, _⟩ := h
    rfl
  · obtain ⟨h, ca, ns, p, z, rfl, A1, hz, q⟩ := h
    obtain ⟨dx, hh⟩ := A1.ob
    refine ⟨_, pss_cons (ps_set (i := 1) scTakeNum.nd rfl (Or.inl rfl) (pe_ix ix_list (pe_fld (pv 0) rfl) (pe_fld (pv 0) rfl) (fun _ _ => rfl))) <|
      pss_cons (ps_fldaug (pv 0) pe_int in_add) <| pss_one (ps_ret (pv 1)), ?_⟩
    refine ⟨_, rfl, h, T.CH, dx, _, _, rfl, hh, T.clH, T.nCa, hand_calls _ _, _, rfl, h, T.CH, dx, _, _, rfl, hh, T.clH, T.nPc, hand_place _ _, ca, _, _, _, rfl, rfl, A1.tx, atI_nat (iv_get hz), ?_⟩
    refine ⟨_, rfl, h, T.CH, dx, _, _, rfl, hh, T.clH, T.nPc, hand_place _ _, _, _, rfl, rfl, dx, _, hh, (by rw [hand_len]; decide), ?_⟩
    rw [hand_put]
    exact ⟨_, rfl, q _ (A1.put (p + 1)) fun x o hx hne => by rw [upd_ne hne]; exact hx⟩
theorem scTakeRow : FnScope ["self", "count", "begin"] ["self"] (defScope sTakeRow) := ⟨rfl, rfl, rfl, by decide +kernel, rfl, by decide +kernel, by decide +kernel⟩
theorem ok_takeRow (T : TxK K mg) : FnOk P w K mg base CX0 3 T.fR T.fdR ["self"] (spTakeRow K T.CH) := by
  refine T.FR.ok scTakeRow (fun vs H Q E h => ?_) (fun cdv A outer s H vs Q E hr h => ?_)
  · obtain ⟨h, ca, ns, p, n, rfl, _⟩ := h
    rfl
  · obtain ⟨h, ca, ns, p, n, rfl, A1, hz, hn, q⟩ := h
    obtain ⟨dx, hh⟩ := A1.ob
    have hr1 : Room 1 _ := hr.mono (by decide)
    refine ⟨_, pss_cons (ps_set (i := 1) scTakeRow.nd rfl (Or.inl rfl) (pe_meth0 (pv 0) T.clH T.mN (ok_takeNum T) hr1 T.bN .nil pass0)) <|
      pss_cons (ps_set (i := 2) scTakeRow.nd rfl (Or.inl rfl) (pe_fld (pv 0) rfl)) <|
      pss_cons (ps_fldaug (pv 0) (pv 1) in_add) <|
      pss_one (ps_ret (pe_slice sl_list (pe_fld (pv 0) rfl) (po_some (pv 2)) (po_some (pe_fld (pv 0) rfl)))), ?_⟩
    refine ⟨_, rfl, h, dx, _, rfl, hh, hand_no _ _ (by decide +kernel) (by decide +kernel), h, ca, ns, p, (n : Int), rfl, A1, hz, fun H1 A2 k1 => ?_⟩
    obtain ⟨dx2, hh2⟩ := A2.ob
    refine ⟨_, rfl, h, T.CH, dx2, _, _, rfl, hh2, T.clH, T.nPc, hand_place _ _, ?_⟩
    refine ⟨_, rfl, h, T.CH, dx2, _, _, rfl, hh2, T.clH, T.nPc, hand_place _ _, _, rfl, _, _, rfl, rfl, dx2, _, hh2, (by rw [hand_len]; decide), ?_⟩
    rw [hand_put, show ((p + 1 : Nat) : Int) + (n : Int) = ((p + 1 + n : Nat) : Int) by omega]
    have A3 : HandAt K T.CH (upd H1 h (.ins T.CH dx2 (handF ca ((p + 1 + n : Nat) : Int)))) h ca ns (p + 1 + n) := A2.put (p + 1 + n)
    refine ⟨_, rfl, h, T.CH, dx2, _, _, rfl, upd_same, T.clH, T.nCa, hand_calls _ _, _, rfl, _, rfl, _, rfl, h, T.CH, dx2, _, _, rfl, upd_same, T.clH, T.nPc, hand_place _ _, _, rfl, ca, _, rfl, A3.tx, fun la hla => ?_⟩
    rw [cut_iv (by omega) hn, show p + 1 + n - (p + 1) = n by omega]
    have hlh : la ≠ h := fun z => by rw [z, upd_same] at hla; cases hla
    have hla1 : H1 la = none := by rw [upd_ne hlh] at hla; exact hla
    have hla0 : H la = none := by
      cases e : H la with
      | none => rfl
      | some o => have := k1 la o e hlh; rw [hla1] at this; cases this
    refine q _ la hla0 (A3.same fun x o hx => by rw [upd_ne (ne_of_none hx hla)]; exact hx) upd_same fun x o hx hne => ?_
    have := k1 x o hx hne
    rw [upd_ne (ne_of_none this hla1), upd_ne hne]
    exact this
end
end Off

end
section
set_option Elab.async false
set_option linter.all false
set_option maxRecDepth 100000
set_option maxHeartbeats 4000000
namespace Off
open PySem PySem.Spec PyProof.Rows L2 XL
open Loft (Bytes Rest Got)

abbrev sReadA : Stmt := top 75
abbrev sMakeA : Stmt := top 76
abbrev sTextA : Stmt := top 77
abbrev sNumbersA : Stmt := top 78
abbrev sAtA : Stmt := top 79
abbrev sSetA : Stmt := top 80
abbrev sWriteA : Stmt := top 81
abbrev sValueA : Stmt := top 82
/-! ### what the text of tables.py has: its defs -/
structure TxA (K : PySem.W.Frag) (mg : Str → Option Value) where
  nOUT : Num mg "OUT_OF_BOUNDS" (-1)
  nNOT : Num mg "NO_TABLE" (-5)
  nNTH : Num mg "NOT_THERE" (-4)
  nNOW : Num mg "NO_WRITING" (-6)
  nLG : Num mg "LARGEST" 1048575
  nMB : Num mg "MOST_BYTES" 20000
  readA : Fd K mg "read_answer" sReadA ["keeper", "text"]
  makeA : Fd K mg "make_answer" sMakeA ["keeper", "places", "heights", "half_breadths"]
  textA : Fd K mg "text_answer" sTextA ["keeper"]
  numbersA : Fd K mg "numbers_answer" sNumbersA ["keeper"]
  atA : Fd K mg "at_answer" sAtA ["keeper", "level", "station"]
  setA : Fd K mg "set_answer" sSetA ["keeper", "level", "station", "half_breadth"]
  writeA : Fd K mg "write_answer" sWriteA ["measure"]
  valueA : Fd K mg "value_answer" sValueA ["text"]
  isMeas : Fd K mg "is_measure" sIsMeasure ["number", "least"]
def spRead (CK CT : Addr) : Sp := fun vs H Q _ => ∃ (k ta : Addr) (st : Option Loft.Table) (S : Addr → Prop) (b : Bytes), vs = [.ref k, .ref ta] ∧ KeepAt CK CT H k st S ∧ H ta = some (.lst (bv b)) ∧ b.length ≤ 30000 ∧
  Ans CK CT H k S (fun x => H x = none) (LoftTableSeed.step st (.read b)) Q
section
variable {P : Program} {w : World} {K : PySem.W.Frag} {mg : Str → Option Value} {base : Heap}
/-- a table that is new is kept -/
theorem keep_new {CK CT : Addr} {H2 : Hp} {k dk t dx pa ha ba : Addr} {S : Addr → Prop} {T : Loft.Table} (W : WfT T) (own : S k) (hk : H2 k = some (.ins CK dk (keepF (.ref t)))) (tb : TabOn CT H2 t dx pa ha ba T.xs T.zs T.ys.flatten) :
    KeepAt CK CT H2 k (some T) (fun x => x = k ∨ x = t ∨ x = pa ∨ x = ha ∨ x = ba) :=
  ⟨.inl rfl, ⟨W, dk, t, dx, pa, ha, ba, hk, tb, .inr (.inl rfl), .inr (.inr (.inl rfl)), .inr (.inr (.inr (.inl rfl))), .inr (.inr (.inr (.inr rfl)))⟩, fun x hx => by
    rcases hx with rfl | rfl | rfl | rfl | rfl
    · exact ⟨_, hk, rfl⟩
    · exact ⟨_, tb.ob, rfl⟩
    · exact ⟨_, tb.p, rfl⟩
    · exact ⟨_, tb.h, rfl⟩
    · exact ⟨_, tb.b, rfl⟩⟩
theorem scReadA : FnScope ["keeper", "text", "fault"] ["keeper", "text"] (defScope sReadA) := ⟨rfl, rfl, rfl, by decide +kernel, rfl, by decide +kernel, by decide +kernel⟩
theorem ok_readA (TR : TxR K mg) (TT : TxT K mg) (TK : TxK K mg) (T : TxA K mg) : FnOk P w K mg base CX0 16 T.readA.f T.readA.fd ["keeper", "text"] (spRead TK.CK TT.CT) := by
  refine T.readA.F.ok scReadA (fun vs H Q E h => ?_) (fun cdv A outer s H vs Q E hr h => ?_)
  · obtain ⟨k, ta, st, S, b, rfl, _⟩ := h
    rfl
  · obtain ⟨k, ta, st, S, b, rfl, KA, hta, hsm, q⟩ := h
    have hr14 : Room 14 _ := hr.mono (by decide)
    refine ⟨_, pss_cons (ps_if (pt_cmpR op_gt (pe_callB call_len_seq (by rfl) TR.len PySem.boot_len (pa_cons (pv 1) pa_nil)) (pn T.nMB) (nomark _)) (pss_one (ps_ret (pe_lst (pa_cons (pn T.nOUT) pa_nil)))) pss_nil) <|
      pss_cons (ps_try (i := 2) (tb := fun E1 => sFld K (tVar 0) (tCall (spTableOf TT.CT TR.CF) [] E1 (tCons (tVar 1) tNil)) "table") (ts := tRet (tLst (tCons (tC (.int 0)) (tCons (tX K (tVar 2) "kind") (tCons (tX K (tVar 2) "place") tNil))))) rfl rfl TR.xF rfl TR.mF scReadA.nd rfl rfl
        (by intro E1 E' pn th; exact pss_one (ps_fld (pv 0) (pe_call (ok_tableOf TR TT) hr14 rfl TR.tableOf.m TR.tableOf.F.kp TR.tableOf.b .nil th.passes (pa_cons (pv 1) pa_nil)) rfl))
        (by intro e; exact pss_one (ps_ret (pe_lst (pa_cons pe_int (pa_cons (pe_x (pv 2) rfl) (pa_cons (pe_x (pv 2) rfl) pa_nil))))))) <|
      pss_one (ps_ret (pe_lst (pa_cons pe_int (pa_cons pe_int (pa_cons pe_int pa_nil))))), ?_⟩
    obtain ⟨dk, v, hk⟩ := KA.ob
    refine ⟨_, rfl, ta, _, rfl, .inl (SqL.of hta), _, _, rfl, rfl, _, rfl, ?_⟩
    rw [bv_len]
    rw [LoftTableSeed.step] at q
    refine ite2 (fun h1 => ?_) (fun h1 => ?_)
    · have h2 : LoftTableSeed.LONGEST < b.length := by have z := of_decide_eq_true h1; show 20000 < b.length; omega
      rw [if_pos h2] at q
      exact ⟨by show 1 ≤ sizeLine; decide, fun la hla => q.same KA (Same.refl H) hla⟩
    · have h2 : ¬ LoftTableSeed.LONGEST < b.length := fun z => h1 (decide_eq_true (by have : 20000 < b.length := z; omega))
      rw [if_neg h2] at q
      refine ⟨_, rfl, ta, b, rfl, hta, hsm, ?_⟩
      cases g : Loft.readText b with
      | error f =>
        rw [g] at q
        intro H1 dx hdx s1
        refine ⟨rfl, dx, rfl, fun e he => ?_⟩
        have hex : (upd H1 e (XV e TR.CF dx)) dx = some (XD dx (fltF (f.1 : Nat) (f.2 : Nat))) := by rw [upd_ne (ne_of_none hdx he)]; exact hdx
        refine ⟨_, rfl, e, TR.CF, dx, _, _, rfl, upd_same, hex, ⟨_, _, TR.xF, by simp⟩, flt_kind _ _, _, rfl, e, TR.CF, dx, _, _, rfl, upd_same, hex, ⟨_, _, TR.xF, by simp⟩, flt_place _ _, by show 3 ≤ sizeLine; decide, fun la hla => ?_⟩
        exact q.same KA (fun x o hx => by rw [upd_ne (ne_of_none (s1 x o hx) he)]; exact s1 x o hx) hla
      | ok TB =>
        rw [g] at q
        intro H1 t dx pa ha ba ht hpa hha hba tb s1
        have hk1 := s1 _ _ hk
        have nt : t ≠ k := fun z => by rw [z, hk] at ht; cases ht
        have np : pa ≠ k := fun z => by rw [z, hk] at hpa; cases hpa
        have nh : ha ≠ k := fun z => by rw [z, hk] at hha; cases hha
        have nb : ba ≠ k := fun z => by rw [z, hk] at hba; cases hba
        refine ⟨_, rfl, k, TK.CK, dk, _, rfl, hk1, TK.clK, TK.nTa, (by rw [keep_len]; decide), ?_⟩
        rw [keep_put]
        refine ⟨by show 3 ≤ sizeLine; decide, fun la hla => ?_⟩
        have up : ∀ x o, H1 x = some o → x ≠ k → (upd (upd H1 k (.ins TK.CK dk (keepF (.ref t)))) la (.lst (iv [0, 0, 0]))) x = some o := fun x o hx hxk => by
          have e : (upd H1 k (.ins TK.CK dk (keepF (.ref t)))) x = some o := by rw [upd_ne hxk]; exact hx
          rw [upd_ne (ne_of_none e hla)]; exact e
        have hlk : la ≠ k := fun z => by rw [z, upd_same] at hla; cases hla
        refine q _ la _ (keep_new (readText_wf g) KA.own (by rw [upd_ne hlk.symm, upd_same]) ⟨up _ _ tb.ob nt, up _ _ tb.p np, up _ _ tb.h nh, up _ _ tb.b nb, tb.ph, tb.pb, tb.hb⟩) (fun x hx => ?_) (fun x o hx hS => up x o (s1 x o hx) fun z => hS (by rw [z]; exact KA.own)) ?_ upd_same
        · rcases hx with rfl | rfl | rfl | rfl | rfl
          · exact .inl KA.own
          · exact .inr ht
          · exact .inr hpa
          · exact .inr hha
          · exact .inr hba
        · exact s1.free (by rw [upd_ne hlk] at hla; exact hla)
end
end Off

end
section
set_option Elab.async false
set_option linter.all false
set_option maxRecDepth 100000
set_option maxHeartbeats 4000000
namespace Off
open PySem PySem.Spec PyProof.Rows L2 XL
open Loft (Bytes Rest Got)

def spMake (CK CT : Addr) : Sp := fun vs H Q _ => ∃ (k pa ha ba : Addr) (st : Option Loft.Table) (S : Addr → Prop) (xs zs ys : List Int), vs = [.ref k, .ref pa, .ref ha, .ref ba] ∧ KeepAt CK CT H k st S ∧
  H pa = some (.lst (iv xs)) ∧ H ha = some (.lst (iv zs)) ∧ H ba = some (.lst (iv ys)) ∧ pa ≠ ha ∧ pa ≠ ba ∧ ha ≠ ba ∧ xs.length ≤ 30000 ∧ zs.length ≤ 30000 ∧ ys.length ≤ 30000 ∧
  Ans CK CT H k S (fun x => H x = none ∨ x = pa ∨ x = ha ∨ x = ba) (LoftTableSeed.step st (.make xs zs ys)) Q
def spOf (CK CT : Addr) (c : LoftTableSeed.Call) : Sp := fun vs H Q _ => ∃ (k : Addr) (st : Option Loft.Table) (S : Addr → Prop), vs = [.ref k] ∧ KeepAt CK CT H k st S ∧ Ans CK CT H k S (fun x => H x = none) (LoftTableSeed.step st c) Q
theorem cat_iv (a b : List Int) : iv a ++ iv b = iv (a ++ b) := by unfold iv; rw [List.map_append]
theorem out_bv (b : Bytes) : iv (LoftTableSeed.textOut b) = bv b := by
  unfold iv LoftTableSeed.textOut bv
  rw [List.map_map]
  rfl
section
variable {P : Program} {w : World} {K : PySem.W.Frag} {mg : Str → Option Value} {base : Heap}
theorem scMakeA : FnScope ["keeper", "places", "heights", "half_breadths", "fault"] ["keeper", "places", "heights", "half_breadths"] (defScope sMakeA) := ⟨rfl, rfl, rfl, by decide +kernel, rfl, by decide +kernel, by decide +kernel⟩
theorem ok_makeA (TM : TxM K mg) (TT : TxT K mg) (TK : TxK K mg) (T : TxA K mg) : FnOk P w K mg base CX0 9 T.makeA.f T.makeA.fd ["keeper", "places", "heights", "half_breadths"] (spMake TK.CK TT.CT) := by
  refine T.makeA.F.ok scMakeA (fun vs H Q E h => ?_) (fun cdv A outer s H vs Q E hr h => ?_)
  · obtain ⟨k, pa, ha, ba, st, S, xs, zs, ys, rfl, _⟩ := h
    rfl
  · obtain ⟨k, pa, ha, ba, st, S, xs, zs, ys, rfl, KA, hp, hh, hb, n1, n2, n3, z1, z2, z3, q⟩ := h
    have hr7 : Room 7 _ := hr.mono (by decide)
    have hr2 : Room 2 _ := hr.mono (by decide)
    refine ⟨_, pss_cons (ps_set (i := 4) scMakeA.nd rfl (Or.inl rfl) (pe_call (ok_listsF TM) hr7 rfl TM.listsF.m TM.listsF.F.kp TM.listsF.b .nil pass0 (pa_cons (pv 1) (pa_cons (pv 2) (pa_cons (pv 3) pa_nil))))) <|
      pss_cons (ps_if (pt_cmpR (op_eqD hr.units) (pv 4) (pe_lst (pa_cons pe_int (pa_cons pe_int pa_nil))) (nomark _))
        (pss_one (ps_fld (pv 0) (pe_make TT.mkT (ok_tabI TT) hr2 rfl TT.mT TT.bT .nil pass0 (pa_cons (pv 1) (pa_cons (pv 2) (pa_cons (pv 3) pa_nil)))) rfl)) pss_nil) <|
      pss_one (ps_ret (pe_op op_cat (pe_lst (pa_cons pe_int pa_nil)) (pv 4))), ?_⟩
    obtain ⟨dk, v, hk⟩ := KA.ob
    refine ⟨_, rfl, _, rfl, _, rfl, pa, ha, ba, xs, zs, ys, rfl, hp, hh, hb, z1, z2, z3, fun H1 la hla hl1 s1 => ?_⟩
    obtain ⟨u, v', e⟩ := listsM_two xs zs ys
    rw [e] at hl1
    refine ⟨_, rfl, by show 2 ≤ sizeLine; decide, fun lb hlb => ?_⟩
    have hla2 : (upd H1 lb (.lst [.int 0, .int 0])) la = some (.lst (iv [u, v'])) := by rw [upd_ne (ne_of_none hl1 hlb)]; exact hl1
    have s2 : Same H (upd H1 lb (.lst [.int 0, .int 0])) := fun x o hx => by
      have := s1 x o hx
      rw [upd_ne (ne_of_none this hlb)]
      exact this
    refine ⟨d2 u v', d2 0 0, dp2 hla2, dp2 upd_same, d2_shaped _ _, d2_shaped _ _, _, rfl, ?_⟩
    rw [d2_eqv]
    rw [LoftTableSeed.step] at q
    rcases judge_eq xs zs ys with ⟨fk, fp, j1, j2, j3⟩ | ⟨j1, j2, b1, b2, b3, b4, b5⟩
    · rw [j1] at q
      rw [e] at j2
      have c : ¬ ([u, v'] : List Int) = [0, 0] := fun z => by
        rw [z] at j2
        injection j2 with a _
        omega
      rw [decide_eq_false c]
      refine ⟨by show 1 ≤ sizeLine; decide, fun lc hlc => ⟨_, rfl, lc, la, _, _, rfl, rfl, upd_same, by rw [upd_ne (ne_of_none hla2 hlc)]; exact hla2, by show 1 + 2 ≤ sizeLine; decide, fun ld hld => ?_⟩⟩
      rw [j2]
      exact q.same KA (fun x o hx => by rw [upd_ne (ne_of_none (s2 x o hx) hlc)]; exact s2 x o hx) hld
    · rw [j1] at q
      have j3 := j2
      rw [e] at j2
      rw [decide_eq_true j2]
      refine iteT ⟨_, rfl, _, rfl, _, rfl, fun t dxt htn hdtn hdt => ⟨t, dxt, pa, ha, ba, rfl, upd_same, fun H3 ht3 k3 => ⟨rfl, ?_⟩⟩⟩
      have s3 : ∀ x o, (upd H1 lb (.lst [.int 0, .int 0])) x = some o → H3 x = some o := fun x o hx => k3 x o (by rw [upd_ne (ne_of_none hx htn), upd_ne (ne_of_none hx hdtn)]; exact hx) (ne_of_none hx htn)
      have s4 : Same H H3 := s2.trans s3
      have hk3 := s4 _ _ hk
      have tn : H t = none := s2.free htn
      have nt : t ≠ k := fun z => by rw [z, hk] at tn; cases tn
      have np : pa ≠ k := ne_of hp hk (by intro z; cases z)
      have nh : ha ≠ k := ne_of hh hk (by intro z; cases z)
      have nb : ba ≠ k := ne_of hb hk (by intro z; cases z)
      have nl : la ≠ k := fun z => by rw [z, hk] at hla; cases hla
      refine ⟨_, rfl, k, TK.CK, dk, _, rfl, hk3, TK.clK, TK.nTa, (by rw [keep_len]; decide), ?_⟩
      rw [keep_put]
      have hla4 : (upd H3 k (.ins TK.CK dk (keepF (.ref t)))) la = some (.lst (iv [u, v'])) := by rw [upd_ne nl]; exact s3 _ _ hla2
      refine ⟨by show 1 ≤ sizeLine; decide, fun lc hlc => ⟨_, rfl, lc, la, _, _, rfl, rfl, upd_same, by rw [upd_ne (ne_of_none hla4 hlc)]; exact hla4, by show 1 + 2 ≤ sizeLine; decide, fun ld hld => ?_⟩⟩
      rw [j2]
      have nlk : lc ≠ k := fun z => by rw [z, upd_same] at hlc; cases hlc
      have ndc : ld ≠ lc := fun z => by rw [z, upd_same] at hld; cases hld
      have hld2 : (upd H3 k (.ins TK.CK dk (keepF (.ref t)))) ld = none := by rw [upd_ne ndc] at hld; exact hld
      have ndk : ld ≠ k := fun z => by rw [z, upd_same] at hld2; cases hld2
      have hld3 : H3 ld = none := by rw [upd_ne ndk] at hld2; exact hld2
      have up : ∀ x o, H3 x = some o → x ≠ k → (upd (upd (upd H3 k (.ins TK.CK dk (keepF (.ref t)))) lc (.lst [V.int 0])) ld (.lst ([V.int 0] ++ iv [0, 0]))) x = some o := fun x o hx hxk => by
        have e1 : (upd H3 k (.ins TK.CK dk (keepF (.ref t)))) x = some o := by rw [upd_ne hxk]; exact hx
        have e2 : (upd (upd H3 k (.ins TK.CK dk (keepF (.ref t)))) lc (.lst [V.int 0])) x = some o := by rw [upd_ne (ne_of_none e1 hlc)]; exact e1
        rw [upd_ne (ne_of_none e2 hld)]; exact e2
      obtain ⟨W, fl⟩ := made_wf j3 b1 b2 b3 b4 b5
      refine q _ ld _ (keep_new W KA.own (by rw [upd_ne ndk.symm, upd_ne nlk.symm, upd_same]) ⟨up _ _ ht3 nt, up _ _ (s4 _ _ hp) np, up _ _ (s4 _ _ hh) nh, by rw [fl]; exact up _ _ (s4 _ _ hb) nb, n1, n2, n3⟩) (fun x hx => ?_) (fun x o hx hS => up x o (s4 x o hx) fun z => hS (by rw [z]; exact KA.own)) (s4.free hld3) upd_same
      rcases hx with rfl | rfl | rfl | rfl | rfl
      · exact .inl KA.own
      · exact .inr (.inl tn)
      · exact .inr (.inr (.inl rfl))
      · exact .inr (.inr (.inr (.inl rfl)))
      · exact .inr (.inr (.inr (.inr rfl)))
theorem scTextA : FnScope ["keeper"] ["keeper"] (defScope sTextA) := ⟨rfl, rfl, rfl, by decide +kernel, rfl, by decide +kernel, by decide +kernel⟩
theorem ok_textA (TW : TxW K mg) (TT : TxT K mg) (TK : TxK K mg) (T : TxA K mg) : FnOk P w K mg base CX0 9 T.textA.f T.textA.fd ["keeper"] (spOf TK.CK TT.CT .text) := by
  refine T.textA.F.ok scTextA (fun vs H Q E h => ?_) (fun cdv A outer s H vs Q E hr h => ?_)
  · obtain ⟨k, st, S, rfl, _⟩ := h
    rfl
  · obtain ⟨k, st, S, rfl, KA, q⟩ := h
    have hr7 : Room 7 _ := hr.mono (by decide)
    refine ⟨_, pss_cons (ps_if (pt_cmpR op_isN (pe_fld (pv 0) rfl) pe_non (nomark _)) (pss_one (ps_ret (pe_lst (pa_cons (pn T.nNOT) pa_nil)))) pss_nil) <|
      pss_one (ps_ret (pe_op op_cat (pe_lst (pa_cons pe_int pa_nil)) (pe_call (ok_textOf TW TT) hr7 rfl TW.textOf.m TW.textOf.F.kp TW.textOf.b .nil pass0 (pa_cons (pe_fld (pv 0) rfl) pa_nil)))), ?_⟩
    have vv := KA.val
    cases st with
    | none =>
      obtain ⟨dk, hk⟩ := vv
      refine ⟨_, rfl, k, TK.CK, dk, _, _, rfl, hk, TK.clK, TK.nTa, keep_table _, rfl, _, rfl, ?_⟩
      refine iteT ⟨by show 1 ≤ sizeLine; decide, fun la hla => q.same KA (Same.refl H) hla⟩
    | some TB =>
      obtain ⟨W, dk, t, dx, pa, ha, ba, hk, tb, o1, o2, o3, o4⟩ := vv
      refine ⟨_, rfl, k, TK.CK, dk, _, _, rfl, hk, TK.clK, TK.nTa, keep_table _, rfl, _, rfl, ?_⟩
      rw [decide_eq_false (show ¬ (V.ref t = V.non) from fun z => nomatch z)]
      refine ⟨by show 1 ≤ sizeLine; decide, fun lc hlc => ?_⟩
      have s1 : Same H (upd H lc (.lst [.int 0])) := fun x o hx => by rw [upd_ne (ne_of_none hx hlc)]; exact hx
      refine ⟨_, rfl, k, TK.CK, dk, _, _, rfl, s1 _ _ hk, TK.clK, TK.nTa, keep_table _, t, TB, rfl, TabOn.at ⟨s1 _ _ tb.ob, s1 _ _ tb.p, s1 _ _ tb.h, s1 _ _ tb.b, tb.ph, tb.pb, tb.hb⟩, W, fun H2 la hla hl2 s2 hlen => ?_⟩
      refine ⟨lc, la, _, _, rfl, rfl, s2 _ _ upd_same, hl2, by rw [bv_len]; exact Nat.le_trans (Nat.add_le_add_left hlen _) (by decide), fun ld hld => ?_⟩
      have e : [V.int 0] ++ bv TB.text = iv (LoftTableSeed.tells (LoftTableSeed.textOut TB.text)) := by rw [← out_bv]; rfl
      rw [e]
      exact q.same KA (s1.trans s2) hld
theorem scNumbersA : FnScope ["keeper", "table", "counts"] ["keeper"] (defScope sNumbersA) := ⟨rfl, rfl, rfl, by decide +kernel, rfl, by decide +kernel, by decide +kernel⟩
theorem ok_numbersA (TT : TxT K mg) (TK : TxK K mg) (T : TxA K mg) : FnOk P w K mg base CX0 1 T.numbersA.f T.numbersA.fd ["keeper"] (spOf TK.CK TT.CT .numbers) := by
  refine T.numbersA.F.ok scNumbersA (fun vs H Q E h => ?_) (fun cdv A outer s H vs Q E hr h => ?_)
  · obtain ⟨k, st, S, rfl, _⟩ := h
    rfl
  · obtain ⟨k, st, S, rfl, KA, q⟩ := h
    refine ⟨_, pss_cons (ps_set (i := 1) scNumbersA.nd rfl (Or.inl rfl) (pe_fld (pv 0) rfl)) <|
      pss_cons (ps_if (pt_cmpR op_isN (pv 1) pe_non (nomark _)) (pss_one (ps_ret (pe_lst (pa_cons (pn T.nNOT) pa_nil)))) pss_nil) <|
      pss_cons (ps_set (i := 2) scNumbersA.nd rfl (Or.inl rfl) (pe_lst (pa_cons (pe_callB call_len_seq (by rfl) TK.lenK PySem.boot_len (pa_cons (pe_fld (pv 1) rfl) pa_nil)) (pa_cons (pe_callB call_len_seq (by rfl) TK.lenK PySem.boot_len (pa_cons (pe_fld (pv 1) rfl) pa_nil)) pa_nil)))) <|
      pss_one (ps_ret (pe_op op_cat (pe_op op_cat (pe_op op_cat (pe_op op_cat (pe_lst (pa_cons pe_int pa_nil)) (pv 2)) (pe_fld (pv 1) rfl)) (pe_fld (pv 1) rfl)) (pe_fld (pv 1) rfl))), ?_⟩
    have vv := KA.val
    cases st with
    | none =>
      obtain ⟨dk, hk⟩ := vv
      refine ⟨_, rfl, k, TK.CK, dk, _, _, rfl, hk, TK.clK, TK.nTa, keep_table _, _, rfl, rfl, _, rfl, ?_⟩
      refine iteT ⟨by show 1 ≤ sizeLine; decide, fun la hla => q.same KA (Same.refl H) hla⟩
    | some TB =>
      obtain ⟨W, dk, t, dx, pa, ha, ba, hk, tb, o1, o2, o3, o4⟩ := vv
      have hx24 := W.x24
      have hz16 := W.z16
      have zl : (100000 : Nat) ≤ sizeLine := by decide
      refine ⟨_, rfl, k, TK.CK, dk, _, _, rfl, hk, TK.clK, TK.nTa, keep_table _, _, rfl, rfl, _, rfl, ?_⟩
      rw [decide_eq_false (show ¬ (V.ref t = V.non) from fun z => nomatch z)]
      refine ⟨_, rfl, t, TT.CT, dx, _, _, rfl, tb.ob, TT.clT, TT.nPl, tab_places _ _ _, pa, _, rfl, .inl (SqL.of tb.p), _, rfl, t, TT.CT, dx, _, _, rfl, tb.ob, TT.clT, TT.nHe, tab_heights _ _ _, ha, _, rfl, .inl (SqL.of tb.h), by show 2 ≤ sizeLine; decide, fun lc hlc => ?_⟩
      rw [iv_len, iv_len]
      have up : ∀ {H' : Hp} {a : Addr} {o : HO}, H' a = none → Same H H' → Same H (upd H' a o) := fun {H' a o} ha s x ob hx => by
        have := s x ob hx
        rw [upd_ne (ne_of_none this ha)]
        exact this
      have hl : TB.ys.flatten.length ≤ 24 * 16 := by
        have : ∀ (l : List (List Int)), (∀ r ∈ l, r.length = TB.xs.length) → l.flatten.length ≤ 24 * l.length := by
          intro l
          induction l with
          | nil => intro _; simp
          | cons r l ih =>
            intro h
            have h1 := ih fun r' hr' => h r' (List.mem_cons_of_mem _ hr')
            have h2 := h r (List.mem_cons_self)
            rw [List.flatten_cons, List.length_append, List.length_cons]
            omega
        have h1 := this TB.ys W.rows
        have h2 : TB.ys.length = TB.zs.length := W.ylen
        omega
      -- one more list on the left
      have go : ∀ {H' : Hp} {a b : Addr} {l m : List Int} {R : VK}, H' a = some (.lst (iv l)) → H' b = some (.lst (iv m)) → l.length + m.length ≤ 100000 → Same H H' → (∀ (p : Addr) (H2 : Hp), H' p = none → Same H H2 → H2 p = some (.lst (iv (l ++ m))) → H2 = upd H' p (.lst (iv (l ++ m))) → R (.ref p) H2) → rCat (.ref a) (.ref b) H' R := fun {H' a b l m R} h1 h2 h3 s g =>
        ⟨a, b, _, _, rfl, rfl, h1, h2, by rw [iv_len, iv_len]; omega, fun p hp => by rw [cat_iv]; exact g p _ hp (up hp s) upd_same rfl⟩
      have s1 := up (o := .lst (iv [(TB.xs.length : Int), (TB.zs.length : Int)])) hlc (Same.refl H)
      refine ⟨by show 1 ≤ sizeLine; decide, fun l0 hl0 => ?_⟩
      have s2 := up (o := .lst (iv [0])) hl0 s1
      have n0 : lc ≠ l0 := ne_of_none (o := .lst (iv [(TB.xs.length : Int), (TB.zs.length : Int)])) upd_same hl0
      refine ⟨_, rfl, go (l := [0]) (m := [(TB.xs.length : Int), (TB.zs.length : Int)]) upd_same (by rw [upd_ne n0]; exact upd_same) (by show 1 + 2 ≤ 100000; decide) s2 fun l1 H1 f1 s3 g1 _ => ?_⟩
      refine ⟨_, rfl, t, TT.CT, dx, _, _, rfl, s3 _ _ tb.ob, TT.clT, TT.nPl, tab_places _ _ _, go g1 (s3 _ _ tb.p) (by simp; omega) s3 fun l2 H2 f2 s4 g2 _ => ?_⟩
      refine ⟨_, rfl, t, TT.CT, dx, _, _, rfl, s4 _ _ tb.ob, TT.clT, TT.nHe, tab_heights _ _ _, go g2 (s4 _ _ tb.h) (by simp; omega) s4 fun l3 H3 f3 s5 g3 _ => ?_⟩
      refine ⟨_, rfl, t, TT.CT, dx, _, _, rfl, s5 _ _ tb.ob, TT.clT, TT.nHb, tab_breadths _ _ _, go g3 (s5 _ _ tb.b) (by simp only [List.length_append, List.length_cons, List.length_nil]; omega) s5 fun l4 H4 f4 s6 g4 e4 => ?_⟩
      rw [e4]
      have e : [0] ++ [(TB.xs.length : Int), (TB.zs.length : Int)] ++ TB.xs ++ TB.zs ++ TB.ys.flatten = LoftTableSeed.tells ([(TB.xs.length : Int), (TB.zs.length : Int)] ++ (TB.xs ++ (TB.zs ++ TB.ys.flatten))) := by
        unfold LoftTableSeed.tells
        simp only [List.append_assoc, List.cons_append, List.nil_append]
      rw [e]
      exact q.same KA s5 f4
end
end Off

end
section
set_option Elab.async false
set_option linter.all false
set_option maxRecDepth 100000
set_option maxHeartbeats 4000000
namespace Off
open PySem PySem.Spec PyProof.Rows L2 XL
open Loft (Bytes Rest Got)

/-! ### calls by places -/
def RowAt (ns : List Int) (p n : Nat) : Prop := ns[p]? = some (n : Int) ∧ p + 1 + n ≤ ns.length
def rowAt (ns : List Int) (p n : Nat) : List Int := (ns.drop (p + 1)).take n
inductive CallAt (ns : List Int) (p : Nat) : List (List Int) → Nat → Prop
  | read {n : Nat} : ns[p]? = some 1 → RowAt ns (p + 1) n → CallAt ns p [[1], rowAt ns (p + 1) n] (p + 1 + 1 + n)
  | make {n m o : Nat} : ns[p]? = some 2 → RowAt ns (p + 1) n → RowAt ns (p + 1 + 1 + n) m → RowAt ns (p + 1 + 1 + n + 1 + m) o →
      CallAt ns p [[2], rowAt ns (p + 1) n, rowAt ns (p + 1 + 1 + n) m, rowAt ns (p + 1 + 1 + n + 1 + m) o] (p + 1 + 1 + n + 1 + m + 1 + o)
  | text : ns[p]? = some 3 → CallAt ns p [[3]] (p + 1)
  | numbers : ns[p]? = some 4 → CallAt ns p [[4]] (p + 1)
  | at_ {j i : Int} : ns[p]? = some 5 → ns[p + 1]? = some j → ns[p + 2]? = some i → CallAt ns p [[5, j, i]] (p + 3)
  | set {j i v : Int} : ns[p]? = some 6 → ns[p + 1]? = some j → ns[p + 2]? = some i → ns[p + 3]? = some v → CallAt ns p [[6, j, i, v]] (p + 4)
  | write {z : Int} : ns[p]? = some 7 → ns[p + 1]? = some z → CallAt ns p [[7, z]] (p + 2)
  | value {n : Nat} : ns[p]? = some 8 → RowAt ns (p + 1) n → CallAt ns p [[8], rowAt ns (p + 1) n] (p + 1 + 1 + n)
theorem drop_cons {ns : List Int} {p : Nat} {z : Int} {r : List Int} (h : ns.drop p = z :: r) : ns[p]? = some z ∧ r = ns.drop (p + 1) := by
  have h1 : ns[p]? = some z := by
    have := congrArg List.head? h
    rw [List.head?_drop] at this
    exact this
  refine ⟨h1, ?_⟩
  have := congrArg List.tail h
  rw [List.tail_drop] at this
  exact this.symm
theorem row_at {ns : List Int} {p : Nat} {x t : List Int} (h : PyFlat.row (ns.drop p) = some (x, t)) : ∃ n : Nat, RowAt ns p n ∧ x = rowAt ns p n ∧ t = ns.drop (p + 1 + n) := by
  cases e : ns.drop p with
  | nil => rw [e] at h; cases h
  | cons z r =>
    obtain ⟨h1, h2⟩ := drop_cons e
    rw [e] at h
    rw [PyFlat.row] at h
    by_cases c : 0 ≤ z ∧ z.toNat ≤ r.length
    · rw [if_pos c] at h
      obtain ⟨c1, c2⟩ := c
      injection h with h
      injection h with h3 h4
      have hp : p < ns.length := (List.getElem?_eq_some_iff.mp h1).1
      refine ⟨z.toNat, ⟨by rw [h1]; congr 1; omega, ?_⟩, ?_, ?_⟩
      · rw [h2, List.length_drop] at c2; omega
      · rw [← h3, h2]; rfl
      · rw [← h4, h2, List.drop_drop]
    · rw [if_neg c] at h; cases h
theorem rows1 {ns : List Int} {p : Nat} {xs : List (List Int)} {t : List Int} (h : PyFlat.rows 1 (ns.drop p) = some (xs, t)) : ∃ n : Nat, RowAt ns p n ∧ xs = [rowAt ns p n] ∧ t = ns.drop (p + 1 + n) := by
  unfold PyFlat.rows at h
  split at h
  · cases h
  · rename_i x s e
    obtain ⟨n, h1, h2, h3⟩ := row_at e
    unfold PyFlat.rows at h
    injection h with h
    injection h with h4 h5
    exact ⟨n, h1, by rw [← h4, h2], by rw [← h5, h3]⟩
theorem rowsS {k : Nat} {ns : List Int} {p : Nat} {xs : List (List Int)} {t : List Int} (h : PyFlat.rows (k + 1) (ns.drop p) = some (xs, t)) : ∃ (n : Nat) (ys : List (List Int)), RowAt ns p n ∧ xs = rowAt ns p n :: ys ∧ PyFlat.rows k (ns.drop (p + 1 + n)) = some (ys, t) := by
  rw [PyFlat.rows] at h
  split at h
  · cases h
  · rename_i x s e
    obtain ⟨n, h1, h2, h3⟩ := row_at e
    rw [h3] at h
    split at h
    · cases h
    · rename_i ys t' e'
      injection h with h
      injection h with h4 h5
      exact ⟨n, ys, h1, by rw [← h4, h2], by rw [← h5]; exact e'⟩
theorem rows0 {ns : List Int} {xs : List (List Int)} {t : List Int} (h : PyFlat.rows 0 ns = some (xs, t)) : xs = [] ∧ t = ns := by
  rw [PyFlat.rows] at h
  injection h with h
  injection h with h1 h2
  exact ⟨h1.symm, h2.symm⟩
theorem take_at {ns : List Int} {p n : Nat} (h : ¬ (ns.drop p).length < n + 1) : ∃ z, ns[p]? = some z ∧ (ns.drop p).take (n + 1) = z :: (ns.drop (p + 1)).take n ∧ ¬ (ns.drop (p + 1)).length < n := by
  cases e : ns.drop p with
  | nil => rw [e] at h; exact absurd (Nat.succ_pos n) h
  | cons z r =>
    obtain ⟨h1, h2⟩ := drop_cons e
    refine ⟨z, h1, by rw [List.take_succ_cons, h2], ?_⟩
    rw [e, h2, List.length_cons] at h
    omega
theorem call_at {ns : List Int} {p : Nat} {c : List (List Int)} {t : List Int} (h : PyFlat.call PyWqlfta.shape (ns.drop p) = some (c, t)) : ∃ p', t = ns.drop p' ∧ CallAt ns p c p' := by
  cases e : ns.drop p with
  | nil => rw [e] at h; cases h
  | cons z r =>
    obtain ⟨h1, h2⟩ := drop_cons e
    rw [e] at h
    subst h2
    rw [PyFlat.call] at h
    split at h
    · cases h
    · rename_i n k hs
      split at h
      · cases h
      · rename_i hn
        split at h
        · cases h
        · rename_i xs t' hr
          injection h with h
          injection h with h3 h4
          subst h3 h4
          unfold PyWqlfta.shape at hs
          rw [List.drop_drop] at hr
          split at hs
          · rename_i q; subst q; injection hs with hs; injection hs with a b; subst a b
            obtain ⟨n, r1, rfl, rfl⟩ := rows1 hr
            exact ⟨_, rfl, .read h1 r1⟩
          split at hs
          · rename_i q; subst q; injection hs with hs; injection hs with a b; subst a b
            obtain ⟨n, ys1, r1, rfl, hr2⟩ := rowsS hr
            obtain ⟨m, ys2, r2, rfl, hr3⟩ := rowsS hr2
            obtain ⟨o, r3, rfl, rfl⟩ := rows1 hr3
            exact ⟨_, rfl, .make h1 r1 r2 r3⟩
          split at hs
          · rename_i q; subst q; injection hs with hs; injection hs with a b; subst a b
            obtain ⟨rfl, rfl⟩ := rows0 hr
            exact ⟨_, rfl, .text h1⟩
          split at hs
          · rename_i q; subst q; injection hs with hs; injection hs with a b; subst a b
            obtain ⟨rfl, rfl⟩ := rows0 hr
            exact ⟨_, rfl, .numbers h1⟩
          split at hs
          · rename_i q; subst q; injection hs with hs; injection hs with a b; subst a b
            obtain ⟨rfl, rfl⟩ := rows0 hr
            obtain ⟨z1, a1, a2, a3⟩ := take_at hn
            obtain ⟨z2, b1, b2, b3⟩ := take_at a3
            rw [a2, b2]
            exact ⟨_, rfl, .at_ h1 a1 b1⟩
          split at hs
          · rename_i q; subst q; injection hs with hs; injection hs with a b; subst a b
            obtain ⟨rfl, rfl⟩ := rows0 hr
            obtain ⟨z1, a1, a2, a3⟩ := take_at hn
            obtain ⟨z2, b1, b2, b3⟩ := take_at a3
            obtain ⟨z3, c1, c2, c3⟩ := take_at b3
            rw [a2, b2, c2]
            exact ⟨_, rfl, .set h1 a1 b1 c1⟩
          split at hs
          · rename_i q; subst q; injection hs with hs; injection hs with a b; subst a b
            obtain ⟨rfl, rfl⟩ := rows0 hr
            obtain ⟨z1, a1, a2, a3⟩ := take_at hn
            rw [a2]
            exact ⟨_, rfl, .write h1 a1⟩
          split at hs
          · rename_i q; subst q; injection hs with hs; injection hs with a b; subst a b
            obtain ⟨n, r1, rfl, rfl⟩ := rows1 hr
            exact ⟨_, rfl, .value h1 r1⟩
          · cases hs
theorem whole_id (c : List (List Int)) : PyWqlfta.whole c = c := by
  unfold PyWqlfta.whole
  split <;> rfl
theorem calls_id (l : List Int) : PyWqlfta.calls l = PyFlat.calls PyWqlfta.shape l.length l := by
  unfold PyWqlfta.calls
  cases PyFlat.calls PyWqlfta.shape l.length l with
  | none => rfl
  | some cs =>
    show some (cs.map PyWqlfta.whole) = some cs
    rw [show PyWqlfta.whole = id from funext whole_id, List.map_id]
/-! ### how long an answer may be -/
theorem writing_len {z : Int} (h : z.natAbs ≤ 1048575) : (Loft.writing z).length ≤ 16 := by
  have z1 := dec_len (z.natAbs / 192) (by omega)
  have z2 := dec_len (z.natAbs / 16 % 12) (by omega)
  have z3 := dec_len (z.natAbs / 2 % 8) (by omega)
  have z4 : (if z < 0 then ([45] : Loft.Bytes) else []).length ≤ 1 := by split <;> decide
  have z5 : (if z.natAbs % 2 = 1 then ([43] : Loft.Bytes) else []).length ≤ 1 := by split <;> decide
  have e9 : Loft.writing z = ((((((if z < 0 then [45] else []) ++ Loft.decimal (z.natAbs / 192)) ++ [45]) ++ Loft.decimal (z.natAbs / 16 % 12)) ++ [45]) ++ Loft.decimal (z.natAbs / 2 % 8)) ++ (if z.natAbs % 2 = 1 then [43] else []) := by
    unfold Loft.writing Loft.FOOT Loft.INCH
    simp only [List.append_assoc, List.cons_append, List.nil_append]
  rw [e9]
  simp only [List.length_append, List.length_cons, List.length_nil]
  omega
theorem row_len : ∀ {l : List Int}, Meas l → (Loft.row l).length ≤ 17 * l.length := by
  intro l h
  induction l with
  | nil => exact Nat.le_refl _
  | cons z r ih =>
    have h1 := ih fun y hy => h y (List.mem_cons_of_mem _ hy)
    have h2 := writing_len (h z List.mem_cons_self)
    have e : Loft.row (z :: r) = (32 :: Loft.writing z) ++ Loft.row r := by
      unfold Loft.row
      rw [List.flatMap_cons]
    rw [e, List.length_append, List.length_cons, List.length_cons]
    omega
theorem linesB_len {T : Loft.Table} (W : WfT T) : ∀ i, i ≤ T.zs.length → (linesB T i).length ≤ 500 * i
  | 0, _ => by
    unfold linesB
    rw [List.take_zero]
    exact Nat.le_refl _
  | i + 1, hi => by
    have len : T.ys.length = T.zs.length := W.ylen
    obtain ⟨z, hz⟩ : ∃ z, T.zs[i]? = some z := ⟨T.zs[i], List.getElem?_eq_getElem (by omega)⟩
    obtain ⟨r, hr⟩ : ∃ r, T.ys[i]? = some r := ⟨T.ys[i], List.getElem?_eq_getElem (by omega)⟩
    have h1 := linesB_len W i (by omega)
    have h2 := writing_len (W.mz z (List.mem_of_getElem? hz))
    have h3 := row_len (W.my r (List.mem_of_getElem? hr))
    have h4 := W.rows r (List.mem_of_getElem? hr)
    have h5 := W.x24
    have kl : (Loft.ascii "level ").length = 6 := by decide +kernel
    rw [linesB_succ hz hr, List.length_append]
    unfold lineB
    simp only [List.length_append, List.length_cons, List.length_nil, kl]
    omega
theorem text_len {T : Loft.Table} (W : WfT T) : T.text.length ≤ 9000 := by
  rw [text_eq T W.ylen, List.length_append]
  have h1 := linesB_len W T.zs.length (Nat.le_refl _)
  have h2 := row_len W.mx
  have h3 := W.x24
  have h4 := W.z16
  have kl : (Loft.ascii "stations").length = 8 := by decide +kernel
  unfold headB
  simp only [List.length_append, List.length_cons, List.length_nil, kl]
  omega
theorem flat_len {T : Loft.Table} (W : WfT T) : T.ys.flatten.length ≤ 24 * 16 := by
  have : ∀ (l : List (List Int)), (∀ r ∈ l, r.length = T.xs.length) → l.flatten.length = T.xs.length * l.length := by
    intro l
    induction l with
    | nil => intro _; simp
    | cons r l ih =>
      intro h
      rw [List.flatten_cons, List.length_append, List.length_cons, ih fun r' hr' => h r' (List.mem_cons_of_mem _ hr'), h r List.mem_cons_self, Nat.mul_succ, Nat.add_comm]
  rw [this T.ys W.rows, W.ylen]
  exact Nat.mul_le_mul W.x24 W.z16
theorem meas_iff (z : Int) : Loft.isMeasure z = true ↔ z.natAbs ≤ 1048575 := by
  unfold Loft.isMeasure Loft.MOST
  rw [decide_eq_true_eq]
theorem step_len {st : Option Loft.Table} (W : ∀ T, st = some T → WfT T) (c : List (List Int)) : (TableNeutral.step st c).2.length ≤ 10000 := by
  unfold TableNeutral.step
  cases TableNeutral.callOf c with
  | none => exact Nat.zero_le _
  | some x =>
    show (LoftTableSeed.step st x).2.length ≤ 10000
    have no1 : ∀ k, (LoftTableSeed.no k).length ≤ 10000 := fun k => by show 1 ≤ 10000; decide
    cases x with
    | read t =>
      rw [LoftTableSeed.step]
      split
      · exact no1 _
      · split
        · show 3 ≤ 10000; decide
        · show 3 ≤ 10000; decide
    | make xs zs ys =>
      rw [LoftTableSeed.step]
      split
      · show 3 ≤ 10000; decide
      · show 3 ≤ 10000; decide
    | write z =>
      rw [LoftTableSeed.step]
      show (if _ then _ else _ : List Int).length ≤ _
      split
      · rename_i h
        have := writing_len ((meas_iff z).mp h)
        show ((Loft.writing z).map _).length + 1 ≤ _
        rw [List.length_map]
        omega
      · exact no1 _
    | value t =>
      rw [LoftTableSeed.step]
      show (match Loft.readMeasure t with | some z => _ | none => _ : List Int).length ≤ _
      split
      · show 2 ≤ 10000; decide
      · exact no1 _
    | text =>
      cases st with
      | none => exact no1 _
      | some T =>
        have := text_len (W T rfl)
        show (T.text.map _).length + 1 ≤ _
        rw [List.length_map]
        omega
    | numbers =>
      cases st with
      | none => exact no1 _
      | some T =>
        have h1 := flat_len (W T rfl)
        have h2 := (W T rfl).x24
        have h3 := (W T rfl).z16
        show ([(T.xs.length : Int), (T.zs.length : Int)] ++ (T.xs ++ (T.zs ++ T.ys.flatten))).length + 1 ≤ _
        simp only [List.length_append, List.length_cons, List.length_nil]
        omega
    | at_ j i =>
      cases st with
      | none => exact no1 _
      | some T =>
        show (if _ then _ else _ : List Int).length ≤ _
        split
        · exact no1 _
        · show 4 ≤ 10000; decide
    | set j i v =>
      cases st with
      | none => exact no1 _
      | some T =>
        show (LoftTableSeed.of T (.set j i v)).2.length ≤ _
        rw [LoftTableSeed.of]
        split
        · exact no1 _
        · split
          · exact no1 _
          · show 1 ≤ 10000; decide
end Off

end
section
set_option Elab.async false
set_option linter.all false
set_option maxRecDepth 100000
set_option maxHeartbeats 4000000
namespace Off
open PySem PySem.Spec PyProof.Rows L2 XL
open Loft (Bytes Rest Got)

abbrev sNext : Stmt := top 83
abbrev sAnswers : Stmt := top 84
structure TxN (K : PySem.W.Frag) (mg : Str → Option Value) where
  nREAD : Num mg "READ" 1
  nMAKE : Num mg "MAKE" 2
  nTEXT : Num mg "TEXT" 3
  nNUMS : Num mg "NUMBERS" 4
  nAT : Num mg "AT" 5
  nSET : Num mg "SET" 6
  nWRITE : Num mg "WRITE" 7
  nVALUE : Num mg "VALUE" 8
  next : Fd K mg "next_answer" sNext ["keeper", "handed"]
  answers : Fd K mg "answers" sAnswers ["calls"]
/-- one call is answered -/
def spNext (K : PySem.W.Frag) (CK CT CH : Addr) : Sp := fun vs H Q _ => ∃ (k h ca : Addr) (st : Option Loft.Table) (S : Addr → Prop) (ns : List Int) (p p' : Nat) (c : List (List Int)), vs = [.ref k, .ref h] ∧ KeepAt CK CT H k st S ∧ HandAt K CH H h ca ns p ∧ ¬ S h ∧ ns.length ≤ 30000 ∧
  CallAt ns p c p' ∧ TableNeutral.asked1 c = true ∧
  ∀ (H' : Hp) (la : Addr) (S' : Addr → Prop), KeepAt CK CT H' k (TableNeutral.step st c).1 S' → HandAt K CH H' h ca ns p' → (∀ x, S' x → S x ∨ H x = none) → (∀ x o, H x = some o → ¬ S x → x ≠ h → H' x = some o) → H la = none → H' la = some (.lst (iv (TableNeutral.step st c).2)) → Q (.ref la) H'
theorem KeepAt.wf {CK CT : Addr} {H : Hp} {k : Addr} {st : Option Loft.Table} {S : Addr → Prop} (A : KeepAt CK CT H k st S) : ∀ T, st = some T → WfT T := fun T e => by
  have v := A.val
  subst e
  exact v.1
theorem CallAt.lt {ns : List Int} {p p' : Nat} {c : List (List Int)} (h : CallAt ns p c p') : p < ns.length := by
  have go : ∀ z : Int, ns[p]? = some z → p < ns.length := fun z e => (List.getElem?_eq_some_iff.mp e).1
  cases h with
  | read h _ => exact go _ h
  | make h _ _ _ => exact go _ h
  | text h => exact go _ h
  | numbers h => exact go _ h
  | at_ h _ _ => exact go _ h
  | set h _ _ _ => exact go _ h
  | write h _ => exact go _ h
  | value h _ => exact go _ h
def spAnswers (K : PySem.W.Frag) : Sp := fun vs H Q _ => ∃ (ca : Addr) (ns : List Int), vs = [.ref ca] ∧ FzL K H ca (iv ns) ∧ ns.length ≤ 30000 ∧ PyWqlfta.answers_asked ns = true ∧ ∀ (H' : Hp) (la : Addr), H' la = some (.lst (iv (PyWqlfta.answers ns))) → Q (.ref la) H'
section
variable {P : Program} {w : World} {K : PySem.W.Frag} {mg : Str → Option Value} {base : Heap}
theorem scAnswers : FnScope ["calls", "keeper", "handed", "given", "answer"] ["calls"] (defScope sAnswers) := ⟨rfl, rfl, rfl, by decide +kernel, rfl, by decide +kernel, by decide +kernel⟩
theorem ok_answers (TK : TxK K mg) (TT : TxT K mg) (T : TxN K mg) {n : Nat} (hN : FnOk P w K mg base CX0 n T.next.f T.next.fd ["keeper", "handed"] (spNext K TK.CK TT.CT TK.CH)) (h2n : 2 ≤ n) : FnOk P w K mg base CX0 (n + 2) T.answers.f T.answers.fd ["calls"] (spAnswers K) := by
  refine T.answers.F.ok scAnswers (fun vs H Q E h => ?_) (fun cdv A outer s H vs Q E hr h => ?_)
  · obtain ⟨ca, ns, rfl, _⟩ := h
    rfl
  · obtain ⟨ca, ns, rfl, hca, hsm, hask, q⟩ := h
    have hr1 : Room 1 _ := hr.mono (by omega)
    have hr2 : Room 2 _ := hr.mono (by omega)
    have hrn : Room n _ := hr.mono (by omega)
    refine ⟨_, pss_cons (ps_set (i := 1) scAnswers.nd rfl (Or.inl rfl) (pe_make0 TK.mkK (ok_keepI TK) hr2 rfl TK.mK TK.bK .nil pass0)) <|
      pss_cons (ps_set (i := 2) scAnswers.nd rfl (Or.inl rfl) (pe_make TK.mkH (ok_handI TK) hr2 rfl TK.mH TK.bH .nil pass0 (pa_cons (pv 0) pa_nil))) <|
      pss_cons (ps_set (i := 3) scAnswers.nd rfl (Or.inl rfl) (pe_lst pa_nil)) <|
      pss_cons (ps_while PassesOwn.never (pt_val (pe_meth0 (pv 2) TK.clH TK.mM (ok_hasMore TK) hr1 TK.bM .nil pass0))
        (pss_cons (ps_set (i := 4) scAnswers.nd rfl (Or.inl rfl) (pe_call hN hrn rfl T.next.m T.next.F.kp T.next.b .nil pass0 (pa_cons (pv 1) (pa_cons (pv 2) pa_nil)))) <|
          pss_cons (ps_expr (pe_bm PySem.F.plainAttrs_list PySem.F.slot_list_append PySem.F.type_list_append mt_append (pv 3) (pa_cons (pe_callB call_len_seq (by rfl) TK.lenK PySem.boot_len (pa_cons (pv 4) pa_nil)) pa_nil))) <|
          pss_one (ps_expr (pe_bm PySem.F.plainAttrs_list PySem.F.slot_list_extend PySem.F.type_list_extend mt_extend (pv 3) (pa_cons (pv 4) pa_nil))))) <|
      pss_one (ps_ret (pv 3)), ?_⟩
    -- what is asked
    have hask' : ∃ cs, PyFlat.calls PyWqlfta.shape ns.length ns = some cs ∧ cs.length ≤ 300 ∧ (∀ c ∈ cs, TableNeutral.asked1 c = true) ∧ PyWqlfta.answers ns = PyFlat.told (PyFlat.played TableNeutral.step TableNeutral.start cs) := by
      unfold PyWqlfta.answers_asked at hask
      unfold PyWqlfta.answers
      rw [calls_id] at hask ⊢
      cases e : PyFlat.calls PyWqlfta.shape ns.length ns with
      | none => rw [e] at hask; cases hask
      | some cs =>
        rw [e] at hask
        have h1 := (Bool.and_eq_true _ _).mp hask
        refine ⟨cs, rfl, of_decide_eq_true h1.1, ?_, rfl⟩
        have h2 : (!cs.isEmpty && cs.all TableNeutral.asked1) = true := h1.2
        have h3 := (Bool.and_eq_true _ _).mp h2
        exact fun c hc => List.all_eq_true.mp h3.2 c hc
    obtain ⟨cs0, hcs0, h300, hall, hans⟩ := hask'
    -- keeper = Keeper(); handed = Handed(calls); given = []
    refine fun k dk hkn hdkn hdk => ⟨k, dk, rfl, upd_same, fun H1 hk1 k1 => ⟨rfl, ?_⟩⟩
    have s1 : Same H H1 := fun x o hx => k1 x o (by rw [upd_ne (ne_of_none hx hkn), upd_ne (ne_of_none hx hdkn)]; exact hx) (ne_of_none hx hkn)
    refine ⟨_, rfl, fun h dh hhn hdhn hdh => ⟨h, ca, dh, rfl, upd_same, fun H2 hh2 k2 => ⟨rfl, ?_⟩⟩⟩
    have s2 : Same H1 H2 := fun x o hx => k2 x o (by rw [upd_ne (ne_of_none hx hhn), upd_ne (ne_of_none hx hdhn)]; exact hx) (ne_of_none hx hhn)
    refine ⟨by show 0 ≤ sizeLine; decide, fun g hg => ?_⟩
    have s3 : Same H2 (upd H2 g (.lst [])) := fun x o hx => by rw [upd_ne (ne_of_none hx hg)]; exact hx
    have nkh : k ≠ h := ne_of_none hk1 hhn
    have ngh : g ≠ h := (ne_of_none hh2 hg).symm
    have ngk : g ≠ k := (ne_of_none (s2 _ _ hk1) hg).symm
    refine ⟨fun m σ H' => ∃ (cs : List (List (List Int))) (st : Option Loft.Table) (S : Addr → Prop) (p f : Nat) (dn : List Int) (v : Option V), m = cs.length ∧ σ = [some (.ref ca), some (.ref k), some (.ref h), some (.ref g), v] ∧
      KeepAt TK.CK TT.CT H' k st S ∧ HandAt K TK.CH H' h ca ns p ∧ ¬ S h ∧ ¬ S g ∧ H' g = some (.lst (iv dn)) ∧ PyFlat.calls PyWqlfta.shape f (ns.drop p) = some cs ∧ (∀ c ∈ cs, TableNeutral.asked1 c = true) ∧
      cs.length ≤ 300 ∧ dn.length ≤ 10001 * (300 - cs.length) ∧ dn ++ PyFlat.told (PyFlat.played TableNeutral.step st cs) = PyWqlfta.answers ns,
      ⟨_, cs0, none, fun x => x = k, 0, ns.length, [], none, rfl, rfl, ⟨rfl, ⟨dk, s3 _ _ (s2 _ _ hk1)⟩, fun x hx => by subst hx; exact ⟨_, s3 _ _ (s2 _ _ hk1), rfl⟩⟩, ?_, fun z => nkh z.symm, ngk, upd_same, hcs0, hall, h300, Nat.zero_le _, hans.symm⟩, ?_⟩
    · exact ⟨⟨dh, s3 _ _ hh2⟩, hca.stay fun o ho _ => s3 _ _ (s2 _ _ (s1 _ _ ho))⟩
    rintro m σ H3 ⟨cs, st, S, p, f, dn, v, rfl, rfl, KA, HA, nSh, nSg, hg3, hcs, hall3, h3, hdn, hfin⟩
    obtain ⟨dx3, hh3⟩ := HA.ob
    refine ⟨_, rfl, h, dx3, _, rfl, hh3, hand_no _ _ (by decide +kernel) (by decide +kernel), h, ca, ns, p, rfl, HA, _, rfl, ?_⟩
    refine ite2 (fun hlt => ?_) (fun hlt => ?_)
    · have hlt : p < ns.length := of_decide_eq_true hlt
      refine ⟨_, fun σ' H' z => z, ?_⟩
      obtain ⟨z, r, ez⟩ : ∃ z r, ns.drop p = z :: r := by
        cases e : ns.drop p with
        | nil => have := congrArg List.length e; rw [List.length_drop] at this; simp at this; omega
        | cons z r => exact ⟨z, r, rfl⟩
      cases f with
      | zero => rw [ez] at hcs; cases hcs
      | succ f =>
      have hcs' := hcs
      rw [ez, PyFlat.calls, ← ez] at hcs
      cases ec : PyFlat.call PyWqlfta.shape (ns.drop p) with
      | none => rw [ec] at hcs; cases hcs
      | some ct =>
      obtain ⟨c, t⟩ := ct
      rw [ec] at hcs
      dsimp only at hcs
      obtain ⟨p', rfl, hat⟩ := call_at ec
      cases er : PyFlat.calls PyWqlfta.shape f (ns.drop p') with
      | none => rw [er] at hcs; cases hcs
      | some cs' =>
      rw [er] at hcs
      injection hcs with hcs
      subst hcs
      have hl3 : cs'.length + 1 ≤ 300 := h3
      refine ⟨_, rfl, _, rfl, k, h, ca, st, S, ns, p, p', c, rfl, KA, HA, nSh, hsm, hat, hall3 c List.mem_cons_self, fun H4 la S' KA4 HA4 hS' fr hla hl4 => ?_⟩
      have hlen := step_len KA.wf c
      have hg4 := fr g _ hg3 nSg ngh
      have nlg : la ≠ g := fun z => by rw [z, hg3] at hla; cases hla
      have nSg' : ¬ S' g := fun z => by
        rcases hS' g z with y | y
        · exact nSg y
        · rw [hg3] at y; cases y
      have nSh' : ¬ S' h := fun z => by
        rcases hS' h z with y | y
        · exact nSh y
        · rw [hh3] at y; cases y
      have hdn' : dn.length + (10001 : Nat) ≤ 10001 * (300 - cs'.length) := by
        have : (c :: cs').length = cs'.length + 1 := rfl
        rw [this] at hdn
        omega
      have zl : (10001 * 300 : Nat) ≤ sizeLine := by decide
      have hb : 10001 * (300 - cs'.length) ≤ 10001 * 300 := Nat.mul_le_mul_left _ (by omega)
      -- given.append(len(answer))
      refine ⟨_, rfl, .inl ⟨rfl, _, SqL.of hg4⟩, _, rfl, la, _, rfl, .inl (SqL.of hl4), g, _, _, rfl, rfl, hg4, by rw [iv_len]; omega, ?_⟩
      rw [iv_len, iv_app]
      -- given.extend(answer)
      refine ⟨_, rfl, .inl ⟨rfl, _, SqL.of upd_same⟩, _, rfl, g, la, _, _, rfl, rfl, upd_same, by rw [upd_ne nlg]; exact hl4, by rw [iv_len, iv_len, List.length_append]; simp only [List.length_cons, List.length_nil]; omega, ?_⟩
      rw [cat_iv]
      have up : ∀ x o, H4 x = some o → x ≠ g → (upd (upd H4 g (.lst (iv (dn ++ [((TableNeutral.step st c).2.length : Int)])))) g (.lst (iv (dn ++ [((TableNeutral.step st c).2.length : Int)] ++ (TableNeutral.step st c).2)))) x = some o := fun x o hx hne => by rw [upd_ne hne, upd_ne hne]; exact hx
      refine ⟨cs'.length, Nat.lt_succ_self _, cs', (TableNeutral.step st c).1, S', p', f, _, _, rfl, rfl, KA4.stay fun x o hx hs => up x o hx fun z => nSg' (by rw [← z]; exact hs), HA4.stay fun x o hx hs => up x o hx ?_, nSh', nSg', upd_same, er, fun c hc => hall3 c (List.mem_cons_of_mem _ hc), by omega, ?_, ?_⟩
      · rcases hs with hs | hs
        · rw [hs]; exact ngh.symm
        · intro z; rw [z, hg4] at hx; cases hx; cases hs
      · simp only [List.length_append, List.length_cons, List.length_nil]
        omega
      · rw [← hfin, PyFlat.played]
        unfold PyFlat.told
        rw [List.flatMap_cons]
        simp only [List.append_assoc, List.cons_append, List.nil_append]
    · have hge : ¬ p < ns.length := fun z => hlt (decide_eq_true z)
      have e : ns.drop p = [] := List.drop_eq_nil_of_le (by omega)
      rw [e] at hcs
      have : cs = [] := by
        cases f with
        | zero => rw [PyFlat.calls] at hcs; injection hcs with hcs; exact hcs.symm
        | succ f => rw [PyFlat.calls] at hcs; injection hcs with hcs; exact hcs.symm
      subst this
      rw [PyFlat.played] at hfin
      refine ⟨_, rfl, q H3 g ?_⟩
      rw [← hfin, hg3]
      show _ = some (HO.lst (iv (dn ++ [])))
      rw [List.append_nil]
end
end Off

end
section
set_option Elab.async false
set_option linter.all false
set_option maxRecDepth 100000
set_option maxHeartbeats 4000000
namespace Off
open PySem PySem.Spec PyProof.Rows L2 XL
open Loft (Bytes Rest Got)

/-! ### one call -/
theorem KeepAt.kp {CK CT : Addr} {H H' : Hp} {k h : Addr} {st : Option Loft.Table} {S : Addr → Prop} (A : KeepAt CK CT H k st S) (nS : ¬ S h) (e : Kp H H' h) : KeepAt CK CT H' k st S :=
  A.stay fun x o hx hs => e x o hx fun z => nS (by rw [← z]; exact hs)
theorem Kp.free {H H' : Hp} {h x : Addr} {o : HO} (e : Kp H H' h) (hh : H' h = some o) (hx : H' x = none) : H x = none := by
  cases q : H x with
  | none => rfl
  | some o' => have := e x o' q (fun z => by rw [z, hh] at hx; cases hx); rw [hx] at this; cases this
/-- what is wanted behind a call, once its numbers are taken -/
theorem next_ans {K : PySem.W.Frag} {CK CT CH : Addr} {H H2 : Hp} {k h ca : Addr} {st : Option Loft.Table} {S N : Addr → Prop} {ns : List Int} {p' : Nat} {c : List (List Int)} {x : LoftTableSeed.Call} {Q : VK}
    (KA : KeepAt CK CT H k st S) (nS : ¬ S h) (kp : Kp H H2 h) (HA : HandAt K CH H2 h ca ns p') (hN : ∀ y, N y → H y = none) (e : TableNeutral.callOf c = some x)
    (q : ∀ (H' : Hp) (la : Addr) (S' : Addr → Prop), KeepAt CK CT H' k (TableNeutral.step st c).1 S' → HandAt K CH H' h ca ns p' → (∀ x, S' x → S x ∨ H x = none) → (∀ x o, H x = some o → ¬ S x → x ≠ h → H' x = some o) → H la = none → H' la = some (.lst (iv (TableNeutral.step st c).2)) → Q (.ref la) H') :
    Ans CK CT H2 k S N (LoftTableSeed.step st x) Q := by
  intro H' la S' KA' hS' fr hla hl
  have KA2 := KA.kp nS kp
  obtain ⟨dh, hh⟩ := HA.ob
  have es : TableNeutral.step st c = LoftTableSeed.step st x := by unfold TableNeutral.step; rw [e]
  rw [es] at q
  refine q H' la S' KA' (HA.stay fun y o hy hc => fr y o hy fun hs => ?_) (fun y hy => ?_) (fun y o hy hs hne => fr y o (kp y o hy hne) hs) (kp.free hh hla) hl
  · rcases hc with hc | hc
    · exact nS (by rw [← hc]; exact hs)
    · obtain ⟨o', h1, h2⟩ := KA2.dom y hs
      rw [hy] at h1
      cases h1
      rw [hc] at h2
      cases h2
  · rcases hS' y hy with z | z
    · exact .inl z
    · exact .inr (hN y z)
theorem bytes_iv {t : List Int} (h : t.all (fun (z : Int) => decide (0 ≤ z) && decide (z ≤ 255)) = true) : iv t = bv (TableNeutral.bytesOf t) := by
  unfold iv bv TableNeutral.bytesOf
  rw [List.map_map]
  refine List.map_congr_left fun z hz => ?_
  have h1 := List.all_eq_true.mp h z hz
  have h2 := (Bool.and_eq_true _ _).mp h1
  have a := of_decide_eq_true h2.1
  have b := of_decide_eq_true h2.2
  show V.int z = V.int (((UInt8.ofNat z.toNat).toNat : Nat) : Int)
  rw [UInt8.toNat_ofNat']
  refine congrArg V.int ?_
  have : z.toNat % 2 ^ 8 = z.toNat := Nat.mod_eq_of_lt (by omega)
  rw [this]
  omega
theorem bytes_len (t : List Int) : (TableNeutral.bytesOf t).length = t.length := List.length_map _
theorem rowAt_len {ns : List Int} {p n : Nat} (h : RowAt ns p n) : (rowAt ns p n).length = n := by
  unfold rowAt
  rw [List.length_take, List.length_drop]
  have := h.2
  omega
end Off

end
section
set_option Elab.async false
set_option linter.all false
set_option maxRecDepth 100000
set_option maxHeartbeats 4000000
namespace Off
open PySem PySem.Spec PyProof.Rows L2 XL
open Loft (Bytes Rest Got)

/-! ### calls at, set: a table by level and station -/
theorem Ans.fresh {CK CT : Addr} {H H' : Hp} {k la : Addr} {S N : Addr → Prop} {st : Option Loft.Table} {l : List Int} {Q : VK} (a : Ans CK CT H k S N (st, l) Q) (A : KeepAt CK CT H k st S) (e : Same H H') (h1 : H la = none) (h2 : H' la = some (.lst (iv l))) : Q (.ref la) H' :=
  a _ la S (A.same e) (fun x z => .inl z) (fun x o hx _ => e x o hx) h1 h2
theorem within_nat {v : Int} {n : Nat} (h : LoftTableSeed.within v n = true) : v = (v.toNat : Int) ∧ v.toNat < n := by
  unfold LoftTableSeed.within at h
  rw [Bool.and_eq_true, decide_eq_true_eq, decide_eq_true_eq] at h
  omega
theorem getD_at {l : List Int} {i : Nat} {z : Int} (h : l[i]? = some z) : l.getD i 0 = z := by rw [List.getD_eq_getElem?_getD, h]; rfl
theorem getD_row {l : List (List Int)} {i : Nat} {z : List Int} (h : l[i]? = some z) : l.getD i [] = z := by rw [List.getD_eq_getElem?_getD, h]; rfl
theorem flat_at {n : Nat} {ys : List (List Int)} {j i : Nat} {r : List Int} {v : Int} (hn : ∀ r ∈ ys, r.length = n) (h1 : ys[j]? = some r) (h2 : r[i]? = some v) : ys.flatten[j * n + i]? = some v := by
  obtain ⟨e, _⟩ := flat_row ys j r hn h1
  have hr := hn r (List.mem_of_getElem? h1)
  have hi : i < n := by
    have := (List.getElem?_eq_some_iff.mp h2).1
    omega
  rw [← e, List.getElem?_take, if_pos hi, List.getElem?_drop] at h2
  exact h2
theorem flat_set {n : Nat} (v : Int) : ∀ (ys : List (List Int)) (j i : Nat) (r : List Int), (∀ r ∈ ys, r.length = n) → ys[j]? = some r → i < n → (ys.set j (r.set i v)).flatten = ys.flatten.set (j * n + i) v
  | [], j, i, r, _, h, _ => by cases h
  | y :: ys, 0, i, r, hn, h, hi => by
    cases h
    have e := hn y (by simp)
    rw [List.set_cons_zero, List.flatten_cons, List.flatten_cons, Nat.zero_mul, Nat.zero_add, List.set_append_left _ _ (by omega)]
  | y :: ys, j + 1, i, r, hn, h, hi => by
    have e := hn y (by simp)
    have ih := flat_set v ys j i r (fun r hr => hn r (by simp [hr])) (by simpa using h) hi
    rw [List.set_cons_succ, List.flatten_cons, List.flatten_cons, ih]
    have e2 : (j + 1) * n + i = y.length + (j * n + i) := by rw [Nat.succ_mul, e]; omega
    rw [e2, List.set_append_right _ _ (by omega), Nat.add_sub_cancel_left]
theorem set_wf {T : Loft.Table} (W : WfT T) {j i : Nat} {r : List Int} {v : Int} (hr : T.ys[j]? = some r) (hv : v.natAbs ≤ 1048575) : WfT (T.set j i v) := by
  have e : T.set j i v = { T with ys := T.ys.set j (r.set i v) } := by unfold Loft.Table.set; rw [getD_row hr]
  have hm := List.mem_of_getElem? hr
  rw [e]
  refine ⟨W.x2, W.x24, W.z2, W.z16, by show (T.ys.set j (r.set i v)).length = _; rw [List.length_set]; exact W.ylen, fun r' h => ?_, W.mx, W.mz, fun r' h => ?_⟩
  · rcases List.mem_or_eq_of_mem_set (show r' ∈ T.ys.set j (r.set i v) from h) with z | z
    · exact W.rows r' z
    · rw [z, List.length_set]; exact W.rows r hm
  · rcases List.mem_or_eq_of_mem_set (show r' ∈ T.ys.set j (r.set i v) from h) with z | z
    · exact W.my r' z
    · rw [z]
      intro y hy
      rcases List.mem_or_eq_of_mem_set hy with q | q
      · exact W.my r hm y q
      · rw [q]; exact hv
theorem iv_set (l : List Int) (i : Nat) (v : Int) : (iv l).set i (.int v) = iv (l.set i v) := by
  unfold iv
  rw [List.map_set]
theorem ixN_nat {n i : Nat} (h : i < n) : ixN n (i : Int) = some i := by
  unfold ixN
  rw [if_pos (by omega), if_pos (by omega)]
  rfl
def spAt (CK CT : Addr) : Sp := fun vs H Q _ => ∃ (k : Addr) (st : Option Loft.Table) (S : Addr → Prop) (j i : Int), vs = [.ref k, .int j, .int i] ∧ KeepAt CK CT H k st S ∧ Ans CK CT H k S (fun x => H x = none) (LoftTableSeed.step st (.at_ j i)) Q
def spSet (CK CT : Addr) : Sp := fun vs H Q _ => ∃ (k : Addr) (st : Option Loft.Table) (S : Addr → Prop) (j i v : Int), vs = [.ref k, .int j, .int i, .int v] ∧ KeepAt CK CT H k st S ∧ Ans CK CT H k S (fun x => H x = none) (LoftTableSeed.step st (.set j i v)) Q
section
variable {P : Program} {w : World} {K : PySem.W.Frag} {mg : Str → Option Value} {base : Heap}
theorem scAtA : FnScope ["keeper", "level", "station", "table", "half_breadth"] ["keeper", "level", "station"] (defScope sAtA) := ⟨rfl, rfl, rfl, by decide +kernel, rfl, by decide +kernel, by decide +kernel⟩
theorem ok_atA (TT : TxT K mg) (TK : TxK K mg) (T : TxA K mg) : FnOk P w K mg base CX0 3 T.atA.f T.atA.fd ["keeper", "level", "station"] (spAt TK.CK TT.CT) := by
  refine T.atA.F.ok scAtA (fun vs H Q E h => ?_) (fun cdv A outer s H vs Q E hr h => ?_)
  · obtain ⟨k, st, S, j, i, rfl, _⟩ := h
    rfl
  · obtain ⟨k, st, S, j, i, rfl, KA, q⟩ := h
    have hr1 : Room 1 _ := hr.mono (by decide)
    refine ⟨_, pss_cons (ps_set (i := 3) scAtA.nd rfl (Or.inl rfl) (pe_fld (pv 0) rfl)) <|
      pss_cons (ps_if (pt_cmpR op_isN (pv 3) pe_non (nomark _)) (pss_one (ps_ret (pe_lst (pa_cons (pn T.nNOT) pa_nil)))) pss_nil) <|
      pss_cons (ps_if (pt_not (pt_val (pe_meth (pv 3) TT.clT TT.mHas (ok_tabHas TT) hr1 TT.bHas .nil pass0 (pa_cons (pv 1) (pa_cons (pv 2) pa_nil))))) (pss_one (ps_ret (pe_lst (pa_cons (pn T.nNTH) pa_nil)))) pss_nil) <|
      pss_cons (ps_set (i := 4) scAtA.nd rfl (Or.inl rfl) (pe_ix ix_list (pe_fld (pv 3) rfl) (pe_meth (pv 3) TT.clT TT.mNum (ok_tabNum TT) hr1 TT.bNum .nil pass0 (pa_cons (pv 1) (pa_cons (pv 2) pa_nil))) (fun _ _ => rfl))) <|
      pss_one (ps_ret (pe_lst (pa_cons pe_int (pa_cons (pe_ix ix_list (pe_fld (pv 3) rfl) (pv 2) (fun _ _ => rfl)) (pa_cons (pe_ix ix_list (pe_fld (pv 3) rfl) (pv 1) (fun _ _ => rfl)) (pa_cons (pv 4) pa_nil)))))), ?_⟩
    have vv := KA.val
    cases st with
    | none =>
      obtain ⟨dk, hk⟩ := vv
      refine ⟨_, rfl, k, TK.CK, dk, _, _, rfl, hk, TK.clK, TK.nTa, keep_table _, _, rfl, rfl, _, rfl, ?_⟩
      exact iteT ⟨by show 1 ≤ sizeLine; decide, fun la hla => q.same KA (Same.refl H) hla⟩
    | some TB =>
      obtain ⟨W, dk, t, dx, pa, ha, ba, hk, tb, o1, o2, o3, o4⟩ := vv
      have hx24 := W.x24
      have hz16 := W.z16
      refine ⟨_, rfl, k, TK.CK, dk, _, _, rfl, hk, TK.clK, TK.nTa, keep_table _, _, rfl, rfl, _, rfl, ?_⟩
      rw [decide_eq_false (show ¬ (V.ref t = V.non) from fun z => nomatch z)]
      refine ⟨_, rfl, t, dx, _, rfl, tb.ob, tab_no _ _ _ (by decide +kernel) (by decide +kernel) (by decide +kernel), _, rfl, _, rfl, t, dx, pa, ha, ba, _, _, _, j, i, rfl, tb, _, rfl, ?_⟩
      have es : LoftTableSeed.step (some TB) (.at_ j i) = (some TB, if (LoftTableSeed.within j TB.zs.length && LoftTableSeed.within i TB.xs.length) = false then LoftTableSeed.no 4 else LoftTableSeed.tells [TB.xs.getD i.toNat 0, TB.zs.getD j.toNat 0, TB.wide j.toNat i.toNat]) := rfl
      rw [es] at q
      cases hw : LoftTableSeed.within j TB.zs.length && LoftTableSeed.within i TB.xs.length with
      | false =>
        rw [hw, if_pos rfl] at q
        exact iteT ⟨by show 1 ≤ sizeLine; decide, fun la hla => q.same KA (Same.refl H) hla⟩
      | true =>
        rw [hw, if_neg (fun z => Bool.noConfusion z)] at q
        rw [Bool.and_eq_true] at hw
        obtain ⟨ej, hj⟩ := within_nat hw.1
        obtain ⟨ei, hi⟩ := within_nat hw.2
        generalize j.toNat = jn at ej hj q
        generalize i.toNat = im at ei hi q
        subst ej ei
        have len : TB.ys.length = TB.zs.length := W.ylen
        obtain ⟨x, hx⟩ : ∃ x, TB.xs[im]? = some x := ⟨TB.xs[im], List.getElem?_eq_getElem hi⟩
        obtain ⟨z, hz⟩ : ∃ z, TB.zs[jn]? = some z := ⟨TB.zs[jn], List.getElem?_eq_getElem hj⟩
        obtain ⟨r, hrw⟩ : ∃ r, TB.ys[jn]? = some r := ⟨TB.ys[jn], List.getElem?_eq_getElem (by omega)⟩
        have hrl := W.rows r (List.mem_of_getElem? hrw)
        obtain ⟨v, hv⟩ : ∃ v, r[im]? = some v := ⟨r[im], List.getElem?_eq_getElem (by omega)⟩
        have hf := flat_at W.rows hrw hv
        have ew : TB.wide jn im = v := by unfold Loft.Table.wide; rw [getD_row hrw, getD_at hv]
        rw [getD_at hx, getD_at hz, ew] at q
        have en : (jn : Int) * (TB.xs.length : Int) + (im : Int) = ((jn * TB.xs.length + im : Nat) : Int) := by rw [Int.natCast_add, Int.natCast_mul]
        refine iteF ⟨_, rfl, t, TT.CT, dx, _, _, rfl, tb.ob, TT.clT, TT.nHb, tab_breadths _ _ _, _, rfl, t, dx, _, rfl, tb.ob, tab_no _ _ _ (by decide +kernel) (by decide +kernel) (by decide +kernel), _, rfl, _, rfl, t, dx, pa, ha, ba, _, _, _, (jn : Int), (im : Int), rfl, tb, by omega, by omega, by omega, ba, _, _, _, rfl, rfl, SqL.of tb.b, (by rw [en]; exact atI_nat (iv_get hf)), ?_⟩
        refine ⟨_, rfl, t, TT.CT, dx, _, _, rfl, tb.ob, TT.clT, TT.nPl, tab_places _ _ _, _, rfl, pa, _, _, _, rfl, rfl, SqL.of tb.p, atI_nat (iv_get hx), _, rfl, t, TT.CT, dx, _, _, rfl, tb.ob, TT.clT, TT.nHe, tab_heights _ _ _, _, rfl, ha, _, _, _, rfl, rfl, SqL.of tb.h, atI_nat (iv_get hz), _, rfl, by show 4 ≤ sizeLine; decide, fun la hla => ?_⟩
        exact q.same KA (Same.refl H) hla
theorem scSetA : FnScope ["keeper", "level", "station", "half_breadth", "table"] ["keeper", "level", "station", "half_breadth"] (defScope sSetA) := ⟨rfl, rfl, rfl, by decide +kernel, rfl, by decide +kernel, by decide +kernel⟩
theorem ok_setA (TT : TxT K mg) (TK : TxK K mg) (T : TxA K mg) : FnOk P w K mg base CX0 3 T.setA.f T.setA.fd ["keeper", "level", "station", "half_breadth"] (spSet TK.CK TT.CT) := by
  refine T.setA.F.ok scSetA (fun vs H Q E h => ?_) (fun cdv A outer s H vs Q E hr h => ?_)
  · obtain ⟨k, st, S, j, i, v, rfl, _⟩ := h
    rfl
  · obtain ⟨k, st, S, j, i, v, rfl, KA, q⟩ := h
    have hr1 : Room 1 _ := hr.mono (by decide)
    refine ⟨_, pss_cons (ps_set (i := 4) scSetA.nd rfl (Or.inl rfl) (pe_fld (pv 0) rfl)) <|
      pss_cons (ps_if (pt_cmpR op_isN (pv 4) pe_non (nomark _)) (pss_one (ps_ret (pe_lst (pa_cons (pn T.nNOT) pa_nil)))) pss_nil) <|
      pss_cons (ps_if (pt_not (pt_val (pe_call (ok_isMeasure T.isMeas T.nLG) hr1 rfl T.isMeas.m T.isMeas.F.kp T.isMeas.b .nil pass0 (pa_cons (pv 3) (pa_cons pe_int pa_nil))))) (pss_one (ps_ret (pe_lst (pa_cons (pn T.nOUT) pa_nil)))) pss_nil) <|
      pss_cons (ps_if (pt_not (pt_val (pe_meth (pv 4) TT.clT TT.mHas (ok_tabHas TT) hr1 TT.bHas .nil pass0 (pa_cons (pv 1) (pa_cons (pv 2) pa_nil))))) (pss_one (ps_ret (pe_lst (pa_cons (pn T.nNTH) pa_nil)))) pss_nil) <|
      pss_cons (ps_asg (pv 3) (pg_sub (pe_fld (pv 4) rfl) (pe_meth (pv 4) TT.clT TT.mNum (ok_tabNum TT) hr1 TT.bNum .nil pass0 (pa_cons (pv 1) (pa_cons (pv 2) pa_nil))) set_list)) <|
      pss_one (ps_ret (pe_lst (pa_cons pe_int pa_nil))), ?_⟩
    have vv := KA.val
    cases st with
    | none =>
      obtain ⟨dk, hk⟩ := vv
      refine ⟨_, rfl, k, TK.CK, dk, _, _, rfl, hk, TK.clK, TK.nTa, keep_table _, _, rfl, rfl, _, rfl, ?_⟩
      exact iteT ⟨by show 1 ≤ sizeLine; decide, fun la hla => q.same KA (Same.refl H) hla⟩
    | some TB =>
      obtain ⟨W, dk, t, dx, pa, ha, ba, hk, tb, o1, o2, o3, o4⟩ := vv
      have hx24 := W.x24
      have hz16 := W.z16
      refine ⟨_, rfl, k, TK.CK, dk, _, _, rfl, hk, TK.clK, TK.nTa, keep_table _, _, rfl, rfl, _, rfl, ?_⟩
      rw [decide_eq_false (show ¬ (V.ref t = V.non) from fun z => nomatch z)]
      refine ⟨_, rfl, v, 0, rfl, _, rfl, ?_⟩
      have es : LoftTableSeed.step (some TB) (.set j i v) = if v < 0 ∨ Loft.isMeasure v = false then (some TB, LoftTableSeed.no 1) else if (LoftTableSeed.within j TB.zs.length && LoftTableSeed.within i TB.xs.length) = false then (some TB, LoftTableSeed.no 4) else (some (TB.set j.toNat i.toNat v), LoftTableSeed.tells []) := rfl
      rw [es] at q
      have hm : Loft.isMeasure v = false ↔ ¬ v.natAbs ≤ 1048575 := by rw [← Bool.not_eq_true, meas_iff]
      by_cases hv : v < 0 ∨ 1048575 < v
      · rw [if_pos (by rw [hm]; omega)] at q
        rw [okM_f hv]
        exact iteT ⟨by show 1 ≤ sizeLine; decide, fun la hla => q.same KA (Same.refl H) hla⟩
      · rw [if_neg (by rw [hm]; omega)] at q
        rw [okM_t (l := 0) (z := v) (by omega) (by omega)]
        refine iteF ⟨_, rfl, t, dx, _, rfl, tb.ob, tab_no _ _ _ (by decide +kernel) (by decide +kernel) (by decide +kernel), _, rfl, _, rfl, t, dx, pa, ha, ba, _, _, _, j, i, rfl, tb, _, rfl, ?_⟩
        cases hw : LoftTableSeed.within j TB.zs.length && LoftTableSeed.within i TB.xs.length with
        | false =>
          rw [hw, if_pos rfl] at q
          exact iteT ⟨by show 1 ≤ sizeLine; decide, fun la hla => q.same KA (Same.refl H) hla⟩
        | true =>
          rw [hw, if_neg (fun z => Bool.noConfusion z)] at q
          rw [Bool.and_eq_true] at hw
          obtain ⟨ej, hj⟩ := within_nat hw.1
          obtain ⟨ei, hi⟩ := within_nat hw.2
          generalize j.toNat = jn at ej hj q
          generalize i.toNat = im at ei hi q
          subst ej ei
          have len : TB.ys.length = TB.zs.length := W.ylen
          obtain ⟨r, hrw⟩ : ∃ r, TB.ys[jn]? = some r := ⟨TB.ys[jn], List.getElem?_eq_getElem (by omega)⟩
          have hrl := W.rows r (List.mem_of_getElem? hrw)
          obtain ⟨v0, hv0⟩ : ∃ v, r[im]? = some v := ⟨r[im], List.getElem?_eq_getElem (by omega)⟩
          have hf := flat_at W.rows hrw hv0
          have hlt := (List.getElem?_eq_some_iff.mp hf).1
          have en : (jn : Int) * (TB.xs.length : Int) + (im : Int) = ((jn * TB.xs.length + im : Nat) : Int) := by rw [Int.natCast_add, Int.natCast_mul]
          refine iteF ⟨_, rfl, _, rfl, t, TT.CT, dx, _, _, rfl, tb.ob, TT.clT, TT.nHb, tab_breadths _ _ _, _, rfl, t, dx, _, rfl, tb.ob, tab_no _ _ _ (by decide +kernel) (by decide +kernel) (by decide +kernel), _, rfl, _, rfl, t, dx, pa, ha, ba, _, _, _, (jn : Int), (im : Int), rfl, tb, by omega, by omega, by omega, ba, _, _, jn * TB.xs.length + im, rfl, rfl, tb.b, (by rw [en, iv_len]; exact ixN_nat hlt), ?_⟩
          rw [iv_set]
          refine ⟨by show 1 ≤ sizeLine; decide, fun la hla => ?_⟩
          have ef : (TB.set jn im v).ys.flatten = TB.ys.flatten.set (jn * TB.xs.length + im) v := by
            have e : (TB.set jn im v).ys = TB.ys.set jn (r.set im v) := by unfold Loft.Table.set; rw [getD_row hrw]
            rw [e]
            exact flat_set v TB.ys jn im r W.rows hrw hi
          have nlb : la ≠ ba := fun z => by rw [z, upd_same] at hla; cases hla
          have hlaH : H la = none := by rw [upd_ne nlb] at hla; exact hla
          have up : ∀ x o, H x = some o → x ≠ ba → (upd (upd H ba (.lst (iv (TB.ys.flatten.set (jn * TB.xs.length + im) v)))) la (.lst [V.int 0])) x = some o := fun x o hx hne => by
            rw [upd_ne (ne_of_none hx hlaH), upd_ne hne]; exact hx
          have nkb : k ≠ ba := ne_of hk tb.b (by intro z; cases z)
          have ntb : t ≠ ba := ne_of tb.ob tb.b (by intro z; cases z)
          have hb' : (upd (upd H ba (.lst (iv (TB.ys.flatten.set (jn * TB.xs.length + im) v)))) la (.lst [V.int 0])) ba = some (.lst (iv (TB.set jn im v).ys.flatten)) := by rw [upd_ne nlb.symm, upd_same, ef]
          refine q _ la S ⟨KA.own, ⟨set_wf W hrw (by omega), dk, t, dx, pa, ha, ba, up _ _ hk nkb, ⟨up _ _ tb.ob ntb, up _ _ tb.p tb.pb, up _ _ tb.h tb.hb, hb', tb.ph, tb.pb, tb.hb⟩, o1, o2, o3, o4⟩, fun x hx => ?_⟩ (fun x z => .inl z) (fun x o hx hS => up x o hx fun z => hS (by rw [z]; exact o4)) hlaH upd_same
          by_cases z : x = ba
          · exact ⟨_, by rw [z]; exact hb', rfl⟩
          · obtain ⟨o, h1, h2⟩ := KA.dom x hx
            exact ⟨o, up x o h1 z, h2⟩
end
end Off

end
section
set_option Elab.async false
set_option linter.all false
set_option maxRecDepth 100000
set_option maxHeartbeats 4000000
namespace Off
open PySem PySem.Spec PyProof.Rows L2 XL
open Loft (Bytes Rest Got)

/-! ### calls write, value -/
/-- a list handed back; what was there is as it was -/
def Back (H : Hp) (l : List Int) (Q : VK) : Prop := ∀ (H' : Hp) (la : Addr), H la = none → H' la = some (.lst (iv l)) → Same H H' → Q (.ref la) H'
def spWriteA : Sp := fun vs H Q _ => ∃ z : Int, vs = [.int z] ∧ Back H (if Loft.isMeasure z = true then LoftTableSeed.tells (LoftTableSeed.textOut (Loft.writing z)) else LoftTableSeed.no 1) Q
def spMeasureOf (CF : Addr) : Sp := fun vs H Q E => ∃ (ta : Addr) (b : Bytes), vs = [.ref ta] ∧ H ta = some (.lst (bv b)) ∧ b.length ≤ 29999 ∧ match Loft.readMeasure b with
  | some z => ∀ H', Same H H' → Q (.int z) H'
  | none => ∀ H' dx, Same H H' → E (.ref CF) (some dx) H'
def valueM (b : Bytes) : List Int := match Loft.readMeasure b with
  | some z => LoftTableSeed.tells [z]
  | none => LoftTableSeed.no 6
def spValueA : Sp := fun vs H Q _ => ∃ (ta : Addr) (b : Bytes), vs = [.ref ta] ∧ H ta = some (.lst (bv b)) ∧ b.length ≤ 29999 ∧ Back H (valueM b) Q
theorem Back.new {H H' : Hp} {l : List Int} {Q : VK} {la : Addr} (q : Back H l Q) (e : Same H H') (h : H' la = none) : Q (.ref la) (upd H' la (.lst (iv l))) :=
  q _ la (e.free h) upd_same fun x o hx => by
    have := e x o hx
    rw [upd_ne (ne_of_none this h)]
    exact this
theorem bv_10 (b : Bytes) : bv b ++ [V.int 10] = bv (b ++ [10]) := by
  unfold bv
  rw [List.map_append]
  rfl
section
variable {P : Program} {w : World} {K : PySem.W.Frag} {mg : Str → Option Value} {base : Heap}
theorem scWriteA : FnScope ["measure"] ["measure"] (defScope sWriteA) := ⟨rfl, rfl, rfl, by decide +kernel, rfl, by decide +kernel, by decide +kernel⟩
theorem ok_writeA (TW : TxW K mg) (T : TxA K mg) : FnOk P w K mg base CX0 5 T.writeA.f T.writeA.fd ["measure"] spWriteA := by
  refine T.writeA.F.ok scWriteA (fun vs H Q E h => ?_) (fun cdv A outer s H vs Q E hr h => ?_)
  · obtain ⟨z, rfl, _⟩ := h
    rfl
  · obtain ⟨z, rfl, q⟩ := h
    have hr1 : Room 1 _ := hr.mono (by decide)
    have hr3 : Room 3 _ := hr.mono (by decide)
    refine ⟨_, pss_cons (ps_if (pt_not (pt_val (pe_call (ok_isMeasure T.isMeas T.nLG) hr1 rfl T.isMeas.m T.isMeas.F.kp T.isMeas.b .nil pass0 (pa_cons (pv 0) (pa_cons (pe_un un_neg (pn T.nLG)) pa_nil))))) (pss_one (ps_ret (pe_lst (pa_cons (pn T.nOUT) pa_nil)))) pss_nil) <|
      pss_one (ps_ret (pe_op op_cat (pe_lst (pa_cons pe_int pa_nil)) (pe_call (ok_writingOf TW) hr3 rfl TW.writingOf.m TW.writingOf.F.kp TW.writingOf.b .nil pass0 (pa_cons (pv 0) pa_nil)))), ?_⟩
    refine ⟨_, rfl, _, rfl, z, -1048575, rfl, _, rfl, ?_⟩
    by_cases hz : z.natAbs ≤ 1048575
    · rw [if_pos ((meas_iff z).mpr hz)] at q
      rw [okM_t (l := -1048575) (z := z) (by omega) (by omega)]
      refine iteF ⟨by show 1 ≤ sizeLine; decide, fun lc hlc => ?_⟩
      have s1 : Same H (upd H lc (.lst [.int 0])) := fun x o hx => by rw [upd_ne (ne_of_none hx hlc)]; exact hx
      refine ⟨_, rfl, z, rfl, hz, fun H2 la hla hl2 hlen s2 => ?_⟩
      refine ⟨lc, la, _, _, rfl, rfl, s2 _ _ upd_same, hl2, by rw [bv_len]; exact Nat.le_trans (Nat.add_le_add_left hlen _) (by decide), fun ld hld => ?_⟩
      have e : [V.int 0] ++ bv (Loft.writing z) = iv (LoftTableSeed.tells (LoftTableSeed.textOut (Loft.writing z))) := by rw [← out_bv]; rfl
      rw [e]
      exact q.new (s1.trans s2) hld
    · rw [if_neg (fun y => hz ((meas_iff z).mp y))] at q
      rw [okM_f (l := -1048575) (z := z) (by omega)]
      exact iteT ⟨by show 1 ≤ sizeLine; decide, fun la hla => q.new (Same.refl H) hla⟩
theorem scMeasureOf : FnScope ["text", "cursor", "measure"] ["text"] (defScope sMeasureOf) := ⟨rfl, rfl, rfl, by decide +kernel, rfl, by decide +kernel, by decide +kernel⟩
theorem ok_measureOf (T : TxR K mg) : FnOk P w K mg base (CX1 P w) 10 T.measureOf.f T.measureOf.fd ["text"] (spMeasureOf T.CF) := by
  refine T.measureOf.F.okX scMeasureOf (fun vs H Q E h => ?_) (fun cdv A outer s H vs Q E hr h => ?_)
  · obtain ⟨ta, b, rfl, _⟩ := h
    rfl
  · obtain ⟨ta, b, rfl, hta, hsm, r⟩ := h
    have hr2 : Room 2 _ := hr.mono (by decide)
    have hr8 : Room 8 _ := hr.mono (by decide)
    have zl : (100000 : Nat) ≤ sizeLine := by decide
    refine ⟨_, pss_cons (ps_set (i := 1) scMeasureOf.nd rfl (Or.inl rfl) (pe_make T.mkC (ok_curI T) hr2 rfl T.mC T.bI .nil pass0 (pa_cons (pe_op op_cat (pv 0) (pe_lst (pa_cons (pn T.nLINE) pa_nil))) pa_nil))) <|
      pss_cons (ps_set (i := 2) scMeasureOf.nd rfl (Or.inl rfl) (pe_call (ok_takeMeasure T) hr8 rfl T.takeMeasure.m T.takeMeasure.F.kp T.takeMeasure.b .nil throws_def.passes (pa_cons (pv 1) (pa_cons (pe_un un_neg (pn T.nLARGEST)) pa_nil)))) <|
      pss_cons (ps_if (pt_cmpR op_lt (pe_fld (pv 1) rfl) (pe_callB call_len_seq (by rfl) T.len PySem.boot_len (pa_cons (pv 0) pa_nil)) (nomark _))
        (pss_one (ps_raise T.xF (ok_fault T) hr2 rfl T.mF T.bF throws_def (pa_cons (pn T.nSHAPE) (pa_cons (pe_fld (pv 1) rfl) pa_nil)))) pss_nil) <|
      pss_one (ps_ret (pv 2)), ?_⟩
    -- cursor = Cursor(text + [LINE_END])
    refine ⟨_, rfl, by show 1 ≤ sizeLine; decide, fun l0 hl0 => ?_⟩
    have n0 : ta ≠ l0 := ne_of_none hta hl0
    refine ⟨ta, l0, _, _, rfl, rfl, by rw [upd_ne n0]; exact hta, upd_same, by rw [bv_len]; show b.length + 1 ≤ sizeLine; omega, fun l1 hl1 => ?_⟩
    have s1 : Same H (upd (upd H l0 (.lst [V.int 10])) l1 (.lst (bv b ++ [V.int 10]))) := fun x o hx => by
      have e : (upd H l0 (.lst [V.int 10])) x = some o := by rw [upd_ne (ne_of_none hx hl0)]; exact hx
      rw [upd_ne (ne_of_none e hl1)]; exact e
    have h1 : (upd (upd H l0 (.lst [V.int 10])) l1 (.lst (bv b ++ [V.int 10]))) l1 = some (.lst (bv (b ++ [10]))) := by rw [upd_same, bv_10]
    show ∀ (c dxc : Addr), _
    generalize (upd (upd H l0 (.lst [V.int 10])) l1 (.lst (bv b ++ [V.int 10]))) = H0 at s1 h1
    refine fun c dxc hcn hdn hdc => ?_
    refine ⟨c, l1, dxc, b ++ [10], rfl, upd_same, by rw [upd_ne (ne_of_none h1 hcn), upd_ne (ne_of_none h1 hdn)]; exact h1, by rw [List.length_append]; show b.length + 1 ≤ 30000; omega, fun H1 A1 k1 => ⟨rfl, ?_⟩⟩
    have s2 : Same H H1 := fun x o hx => k1 x o (by rw [upd_ne (ne_of_none (s1 x o hx) hcn), upd_ne (ne_of_none (s1 x o hx) hdn)]; exact s1 x o hx) (ne_of_none (s1 x o hx) hcn)
    have ncx : ∀ x o, H x = some o → x ≠ c := fun x o hx => ne_of_none (s1 x o hx) hcn
    -- measure = take_measure(cursor, -LARGEST)
    refine ⟨_, rfl, _, rfl, c, l1, b ++ [10], 0, false, rfl, A1, ?_⟩
    cases g : Loft.measure false none (rst (b ++ [10]) 0) with
    | bad k p =>
      rw [value_bad g] at r
      exact fun H' dx hx k2 => r H' dx fun x o hx => k2 x o (s2 x o hx) (ncx x o hx)
    | ok z s =>
      have es := (measure_at' g).1
      have hv := value_of (t := b) g (by rw [es]; rfl)
      intro H2 A2 k2
      have s3 : Same H H2 := fun x o hx => k2 x o (s2 x o hx) (ncx x o hx)
      obtain ⟨dx2, hc2⟩ := A2.ob
      refine ⟨_, rfl, c, T.C, dx2, _, _, rfl, hc2, T.cl, T.nP, cur_place _ _, _, rfl, ta, _, rfl, .inl (SqL.of (s3 _ _ hta)), _, _, rfl, rfl, _, rfl, ?_⟩
      rw [bv_len]
      refine ite2 (fun h => ?_) (fun h => ?_)
      · have h := of_decide_eq_true h
        rw [hv, if_pos (by omega)] at r
        refine ⟨_, rfl, c, T.C, dx2, _, _, rfl, hc2, T.cl, T.nP, cur_place _ _, by show 2 ≤ sizeLine; decide, fun x t0 hx => raise_flt (k := 1) (p := s.at_) (c := c) (fun H' dx _ k3 => r H' dx fun y o hy => k3 y o (s3 y o hy) (ncx y o hy)) rfl rfl hx⟩
      · have h : ¬ s.at_ < b.length := fun q => h (decide_eq_true (by omega))
        rw [hv, if_neg h] at r
        exact ⟨_, rfl, r H2 s3⟩
theorem scValueA : FnScope ["text", "measure"] ["text"] (defScope sValueA) := ⟨rfl, rfl, rfl, by decide +kernel, rfl, by decide +kernel, by decide +kernel⟩
theorem ok_valueA (TR : TxR K mg) (T : TxA K mg) : FnOk P w K mg base CX0 12 T.valueA.f T.valueA.fd ["text"] spValueA := by
  refine T.valueA.F.ok scValueA (fun vs H Q E h => ?_) (fun cdv A outer s H vs Q E hr h => ?_)
  · obtain ⟨ta, b, rfl, _⟩ := h
    rfl
  · obtain ⟨ta, b, rfl, hta, hsm, q⟩ := h
    have hr10 : Room 10 _ := hr.mono (by decide)
    refine ⟨_, pss_cons (ps_try0 (tb := fun E1 => tAsg (tCall (spMeasureOf TR.CF) [] E1 (tCons (tVar 0) tNil)) (gName 1)) (ts := tRet (tLst (tCons (tC (.int (-6))) tNil))) rfl rfl TR.xF rfl TR.mF
        (by intro E1 E' pn th; exact pss_one (ps_set (i := 1) scValueA.nd rfl (Or.inl rfl) (pe_call (ok_measureOf TR) hr10 rfl TR.measureOf.m TR.measureOf.F.kp TR.measureOf.b .nil th.passes (pa_cons (pv 0) pa_nil))))
        (by intro e; exact pss_one (ps_ret (pe_lst (pa_cons (pn T.nNOW) pa_nil))))) <|
      pss_one (ps_ret (pe_lst (pa_cons pe_int (pa_cons (pv 1) pa_nil)))), ?_⟩
    unfold valueM at q
    refine ⟨_, rfl, ta, b, rfl, hta, hsm, ?_⟩
    cases g : Loft.readMeasure b with
    | none =>
      rw [g] at q
      exact fun H' dx s1 => ⟨rfl, by show 1 ≤ sizeLine; decide, fun la hla => q.new s1 hla⟩
    | some z =>
      rw [g] at q
      exact fun H' s1 => ⟨_, rfl, by show 2 ≤ sizeLine; decide, fun la hla => q.new s1 hla⟩
end
end Off

end
section
set_option Elab.async false
set_option linter.all false
set_option maxRecDepth 100000
set_option maxHeartbeats 4000000
namespace Off
open PySem PySem.Spec PyProof.Rows L2 XL
open Loft (Bytes Rest Got)

section
variable {P : Program} {w : World} {K : PySem.W.Frag} {mg : Str → Option Value} {base : Heap}
theorem scNext : FnScope ["keeper", "handed", "call", "places", "heights", "half_breadths", "level", "station", "half_breadth"] ["keeper", "handed"] (defScope sNext) := ⟨rfl, rfl, rfl, by decide +kernel, rfl, by decide +kernel, by decide +kernel⟩
theorem ok_next (TR : TxR K mg) (TM : TxM K mg) (TW : TxW K mg) (TT : TxT K mg) (TK : TxK K mg) (TA : TxA K mg) (T : TxN K mg) : FnOk P w K mg base CX0 18 T.next.f T.next.fd ["keeper", "handed"] (spNext K TK.CK TT.CT TK.CH) := by
  refine T.next.F.ok scNext (fun vs H Q E h => ?_) (fun cdv A outer s H vs Q E hr h => ?_)
  · obtain ⟨k, h, ca, st, S, ns, p, p', c, rfl, _⟩ := h
    rfl
  · obtain ⟨k, h, ca, st, S, ns, p, p', c, rfl, KA, HA, nS, hsm, hat, hask, q⟩ := h
    have hr1 : Room 1 _ := hr.mono (by decide)
    have hr3 : Room 3 _ := hr.mono (by decide)
    have hr5 : Room 5 _ := hr.mono (by decide)
    have hr9 : Room 9 _ := hr.mono (by decide)
    have hr12 : Room 12 _ := hr.mono (by decide)
    have hr16 : Room 16 _ := hr.mono (by decide)
    refine ⟨_, pss_cons (ps_set (i := 2) scNext.nd rfl (Or.inl rfl) (pe_meth0 (pv 1) TK.clH TK.mN (ok_takeNum TK) hr1 TK.bN .nil pass0)) <|
      pss_cons (ps_if (pt_cmpR op_eq (pv 2) (pn T.nREAD) (nomark _)) (pss_one (ps_ret (pe_call (ok_readA TR TT TK TA) hr16 rfl TA.readA.m TA.readA.F.kp TA.readA.b .nil pass0 (pa_cons (pv 0) (pa_cons (pe_meth0 (pv 1) TK.clH TK.mR (ok_takeRow TK) hr3 TK.bR .nil pass0) pa_nil))))) pss_nil) <|
      pss_cons (ps_if (pt_cmpR op_eq (pv 2) (pn T.nMAKE) (nomark _))
        (pss_cons (ps_set (i := 3) scNext.nd rfl (Or.inl rfl) (pe_meth0 (pv 1) TK.clH TK.mR (ok_takeRow TK) hr3 TK.bR .nil pass0)) <|
          pss_cons (ps_set (i := 4) scNext.nd rfl (Or.inl rfl) (pe_meth0 (pv 1) TK.clH TK.mR (ok_takeRow TK) hr3 TK.bR .nil pass0)) <|
          pss_cons (ps_set (i := 5) scNext.nd rfl (Or.inl rfl) (pe_meth0 (pv 1) TK.clH TK.mR (ok_takeRow TK) hr3 TK.bR .nil pass0)) <|
          pss_one (ps_ret (pe_call (ok_makeA TM TT TK TA) hr9 rfl TA.makeA.m TA.makeA.F.kp TA.makeA.b .nil pass0 (pa_cons (pv 0) (pa_cons (pv 3) (pa_cons (pv 4) (pa_cons (pv 5) pa_nil))))))) pss_nil) <|
      pss_cons (ps_if (pt_cmpR op_eq (pv 2) (pn T.nTEXT) (nomark _)) (pss_one (ps_ret (pe_call (ok_textA TW TT TK TA) hr9 rfl TA.textA.m TA.textA.F.kp TA.textA.b .nil pass0 (pa_cons (pv 0) pa_nil)))) pss_nil) <|
      pss_cons (ps_if (pt_cmpR op_eq (pv 2) (pn T.nNUMS) (nomark _)) (pss_one (ps_ret (pe_call (ok_numbersA TT TK TA) hr1 rfl TA.numbersA.m TA.numbersA.F.kp TA.numbersA.b .nil pass0 (pa_cons (pv 0) pa_nil)))) pss_nil) <|
      pss_cons (ps_if (pt_cmpR op_eq (pv 2) (pn T.nAT) (nomark _))
        (pss_cons (ps_set (i := 6) scNext.nd rfl (Or.inl rfl) (pe_meth0 (pv 1) TK.clH TK.mN (ok_takeNum TK) hr1 TK.bN .nil pass0)) <|
          pss_cons (ps_set (i := 7) scNext.nd rfl (Or.inl rfl) (pe_meth0 (pv 1) TK.clH TK.mN (ok_takeNum TK) hr1 TK.bN .nil pass0)) <|
          pss_one (ps_ret (pe_call (ok_atA TT TK TA) hr3 rfl TA.atA.m TA.atA.F.kp TA.atA.b .nil pass0 (pa_cons (pv 0) (pa_cons (pv 6) (pa_cons (pv 7) pa_nil)))))) pss_nil) <|
      pss_cons (ps_if (pt_cmpR op_eq (pv 2) (pn T.nSET) (nomark _))
        (pss_cons (ps_set (i := 6) scNext.nd rfl (Or.inl rfl) (pe_meth0 (pv 1) TK.clH TK.mN (ok_takeNum TK) hr1 TK.bN .nil pass0)) <|
          pss_cons (ps_set (i := 7) scNext.nd rfl (Or.inl rfl) (pe_meth0 (pv 1) TK.clH TK.mN (ok_takeNum TK) hr1 TK.bN .nil pass0)) <|
          pss_cons (ps_set (i := 8) scNext.nd rfl (Or.inl rfl) (pe_meth0 (pv 1) TK.clH TK.mN (ok_takeNum TK) hr1 TK.bN .nil pass0)) <|
          pss_one (ps_ret (pe_call (ok_setA TT TK TA) hr3 rfl TA.setA.m TA.setA.F.kp TA.setA.b .nil pass0 (pa_cons (pv 0) (pa_cons (pv 6) (pa_cons (pv 7) (pa_cons (pv 8) pa_nil))))))) pss_nil) <|
      pss_cons (ps_if (pt_cmpR op_eq (pv 2) (pn T.nWRITE) (nomark _)) (pss_one (ps_ret (pe_call (ok_writeA TW TA) hr5 rfl TA.writeA.m TA.writeA.F.kp TA.writeA.b .nil pass0 (pa_cons (pe_meth0 (pv 1) TK.clH TK.mN (ok_takeNum TK) hr1 TK.bN .nil pass0) pa_nil)))) pss_nil) <|
      pss_cons (ps_if (pt_cmpR op_eq (pv 2) (pn T.nVALUE) (nomark _)) (pss_one (ps_ret (pe_call (ok_valueA TR TA) hr12 rfl TA.valueA.m TA.valueA.F.kp TA.valueA.b .nil pass0 (pa_cons (pe_meth0 (pv 1) TK.clH TK.mR (ok_takeRow TK) hr3 TK.bR .nil pass0) pa_nil)))) pss_nil) <|
      pss_one ps_never, ?_⟩
    obtain ⟨dh, hh⟩ := HA.ob
    obtain ⟨z, hz⟩ : ∃ z, ns[p]? = some z := ⟨ns[p]'hat.lt, List.getElem?_eq_getElem _⟩
    refine ⟨_, rfl, h, dh, _, rfl, hh, hand_no _ _ (by decide +kernel) (by decide +kernel), h, ca, ns, p, z, rfl, HA, hz, fun H1 HA1 k1 => ?_⟩
    have KA1 := KA.kp nS k1
    obtain ⟨dh1, hh1⟩ := HA1.ob
    have no : ∀ {a : Int}, ¬ z = a → ¬ V.int z = V.int a := fun n e => n (V.int.inj e)
    refine ⟨_, rfl, rfl, _, rfl, ?_⟩
    cases hat with
    | read g r1 =>
      rename_i n
      rw [hz] at g; cases g
      refine iteT ⟨_, rfl, _, rfl, h, dh1, _, rfl, hh1, hand_no _ _ (by decide +kernel) (by decide +kernel), h, ca, ns, p + 1, n, rfl, HA1, r1.1, r1.2, fun H2 la hla HA2 hl2 k2 => ?_⟩
      have k12 := k1.trans k2
      have hb : (rowAt ns (p + 1) n).all (fun (z : Int) => decide (0 ≤ z) && decide (z ≤ 255)) = true := hask
      refine ⟨k, la, st, S, TableNeutral.bytesOf (rowAt ns (p + 1) n), rfl, KA.kp nS k12, by rw [← bytes_iv hb]; exact hl2, by rw [bytes_len, rowAt_len r1]; have := r1.2; omega, ?_⟩
      obtain ⟨dh2, hh2⟩ := HA2.ob
      exact next_ans KA nS k12 HA2 (fun y hy => k12.free hh2 hy) rfl q
    | make g r1 r2 r3 =>
      rename_i n m o
      rw [hz] at g; cases g
      rw [decide_eq_false (no (by decide))]
      refine ⟨_, rfl, rfl, _, rfl, ?_⟩
      refine iteT ⟨_, rfl, h, dh1, _, rfl, hh1, hand_no _ _ (by decide +kernel) (by decide +kernel), h, ca, ns, p + 1, n, rfl, HA1, r1.1, r1.2, fun H2 pa hpa HA2 hp2 k2 => ?_⟩
      obtain ⟨dh2, hh2⟩ := HA2.ob
      refine ⟨_, rfl, h, dh2, _, rfl, hh2, hand_no _ _ (by decide +kernel) (by decide +kernel), h, ca, ns, _, m, rfl, HA2, r2.1, r2.2, fun H3 ha hha HA3 hh3' k3 => ?_⟩
      obtain ⟨dh3, hh3⟩ := HA3.ob
      refine ⟨_, rfl, h, dh3, _, rfl, hh3, hand_no _ _ (by decide +kernel) (by decide +kernel), h, ca, ns, _, o, rfl, HA3, r3.1, r3.2, fun H4 ba hba HA4 hb4 k4 => ?_⟩
      obtain ⟨dh4, hh4⟩ := HA4.ob
      have nph : pa ≠ h := fun z => by rw [z, hh1] at hpa; cases hpa
      have nhh : ha ≠ h := fun z => by rw [z, hh2] at hha; cases hha
      have hp3 := k3 pa _ hp2 nph
      have hp4 := k4 pa _ hp3 nph
      have hh4' := k4 ha _ hh3' nhh
      have k12 := k1.trans k2
      have k13 := k12.trans k3
      have k14 := k13.trans k4
      have b1 := r1.2
      have b2 := r2.2
      have b3 := r3.2
      refine ⟨_, rfl, _, rfl, _, rfl, _, rfl, k, pa, ha, ba, st, S, rowAt ns (p + 1) n, rowAt ns _ m, rowAt ns _ o, rfl, KA.kp nS k14, hp4, hh4', hb4, ?_, ?_, ?_, by rw [rowAt_len r1]; omega, by rw [rowAt_len r2]; omega, by rw [rowAt_len r3]; omega, ?_⟩
      · exact ne_of_none hp2 hha
      · exact ne_of_none hp3 hba
      · exact ne_of_none hh3' hba
      · refine next_ans KA nS k14 HA4 (fun y hy => ?_) rfl q
        rcases hy with hy | rfl | rfl | rfl
        · exact k14.free hh4 hy
        · exact k1.free hh1 hpa
        · exact k12.free hh2 hha
        · exact k13.free hh3 hba
    | text g =>
      rw [hz] at g; cases g
      rw [decide_eq_false (no (by decide))]
      refine ⟨_, rfl, rfl, _, rfl, ?_⟩
      rw [decide_eq_false (no (by decide))]
      refine ⟨_, rfl, rfl, _, rfl, ?_⟩
      exact iteT ⟨_, rfl, k, st, S, rfl, KA1, next_ans KA nS k1 HA1 (fun y hy => k1.free hh1 hy) rfl q⟩
    | numbers g =>
      rw [hz] at g; cases g
      rw [decide_eq_false (no (by decide))]
      refine ⟨_, rfl, rfl, _, rfl, ?_⟩
      rw [decide_eq_false (no (by decide))]
      refine ⟨_, rfl, rfl, _, rfl, ?_⟩
      rw [decide_eq_false (no (by decide))]
      refine ⟨_, rfl, rfl, _, rfl, ?_⟩
      exact iteT ⟨_, rfl, k, st, S, rfl, KA1, next_ans KA nS k1 HA1 (fun y hy => k1.free hh1 hy) rfl q⟩
    | at_ g g1 g2 =>
      rename_i j i
      rw [hz] at g; cases g
      rw [decide_eq_false (no (by decide))]
      refine ⟨_, rfl, rfl, _, rfl, ?_⟩
      rw [decide_eq_false (no (by decide))]
      refine ⟨_, rfl, rfl, _, rfl, ?_⟩
      rw [decide_eq_false (no (by decide))]
      refine ⟨_, rfl, rfl, _, rfl, ?_⟩
      rw [decide_eq_false (no (by decide))]
      refine ⟨_, rfl, rfl, _, rfl, ?_⟩
      refine iteT ⟨_, rfl, h, dh1, _, rfl, hh1, hand_no _ _ (by decide +kernel) (by decide +kernel), h, ca, ns, p + 1, j, rfl, HA1, g1, fun H2 HA2 k2 => ?_⟩
      obtain ⟨dh2, hh2⟩ := HA2.ob
      refine ⟨_, rfl, h, dh2, _, rfl, hh2, hand_no _ _ (by decide +kernel) (by decide +kernel), h, ca, ns, p + 1 + 1, i, rfl, HA2, g2, fun H3 HA3 k3 => ?_⟩
      obtain ⟨dh3, hh3⟩ := HA3.ob
      have k13 := (k1.trans k2).trans k3
      exact ⟨_, rfl, _, rfl, _, rfl, k, st, S, j, i, rfl, KA.kp nS k13, next_ans KA nS k13 HA3 (fun y hy => k13.free hh3 hy) rfl q⟩
    | set g g1 g2 g3 =>
      rename_i j i v
      rw [hz] at g; cases g
      rw [decide_eq_false (no (by decide))]
      refine ⟨_, rfl, rfl, _, rfl, ?_⟩
      rw [decide_eq_false (no (by decide))]
      refine ⟨_, rfl, rfl, _, rfl, ?_⟩
      rw [decide_eq_false (no (by decide))]
      refine ⟨_, rfl, rfl, _, rfl, ?_⟩
      rw [decide_eq_false (no (by decide))]
      refine ⟨_, rfl, rfl, _, rfl, ?_⟩
      rw [decide_eq_false (no (by decide))]
      refine ⟨_, rfl, rfl, _, rfl, ?_⟩
      refine iteT ⟨_, rfl, h, dh1, _, rfl, hh1, hand_no _ _ (by decide +kernel) (by decide +kernel), h, ca, ns, p + 1, j, rfl, HA1, g1, fun H2 HA2 k2 => ?_⟩
      obtain ⟨dh2, hh2⟩ := HA2.ob
      refine ⟨_, rfl, h, dh2, _, rfl, hh2, hand_no _ _ (by decide +kernel) (by decide +kernel), h, ca, ns, p + 1 + 1, i, rfl, HA2, g2, fun H3 HA3 k3 => ?_⟩
      obtain ⟨dh3, hh3⟩ := HA3.ob
      refine ⟨_, rfl, h, dh3, _, rfl, hh3, hand_no _ _ (by decide +kernel) (by decide +kernel), h, ca, ns, p + 1 + 1 + 1, v, rfl, HA3, g3, fun H4 HA4 k4 => ?_⟩
      obtain ⟨dh4, hh4⟩ := HA4.ob
      have k14 := ((k1.trans k2).trans k3).trans k4
      exact ⟨_, rfl, _, rfl, _, rfl, _, rfl, k, st, S, j, i, v, rfl, KA.kp nS k14, next_ans KA nS k14 HA4 (fun y hy => k14.free hh4 hy) rfl q⟩
    | write g g1 =>
      rename_i y
      rw [hz] at g; cases g
      rw [decide_eq_false (no (by decide))]
      refine ⟨_, rfl, rfl, _, rfl, ?_⟩
      rw [decide_eq_false (no (by decide))]
      refine ⟨_, rfl, rfl, _, rfl, ?_⟩
      rw [decide_eq_false (no (by decide))]
      refine ⟨_, rfl, rfl, _, rfl, ?_⟩
      rw [decide_eq_false (no (by decide))]
      refine ⟨_, rfl, rfl, _, rfl, ?_⟩
      rw [decide_eq_false (no (by decide))]
      refine ⟨_, rfl, rfl, _, rfl, ?_⟩
      rw [decide_eq_false (no (by decide))]
      refine ⟨_, rfl, rfl, _, rfl, ?_⟩
      refine iteT ⟨_, rfl, h, dh1, _, rfl, hh1, hand_no _ _ (by decide +kernel) (by decide +kernel), h, ca, ns, p + 1, y, rfl, HA1, g1, fun H2 HA2 k2 => ?_⟩
      have k12 := k1.trans k2
      have a : Ans TK.CK TT.CT H2 k S (fun _ => False) (st, if Loft.isMeasure y = true then LoftTableSeed.tells (LoftTableSeed.textOut (Loft.writing y)) else LoftTableSeed.no 1) Q :=
        next_ans (x := .write y) KA nS k12 HA2 (fun y hy => hy.elim) rfl q
      exact ⟨y, rfl, fun H3 la h1 h2 s1 => a.fresh (KA.kp nS k12) s1 h1 h2⟩
    | value g r1 =>
      rename_i n
      rw [hz] at g; cases g
      rw [decide_eq_false (no (by decide))]
      refine ⟨_, rfl, rfl, _, rfl, ?_⟩
      rw [decide_eq_false (no (by decide))]
      refine ⟨_, rfl, rfl, _, rfl, ?_⟩
      rw [decide_eq_false (no (by decide))]
      refine ⟨_, rfl, rfl, _, rfl, ?_⟩
      rw [decide_eq_false (no (by decide))]
      refine ⟨_, rfl, rfl, _, rfl, ?_⟩
      rw [decide_eq_false (no (by decide))]
      refine ⟨_, rfl, rfl, _, rfl, ?_⟩
      rw [decide_eq_false (no (by decide))]
      refine ⟨_, rfl, rfl, _, rfl, ?_⟩
      rw [decide_eq_false (no (by decide))]
      refine ⟨_, rfl, rfl, _, rfl, ?_⟩
      refine iteT ⟨_, rfl, h, dh1, _, rfl, hh1, hand_no _ _ (by decide +kernel) (by decide +kernel), h, ca, ns, p + 1, n, rfl, HA1, r1.1, r1.2, fun H2 la hla HA2 hl2 k2 => ?_⟩
      have k12 := k1.trans k2
      have hb : (rowAt ns (p + 1) n).all (fun (z : Int) => decide (0 ≤ z) && decide (z ≤ 255)) = true := hask
      have a : Ans TK.CK TT.CT H2 k S (fun _ => False) (st, valueM (TableNeutral.bytesOf (rowAt ns (p + 1) n))) Q :=
        next_ans (x := .value (TableNeutral.bytesOf (rowAt ns (p + 1) n))) KA nS k12 HA2 (fun y hy => hy.elim) rfl q
      exact ⟨la, TableNeutral.bytesOf (rowAt ns (p + 1) n), rfl, by rw [← bytes_iv hb]; exact hl2, by rw [bytes_len, rowAt_len r1]; have := r1.2; omega, fun H3 lb h1 h2 s1 => a.fresh (KA.kp nS k12) s1 h1 h2⟩
end
end Off

end
section
set_option Elab.async false
set_option linter.all false
set_option maxRecDepth 100000
set_option maxHeartbeats 4000000
namespace Off
open PySem PySem.Spec PyProof.Rows L2 XL

section
variable {K : PySem.W.Frag} {h : Heap} {mg : Str → Option Value}
theorem mg_some {x : Str} {v : Value} (X : K.In h) (G : h.Ns mainGlobals mg) (a : PySem.W.nsIn K mainGlobals x = some (some v)) : mg x = some v := PySem.W.mg_of X G a
theorem mg_none {x : Str} (X : K.In h) (G : h.Ns mainGlobals mg) (a : PySem.W.nsIn K mainGlobals x = some none) : mg x = none := PySem.W.mg_none_of X G a
theorem num_mk {x : Str} {i : Int} {t : Nat} (X : K.In h) (G : h.Ns mainGlobals mg) (a : PySem.W.nsIn K mainGlobals x = some (some (.int i t))) : Num mg x i := ⟨t, PySem.W.mg_of X G a⟩
/-- a def of the text, as the top wrote it -/
def fd_mk {x : Str} {st : Stmt} {ps : List Str} {f : Addr} {oc : Value} {od an : Option Addr} {osl : Array (Option Value)} {kV doc pm cdv ct : Value} (X : K.In h) (G : h.Ns mainGlobals mg)
    (a : PySem.W.nsIn K mainGlobals x = some (some (.ref f))) (l : K.lookup f = some ⟨oc, od, .func (PySem.W.fnOf x x (defArgs st) (defBody st) (defScope st) .none kV doc pm an cdv ct), osl⟩)
    (c : PySem.W.codeIn K cdv x = true) (k : PySem.W.keepIn K (.ref f) = true)
    (b : ∀ (kV doc pm : Value) (an : Option Addr) (cdv ct : Value) (us : List Value), us.length = ps.length → bindArgs (PySem.W.fnOf x x (defArgs st) (defBody st) (defScope st) .none kV doc pm an cdv ct) ⟨us, []⟩ = pure (ps.zip us)) : Fd K mg x st ps :=
  ⟨f, _, fun_mk (st := st) l c k, (fun_mk (st := st) l c k).binds b, PySem.W.mg_of X G a⟩
/-- a method -/
structure Mt (K : PySem.W.Frag) (C : Addr) (m qual : Str) (st : Stmt) (ps : List Str) where
  f : Addr
  fd : FuncData
  F : Fun K m qual st f fd
  b : Binds K fd ps []
  at_ : PySem.W.findIn K (.ref C) m = some (some (.ref f))
  fn : PySem.W.isFn K (.ref f) = true
  kp : PySem.W.keepIn K (.ref f) = true
def mt_mk {C : Addr} {m qual : Str} {st : Stmt} {ps : List Str} {f : Addr} {oc : Value} {od an : Option Addr} {osl : Array (Option Value)} {kV doc pm cdv ct : Value}
    (a : PySem.W.findIn K (.ref C) m = some (some (.ref f))) (i : PySem.W.isFn K (.ref f) = true) (l : K.lookup f = some ⟨oc, od, .func (PySem.W.fnOf m qual (defArgs st) (defBody st) (defScope st) .none kV doc pm an cdv ct), osl⟩)
    (c : PySem.W.codeIn K cdv qual = true) (k : PySem.W.keepIn K (.ref f) = true)
    (b : ∀ (kV doc pm : Value) (an : Option Addr) (cdv ct : Value) (us : List Value), us.length = ps.length → bindArgs (PySem.W.fnOf m qual (defArgs st) (defBody st) (defScope st) .none kV doc pm an cdv ct) ⟨us, []⟩ = pure (ps.zip us)) : Mt K C m qual st ps :=
  ⟨f, _, fun_mk (st := st) l c k, (fun_mk (st := st) l c k).binds b, a, i, k⟩
theorem Mt.meth {C : Addr} {m qual : Str} {st : Stmt} {ps : List Str} (M : Mt K C m qual st ps) : Meth K C m M.f := ⟨M.at_, M.fn, M.kp⟩
theorem xcls_mk {C f N : Addr} {nm q : Str} {bs : List Value} {sn sub ab col dd k0 k1 k2 k3 k5 : _} {oc : Value} {od : Option Addr} {es : Array DictEntry} {ep : Nat} {sl : Array (Option Value)}
    (hC : K.lookup C = some (excClassObj nm q C N bs bmE true sn sub ab col dd k0 k1 k2 k3 k5 "Exception.__new__")) (hN : K.lookup N = some ⟨oc, od, .dict es ep, sl⟩) (hk : keysB es = true)
    (hi : nsFind es "__init__" = some (.ref f)) (h1 : nsFind es "__setattr__" = none) (h2 : nsFind es "__getattribute__" = none) (h3 : nsFind es "__getattr__" = none) (h4 : nsFind es "kind" = none) (h5 : nsFind es "place" = none)
    (at_ : ∀ x ∈ (["kind", "place"] : List Str), typeLookup (.type "Exception") x = pure none) (fn : PySem.W.isFn K (.ref f) = true) (kp : PySem.W.keepIn K (.ref C) = true) : XCls K C f ["kind", "place"] :=
  ⟨⟨nm, q, N, bs, sn, sub, ab, col, dd, k0, k1, k2, k3, k5, oc, od, es, ep, sl, hC, hN, hk, hi, h1, h2, h3, fun x hx => by
    simp only [List.mem_cons, List.not_mem_nil, or_false] at hx
    rcases hx with rfl | rfl
    · exact h4
    · exact h5⟩, at_, fn, kp⟩
end
theorem binds_mk {K : PySem.W.Frag} {x qual : Str} {st : Stmt} {ps : List Str} {an : Option Addr} {kV doc pm cdv ct : Value}
    (b : ∀ (kV doc pm : Value) (an : Option Addr) (cdv ct : Value) (us : List Value), us.length = ps.length → bindArgs (PySem.W.fnOf x qual (defArgs st) (defBody st) (defScope st) .none kV doc pm an cdv ct) ⟨us, []⟩ = pure (ps.zip us)) :
    Binds K (PySem.W.fnOf x qual (defArgs st) (defBody st) (defScope st) .none kV doc pm an cdv ct) ps [] := .all (b kV doc pm an cdv ct)
theorem fin0 {P : Program} {w : World} {K : PySem.W.Frag} {h : Heap} {mg : Str → Option Value} {fa : Addr} (X : K.In h) (G : h.Ns mainGlobals mg) (hmg : mg "answers" = some (.ref fa))
    (TR : TxR K mg) (TT : TxT K mg) (TM : TxM K mg) (TW : TxW K mg) (TK : TxK K mg) (TA : TxA K mg) (TN : TxN K mg) :
    ∃ fd : FuncData, (∀ (s : Shared) (us : List Value), us.length = (["calls"] : List Str).length → BindsTo s fd ⟨us, []⟩ ((["calls"] : List Str).zip us)) ∧ ∀ base : Heap, K.In base → base.Ns mainGlobals mg → FnOk P w K mg base CX0 20 fa fd ["calls"] (spAnswers K) := by
  have e := hmg.symm.trans TN.answers.m
  injection e with e
  injection e with e
  subst e
  refine ⟨TN.answers.fd, ?_, fun base _ _ => ok_answers TK TT TN (ok_next TR TM TW TT TK TA TN) (by decide)⟩
  obtain ⟨oc, od, kV, doc, pm, an, cdv, ct, osl, e, _⟩ := TN.answers.F.ex
  rw [e]
  exact fun s us hu => match us, hu with | [_], _ => .of_eq rfl
theorem at_kp : ∀ x ∈ (["kind", "place"] : List Str), typeLookup (.type "Exception") x = pure none := by
  intro x hx
  simp only [List.mem_cons, List.not_mem_nil, or_false] at hx
  rcases hx with rfl | rfl
  · rw [typeLookup_type, builtinLookup_eq_fast]; kernel_rfl
  · rw [typeLookup_type, builtinLookup_eq_fast]; kernel_rfl
end Off

end
set_option Elab.async false
-- the head makes no quick twins of the largest states that it writes out (their names are taken here): the equations of these twins alone take 50 MB of the compiled file, and the kernel comes through without them
def PySem.W.Fast.tw579192551099355010 : Nat := 0
def PySem.W.Fast.tw9696681725007041588 : Nat := 0
def PySem.W.Fast.tw7736300082303732817 : Nat := 0
def PySem.W.Fast.tw1864570054179772876 : Nat := 0
def PySem.W.Fast.tw13921919720890670694 : Nat := 0
def PySem.W.Fast.tw11308158759280908086 : Nat := 0
def PySem.W.Fast.tw2209417245180887941 : Nat := 0
def PySem.W.Fast.tw10659510121172546949 : Nat := 0
def PySem.W.Fast.tw16298031481479533270 : Nat := 0
def PySem.W.Fast.tw2128995892053005502 : Nat := 0
def PySem.W.Fast.tw10990116025401807504 : Nat := 0
def PySem.W.Fast.tw18047463550466522228 : Nat := 0
def PySem.W.Fast.tw12738023724189352431 : Nat := 0
open PySem PySem.W PyProof.Rows
set_option maxRecDepth 100000 in
set_option maxHeartbeats 0 in
theorem PySem.Challenge.cw_offsettables_s01_answers_holds : PySem.Challenge.rw_offsettables_s01_answers.Holds := by
  w_on; k_headS; (case hw => exact ⟨[.list [.int 7, .int 0]], by decide +kernel, by decide +kernel⟩)
  k_fillS
  refine L2.walk_specK (r := PySem.Challenge.rw_offsettables_s01_answers) (k := 20) (CX := L2.CX0) (ps := ["calls"]) (sp := Off.spAnswers) (by decide +kernel) rfl rfl ⟨rfl, by decide, by decide⟩ (fun w h Y => PySem.W.kIn_of Y) ?F ?S (fun _ _ _ _ z => z)
  case F =>
    intro w mg fa h Y KX G hmg
    refine' Off.fin0 KX G hmg ?TR ?TT ?TM ?TW ?TK ?TA ?TN
    case TR =>
      refine' ⟨_, _, _, (Off.xcls_mk ?xF1 ?xF2 ?xF3 ?xF4 ?xF5 ?xF6 ?xF7 ?xF8 ?xF11 Off.at_kp ?xF9 ?xF10), (L2.fun_mk ?FF1 ?FF2 ?FF3), ?bF, ?mF, _, ⟨?cl1, ?cl2, ?cl3, ?cl4⟩, ?nT, ?nP, ?mC, _, _, ⟨?mkC1, ?mkC2, ?mkC3, ?mkC4⟩, (L2.fun_mk ?FI1 ?FI2 ?FI3), ?bI, _, _, ⟨?mB1, ?mB2, ?mB3⟩, (L2.fun_mk ?FB1 ?FB2 ?FB3), ?bB, _, _, ⟨?mA1, ?mA2, ?mA3⟩, (L2.fun_mk ?FA1 ?FA2 ?FA3), ?bA, ?nSHAPE, ?nNOMEAS, ?nNOTRIS, ?nCOUNT, ?nLINE, ?nBLANK, ?nPLUS, ?nDASH, ?nZERO, ?nCOLON, ?nNOBYTE, ?nMF, ?nMI, ?nME, ?nFOOT, ?nINCH, ?nEIGHTH, ?nLARGEST, ?nFEW, ?nMS, ?nML, ?len, ?min, ?ord, ?isDigit, ?takeByte, ?takeWord, ?takeIf, ?takeDigit, ?takeFeet, ?takeInches, ?checkWhole, ?takeMeasure, ?takeRising, ?takeBlank, ?takeLineEnd, ?takeStations, ?takeHeight, ?takeHalf, ?tableOf, ?isMeasure, ?measureOf⟩
      (case mF => (refine' Off.mg_some KX G ?a; (case a => k_is)))
      (case mC => (refine' Off.mg_some KX G ?a; (case a => k_is)))
      (case xF1 => k_is)
      (case xF2 => k_is)
      (case xF3 => rfl)
      (case xF4 => rfl)
      (case xF5 => rfl)
      (case xF6 => rfl)
      (case xF7 => rfl)
      (case xF8 => rfl)
      (case xF9 => k_is)
      (case xF10 => k_is)
      (case xF11 => rfl)
      (case cl1 => k_is)
      (case cl2 => k_is)
      (case cl3 => k_is)
      (case cl4 => k_is)
      (case nT => (show PySem.W.findIn _ _ _ = _); k_is)
      (case nP => (show PySem.W.findIn _ _ _ = _); k_is)
      (case mkC1 => k_is)
      (case mkC2 => k_is)
      (case mkC3 => k_is)
      (case mkC4 => k_is)
      (case mB1 => k_is)
      (case mB2 => k_is)
      (case mB3 => k_is)
      (case mA1 => k_is)
      (case mA2 => k_is)
      (case mA3 => k_is)
      (case FF1 => k_is)
      (case FF2 => k_is)
      (case FF3 => k_is)
      (case FI1 => k_is)
      (case FI2 => k_is)
      (case FI3 => k_is)
      (case FB1 => k_is)
      (case FB2 => k_is)
      (case FB3 => k_is)
      (case FA1 => k_is)
      (case FA2 => k_is)
      (case FA3 => k_is)
      (case nSHAPE => (refine' Off.num_mk KX G ?a; (case a => k_is)))
      (case nNOMEAS => (refine' Off.num_mk KX G ?a; (case a => k_is)))
      (case nNOTRIS => (refine' Off.num_mk KX G ?a; (case a => k_is)))
      (case nCOUNT => (refine' Off.num_mk KX G ?a; (case a => k_is)))
      (case nLINE => (refine' Off.num_mk KX G ?a; (case a => k_is)))
      (case nBLANK => (refine' Off.num_mk KX G ?a; (case a => k_is)))
      (case nPLUS => (refine' Off.num_mk KX G ?a; (case a => k_is)))
      (case nDASH => (refine' Off.num_mk KX G ?a; (case a => k_is)))
      (case nZERO => (refine' Off.num_mk KX G ?a; (case a => k_is)))
      (case nCOLON => (refine' Off.num_mk KX G ?a; (case a => k_is)))
      (case nNOBYTE => (refine' Off.num_mk KX G ?a; (case a => k_is)))
      (case nMF => (refine' Off.num_mk KX G ?a; (case a => k_is)))
      (case nMI => (refine' Off.num_mk KX G ?a; (case a => k_is)))
      (case nME => (refine' Off.num_mk KX G ?a; (case a => k_is)))
      (case nFOOT => (refine' Off.num_mk KX G ?a; (case a => k_is)))
      (case nINCH => (refine' Off.num_mk KX G ?a; (case a => k_is)))
      (case nEIGHTH => (refine' Off.num_mk KX G ?a; (case a => k_is)))
      (case nLARGEST => (refine' Off.num_mk KX G ?a; (case a => k_is)))
      (case nFEW => (refine' Off.num_mk KX G ?a; (case a => k_is)))
      (case nMS => (refine' Off.num_mk KX G ?a; (case a => k_is)))
      (case nML => (refine' Off.num_mk KX G ?a; (case a => k_is)))
      (case len => (refine' Off.mg_none KX G ?a; (case a => k_is)))
      (case min => (refine' Off.mg_none KX G ?a; (case a => k_is)))
      (case ord => (refine' Off.mg_none KX G ?a; (case a => k_is)))
      (case isDigit => (refine' Off.fd_mk KX G ?a ?l ?c ?k ?b; (case a => k_is); (case l => k_is); (case c => k_is); (case k => k_is); (case b => (intro _ _ _ _ _ _ us hl; first | exact (match us, hl with | [_], _ => rfl) | exact (match us, hl with | [_, _], _ => rfl) | exact (match us, hl with | [_, _, _], _ => rfl) | exact (match us, hl with | [_, _, _, _], _ => rfl) | exact (match us, hl with | [_, _, _, _, _], _ => rfl)))))
      (case takeByte => (refine' Off.fd_mk KX G ?a ?l ?c ?k ?b; (case a => k_is); (case l => k_is); (case c => k_is); (case k => k_is); (case b => (intro _ _ _ _ _ _ us hl; first | exact (match us, hl with | [_], _ => rfl) | exact (match us, hl with | [_, _], _ => rfl) | exact (match us, hl with | [_, _, _], _ => rfl) | exact (match us, hl with | [_, _, _, _], _ => rfl) | exact (match us, hl with | [_, _, _, _, _], _ => rfl)))))
      (case takeWord => (refine' Off.fd_mk KX G ?a ?l ?c ?k ?b; (case a => k_is); (case l => k_is); (case c => k_is); (case k => k_is); (case b => (intro _ _ _ _ _ _ us hl; first | exact (match us, hl with | [_], _ => rfl) | exact (match us, hl with | [_, _], _ => rfl) | exact (match us, hl with | [_, _, _], _ => rfl) | exact (match us, hl with | [_, _, _, _], _ => rfl) | exact (match us, hl with | [_, _, _, _, _], _ => rfl)))))
      (case takeIf => (refine' Off.fd_mk KX G ?a ?l ?c ?k ?b; (case a => k_is); (case l => k_is); (case c => k_is); (case k => k_is); (case b => (intro _ _ _ _ _ _ us hl; first | exact (match us, hl with | [_], _ => rfl) | exact (match us, hl with | [_, _], _ => rfl) | exact (match us, hl with | [_, _, _], _ => rfl) | exact (match us, hl with | [_, _, _, _], _ => rfl) | exact (match us, hl with | [_, _, _, _, _], _ => rfl)))))
      (case takeDigit => (refine' Off.fd_mk KX G ?a ?l ?c ?k ?b; (case a => k_is); (case l => k_is); (case c => k_is); (case k => k_is); (case b => (intro _ _ _ _ _ _ us hl; first | exact (match us, hl with | [_], _ => rfl) | exact (match us, hl with | [_, _], _ => rfl) | exact (match us, hl with | [_, _, _], _ => rfl) | exact (match us, hl with | [_, _, _, _], _ => rfl) | exact (match us, hl with | [_, _, _, _, _], _ => rfl)))))
      (case takeFeet => (refine' Off.fd_mk KX G ?a ?l ?c ?k ?b; (case a => k_is); (case l => k_is); (case c => k_is); (case k => k_is); (case b => (intro _ _ _ _ _ _ us hl; first | exact (match us, hl with | [_], _ => rfl) | exact (match us, hl with | [_, _], _ => rfl) | exact (match us, hl with | [_, _, _], _ => rfl) | exact (match us, hl with | [_, _, _, _], _ => rfl) | exact (match us, hl with | [_, _, _, _, _], _ => rfl)))))
      (case takeInches => (refine' Off.fd_mk KX G ?a ?l ?c ?k ?b; (case a => k_is); (case l => k_is); (case c => k_is); (case k => k_is); (case b => (intro _ _ _ _ _ _ us hl; first | exact (match us, hl with | [_], _ => rfl) | exact (match us, hl with | [_, _], _ => rfl) | exact (match us, hl with | [_, _, _], _ => rfl) | exact (match us, hl with | [_, _, _, _], _ => rfl) | exact (match us, hl with | [_, _, _, _, _], _ => rfl)))))
      (case checkWhole => (refine' Off.fd_mk KX G ?a ?l ?c ?k ?b; (case a => k_is); (case l => k_is); (case c => k_is); (case k => k_is); (case b => (intro _ _ _ _ _ _ us hl; first | exact (match us, hl with | [_], _ => rfl) | exact (match us, hl with | [_, _], _ => rfl) | exact (match us, hl with | [_, _, _], _ => rfl) | exact (match us, hl with | [_, _, _, _], _ => rfl) | exact (match us, hl with | [_, _, _, _, _], _ => rfl)))))
      (case takeMeasure => (refine' Off.fd_mk KX G ?a ?l ?c ?k ?b; (case a => k_is); (case l => k_is); (case c => k_is); (case k => k_is); (case b => (intro _ _ _ _ _ _ us hl; first | exact (match us, hl with | [_], _ => rfl) | exact (match us, hl with | [_, _], _ => rfl) | exact (match us, hl with | [_, _, _], _ => rfl) | exact (match us, hl with | [_, _, _, _], _ => rfl) | exact (match us, hl with | [_, _, _, _, _], _ => rfl)))))
      (case takeRising => (refine' Off.fd_mk KX G ?a ?l ?c ?k ?b; (case a => k_is); (case l => k_is); (case c => k_is); (case k => k_is); (case b => (intro _ _ _ _ _ _ us hl; first | exact (match us, hl with | [_], _ => rfl) | exact (match us, hl with | [_, _], _ => rfl) | exact (match us, hl with | [_, _, _], _ => rfl) | exact (match us, hl with | [_, _, _, _], _ => rfl) | exact (match us, hl with | [_, _, _, _, _], _ => rfl)))))
      (case takeBlank => (refine' Off.fd_mk KX G ?a ?l ?c ?k ?b; (case a => k_is); (case l => k_is); (case c => k_is); (case k => k_is); (case b => (intro _ _ _ _ _ _ us hl; first | exact (match us, hl with | [_], _ => rfl) | exact (match us, hl with | [_, _], _ => rfl) | exact (match us, hl with | [_, _, _], _ => rfl) | exact (match us, hl with | [_, _, _, _], _ => rfl) | exact (match us, hl with | [_, _, _, _, _], _ => rfl)))))
      (case takeLineEnd => (refine' Off.fd_mk KX G ?a ?l ?c ?k ?b; (case a => k_is); (case l => k_is); (case c => k_is); (case k => k_is); (case b => (intro _ _ _ _ _ _ us hl; first | exact (match us, hl with | [_], _ => rfl) | exact (match us, hl with | [_, _], _ => rfl) | exact (match us, hl with | [_, _, _], _ => rfl) | exact (match us, hl with | [_, _, _, _], _ => rfl) | exact (match us, hl with | [_, _, _, _, _], _ => rfl)))))
      (case takeStations => (refine' Off.fd_mk KX G ?a ?l ?c ?k ?b; (case a => k_is); (case l => k_is); (case c => k_is); (case k => k_is); (case b => (intro _ _ _ _ _ _ us hl; first | exact (match us, hl with | [_], _ => rfl) | exact (match us, hl with | [_, _], _ => rfl) | exact (match us, hl with | [_, _, _], _ => rfl) | exact (match us, hl with | [_, _, _, _], _ => rfl) | exact (match us, hl with | [_, _, _, _, _], _ => rfl)))))
      (case takeHeight => (refine' Off.fd_mk KX G ?a ?l ?c ?k ?b; (case a => k_is); (case l => k_is); (case c => k_is); (case k => k_is); (case b => (intro _ _ _ _ _ _ us hl; first | exact (match us, hl with | [_], _ => rfl) | exact (match us, hl with | [_, _], _ => rfl) | exact (match us, hl with | [_, _, _], _ => rfl) | exact (match us, hl with | [_, _, _, _], _ => rfl) | exact (match us, hl with | [_, _, _, _, _], _ => rfl)))))
      (case takeHalf => (refine' Off.fd_mk KX G ?a ?l ?c ?k ?b; (case a => k_is); (case l => k_is); (case c => k_is); (case k => k_is); (case b => (intro _ _ _ _ _ _ us hl; first | exact (match us, hl with | [_], _ => rfl) | exact (match us, hl with | [_, _], _ => rfl) | exact (match us, hl with | [_, _, _], _ => rfl) | exact (match us, hl with | [_, _, _, _], _ => rfl) | exact (match us, hl with | [_, _, _, _, _], _ => rfl)))))
      (case tableOf => (refine' Off.fd_mk KX G ?a ?l ?c ?k ?b; (case a => k_is); (case l => k_is); (case c => k_is); (case k => k_is); (case b => (intro _ _ _ _ _ _ us hl; first | exact (match us, hl with | [_], _ => rfl) | exact (match us, hl with | [_, _], _ => rfl) | exact (match us, hl with | [_, _, _], _ => rfl) | exact (match us, hl with | [_, _, _, _], _ => rfl) | exact (match us, hl with | [_, _, _, _, _], _ => rfl)))))
      (case isMeasure => (refine' Off.fd_mk KX G ?a ?l ?c ?k ?b; (case a => k_is); (case l => k_is); (case c => k_is); (case k => k_is); (case b => (intro _ _ _ _ _ _ us hl; first | exact (match us, hl with | [_], _ => rfl) | exact (match us, hl with | [_, _], _ => rfl) | exact (match us, hl with | [_, _, _], _ => rfl) | exact (match us, hl with | [_, _, _, _], _ => rfl) | exact (match us, hl with | [_, _, _, _, _], _ => rfl)))))
      (case measureOf => (refine' Off.fd_mk KX G ?a ?l ?c ?k ?b; (case a => k_is); (case l => k_is); (case c => k_is); (case k => k_is); (case b => (intro _ _ _ _ _ _ us hl; first | exact (match us, hl with | [_], _ => rfl) | exact (match us, hl with | [_, _], _ => rfl) | exact (match us, hl with | [_, _, _], _ => rfl) | exact (match us, hl with | [_, _, _, _], _ => rfl) | exact (match us, hl with | [_, _, _, _, _], _ => rfl)))))
      (case bF => exact Off.binds_mk (by (intro _ _ _ _ _ _ us hl; first | exact (match us, hl with | [_], _ => rfl) | exact (match us, hl with | [_, _], _ => rfl) | exact (match us, hl with | [_, _, _], _ => rfl) | exact (match us, hl with | [_, _, _, _], _ => rfl) | exact (match us, hl with | [_, _, _, _, _], _ => rfl))))
      (case bI => exact Off.binds_mk (by (intro _ _ _ _ _ _ us hl; first | exact (match us, hl with | [_], _ => rfl) | exact (match us, hl with | [_, _], _ => rfl) | exact (match us, hl with | [_, _, _], _ => rfl) | exact (match us, hl with | [_, _, _, _], _ => rfl) | exact (match us, hl with | [_, _, _, _, _], _ => rfl))))
      (case bB => exact Off.binds_mk (by (intro _ _ _ _ _ _ us hl; first | exact (match us, hl with | [_], _ => rfl) | exact (match us, hl with | [_, _], _ => rfl) | exact (match us, hl with | [_, _, _], _ => rfl) | exact (match us, hl with | [_, _, _, _], _ => rfl) | exact (match us, hl with | [_, _, _, _, _], _ => rfl))))
      (case bA => exact Off.binds_mk (by (intro _ _ _ _ _ _ us hl; first | exact (match us, hl with | [_], _ => rfl) | exact (match us, hl with | [_, _], _ => rfl) | exact (match us, hl with | [_, _, _], _ => rfl) | exact (match us, hl with | [_, _, _, _], _ => rfl) | exact (match us, hl with | [_, _, _, _, _], _ => rfl))))
    case TT =>
      refine' ⟨_, ⟨?clT1, ?clT2, ?clT3, ?clT4⟩, ?nPl, ?nHe, ?nHb, ?mT, _, _, ⟨?mkT1, ?mkT2, ?mkT3, ?mkT4⟩, (L2.fun_mk ?FT1 ?FT2 ?FT3), ?bT, _, _, ⟨?mHas1, ?mHas2, ?mHas3⟩, (L2.fun_mk ?FHas1 ?FHas2 ?FHas3), ?bHas, _, _, ⟨?mNum1, ?mNum2, ?mNum3⟩, (L2.fun_mk ?FNum1 ?FNum2 ?FNum3), ?bNum, ?lenT⟩
      (case mT => (refine' Off.mg_some KX G ?a; (case a => k_is)))
      (case clT1 => k_is)
      (case clT2 => k_is)
      (case clT3 => k_is)
      (case clT4 => k_is)
      (case nPl => (show PySem.W.findIn _ _ _ = _); k_is)
      (case nHe => (show PySem.W.findIn _ _ _ = _); k_is)
      (case nHb => (show PySem.W.findIn _ _ _ = _); k_is)
      (case mkT1 => k_is)
      (case mkT2 => k_is)
      (case mkT3 => k_is)
      (case mkT4 => k_is)
      (case mHas1 => k_is)
      (case mHas2 => k_is)
      (case mHas3 => k_is)
      (case mNum1 => k_is)
      (case mNum2 => k_is)
      (case mNum3 => k_is)
      (case FT1 => k_is)
      (case FT2 => k_is)
      (case FT3 => k_is)
      (case FHas1 => k_is)
      (case FHas2 => k_is)
      (case FHas3 => k_is)
      (case FNum1 => k_is)
      (case FNum2 => k_is)
      (case FNum3 => k_is)
      (case lenT => (refine' Off.mg_none KX G ?a; (case a => k_is)))
      (case bT => exact Off.binds_mk (by (intro _ _ _ _ _ _ us hl; first | exact (match us, hl with | [_], _ => rfl) | exact (match us, hl with | [_, _], _ => rfl) | exact (match us, hl with | [_, _, _], _ => rfl) | exact (match us, hl with | [_, _, _, _], _ => rfl) | exact (match us, hl with | [_, _, _, _, _], _ => rfl))))
      (case bHas => exact Off.binds_mk (by (intro _ _ _ _ _ _ us hl; first | exact (match us, hl with | [_], _ => rfl) | exact (match us, hl with | [_, _], _ => rfl) | exact (match us, hl with | [_, _, _], _ => rfl) | exact (match us, hl with | [_, _, _, _], _ => rfl) | exact (match us, hl with | [_, _, _, _, _], _ => rfl))))
      (case bNum => exact Off.binds_mk (by (intro _ _ _ _ _ _ us hl; first | exact (match us, hl with | [_], _ => rfl) | exact (match us, hl with | [_, _], _ => rfl) | exact (match us, hl with | [_, _, _], _ => rfl) | exact (match us, hl with | [_, _, _, _], _ => rfl) | exact (match us, hl with | [_, _, _, _, _], _ => rfl))))
    case TM =>
      refine' ⟨?nLARGEST, ?nFEW, ?nMS, ?nML, ?len, ?min, ?enum, ?range, ?isMeasure, ?bounds, ?rising, ?countF, ?numberF, ?listsF⟩
      (case nLARGEST => (refine' Off.num_mk KX G ?a; (case a => k_is)))
      (case nFEW => (refine' Off.num_mk KX G ?a; (case a => k_is)))
      (case nMS => (refine' Off.num_mk KX G ?a; (case a => k_is)))
      (case nML => (refine' Off.num_mk KX G ?a; (case a => k_is)))
      (case len => (refine' Off.mg_none KX G ?a; (case a => k_is)))
      (case min => (refine' Off.mg_none KX G ?a; (case a => k_is)))
      (case enum => (refine' Off.mg_none KX G ?a; (case a => k_is)))
      (case range => (refine' Off.mg_none KX G ?a; (case a => k_is)))
      (case isMeasure => (refine' Off.fd_mk KX G ?a ?l ?c ?k ?b; (case a => k_is); (case l => k_is); (case c => k_is); (case k => k_is); (case b => (intro _ _ _ _ _ _ us hl; first | exact (match us, hl with | [_], _ => rfl) | exact (match us, hl with | [_, _], _ => rfl) | exact (match us, hl with | [_, _, _], _ => rfl) | exact (match us, hl with | [_, _, _, _], _ => rfl) | exact (match us, hl with | [_, _, _, _, _], _ => rfl)))))
      (case bounds => (refine' Off.fd_mk KX G ?a ?l ?c ?k ?b; (case a => k_is); (case l => k_is); (case c => k_is); (case k => k_is); (case b => (intro _ _ _ _ _ _ us hl; first | exact (match us, hl with | [_], _ => rfl) | exact (match us, hl with | [_, _], _ => rfl) | exact (match us, hl with | [_, _, _], _ => rfl) | exact (match us, hl with | [_, _, _, _], _ => rfl) | exact (match us, hl with | [_, _, _, _, _], _ => rfl)))))
      (case rising => (refine' Off.fd_mk KX G ?a ?l ?c ?k ?b; (case a => k_is); (case l => k_is); (case c => k_is); (case k => k_is); (case b => (intro _ _ _ _ _ _ us hl; first | exact (match us, hl with | [_], _ => rfl) | exact (match us, hl with | [_, _], _ => rfl) | exact (match us, hl with | [_, _, _], _ => rfl) | exact (match us, hl with | [_, _, _, _], _ => rfl) | exact (match us, hl with | [_, _, _, _, _], _ => rfl)))))
      (case countF => (refine' Off.fd_mk KX G ?a ?l ?c ?k ?b; (case a => k_is); (case l => k_is); (case c => k_is); (case k => k_is); (case b => (intro _ _ _ _ _ _ us hl; first | exact (match us, hl with | [_], _ => rfl) | exact (match us, hl with | [_, _], _ => rfl) | exact (match us, hl with | [_, _, _], _ => rfl) | exact (match us, hl with | [_, _, _, _], _ => rfl) | exact (match us, hl with | [_, _, _, _, _], _ => rfl)))))
      (case numberF => (refine' Off.fd_mk KX G ?a ?l ?c ?k ?b; (case a => k_is); (case l => k_is); (case c => k_is); (case k => k_is); (case b => (intro _ _ _ _ _ _ us hl; first | exact (match us, hl with | [_], _ => rfl) | exact (match us, hl with | [_, _], _ => rfl) | exact (match us, hl with | [_, _, _], _ => rfl) | exact (match us, hl with | [_, _, _, _], _ => rfl) | exact (match us, hl with | [_, _, _, _, _], _ => rfl)))))
      (case listsF => (refine' Off.fd_mk KX G ?a ?l ?c ?k ?b; (case a => k_is); (case l => k_is); (case c => k_is); (case k => k_is); (case b => (intro _ _ _ _ _ _ us hl; first | exact (match us, hl with | [_], _ => rfl) | exact (match us, hl with | [_, _], _ => rfl) | exact (match us, hl with | [_, _, _], _ => rfl) | exact (match us, hl with | [_, _, _, _], _ => rfl) | exact (match us, hl with | [_, _, _, _, _], _ => rfl)))))
    case TW =>
      refine' ⟨?cF, ?cI, ?cE, ?abs, ?len, ?ord, ?range, ?written, ?bytesOf, ?writingOf, ?rowOf, ?levelLine, ?textOf⟩
      (case cF => (refine' Off.num_mk KX G ?a; (case a => k_is)))
      (case cI => (refine' Off.num_mk KX G ?a; (case a => k_is)))
      (case cE => (refine' Off.num_mk KX G ?a; (case a => k_is)))
      (case abs => (refine' Off.mg_none KX G ?a; (case a => k_is)))
      (case len => (refine' Off.mg_none KX G ?a; (case a => k_is)))
      (case ord => (refine' Off.mg_none KX G ?a; (case a => k_is)))
      (case range => (refine' Off.mg_none KX G ?a; (case a => k_is)))
      (case written => (refine' Off.fd_mk KX G ?a ?l ?c ?k ?b; (case a => k_is); (case l => k_is); (case c => k_is); (case k => k_is); (case b => (intro _ _ _ _ _ _ us hl; first | exact (match us, hl with | [_], _ => rfl) | exact (match us, hl with | [_, _], _ => rfl) | exact (match us, hl with | [_, _, _], _ => rfl) | exact (match us, hl with | [_, _, _, _], _ => rfl) | exact (match us, hl with | [_, _, _, _, _], _ => rfl)))))
      (case bytesOf => (refine' Off.fd_mk KX G ?a ?l ?c ?k ?b; (case a => k_is); (case l => k_is); (case c => k_is); (case k => k_is); (case b => (intro _ _ _ _ _ _ us hl; first | exact (match us, hl with | [_], _ => rfl) | exact (match us, hl with | [_, _], _ => rfl) | exact (match us, hl with | [_, _, _], _ => rfl) | exact (match us, hl with | [_, _, _, _], _ => rfl) | exact (match us, hl with | [_, _, _, _, _], _ => rfl)))))
      (case writingOf => (refine' Off.fd_mk KX G ?a ?l ?c ?k ?b; (case a => k_is); (case l => k_is); (case c => k_is); (case k => k_is); (case b => (intro _ _ _ _ _ _ us hl; first | exact (match us, hl with | [_], _ => rfl) | exact (match us, hl with | [_, _], _ => rfl) | exact (match us, hl with | [_, _, _], _ => rfl) | exact (match us, hl with | [_, _, _, _], _ => rfl) | exact (match us, hl with | [_, _, _, _, _], _ => rfl)))))
      (case rowOf => (refine' Off.fd_mk KX G ?a ?l ?c ?k ?b; (case a => k_is); (case l => k_is); (case c => k_is); (case k => k_is); (case b => (intro _ _ _ _ _ _ us hl; first | exact (match us, hl with | [_], _ => rfl) | exact (match us, hl with | [_, _], _ => rfl) | exact (match us, hl with | [_, _, _], _ => rfl) | exact (match us, hl with | [_, _, _, _], _ => rfl) | exact (match us, hl with | [_, _, _, _, _], _ => rfl)))))
      (case levelLine => (refine' Off.fd_mk KX G ?a ?l ?c ?k ?b; (case a => k_is); (case l => k_is); (case c => k_is); (case k => k_is); (case b => (intro _ _ _ _ _ _ us hl; first | exact (match us, hl with | [_], _ => rfl) | exact (match us, hl with | [_, _], _ => rfl) | exact (match us, hl with | [_, _, _], _ => rfl) | exact (match us, hl with | [_, _, _, _], _ => rfl) | exact (match us, hl with | [_, _, _, _, _], _ => rfl)))))
      (case textOf => (refine' Off.fd_mk KX G ?a ?l ?c ?k ?b; (case a => k_is); (case l => k_is); (case c => k_is); (case k => k_is); (case b => (intro _ _ _ _ _ _ us hl; first | exact (match us, hl with | [_], _ => rfl) | exact (match us, hl with | [_, _], _ => rfl) | exact (match us, hl with | [_, _, _], _ => rfl) | exact (match us, hl with | [_, _, _, _], _ => rfl) | exact (match us, hl with | [_, _, _, _, _], _ => rfl)))))
    case TK =>
      refine' ⟨_, ⟨?clK1, ?clK2, ?clK3, ?clK4⟩, ?nTa, ?mK, _, _, ⟨?mkK1, ?mkK2, ?mkK3, ?mkK4⟩, (L2.fun_mk ?FK1 ?FK2 ?FK3), ?bK, _, ⟨?clH1, ?clH2, ?clH3, ?clH4⟩, ?nCa, ?nPc, ?mH, _, _, ⟨?mkH1, ?mkH2, ?mkH3, ?mkH4⟩, (L2.fun_mk ?FH1 ?FH2 ?FH3), ?bH, _, _, ⟨?mM1, ?mM2, ?mM3⟩, (L2.fun_mk ?FM1 ?FM2 ?FM3), ?bM, _, _, ⟨?mN1, ?mN2, ?mN3⟩, (L2.fun_mk ?FN1 ?FN2 ?FN3), ?bN, _, _, ⟨?mR1, ?mR2, ?mR3⟩, (L2.fun_mk ?FR1 ?FR2 ?FR3), ?bR, ?lenK⟩
      (case mK => (refine' Off.mg_some KX G ?a; (case a => k_is)))
      (case mH => (refine' Off.mg_some KX G ?a; (case a => k_is)))
      (case clK1 => k_is)
      (case clK2 => k_is)
      (case clK3 => k_is)
      (case clK4 => k_is)
      (case nTa => (show PySem.W.findIn _ _ _ = _); k_is)
      (case mkK1 => k_is)
      (case mkK2 => k_is)
      (case mkK3 => k_is)
      (case mkK4 => k_is)
      (case clH1 => k_is)
      (case clH2 => k_is)
      (case clH3 => k_is)
      (case clH4 => k_is)
      (case nCa => (show PySem.W.findIn _ _ _ = _); k_is)
      (case nPc => (show PySem.W.findIn _ _ _ = _); k_is)
      (case mkH1 => k_is)
      (case mkH2 => k_is)
      (case mkH3 => k_is)
      (case mkH4 => k_is)
      (case mM1 => k_is)
      (case mM2 => k_is)
      (case mM3 => k_is)
      (case mN1 => k_is)
      (case mN2 => k_is)
      (case mN3 => k_is)
      (case mR1 => k_is)
      (case mR2 => k_is)
      (case mR3 => k_is)
      (case FK1 => k_is)
      (case FK2 => k_is)
      (case FK3 => k_is)
      (case FH1 => k_is)
      (case FH2 => k_is)
      (case FH3 => k_is)
      (case FM1 => k_is)
      (case FM2 => k_is)
      (case FM3 => k_is)
      (case FN1 => k_is)
      (case FN2 => k_is)
      (case FN3 => k_is)
      (case FR1 => k_is)
      (case FR2 => k_is)
      (case FR3 => k_is)
      (case lenK => (refine' Off.mg_none KX G ?a; (case a => k_is)))
      (case bK => exact Off.binds_mk (by (intro _ _ _ _ _ _ us hl; first | exact (match us, hl with | [_], _ => rfl) | exact (match us, hl with | [_, _], _ => rfl) | exact (match us, hl with | [_, _, _], _ => rfl) | exact (match us, hl with | [_, _, _, _], _ => rfl) | exact (match us, hl with | [_, _, _, _, _], _ => rfl))))
      (case bH => exact Off.binds_mk (by (intro _ _ _ _ _ _ us hl; first | exact (match us, hl with | [_], _ => rfl) | exact (match us, hl with | [_, _], _ => rfl) | exact (match us, hl with | [_, _, _], _ => rfl) | exact (match us, hl with | [_, _, _, _], _ => rfl) | exact (match us, hl with | [_, _, _, _, _], _ => rfl))))
      (case bM => exact Off.binds_mk (by (intro _ _ _ _ _ _ us hl; first | exact (match us, hl with | [_], _ => rfl) | exact (match us, hl with | [_, _], _ => rfl) | exact (match us, hl with | [_, _, _], _ => rfl) | exact (match us, hl with | [_, _, _, _], _ => rfl) | exact (match us, hl with | [_, _, _, _, _], _ => rfl))))
      (case bN => exact Off.binds_mk (by (intro _ _ _ _ _ _ us hl; first | exact (match us, hl with | [_], _ => rfl) | exact (match us, hl with | [_, _], _ => rfl) | exact (match us, hl with | [_, _, _], _ => rfl) | exact (match us, hl with | [_, _, _, _], _ => rfl) | exact (match us, hl with | [_, _, _, _, _], _ => rfl))))
      (case bR => exact Off.binds_mk (by (intro _ _ _ _ _ _ us hl; first | exact (match us, hl with | [_], _ => rfl) | exact (match us, hl with | [_, _], _ => rfl) | exact (match us, hl with | [_, _, _], _ => rfl) | exact (match us, hl with | [_, _, _, _], _ => rfl) | exact (match us, hl with | [_, _, _, _, _], _ => rfl))))
    case TA =>
      refine' ⟨?nOUT, ?nNOT, ?nNTH, ?nNOW, ?nLG, ?nMB, ?readA, ?makeA, ?textA, ?numbersA, ?atA, ?setA, ?writeA, ?valueA, ?isMeas⟩
      (case nOUT => (refine' Off.num_mk KX G ?a; (case a => k_is)))
      (case nNOT => (refine' Off.num_mk KX G ?a; (case a => k_is)))
      (case nNTH => (refine' Off.num_mk KX G ?a; (case a => k_is)))
      (case nNOW => (refine' Off.num_mk KX G ?a; (case a => k_is)))
      (case nLG => (refine' Off.num_mk KX G ?a; (case a => k_is)))
      (case nMB => (refine' Off.num_mk KX G ?a; (case a => k_is)))
      (case readA => (refine' Off.fd_mk KX G ?a ?l ?c ?k ?b; (case a => k_is); (case l => k_is); (case c => k_is); (case k => k_is); (case b => (intro _ _ _ _ _ _ us hl; first | exact (match us, hl with | [_], _ => rfl) | exact (match us, hl with | [_, _], _ => rfl) | exact (match us, hl with | [_, _, _], _ => rfl) | exact (match us, hl with | [_, _, _, _], _ => rfl) | exact (match us, hl with | [_, _, _, _, _], _ => rfl)))))
      (case makeA => (refine' Off.fd_mk KX G ?a ?l ?c ?k ?b; (case a => k_is); (case l => k_is); (case c => k_is); (case k => k_is); (case b => (intro _ _ _ _ _ _ us hl; first | exact (match us, hl with | [_], _ => rfl) | exact (match us, hl with | [_, _], _ => rfl) | exact (match us, hl with | [_, _, _], _ => rfl) | exact (match us, hl with | [_, _, _, _], _ => rfl) | exact (match us, hl with | [_, _, _, _, _], _ => rfl)))))
      (case textA => (refine' Off.fd_mk KX G ?a ?l ?c ?k ?b; (case a => k_is); (case l => k_is); (case c => k_is); (case k => k_is); (case b => (intro _ _ _ _ _ _ us hl; first | exact (match us, hl with | [_], _ => rfl) | exact (match us, hl with | [_, _], _ => rfl) | exact (match us, hl with | [_, _, _], _ => rfl) | exact (match us, hl with | [_, _, _, _], _ => rfl) | exact (match us, hl with | [_, _, _, _, _], _ => rfl)))))
      (case numbersA => (refine' Off.fd_mk KX G ?a ?l ?c ?k ?b; (case a => k_is); (case l => k_is); (case c => k_is); (case k => k_is); (case b => (intro _ _ _ _ _ _ us hl; first | exact (match us, hl with | [_], _ => rfl) | exact (match us, hl with | [_, _], _ => rfl) | exact (match us, hl with | [_, _, _], _ => rfl) | exact (match us, hl with | [_, _, _, _], _ => rfl) | exact (match us, hl with | [_, _, _, _, _], _ => rfl)))))
      (case atA => (refine' Off.fd_mk KX G ?a ?l ?c ?k ?b; (case a => k_is); (case l => k_is); (case c => k_is); (case k => k_is); (case b => (intro _ _ _ _ _ _ us hl; first | exact (match us, hl with | [_], _ => rfl) | exact (match us, hl with | [_, _], _ => rfl) | exact (match us, hl with | [_, _, _], _ => rfl) | exact (match us, hl with | [_, _, _, _], _ => rfl) | exact (match us, hl with | [_, _, _, _, _], _ => rfl)))))
      (case setA => (refine' Off.fd_mk KX G ?a ?l ?c ?k ?b; (case a => k_is); (case l => k_is); (case c => k_is); (case k => k_is); (case b => (intro _ _ _ _ _ _ us hl; first | exact (match us, hl with | [_], _ => rfl) | exact (match us, hl with | [_, _], _ => rfl) | exact (match us, hl with | [_, _, _], _ => rfl) | exact (match us, hl with | [_, _, _, _], _ => rfl) | exact (match us, hl with | [_, _, _, _, _], _ => rfl)))))
      (case writeA => (refine' Off.fd_mk KX G ?a ?l ?c ?k ?b; (case a => k_is); (case l => k_is); (case c => k_is); (case k => k_is); (case b => (intro _ _ _ _ _ _ us hl; first | exact (match us, hl with | [_], _ => rfl) | exact (match us, hl with | [_, _], _ => rfl) | exact (match us, hl with | [_, _, _], _ => rfl) | exact (match us, hl with | [_, _, _, _], _ => rfl) | exact (match us, hl with | [_, _, _, _, _], _ => rfl)))))
      (case valueA => (refine' Off.fd_mk KX G ?a ?l ?c ?k ?b; (case a => k_is); (case l => k_is); (case c => k_is); (case k => k_is); (case b => (intro _ _ _ _ _ _ us hl; first | exact (match us, hl with | [_], _ => rfl) | exact (match us, hl with | [_, _], _ => rfl) | exact (match us, hl with | [_, _, _], _ => rfl) | exact (match us, hl with | [_, _, _, _], _ => rfl) | exact (match us, hl with | [_, _, _, _, _], _ => rfl)))))
      (case isMeas => (refine' Off.fd_mk KX G ?a ?l ?c ?k ?b; (case a => k_is); (case l => k_is); (case c => k_is); (case k => k_is); (case b => (intro _ _ _ _ _ _ us hl; first | exact (match us, hl with | [_], _ => rfl) | exact (match us, hl with | [_, _], _ => rfl) | exact (match us, hl with | [_, _, _], _ => rfl) | exact (match us, hl with | [_, _, _, _], _ => rfl) | exact (match us, hl with | [_, _, _, _, _], _ => rfl)))))
    case TN =>
      refine' ⟨?nREAD, ?nMAKE, ?nTEXT, ?nNUMS, ?nAT, ?nSET, ?nWRITE, ?nVALUE, ?next, ?answers⟩
      (case nREAD => (refine' Off.num_mk KX G ?a; (case a => k_is)))
      (case nMAKE => (refine' Off.num_mk KX G ?a; (case a => k_is)))
      (case nTEXT => (refine' Off.num_mk KX G ?a; (case a => k_is)))
      (case nNUMS => (refine' Off.num_mk KX G ?a; (case a => k_is)))
      (case nAT => (refine' Off.num_mk KX G ?a; (case a => k_is)))
      (case nSET => (refine' Off.num_mk KX G ?a; (case a => k_is)))
      (case nWRITE => (refine' Off.num_mk KX G ?a; (case a => k_is)))
      (case nVALUE => (refine' Off.num_mk KX G ?a; (case a => k_is)))
      (case next => (refine' Off.fd_mk KX G ?a ?l ?c ?k ?b; (case a => k_is); (case l => k_is); (case c => k_is); (case k => k_is); (case b => (intro _ _ _ _ _ _ us hl; first | exact (match us, hl with | [_], _ => rfl) | exact (match us, hl with | [_, _], _ => rfl) | exact (match us, hl with | [_, _, _], _ => rfl) | exact (match us, hl with | [_, _, _, _], _ => rfl) | exact (match us, hl with | [_, _, _, _, _], _ => rfl)))))
      (case answers => (refine' Off.fd_mk KX G ?a ?l ?c ?k ?b; (case a => k_is); (case l => k_is); (case c => k_is); (case k => k_is); (case b => (intro _ _ _ _ _ _ us hl; first | exact (match us, hl with | [_], _ => rfl) | exact (match us, hl with | [_, _], _ => rfl) | exact (match us, hl with | [_, _, _], _ => rfl) | exact (match us, hl with | [_, _, _, _], _ => rfl) | exact (match us, hl with | [_, _, _, _, _], _ => rfl)))))
  case S =>
    intro K H xs a hO hwi hask hx
    cases hx with
    | cons h1 h2 =>
      cases h2
      cases h1 with
      | lst hs ha =>
        have e := L2.ints_dw a.1 _ ha
        subst e
        have q : ((Codec.inLen 0 30000 a.1 && a.1.all (Codec.inInt (-2147483648) 2147483647)) && true) = true := hwi
        rw [Bool.and_eq_true, Bool.and_eq_true] at q
        exact ⟨_, a.1, rfl, Off.FzL.of hO hs, (Codec.inNat_iff.mp q.1.1).2, hask, fun H' p hp => .lst (L2.SqL.of hp) (L2.dw_ints _)⟩

