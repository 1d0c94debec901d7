import PyProof.Rows.All
import Wide.All
import OpenK.AllK
import Wide.FinOn
import PyProof.EqAt
import PyProof.EqKinds
import PyProof.TupleCall
import KE.BitLaws
import Open.SpecLaws
import KE.OsHead
import KE.OsGo
import PyProof.InstStoreFacts
import PyProof.ExcInit
import PyProof.ExcAttrAll.Exception
import PyProof.RulesAs
import PyProof.RulesDel
import PyProof.ExcClass
import KE.KLam
import KE.KDictList
import PySem.Challenge.RW_flipboards_s09_places
set_option Elab.async false
set_option linter.all false
set_option maxRecDepth 100000
/-! THE HAND LAYER, for ints, bools, texts, own classes, lists, tuples, dicts, comprehensions, walks over dicts, enumerate, zip, reversed, texts, calls, loops. Paste it whole ahead of your own text; what your proof does not reach may be deleted. -/
namespace L2
open PySem PySem.Spec PyProof.Rows

/-- a key: an int or a str -/
abbrev Key := Sum Int Str
def keyIs : Key → Value → Bool
  | .inl k, v => Value.isInt k v
  | .inr x, v => Value.isStrOf x v
def keyH (w : World) : Key → Int
  | .inl k => hashInt k
  | .inr x => hashStr w x
theorem keyIs_shape : ∀ {k : Key} {v : Value}, keyIs k v = true → (∃ i t, k = Sum.inl i ∧ v = Value.int i t) ∨ (∃ x t, k = Sum.inr x ∧ v = Value.str x t)
  | .inl i, v, h => by
    obtain ⟨t, e⟩ := Value.isInt_shape (k := i) (v := v) h
    exact .inl ⟨i, t, rfl, e⟩
  | .inr x, v, h => by
    obtain ⟨t, e⟩ := Value.isStrOf_shape (x := x) (v := v) h
    exact .inr ⟨x, t, rfl, e⟩
theorem keyIs_int (i : Int) (t : Tok) : keyIs (.inl i) (.int i t) = true := by simp [keyIs, Value.isInt]
theorem keyIs_str (x : Str) (t : Tok) : keyIs (.inr x) (.str x t) = true := by simp [keyIs, Value.isStrOf]
theorem key_ll (a b : Int) : decide ((Sum.inl a : Key) = Sum.inl b) = (a == b) := by
  by_cases e : a = b
  · subst e; simp
  · have h : ¬ (Sum.inl a : Key) = Sum.inl b := fun q => e (Sum.inl.inj q)
    rw [decide_eq_false h]
    exact (beq_eq_false_iff_ne.mpr e).symm
theorem key_rr (a b : Str) : decide ((Sum.inr a : Key) = Sum.inr b) = decide (a = b) := by
  by_cases e : a = b
  · subst e; simp
  · have h : ¬ (Sum.inr a : Key) = Sum.inr b := fun q => e (Sum.inr.inj q)
    rw [decide_eq_false h, decide_eq_false e]
theorem key_lr (a : Int) (b : Str) : decide ((Sum.inl a : Key) = Sum.inr b) = false := decide_eq_false (fun q => nomatch q)
theorem key_rl (a : Str) (b : Int) : decide ((Sum.inr a : Key) = Sum.inl b) = false := decide_eq_false (fun q => nomatch q)

def mixKind (prog : Program) (w : World) : PySem.KeyKind prog w Key where
  is := keyIs
  hash := keyH w
  inj := fun v a b ha hb => by
    rcases keyIs_shape ha with ⟨i, t, rfl, rfl⟩ | ⟨x, t, rfl, rfl⟩
    · rcases keyIs_shape hb with ⟨j, u, rfl, e⟩ | ⟨y, u, rfl, e⟩
      · injection e with e1 _; rw [e1]
      · exact nomatch e
    · rcases keyIs_shape hb with ⟨j, u, rfl, e⟩ | ⟨y, u, rfl, e⟩
      · exact nomatch e
      · injection e with e1 _; rw [e1]
  byValue := fun k v h => by
    rcases keyIs_shape h with ⟨i, t, rfl, rfl⟩ | ⟨x, t, rfl, rfl⟩ <;> rfl
  pyHash := fun hv h => by
    rcases keyIs_shape hv with ⟨i, t, rfl, rfl⟩ | ⟨x, t, rfl, rfl⟩
    · exact wpAny_pyHash_int h
    · exact wpAny_pyHash_str h
  eqBool := fun hu hv h => by
    rcases keyIs_shape hu with ⟨i, t, rfl, rfl⟩ | ⟨x, t, rfl, rfl⟩
    · rcases keyIs_shape hv with ⟨j, u, rfl, rfl⟩ | ⟨y, u, rfl, rfl⟩
      · rw [key_ll] at h; exact wpAny_eqBool_int h
      · rw [key_lr] at h; exact SeqAt.EqAt.int_str i t y u _ _ _ _ h
    · rcases keyIs_shape hv with ⟨j, u, rfl, rfl⟩ | ⟨y, u, rfl, rfl⟩
      · rw [key_rl] at h; exact SeqAt.EqAt.str_int x t j u _ _ _ _ h
      · rw [key_rr] at h; exact wpAny_eqBool_str h
  «strs» := fun k x t v h => by
    rcases keyIs_shape h with ⟨i, u, rfl, e⟩ | ⟨y, u, rfl, e⟩
    · exact nomatch e
    · injection e with e1 _
      subst e1
      cases v <;> rfl

theorem mixKind_int (prog : Program) (w : World) (i : Int) (t : Tok) : (mixKind prog w).is (.inl i) (.int i t) = true := keyIs_int i t
theorem mixKind_str (prog : Program) (w : World) (x : Str) (t : Tok) : (mixKind prog w).is (.inr x) (.str x t) = true := keyIs_str x t
end L2

namespace L2
open PySem PySem.Spec PyProof.Rows

/-- a value, without the heap -/
inductive V where
  | non | bl (b : Bool) | int (i : Int) | str (x : Str) | byt (b : Array UInt8) | flt (b : UInt64) | ref (a : Addr) | ty (n : String)
  deriving DecidableEq

def RelV : V → Value → Prop
  | .non, u => u = Value.none
  | .bl b, u => u = Value.bool b
  | .int i, u => ∃ t, u = Value.int i t
  | .str x, u => ∃ t, u = Value.str x t
  | .byt b, u => ∃ t, u = Value.bytes b t
  | .flt b, u => ∃ t, u = Value.float b t
  | .ref a, u => u = Value.ref a
  | .ty n, u => u = Value.type n

abbrev Vals : List V → List Value → Prop := Paired RelV
theorem Vals.length {xs : List V} {us : List Value} (r : Vals xs us) : xs.length = us.length := Paired.length r
theorem Vals.get : ∀ {xs : List V} {us : List Value} {i : Nat} {x : V}, Vals xs us → xs[i]? = some x → ∃ u, us[i]? = some u ∧ RelV x u
  | _, _, _, _, .nil, e => by simp at e
  | _, _, 0, _, .cons r _, e => by simp at e; subst e; exact ⟨_, rfl, r⟩
  | _, _, i + 1, x, .cons _ t, e => by
    obtain ⟨u, h1, h2⟩ := Vals.get (i := i) (x := x) t (by simpa using e)
    exact ⟨u, by simpa using h1, h2⟩
theorem Vals.append : ∀ {xs ys : List V} {us ws : List Value}, Vals xs us → Vals ys ws → Vals (xs ++ ys) (us ++ ws)
  | _, _, _, _, .nil, s => s
  | _, _, _, _, .cons r t, s => .cons r (Vals.append t s)
theorem Vals.take : ∀ {xs : List V} {us : List Value} (n : Nat), Vals xs us → Vals (xs.take n) (us.take n)
  | _, _, 0, _ => .nil
  | _, _, _ + 1, .nil => .nil
  | _, _, n + 1, .cons r t => .cons r (Vals.take n t)
theorem Vals.drop : ∀ {xs : List V} {us : List Value} (n : Nat), Vals xs us → Vals (xs.drop n) (us.drop n)
  | _, _, 0, r => r
  | _, _, _ + 1, .nil => .nil
  | _, _, n + 1, .cons _ t => Vals.drop n t
def RelO : Option V → Option Value → Prop
  | some v, some u => RelV v u
  | none, none => True
  | _, _ => False
def KV {κ : Type} : List (κ × V) → List (κ × Value) → Prop := Paired fun (p : κ × V) (q : κ × Value) => p.1 = q.1 ∧ RelV p.2 q.2

/-- a key of a dict (00_mix): an int or a text -/
def kV : Key → V
  | .inl i => .int i
  | .inr x => .str x

/-- what stands at a tracked address -/
inductive HO where
  /-- a list -/
  | lst (xs : List V)
  /-- a tuple (never changes) -/
  | tup (xs : List V)
  /-- a dict whose keys are ints and texts; one whose keys are tuples of ints and texts (the empty one is both) -/
  | dK (kvs : List (Key × V)) | dT (kvs : List (List Key × V))
  /-- a set of ints: its members, its size -/
  | set (S : Int → Bool) (n : Nat)
  /-- an instance of the class at C, its dict at dx, its attributes -/
  | ins (C dx : Addr) (fs : List (Str × V))
  /-- the dict of the instance at x -/
  | own (x : Addr)
  /-- the dict of an exception -/
  | xd (fs : List (Str × V))
  /-- a bound method, f of x -/
  | met (f x : Addr)
  /-- a range object lo, lo + 1, .. below hi -/
  | rng (lo hi : Int)
  /-- a thing that is known to the object (the script; a dict while a loop walks it): read, never written while it is so -/
  | frz (o : Obj) (u : HO)
  /-- a code object's table -/
  | tbl (ps : Array Value)
  /-- any other thing, by what is true of its one object (a def of one's own: SetO a S n := HO.ext fun h => ..) -/
  | ext (φ : Heap → Prop)

abbrev Hp := Addr → Option HO
def upd (H : Hp) (a : Addr) (o : HO) : Hp := fun b => if b = a then some o else H b
theorem upd_same {H : Hp} {a : Addr} {o : HO} : upd H a o a = some o := by unfold upd; rw [if_pos rfl]
theorem upd_ne {H : Hp} {a b : Addr} {o : HO} (h : b ≠ a) : upd H a o b = H b := by unfold upd; rw [if_neg h]
theorem upd_upd {H : Hp} {a : Addr} {o u : HO} : upd (upd H a o) a u = upd H a u := by
  funext b; unfold upd; split <;> rfl
/-- two objects of different content stand apart -/
theorem ne_of {H : Hp} {a b : Addr} {o u : HO} (h : H a = some o) (h' : H b = some u) (d : o ≠ u) : a ≠ b := by
  intro e; subst e; rw [h] at h'; exact d (Option.some.inj h')
theorem ne_of_none {H : Hp} {a b : Addr} {o : HO} (h : H a = some o) (h' : H b = none) : a ≠ b := by
  intro e; subst e; rw [h] at h'; cases h'

section
variable (P : Program) (w : World)
def ObjOk (H : Hp) (h : Heap) (a : Addr) : HO → Prop
  | .lst xs => xs.length ≤ sizeLine ∧ ∃ (its : List Value) (n : Nat), Vals xs its ∧ h.get? a = some { cls := .type "list", data := .seq its.toArray n }
  | .tup xs => xs.length ≤ sizeLine ∧ ∃ its : List Value, Vals xs its ∧ IsTup h a its.toArray
  | .dK kvs => kvs.length ≤ sizeLine ∧ (a == sysModules) = false ∧ ∃ vs, KV kvs vs ∧ h.DictOf (mixKind P w) a vs
  | .dT kvs => kvs.length ≤ sizeLine ∧ (a == sysModules) = false ∧ ∃ xs : List (List Key × Addr × Value),
      Paired (fun (p : List Key × V) (q : List Key × Addr × Value) => p.1 = q.1 ∧ H q.2.1 = some (.tup (p.1.map kV)) ∧ RelV p.2 q.2.2) kvs xs ∧
      ∃ o es ep, h.get? a = some o ∧ o.ExactDict ∧ o.data = .dict es ep ∧ es.toList = xs.map (entryOfKey (tupleKind (mixKind P w))) ∧ (xs.map (·.1)).Nodup
  | .set S n => h.SetOf (intKind P w) a S n
  | .ins C dx fs => H dx = some (.own a) ∧ fs.length ≤ 1000 ∧ dx ≠ a ∧ h.get? a = some (PySem.W.instObj C dx) ∧
      ∃ mA, h.Ns1 dx mA ∧ (∀ f, RelO (fs.lookup f) (mA f)) ∧ PySem.Within mA (fs.map (·.1))
  | .own _ => ∃ o, h.get? a = some o
  | .xd fs => ∃ mA, h.Ns1 a mA ∧ ∀ f, RelO (fs.lookup f) (mA f)
  | .rng lo hi => ∃ t u v, h.get? a = some { cls := .type "range", data := .fields #[.int lo t, .int hi u, .int 1 v] }
  | .frz o u => h.get? a = some o ∧ ObjOk H h a u
  | .tbl ps => h.get? a = some { cls := .none, data := .fields ps }
  | .met f x => h.get? a = some (PySem.W.methodObj (.ref f) (.ref x))
  | .ext φ => φ h ∧ (∃ o, h.get? a = some o) ∧ ∀ h1 h2 : Heap, φ h1 → (∀ o, h1.get? a = some o → h2.get? a = some o) → φ h2
/-- the abstract heap is held -/
def HOk (H : Hp) (h : Heap) : Prop := ∀ a o, H a = some o → ObjOk P w H h a o
end

section
variable {P : Program} {w : World} {H H' : Hp} {h h' : Heap} {a : Addr} {o : HO}
theorem ObjOk.lt (x : ObjOk P w H h a o) : a < h.objs.size := by
  cases o with
  | lst xs => obtain ⟨_, _, _, _, e⟩ := x; exact Heap.lt_size e
  | tup xs => obtain ⟨_, _, _, p⟩ := x; exact p.lt
  | dK kvs => obtain ⟨_, _, _, _, o, _, _, e, _⟩ := x; exact Heap.lt_size e
  | dT kvs => obtain ⟨_, _, _, _, o, _, _, e, _⟩ := x; exact Heap.lt_size e
  | set S n => obtain ⟨o, _, _, _, e, _⟩ := x; exact Heap.lt_size e
  | ins C dx fs => obtain ⟨_, _, _, e, _⟩ := x; exact Heap.lt_size e
  | own y => obtain ⟨_, e⟩ := x; exact Heap.lt_size e
  | xd fs => obtain ⟨_, ⟨_, _, _, e, _⟩, _⟩ := x; exact Heap.lt_size e
  | rng lo hi => obtain ⟨_, _, _, e⟩ := x; exact Heap.lt_size e
  | frz ob u => obtain ⟨e, _⟩ := x; exact Heap.lt_size e
  | tbl ps => exact Heap.lt_size (show h.get? a = some _ from x)
  | met f y => exact Heap.lt_size (show h.get? a = some _ from x)
  | ext φ => obtain ⟨_, ⟨_, e⟩, _⟩ := x; exact Heap.lt_size e
theorem Paired.mapP {α β : Type} {F G : α → β → Prop} : ∀ {l₁ : List α} {l₂ : List β}, Paired F l₁ l₂ → (∀ a b, F a b → G a b) → Paired G l₁ l₂
  | _, _, .nil, _ => .nil
  | _, _, .cons r t, f => .cons (f _ _ r) (Paired.mapP t f)
/-- what an object's description leans on: its own object, its own dict, the tuples -/
theorem ObjOk.stay (x : ObjOk P w H h a o) (k : ∀ b u, (b = a ∨ H b = some (.own a)) → h.get? b = some u → h'.get? b = some u)
    (ho : ∀ b, H b = some (.own a) → H' b = some (.own a)) (ht : ∀ b xs, H b = some (.tup xs) → H' b = some (.tup xs)) : ObjOk P w H' h' a o := by
  induction o with
  | lst xs => obtain ⟨z, its, n, r, e⟩ := x; exact ⟨z, its, n, r, k _ _ (.inl rfl) e⟩
  | tup xs => obtain ⟨z, its, r, ob, e, c⟩ := x; exact ⟨z, its, r, ob, k _ _ (.inl rfl) e, c⟩
  | dK kvs => obtain ⟨z, y, vs, r, ob, es, ep, e, c⟩ := x; exact ⟨z, y, vs, r, ob, es, ep, k _ _ (.inl rfl) e, c⟩
  | dT kvs =>
    obtain ⟨z, y, xs, r, ob, es, ep, e, c⟩ := x
    exact ⟨z, y, xs, Paired.mapP r fun p q z => ⟨z.1, ht _ _ z.2.1, z.2.2⟩, ob, es, ep, k _ _ (.inl rfl) e, c⟩
  | set S n => obtain ⟨ob, es, ep, t, e, c⟩ := x; exact ⟨ob, es, ep, t, k _ _ (.inl rfl) e, c⟩
  | ins C dx fs =>
    obtain ⟨d, z, ne, e, mA, ⟨od, es, ep, e2, c⟩, r⟩ := x
    exact ⟨ho _ d, z, ne, k _ _ (.inl rfl) e, mA, ⟨od, es, ep, k _ _ (.inr d) e2, c⟩, r⟩
  | own y => obtain ⟨ob, e⟩ := x; exact ⟨ob, k _ _ (.inl rfl) e⟩
  | xd fs => obtain ⟨mA, ⟨od, es, ep, e, c⟩, r⟩ := x; exact ⟨mA, ⟨od, es, ep, k _ _ (.inl rfl) e, c⟩, r⟩
  | rng lo hi => obtain ⟨t, u, v, e⟩ := x; exact ⟨t, u, v, k _ _ (.inl rfl) e⟩
  | frz ob u ih => obtain ⟨e, q⟩ := x; exact ⟨k _ _ (.inl rfl) e, ih q⟩
  | tbl ps =>
    have e : h.get? a = some { cls := .none, data := .fields ps } := x
    show h'.get? a = some { cls := .none, data := .fields ps }
    exact k a _ (.inl rfl) e
  | met f y =>
    have e : h.get? a = some (PySem.W.methodObj (.ref f) (.ref y)) := x
    show h'.get? a = some (PySem.W.methodObj (.ref f) (.ref y))
    exact k a _ (.inl rfl) e
  | ext φ => obtain ⟨p, ⟨o, e⟩, st⟩ := x; exact ⟨st _ _ p fun o q => k _ _ (.inl rfl) q, ⟨o, k _ _ (.inl rfl) e⟩, st⟩
theorem HOk.lt (x : HOk P w H h) (e : H a = some o) : a < h.objs.size := (x a o e).lt
theorem HOk.fresh (x : HOk P w H h) (e : h.objs.size ≤ a) : H a = none := by
  cases q : H a with
  | none => rfl
  | some u => exact absurd (Nat.lt_of_lt_of_le (x.lt q) e) (Nat.lt_irrefl _)
/-- every object of the heap is kept -/
theorem HOk.kept (x : HOk P w H h) (k : ∀ b u, h.get? b = some u → h'.get? b = some u) : HOk P w H h' := fun a o e =>
  (x a o e).stay (fun b u _ q => k b u q) (fun _ q => q) fun _ _ q => q
/-- a new object is laid and tracked -/
theorem HOk.laid (x : HOk P w H h) (k : ∀ b u, h.get? b = some u → h'.get? b = some u) (hp : h.objs.size ≤ a) (new : ObjOk P w (upd H a o) h' a o) : HOk P w (upd H a o) h' := fun b u e => by
  have hn := x.fresh hp
  by_cases hb : b = a
  · subst hb; rw [upd_same] at e; cases e; exact new
  · rw [upd_ne hb] at e
    exact (x b u e).stay (fun c v _ q => k c v q) (fun c q => by rw [upd_ne (ne_of_none q hn)]; exact q) fun c xs q => by rw [upd_ne (ne_of_none q hn)]; exact q
end

/-- what may be read as u: it is u, or a known u -/
def Rd (H : Hp) (a : Addr) (u : HO) : Prop := H a = some u ∨ ∃ o, H a = some (.frz o u)
theorem Rd.ok {P : Program} {w : World} {H : Hp} {h : Heap} {a : Addr} {u : HO} (r : Rd H a u) (x : HOk P w H h) : ObjOk P w H h a u := by
  rcases r with r | ⟨o, r⟩
  · exact x a u r
  · obtain ⟨_, q⟩ := x a _ r
    exact q
/-- what may be written -/
def Mut : Option HO → Prop
  | some (.lst _) => True
  | some (.dK _) => True
  | some (.dT _) => True
  | some (.set _ _) => True
  | some (.ins _ _ _) => True
  | some (.ext _) => True
  | _ => False
section
variable {P : Program} {w : World} {H : Hp} {h h' : Heap} {x e : Addr} {o' : HO}
/-- the object at e is changed: x itself, or the dict of the instance x -/
theorem HOk.write (ok : HOk P w H h) (mu : Mut (H x)) (he : e = x ∨ H e = some (.own x)) (k : ∀ b u, b ≠ e → h.get? b = some u → h'.get? b = some u) (heo : ∃ u, h'.get? e = some u)
    (new : ObjOk P w (upd H x o') h' x o') : HOk P w (upd H x o') h' := fun b u q => by
  have nown : ∀ c y, H c = some (.own y) → c ≠ x := fun c y r z => by subst z; rw [r] at mu; exact mu
  have ntup : ∀ c xs, H c = some (.tup xs) → c ≠ x := fun c xs r z => by subst z; rw [r] at mu; exact mu
  by_cases hb : b = x
  · subst hb; rw [upd_same] at q; cases q; exact new
  · rw [upd_ne hb] at q
    by_cases hbe : b = e
    · have q' : H b = some (.own x) := by
        rcases he with z | z
        · exact absurd (hbe.trans z) hb
        · rw [hbe]; exact z
      rw [q] at q'; cases q'
      obtain ⟨v, hv⟩ := heo
      exact ⟨v, by rw [hbe]; exact hv⟩
    · refine (ok b u q).stay (fun c v hc r => k c v ?_ r) (fun c r => by rw [upd_ne (nown c b r)]; exact r) fun c xs r => by rw [upd_ne (ntup c xs r)]; exact r
      rcases hc with rfl | hc
      · exact hbe
      · rintro rfl
        rcases he with z | z
        · exact nown c b hc z
        · rw [hc] at z; cases z; exact hb rfl
end

/-! ### kept unless tracked; of the frames at fs (the callers') the slots may change (an exception that passes writes there); of the records at ex (iterators) nothing is said -/
structure Un (fs ex : List Addr) (H H' : Hp) (h h' : Heap) : Prop where
  keep : ∀ b o, h.get? b = some o → H b = none → b ∉ fs → b ∉ ex → h'.get? b = some o
  slot : ∀ b o, h.get? b = some o → H b = none → b ∈ fs → b ∉ ex → ∃ sl, h'.get? b = some { o with slots := sl }
  free : ∀ b o, h.get? b = some o → H b = none → b ∉ ex → H' b = none
  there : ∀ b o, h.get? b = some o → b ∉ ex → ∃ o', h'.get? b = some o'
  tups : ∀ b xs, H b = some (.tup xs) → H' b = some (.tup xs)
  frzs : ∀ b o u, H b = some (.frz o u) → H' b = some (.frz o u)
  tbls : ∀ b ps, H b = some (.tbl ps) → ∃ more, H' b = some (.tbl (ps ++ more))
section
variable {fs fs' ex ex' : List Addr} {H H1 H2 : Hp} {h h1 h2 h' : Heap} {a x e : Addr} {o : HO}
theorem Un.any (u : Un fs ex H H1 h h1) {b : Addr} {ob : Obj} (q : h.get? b = some ob) (n : H b = none) (hx : b ∉ ex) : ∃ sl, h1.get? b = some { ob with slots := sl } := by
  by_cases hb : b ∈ fs
  · exact u.slot b ob q n hb hx
  · exact ⟨ob.slots, u.keep b ob q n hb hx⟩
theorem Un.kept (k : ∀ b u, h.get? b = some u → h'.get? b = some u) : Un fs ex H H h h' :=
  ⟨fun b ob q _ _ _ => k b ob q, fun b ob q _ _ _ => ⟨ob.slots, k b ob q⟩, fun _ _ _ n _ => n, fun b ob q _ => ⟨ob, k b ob q⟩, fun _ _ q => q, fun _ _ _ q => q, fun _ ps q => ⟨#[], by rw [q]; simp⟩⟩
theorem Un.refl : Un fs ex H H h h := Un.kept fun _ _ q => q
theorem Un.laid (k : ∀ b u, h.get? b = some u → h'.get? b = some u) (hp : h.objs.size ≤ a) (hn : H a = none) : Un fs ex H (upd H a o) h h' where
  keep := fun b u q _ _ _ => k b u q
  slot := fun b u q _ _ _ => ⟨u.slots, k b u q⟩
  free := fun b u q n _ => by rw [upd_ne (Nat.ne_of_lt (Nat.lt_of_lt_of_le (Heap.lt_size q) hp))]; exact n
  there := fun b u q _ => ⟨u, k b u q⟩
  tups := fun b xs q => by rw [upd_ne (ne_of_none q hn)]; exact q
  frzs := fun b u xs q => by rw [upd_ne (ne_of_none q hn)]; exact q
  tbls := fun b ps q => ⟨#[], by rw [upd_ne (ne_of_none q hn), q]; simp⟩
theorem Un.write (mu : Mut (H x)) (he : e = x ∨ H e = some (.own x)) (k : ∀ b u, b ≠ e → h.get? b = some u → h'.get? b = some u) (heo : ∃ u, h'.get? e = some u) : Un fs ex H (upd H x o) h h' := by
  have hx : ∀ b, H b = none → b ≠ x := fun b n z => by subst z; rw [n] at mu; exact mu
  have hb : ∀ b, H b = none → b ≠ e := fun b n z => by
    subst z
    rcases he with r | r
    · exact hx b n r
    · rw [n] at r; cases r
  have hm : ∀ b u, H b = some u → ¬ Mut (some u) → b ≠ x := fun b u q nm z => by subst z; rw [q] at mu; exact nm mu
  refine ⟨fun b u q n _ _ => k b u (hb b n) q, fun b u q n _ _ => ⟨u.slots, k b u (hb b n) q⟩, fun b u q n _ => by rw [upd_ne (hx b n)]; exact n, fun b u q _ => ?_,
    fun b xs q => by rw [upd_ne (hm b _ q fun z => z)]; exact q, fun b u xs q => by rw [upd_ne (hm b _ q fun z => z)]; exact q, fun b ps q => ⟨#[], by rw [upd_ne (hm b _ q fun z => z), q]; simp⟩⟩
  by_cases hbe : b = e
  · subst hbe; exact heo
  · exact ⟨u, k b u hbe q⟩
end

/-! ### the heap without what is tracked -/
def trk (h : Heap) (H : Hp) : List Addr := (List.range h.objs.size).filter fun a => (H a).isSome
def hidT (h : Heap) (H : Hp) : Heap := PySem.W.hideAll h (trk h H)
theorem hidT_size (h : Heap) (H : Hp) : (hidT h H).objs.size = h.objs.size := PySem.W.hideAll_size _ _
theorem hidT_get {h : Heap} {H : Hp} {b : Addr} {o : Obj} (e : h.get? b = some o) (n : H b = none) : (hidT h H).get? b = some o :=
  PySem.W.hideAll_get _ e fun hm => by
    have q : (H b).isSome = true := (List.mem_filter.mp hm).2
    rw [n] at q; simp at q
theorem of_hidT {h : Heap} {H : Hp} {b : Addr} {o : Obj} (e : (hidT h H).get? b = some o) : h.get? b = some o ∧ H b = none := by
  have e' : h.get? b = some o := PySem.W.of_hideAll (trk h H) e
  refine ⟨e', ?_⟩
  cases q : H b with
  | none => rfl
  | some x =>
    have hm : b ∈ trk h H := List.mem_filter.mpr ⟨List.mem_range.mpr (Heap.lt_size e'), by simp [q]⟩
    have z : (hidT h H).get? b = none := PySem.W.hideAll_none (trk h H) hm
    rw [z] at e; cases e

/-! ### OpenK's ledger, filled with every new object but one -/
end L2

namespace L2
open PySem PySem.Spec PyProof.Rows

/-- the module's facts, over the base: the heap at the law's entry without what is tracked there -/
structure Mod (K : PySem.W.Frag) (mg : Str → Option Value) (base : Heap) : Prop where
  kin : K.In base
  glob : base.Ns mainGlobals mg
  blt : ∃ mb, base.Ns builtinsNs mb ∧ ∀ x : Str, x ≠ "__name__" → mb x = bootBuiltins x
  nolimit : base.NoLimit

/-- the context: a def's body (or a comprehension's block) running. base: fixed through the whole law; s₀, H₀: the entry; outer: the frames whose slots others may change (a def's callers); stack: all frames that run;
   ex: iterators that were made ahead of the entry and are walked here (a comprehension's); fn: the names whose cells were made at the entry (a def: all; a comprehension's block: its own); calm: not within an except suite; pn: pins that every state bears; xe: what is wanted of an exception that leaves the code -/
structure Cx where
  prog : Program
  w : World
  K : PySem.W.Frag
  mg : Str → Option Value
  base : Heap
  A : Around
  N : List Str
  s_0 : Shared
  H_0 : Hp
  env : Env
  outer : List Env
  stack : List Env
  ex : List Addr
  fn : Str → Bool
  calm : Bool
  pn : List (Addr × Obj)
  xe : Value → Shared → Prop
/-- the callers' frames -/
def frs (l : List Env) : List Addr := l.filterMap (·.frame)
abbrev Cx.fs (X : Cx) : List Addr := frs X.outer

def Vis (sc : Scope) (x : Str) : Prop := sc.names.lookup x = some .local ∨ sc.names.lookup x = some .cell ∨ sc.names.lookup x = some .free
def Loc (sc : Scope) (x : Str) : Prop := sc.names.lookup x = some .local ∨ sc.names.lookup x = some .cell
def Look (env : Env) (h : Heap) (m : Str → Option Value) (x : Str) (u : Value) : Prop :=
  (env.kindOf x = some .local ∧ m x = some u) ∨ ((env.kindOf x = some .cell ∨ env.kindOf x = some .free) ∧ ∃ c, env.cells.lookup x = some c ∧ h.IsCell c (some u))

structure Cx.Ok (X : Cx) : Prop where
  mod : Mod X.K X.mg X.base
  kind : X.env.scope.kind = .function
  glob : X.env.globals = mainGlobals
  blt : X.env.builtins = builtinsNs
  above : X.s_0.heap.objs.size ≤ X.env.locals
  inj : ∀ x y c, X.env.cells.lookup x = some c → X.env.cells.lookup y = some c → x = y
  has : ∀ x, (X.env.kindOf x = some .cell ∨ X.env.kindOf x = some .free) → ∃ c, X.env.cells.lookup x = some c
  cab : ∀ x c, X.fn x = true → X.env.cells.lookup x = some c → X.s_0.heap.objs.size ≤ c
  hd : X.calm = true → X.A.handled = none
  frames : X.A.frames = some X.stack
  stk : X.stack = X.outer ∨ (X.stack = X.env :: X.outer ∧ X.env.frame = some X.env.locals)
  exf : ∀ b ∈ X.ex, b ≠ X.env.locals ∧ ∀ x c, X.env.cells.lookup x = some c → c ≠ b
  bs : ∀ b o, X.base.get? b = some o → X.s_0.heap.get? b = some o ∧ X.H_0 b = none
  bsz : X.base.objs.size ≤ X.s_0.heap.objs.size
  noex : ∀ b o, X.base.get? b = some o → b ∉ X.ex
  exfs : ∀ b ∈ X.ex, b ∉ X.fs
  funs : X.s_0.heap.FunFrames X.base X.outer
  frf : ∀ b ∈ X.fs, X.H_0 b = none

structure Inv (X : Cx) (pins : List (Addr × Obj)) (σ : List (Option V)) (H : Hp) (s : Shared) : Prop where
  ok : X.Ok
  os : s.os = X.s_0.os
  bare : AllBare s.gens
  base : Un X.fs X.ex X.H_0 H X.s_0.heap s.heap
  loc : ∃ m, s.heap.Ns X.env.locals m ∧ ∀ (i : Nat) (x : Str) (v : V), X.N[i]? = some x → σ[i]? = some (some v) → Vis X.env.scope x → ∃ u, RelV v u ∧ Look X.env s.heap m x u
  cell : ∀ x c, X.env.cells.lookup x = some c → ∃ v, s.heap.IsCell c v
  free : H X.env.locals = none
  freeC : ∀ x c, X.env.cells.lookup x = some c → H c = none
  pin : ∀ p ∈ X.pn ++ pins, s.heap.get? p.1 = some p.2 ∧ H p.1 = none ∧ p.1 ≠ X.env.locals ∧ p.1 ∉ X.fs ∧ ∀ v, p.2.data ≠ .cell v
  hok : HOk X.prog X.w H s.heap
  len : σ.length = X.N.length

section
variable {X : Cx} {pins : List (Addr × Obj)} {σ : List (Option V)} {H H' : Hp} {s : Shared} {h' : Heap}

theorem Cx.Ok.nofr (ok : X.Ok) {b : Addr} {o : Obj} (e : X.base.get? b = some o) : b ∉ X.fs := fun hb => by
  have := (ok.funs.mem hb).1
  rw [e] at this; cases this
theorem Inv.bs (I : Inv X pins σ H s) : ∀ b o, X.base.get? b = some o → s.heap.get? b = some o ∧ H b = none := fun b o e =>
  ⟨I.base.keep b o (I.ok.bs b o e).1 (I.ok.bs b o e).2 (I.ok.nofr e) (I.ok.noex b o e), I.base.free b o (I.ok.bs b o e).1 (I.ok.bs b o e).2 (I.ok.noex b o e)⟩
theorem Inv.bk (I : Inv X pins σ H s) : ∀ b o, X.base.get? b = some o → s.heap.get? b = some o := fun b o e => (I.bs b o e).1
theorem Inv.mod (I : Inv X pins σ H s) : Mod X.K X.mg X.base := I.ok.mod
theorem Inv.kIn (I : Inv X pins σ H s) : X.K.In s.heap := I.ok.mod.kin.keeps I.bk
/-- the frame over the base: for OpenK's rules (K.In X.base is I.mod.kin) -/
theorem Inv.fr (I : Inv X pins σ H s) : ∃ m, Fr X.base X.env.locals s.heap m :=
  let ⟨m, hn, _⟩ := I.loc
  ⟨m, hn, I.bk, Nat.le_trans I.ok.bsz I.ok.above⟩
theorem Inv.lt (I : Inv X pins σ H s) : X.env.locals < s.heap.objs.size := let ⟨_, hn, _⟩ := I.loc; hn.lt
theorem Inv.sz (I : Inv X pins σ H s) : X.s_0.heap.objs.size ≤ s.heap.objs.size := Nat.le_trans I.ok.above (Nat.le_of_lt I.lt)
theorem Inv.nofs (I : Inv X pins σ H s) {a : Addr} (h : s.heap.objs.size ≤ a) : a ∉ X.fs := fun hb => by
  obtain ⟨_, o, ho, _⟩ := I.ok.funs.mem hb
  exact absurd (Nat.lt_of_lt_of_le (Heap.lt_size ho) (Nat.le_trans I.sz h)) (Nat.lt_irrefl _)
theorem Inv.cne (I : Inv X pins σ H s) : ∀ x c, X.env.cells.lookup x = some c → c ≠ X.env.locals := fun x c e z => by
  obtain ⟨v, o, ho, hd⟩ := I.cell x c e
  obtain ⟨m, ⟨o', es, ep, ho', hd', _⟩, _⟩ := I.loc
  rw [z, ho'] at ho; cases ho; rw [hd'] at hd; cases hd
theorem Inv.funs (I : Inv X pins σ H s) : s.heap.FunFrames X.base X.outer := by
  have all : ∀ (l : List Env), (∀ b ∈ frs l, b ∈ X.fs) → X.s_0.heap.FunFrames X.base l → s.heap.FunFrames X.base l := by
    intro l
    induction l with
    | nil => intro _ _; trivial
    | cons env r ih =>
      intro hs hl
      obtain ⟨hk, ⟨L, o, hf, hn, ho, hd⟩, hr⟩ := hl
      have hL : L ∈ X.fs := hs L (by unfold frs; rw [List.filterMap_cons, hf]; exact List.mem_cons_self)
      obtain ⟨sl, e⟩ := I.base.slot L o ho (I.ok.frf L hL) hL fun z => I.ok.exfs L z hL
      exact ⟨hk, ⟨L, _, hf, hn, e, hd⟩, ih (fun b hb => hs b (by unfold frs; rw [List.filterMap_cons, hf]; exact List.mem_cons_of_mem _ hb)) hr⟩
  exact all X.outer (fun _ hb => hb) I.ok.funs

/-- the frames that run, for a call -/
theorem Inv.stack (I : Inv X pins σ H s) : s.heap.FunFrames X.base X.stack := by
  rcases I.ok.stk with e | ⟨e, hf⟩
  · rw [e]; exact I.funs
  · rw [e]
    obtain ⟨m, hn, _⟩ := I.loc
    refine .cons (by rw [I.ok.kind]; decide) hf hn ?_ I.funs
    exact Heap.get?_none_of_le (Nat.le_trans I.ok.bsz I.ok.above)
theorem Inv.stkSub (I : Inv X pins σ H s) : ∀ b ∈ frs X.stack, b ∈ X.env.locals :: X.fs := fun b hb => by
  rcases I.ok.stk with e | ⟨e, hf⟩
  · rw [e] at hb; exact List.mem_cons_of_mem _ hb
  · rw [e] at hb
    unfold frs at hb
    rw [List.filterMap_cons, hf] at hb
    exact hb
theorem Inv.stkFree (I : Inv X pins σ H s) : ∀ b ∈ frs X.stack, H b = none := fun b hb => by
  rcases List.mem_cons.mp (I.stkSub b hb) with e | hb
  · rw [e]; exact I.free
  · obtain ⟨_, o, ho, _⟩ := I.ok.funs.mem hb
    exact I.base.free b o ho (I.ok.frf b hb) fun z => I.ok.exfs b z hb

/-- THE STEP: the untracked objects but the frame and the records at ch are kept (the callers' frames up to slots), the frame's map is kept, the new abstract heap is held -/
theorem Inv.step {g' : Array GenState} {t' : Nat} {d' : Drawn} {ch : List Addr} (I : Inv X pins σ H s)
    (hch : ∀ b ∈ ch, (b ∈ X.ex ∨ X.s_0.heap.objs.size ≤ b) ∧ b ≠ X.env.locals ∧ (∀ x c, X.env.cells.lookup x = some c → c ≠ b) ∧ ∀ p ∈ X.pn ++ pins, p.1 ≠ b)
    (keep : ∀ b o, b ≠ X.env.locals → b ∉ X.fs → b ∉ ch → s.heap.get? b = some o → H b = none → h'.get? b = some o)
    (slot : ∀ b o, b ≠ X.env.locals → b ∈ X.fs → b ∉ ch → s.heap.get? b = some o → H b = none → ∃ sl, h'.get? b = some { o with slots := sl }) (free : ∀ b o, b ∉ ch → s.heap.get? b = some o → H b = none → H' b = none)
    (there : ∀ b o, b ∉ ch → s.heap.get? b = some o → ∃ o', h'.get? b = some o')
    (tups : ∀ b xs, H b = some (.tup xs) → H' b = some (.tup xs)) (frzs : ∀ b o u, H b = some (.frz o u) → H' b = some (.frz o u)) (tbls : ∀ b ps, H b = some (.tbl ps) → ∃ more, H' b = some (.tbl (ps ++ more)))
    (ns : ∀ m, s.heap.Ns X.env.locals m → h'.Ns X.env.locals m) (hok : HOk X.prog X.w H' h') (hg : AllBare g') :
    Inv X pins σ H' { s with heap := h', gens := g', drawn := d', toks := t' } := by
  have neL : ∀ b o, X.s_0.heap.get? b = some o → b ≠ X.env.locals := fun b o e => Nat.ne_of_lt (Nat.lt_of_lt_of_le (Heap.lt_size e) I.ok.above)
  have neC : ∀ b o, X.s_0.heap.get? b = some o → b ∉ X.ex → b ∉ ch := fun b o e hx hb => by
    rcases (hch b hb).1 with z | z
    · exact hx z
    · exact absurd (Nat.lt_of_lt_of_le (Heap.lt_size e) z) (Nat.lt_irrefl _)
  have cellK : ∀ x c, X.env.cells.lookup x = some c → ∀ v, s.heap.IsCell c v → h'.IsCell c v := fun x c e v ⟨o, ho, hd⟩ => by
    have nch : c ∉ ch := fun z => (hch c z).2.2.1 x c e rfl
    by_cases hc : c ∈ X.fs
    · obtain ⟨sl, q⟩ := slot c o (I.cne x c e) hc nch ho (I.freeC x c e)
      exact ⟨_, q, hd⟩
    · exact ⟨o, keep c o (I.cne x c e) hc nch ho (I.freeC x c e), hd⟩
  refine ⟨I.ok, I.os, hg, ⟨fun b o e n hb hx => ?_, fun b o e n hb hx => ?_, fun b o e n hx => ?_, fun b o e hx => ?_, fun b xs e => tups b xs (I.base.tups b xs e), fun b o xs e => frzs b o xs (I.base.frzs b o xs e), fun b ps e => ?_⟩, ?_, fun x c e => ?_, ?_, fun x c e => ?_, fun p hp => ?_, hok, I.len⟩
  · exact keep b o (neL b o e) hb (neC b o e hx) (I.base.keep b o e n hb hx) (I.base.free b o e n hx)
  · obtain ⟨sl, e1⟩ := I.base.slot b o e n hb hx
    obtain ⟨sl', e2⟩ := slot b _ (neL b o e) hb (neC b o e hx) e1 (I.base.free b o e n hx)
    exact ⟨sl', e2⟩
  · obtain ⟨o', e1⟩ := I.base.there b o e hx
    exact free b o' (neC b o e hx) e1 (I.base.free b o e n hx)
  · obtain ⟨o', e1⟩ := I.base.there b o e hx
    exact there b o' (neC b o e hx) e1
  · obtain ⟨m1, e1⟩ := I.base.tbls b ps e
    obtain ⟨m2, e2⟩ := tbls b _ e1
    exact ⟨m1 ++ m2, by rw [e2, Array.append_assoc]⟩
  · obtain ⟨m, hn, hl⟩ := I.loc
    refine ⟨m, ns m hn, fun i x v e1 e2 e3 => ?_⟩
    obtain ⟨u, r, l⟩ := hl i x v e1 e2 e3
    refine ⟨u, r, ?_⟩
    rcases l with l | ⟨k, c, e, z⟩
    · exact .inl l
    · exact .inr ⟨k, c, e, cellK x c e _ z⟩
  · obtain ⟨v, z⟩ := I.cell x c e
    exact ⟨v, cellK x c e v z⟩
  · obtain ⟨m, ⟨o, _, _, ho, _⟩, _⟩ := I.loc
    exact free _ o (fun z => (hch _ z).2.1 rfl) ho I.free
  · obtain ⟨v, o, ho, hd⟩ := I.cell x c e
    exact free c o (fun z => (hch c z).2.2.1 x c e rfl) ho (I.freeC x c e)
  · obtain ⟨e, n, ne, nf, d⟩ := I.pin p hp
    have nch : p.1 ∉ ch := fun z => (hch p.1 z).2.2.2 p hp rfl
    exact ⟨keep p.1 p.2 ne nf nch e n, free p.1 p.2 nch e n, ne, nf, d⟩
/-- .. where the frame's own object is kept too -/
theorem Inv.un {t' : Nat} (I : Inv X pins σ H s) (u : Un X.fs [] H H' s.heap h') (hok : HOk X.prog X.w H' h') : Inv X pins σ H' { s with heap := h', toks := t' } := by
  obtain ⟨m, ⟨o, es, ep, ho, r⟩, _⟩ := id I.loc
  obtain ⟨sl, hL⟩ := u.any ho I.free (by simp)
  exact I.step (g' := s.gens) (d' := s.drawn) (ch := []) (fun _ z => nomatch z) (fun b o _ hb _ e n => u.keep b o e n hb (by simp)) (fun b o _ hb _ e n => u.slot b o e n hb (by simp)) (fun b o _ e n => u.free b o e n (by simp)) (fun b o _ e => u.there b o e (by simp)) u.tups u.frzs u.tbls (fun m' hm => by
    obtain ⟨o', es', ep', ho', r'⟩ := hm
    rw [ho] at ho'; cases ho'
    exact ⟨_, es', ep', hL, r'⟩) hok I.bare
/-- behind a call (or a comprehension's block): the slots of this frame may have changed too, the records at ch may have turned -/
theorem Inv.call {g' : Array GenState} {t' : Nat} {d' : Drawn} {ch : List Addr} (I : Inv X pins σ H s) (u : Un (frs X.stack) ch H H' s.heap h') (hok : HOk X.prog X.w H' h') (hg : AllBare g')
    (hch : ∀ b ∈ ch, (b ∈ X.ex ∨ X.s_0.heap.objs.size ≤ b) ∧ b ≠ X.env.locals ∧ (∀ x c, X.env.cells.lookup x = some c → c ≠ b) ∧ ∀ p ∈ X.pn ++ pins, p.1 ≠ b) :
    Inv X pins σ H' { s with heap := h', gens := g', drawn := d', toks := t' } := by
  obtain ⟨m, ⟨o, es, ep, ho, r⟩, _⟩ := id I.loc
  obtain ⟨sl, hL⟩ := u.any ho I.free fun z => (hch _ z).2.1 rfl
  exact I.step (ch := ch) hch (fun b o hL hb hc e n => u.keep b o e n (fun z => (List.mem_cons.mp (I.stkSub b z)).elim hL hb) hc) (fun b o _ _ hc e n => u.any e n hc) (fun b o hc e n => u.free b o e n hc) (fun b o hc e => u.there b o e hc) u.tups u.frzs u.tbls (fun m' hm => by
    obtain ⟨o', es', ep', ho', r'⟩ := hm
    rw [ho] at ho'; cases ho'
    exact ⟨_, es', ep', hL, r'⟩) hok hg
/-- an untracked record of ours (an iterator) has turned -/
theorem Inv.turned {t' : Nat} {it : Addr} (I : Inv X pins σ H s) (k : ∀ b o, b ≠ it → s.heap.get? b = some o → h'.get? b = some o) (hn : H it = none) (hL : it ≠ X.env.locals)
    (h1 : it ∈ X.ex ∨ X.s_0.heap.objs.size ≤ it) (h2 : ∀ x c, X.env.cells.lookup x = some c → c ≠ it) (h3 : ∀ p ∈ X.pn ++ pins, p.1 ≠ it) : Inv X pins σ H { s with heap := h', toks := t' } := by
  have nit : ∀ b u, H b = some u → b ≠ it := fun b u e z => by rw [z, hn] at e; cases e
  refine I.step (g' := s.gens) (d' := s.drawn) (ch := [it]) (fun b hb => ?_) (fun b o _ _ hc e _ => k b o (fun z => hc (by simp [z])) e) (fun b o _ _ hc e _ => ⟨o.slots, k b o (fun z => hc (by simp [z])) e⟩) (fun _ _ _ _ n => n)
    (fun b o hc e => ⟨o, k b o (fun z => hc (by simp [z])) e⟩) (fun _ _ e => e) (fun _ _ _ e => e) (fun b ps e => ⟨#[], by rw [e]; simp⟩) (fun m hm => ?_) (fun b u e => ?_) I.bare
  · have e : b = it := by simpa using hb
    subst e
    exact ⟨h1, hL, h2, h3⟩
  · obtain ⟨o, es, ep, ho, r⟩ := hm
    exact ⟨o, es, ep, k _ o (Ne.symm hL) ho, r⟩
  · refine (I.hok b u e).stay (fun c v hc q => k c v ?_ q) (fun _ q => q) fun _ _ q => q
    rcases hc with z | z
    · rw [z]; exact nit b u e
    · exact nit c _ z
theorem Inv.tok (I : Inv X pins σ H s) (t : Nat) : Inv X pins σ H { s with toks := t } := I.un (h' := s.heap) (t' := t) Un.refl I.hok
/-- all objects kept -/
theorem Inv.kept {t' : Nat} (I : Inv X pins σ H s) (k : ∀ b u, s.heap.get? b = some u → h'.get? b = some u) : Inv X pins σ H { s with heap := h', toks := t' } := I.un (Un.kept k) (I.hok.kept k)
/-- a new object laid and tracked -/
theorem Inv.laid {a : Addr} {o : HO} {t' : Nat} (I : Inv X pins σ H s) (k : ∀ b u, s.heap.get? b = some u → h'.get? b = some u) (hp : s.heap.objs.size ≤ a) (new : ObjOk X.prog X.w (upd H a o) h' a o) :
    Inv X pins σ (upd H a o) { s with heap := h', toks := t' } := I.un (Un.laid k hp (I.hok.fresh hp)) (I.hok.laid k hp new)
/-- an object written -/
theorem Inv.write {x e : Addr} {o : HO} {t' : Nat} (I : Inv X pins σ H s) (mu : Mut (H x)) (he : e = x ∨ H e = some (.own x)) (k : ∀ b u, b ≠ e → s.heap.get? b = some u → h'.get? b = some u) (heo : ∃ u, h'.get? e = some u)
    (new : ObjOk X.prog X.w (upd H x o) h' x o) : Inv X pins σ (upd H x o) { s with heap := h', toks := t' } := I.un (Un.write mu he k heo) (I.hok.write mu he k heo new)
/-- forgetting slots, pins -/
theorem Inv.weak {σ' : List (Option V)} (I : Inv X pins σ H s) (hl : σ'.length = σ.length) (w : ∀ (i : Nat) v, σ'[i]? = some (some v) → σ[i]? = some (some v)) : Inv X pins σ' H s :=
  ⟨I.ok, I.os, I.bare, I.base, let ⟨m, hn, hl'⟩ := I.loc; ⟨m, hn, fun i x v e1 e2 e3 => hl' i x v e1 (w i v e2) e3⟩, I.cell, I.free, I.freeC, I.pin, I.hok, hl.trans I.len⟩
theorem Inv.pins_of {pins' : List (Addr × Obj)} (I : Inv X pins σ H s) (h : ∀ p ∈ pins', s.heap.get? p.1 = some p.2 ∧ H p.1 = none ∧ p.1 ≠ X.env.locals ∧ p.1 ∉ X.fs ∧ ∀ v, p.2.data ≠ .cell v) : Inv X pins' σ H s :=
  ⟨I.ok, I.os, I.bare, I.base, I.loc, I.cell, I.free, I.freeC, fun p hp => (List.mem_append.mp hp).elim (fun z => I.pin p (List.mem_append_left _ z)) (h p), I.hok, I.len⟩

theorem nodup_ix {N : List Str} (hN : N.Nodup) {i j : Nat} {x : Str} (a : N[i]? = some x) (b : N[j]? = some x) : i = j := by
  obtain ⟨h1, e1⟩ := List.getElem?_eq_some_iff.mp a
  obtain ⟨h2, e2⟩ := List.getElem?_eq_some_iff.mp b
  exact (List.getElem_inj hN).mp (e1.trans e2.symm)

/-- a name is stored; what changed -/
theorem store_ok2 {M : Model} {A : Around} {E : Value → Shared → Prop} {i : Nat} {x : Str} {v : V} {u : Value} {Q : Unit → Shared → Prop} (I : Inv X pins σ H s) (hN : X.N.Nodup) (hi : X.N[i]? = some x) (hx : Loc X.env.scope x) (r : RelV v u)
    (h : ∀ s', Inv X pins (σ.set i (some v)) H s' → (∃ a, Heap.SameBut a s.heap s'.heap ∧ (a = X.env.locals ∨ X.env.cells.lookup x = some a)) → Q () s') (hf : X.fn x = true ∨ X.env.scope.names.lookup x = some .local := by first | exact .inl rfl | exact .inr rfl | assumption) : wpAny M A (storeName X.env x u) Q E s := by
  obtain ⟨m, hn, hl⟩ := id I.loc
  have hcls : (X.env.scope.kind == .class || (X.env.scope.kind == .module && X.env.locals != X.env.globals)) = false := by rw [I.ok.kind]; rfl
  have hiσ : i < σ.length := by rw [I.len]; exact (List.getElem?_eq_some_iff.mp hi).1
  have cne := I.cne
  have tracked : ∀ {a : Addr} {h' : Heap}, (∃ o, s.heap.get? a = some o ∧ H a = none) → Heap.SameBut a s.heap h' → HOk X.prog X.w H h' := fun {a h'} ha hs b ob e => by
    obtain ⟨_, _, hfree⟩ := ha
    refine (I.hok b ob e).stay (fun c w' hc q => (hs.2 c ?_).trans q) (fun _ q => q) fun _ _ q => q
    rintro rfl
    rcases hc with rfl | hc
    · rw [hfree] at e; cases e
    · rw [hfree] at hc; cases hc
  rcases hx with hk | hk
  · refine wpAny_storeName_local hk hn (fun h' hn' hs => ?_) hcls
    obtain ⟨oL, _, _, hoL, _⟩ := id hn
    refine h _ ⟨I.ok, I.os, I.bare, ⟨fun b o e n hb hx => ?_, fun b o e n hb hx => ?_, I.base.free, fun b o e hx => ?_, I.base.tups, I.base.frzs, I.base.tbls⟩, ⟨_, hn', fun j y v' e1 e2 e3 => ?_⟩, fun y c e => ?_, I.free, I.freeC, fun p hp => ?_, tracked ⟨oL, hoL, I.free⟩ hs, by simpa using I.len⟩ ⟨_, hs, .inl rfl⟩
    · exact (hs.2 b (Nat.ne_of_lt (Nat.lt_of_lt_of_le (Heap.lt_size e) I.ok.above))).trans (I.base.keep b o e n hb hx)
    · obtain ⟨sl, e1⟩ := I.base.slot b o e n hb hx
      exact ⟨sl, (hs.2 b (Nat.ne_of_lt (Nat.lt_of_lt_of_le (Heap.lt_size e) I.ok.above))).trans e1⟩
    · obtain ⟨o', e1⟩ := I.base.there b o e hx
      exact ⟨o', (hs.2 b (Nat.ne_of_lt (Nat.lt_of_lt_of_le (Heap.lt_size e) I.ok.above))).trans e1⟩
    · by_cases hj : j = i
      · subst hj
        rw [hi] at e1; cases e1
        rw [List.getElem?_set_self hiσ] at e2
        cases e2
        exact ⟨u, r, .inl ⟨hk, by simp⟩⟩
      · rw [List.getElem?_set_ne (Ne.symm hj)] at e2
        obtain ⟨u', r', q⟩ := hl j y v' e1 e2 e3
        refine ⟨u', r', ?_⟩
        rcases q with ⟨k, e⟩ | ⟨k, c, e, z⟩
        · refine .inl ⟨k, ?_⟩
          have : y ≠ x := fun e => hj (nodup_ix hN e1 (e ▸ hi))
          simp [this, e]
        · exact .inr ⟨k, c, e, z.sameBut hs (cne y c e)⟩
    · obtain ⟨w', z⟩ := I.cell y c e
      exact ⟨w', z.sameBut hs (cne y c e)⟩
    · obtain ⟨e, n, ne, nf, d⟩ := I.pin p hp
      exact ⟨(hs.2 p.1 ne).trans e, n, ne, nf, d⟩
  · have hfn : X.fn x = true := by
      rcases hf with z | z
      · exact z
      · rw [z] at hk; cases hk
    obtain ⟨c, hc⟩ := I.ok.has x (.inl hk)
    obtain ⟨w', z⟩ := I.cell x c hc
    refine wpAny_storeName_cell I.ok.kind hk hc z (fun h' hc' hs => ?_)
    obtain ⟨oc, hoc, hocd⟩ := id z
    refine h { s with heap := h' } ⟨I.ok, I.os, I.bare, ⟨fun b o e n hb hx => ?_, fun b o e n hb hx => ?_, I.base.free, fun b o e hx => ?_, I.base.tups, I.base.frzs, I.base.tbls⟩, ⟨m, hn.sameBut hs (Ne.symm (cne x c hc)), fun j y v' e1 e2 e3 => ?_⟩, fun y c' e => ?_, I.free, I.freeC, fun p hp => ?_, tracked ⟨oc, hoc, I.freeC x c hc⟩ hs, by simpa using I.len⟩ ⟨c, hs, .inr hc⟩
    · exact (hs.2 b (Nat.ne_of_lt (Nat.lt_of_lt_of_le (Heap.lt_size e) (I.ok.cab x c hfn hc)))).trans (I.base.keep b o e n hb hx)
    · obtain ⟨sl, e1⟩ := I.base.slot b o e n hb hx
      exact ⟨sl, (hs.2 b (Nat.ne_of_lt (Nat.lt_of_lt_of_le (Heap.lt_size e) (I.ok.cab x c hfn hc)))).trans e1⟩
    · obtain ⟨o', e1⟩ := I.base.there b o e hx
      exact ⟨o', (hs.2 b (Nat.ne_of_lt (Nat.lt_of_lt_of_le (Heap.lt_size e) (I.ok.cab x c hfn hc)))).trans e1⟩
    · by_cases hj : j = i
      · subst hj
        rw [hi] at e1; cases e1
        rw [List.getElem?_set_self hiσ] at e2
        cases e2
        exact ⟨u, r, .inr ⟨.inl hk, c, hc, hc'⟩⟩
      · rw [List.getElem?_set_ne (Ne.symm hj)] at e2
        obtain ⟨u', r', q⟩ := hl j y v' e1 e2 e3
        refine ⟨u', r', ?_⟩
        rcases q with q | ⟨k, c', e, z'⟩
        · exact .inl q
        · refine .inr ⟨k, c', e, z'.sameBut hs ?_⟩
          rintro rfl
          exact hj (nodup_ix hN e1 (I.ok.inj _ _ _ e hc ▸ hi))
    · by_cases hcc : c' = c
      · subst hcc; exact ⟨_, hc'⟩
      · obtain ⟨w2, z2⟩ := I.cell y c' e
        exact ⟨w2, z2.sameBut hs hcc⟩
    · obtain ⟨e, n, ne, nf, d⟩ := I.pin p hp
      refine ⟨(hs.2 p.1 ?_).trans e, n, ne, nf, d⟩
      intro q
      rw [q, hoc] at e
      have q' : oc = p.2 := Option.some.inj e
      exact d w' (by rw [← q']; exact hocd)
theorem store_ok {M : Model} {A : Around} {E : Value → Shared → Prop} {i : Nat} {x : Str} {v : V} {u : Value} {Q : Unit → Shared → Prop} (I : Inv X pins σ H s) (hN : X.N.Nodup) (hi : X.N[i]? = some x) (hx : Loc X.env.scope x) (r : RelV v u)
    (h : ∀ s', Inv X pins (σ.set i (some v)) H s' → Q () s') (hf : X.fn x = true ∨ X.env.scope.names.lookup x = some .local := by first | exact .inl rfl | exact .inr rfl | assumption) : wpAny M A (storeName X.env x u) Q E s :=
  store_ok2 I hN hi hx r (fun s' I' _ => h s' I') hf
/-- behind a call or a block, the state as it is -/
theorem Inv.call' {s' : Shared} {ch : List Addr} (I : Inv X pins σ H s) (ho : s'.os = s.os) (u : Un (frs X.stack) ch H H' s.heap s'.heap) (hok : HOk X.prog X.w H' s'.heap) (hg : AllBare s'.gens)
    (hch : ∀ b ∈ ch, (b ∈ X.ex ∨ X.s_0.heap.objs.size ≤ b) ∧ b ≠ X.env.locals ∧ (∀ x c, X.env.cells.lookup x = some c → c ≠ b) ∧ ∀ p ∈ X.pn ++ pins, p.1 ≠ b) : Inv X pins σ H' s' := by
  obtain ⟨h', g', d', t', o'⟩ := s'
  have e : o' = s.os := ho
  subst e
  exact I.call (g' := g') (t' := t') (d' := d') u hok hg hch
end

/-! ### the judgements -/
/-- an exception: its class, its own dict's address (where it has one), the abstract heap behind it -/
abbrev XK := Value → Option Addr → Hp → Prop
abbrev St := List (Option V)
abbrev VK := V → Hp → Prop
/-- an expression's reading; a test's; an argument list's -/
abbrev TE := St → Hp → VK → Prop
abbrev TT := St → Hp → (Bool → Hp → Prop) → Prop
abbrev TA := St → Hp → (List V → Hp → Prop) → Prop
/-- what is wanted behind a statement -/
structure Ends where
  nx : St → Hp → Prop
  rt : VK
  bk : St → Hp → Prop := fun _ _ => False
  ct : St → Hp → Prop := fun _ _ => False
abbrev TS := Ends → St → Hp → Prop

def EP (X : Cx) (pins : List (Addr × Obj)) (σ : St) (Q : VK) (u : Value) (s' : Shared) : Prop := ∃ v H', Inv X pins σ H' s' ∧ RelV v u ∧ Q v H'
def TP (X : Cx) (pins : List (Addr × Obj)) (σ : St) (Q : Bool → Hp → Prop) (b : Bool) (s' : Shared) : Prop := ∃ H', Inv X pins σ H' s' ∧ Q b H'
def AP (X : Cx) (pins : List (Addr × Obj)) (σ : St) (Q : List V → Hp → Prop) (us : List Value) (s' : Shared) : Prop := ∃ vs H', Inv X pins σ H' s' ∧ Vals vs us ∧ Q vs H'
def SP (X : Cx) (pins : List (Addr × Obj)) (D : Ends) (f : Flow) (s' : Shared) : Prop :=
  match f with
  | .next => ∃ σ' H', Inv X pins σ' H' s' ∧ D.nx σ' H'
  | .brk => ∃ σ' H', Inv X pins σ' H' s' ∧ D.bk σ' H'
  | .cont => ∃ σ' H', Inv X pins σ' H' s' ∧ D.ct σ' H'
  | .ret u => ∃ v σ' H', Inv X pins σ' H' s' ∧ RelV v u ∧ D.rt v H'

def PE (X : Cx) (e : Expr) (t : TE) : Prop :=
  ∀ (pins : List (Addr × Obj)) (s : Shared) (σ : St) (H : Hp) (Q : VK), Inv X pins σ H s → t σ H Q → wpAny (model X.prog X.w) X.A (eval e X.env) (EP X pins σ Q) X.xe s
def PT (X : Cx) (e : Expr) (t : TT) : Prop :=
  ∀ (pins : List (Addr × Obj)) (s : Shared) (σ : St) (H : Hp) (Q : Bool → Hp → Prop), Inv X pins σ H s → t σ H Q → wpAny (model X.prog X.w) X.A (isTrue e X.env (eval e X.env)) (TP X pins σ Q) X.xe s
/-- a test whatever its 'whole' is (and, or) -/
def PW (X : Cx) (e : Expr) (t : TT) : Prop :=
  ∀ (whole : Sem Value) (pins : List (Addr × Obj)) (s : Shared) (σ : St) (H : Hp) (Q : Bool → Hp → Prop), Inv X pins σ H s → t σ H Q → wpAny (model X.prog X.w) X.A (isTrue e X.env whole) (TP X pins σ Q) X.xe s
theorem PW.pt {X : Cx} {e : Expr} {t : TT} (h : PW X e t) : PT X e t := h _
/-- an argument list (no star), from the left -/
def PA (X : Cx) (es : List Expr) (t : TA) : Prop :=
  ∀ (pos : Pos) (pins : List (Addr × Obj)) (s : Shared) (σ : St) (H : Hp) (Q : List V → Hp → Prop), Inv X pins σ H s → t σ H Q → wpAny (model X.prog X.w) X.A (spliced (backTo pos (starEach es X.env))) (AP X pins σ Q) X.xe s
def PS (X : Cx) (st : Stmt) (t : TS) : Prop :=
  ∀ (pins : List (Addr × Obj)) (s : Shared) (σ : St) (H : Hp) (D : Ends), Inv X pins σ H s → t D σ H → wpAny (model X.prog X.w) X.A (exec st X.env) (SP X pins D) X.xe s
def PSs (X : Cx) (st : List Stmt) (t : TS) : Prop :=
  ∀ (pins : List (Addr × Obj)) (s : Shared) (σ : St) (H : Hp) (D : Ends), Inv X pins σ H s → t D σ H → wpAny (model X.prog X.w) X.A (execs st X.env) (SP X pins D) X.xe s
/-- weaken the end -/
theorem thn {α : Type} {t : Sem α} {Q Q' : α → Shared → Prop} {M : Model} {A : Around} {E : Value → Shared → Prop} {s : Shared} (h : wpAny M A t Q E s) (hQ : ∀ a s, Q a s → Q' a s) : wpAny M A t Q' E s := wpAny_mono h hQ fun _ _ x => x
end L2

namespace L2
open PySem PySem.Spec PyProof.Rows
section
variable {X : Cx}

/-- two expressions in a row -/
theorem bin {a b : Expr} {ta tb : TE} (ha : PE X a ta) (hb : PE X b tb) {pins : List (Addr × Obj)} {s : Shared} {σ : St} {H : Hp} {R : V → V → Hp → Prop} (I : Inv X pins σ H s) (h : ta σ H fun x H1 => tb σ H1 fun y H2 => R x y H2)
    {α : Type} {Q : α → Shared → Prop} {f : Value → Value → Sem α}
    (hf : ∀ v u s2 x y H2, Inv X pins σ H2 s2 → RelV x v → RelV y u → R x y H2 → wpAny (model X.prog X.w) X.A (f v u) Q X.xe s2) :
    wpAny (model X.prog X.w) X.A (eval a X.env) (fun v s₁ => wpAny (model X.prog X.w) X.A (eval b X.env) (fun u s₂ => wpAny (model X.prog X.w) X.A (f v u) Q X.xe s₂) X.xe s₁) X.xe s := by
  refine thn (ha pins s σ H _ I h) fun v s1 ⟨x, H1, I1, r1, q1⟩ => ?_
  refine thn (hb pins s1 σ H1 _ I1 q1) fun u s2 ⟨y, H2, I2, r2, q2⟩ => ?_
  exact hf v u s2 x y H2 I2 r1 r2 q2

/-! ### names and constants -/
def tVar (i : Nat) : TE := fun σ H Q => ∃ v, σ[i]? = some (some v) ∧ Q v H
def tC (v : V) : TE := fun _ H Q => Q v H
theorem pe_var {i : Nat} {x : Str} {pos : Pos} (hN : X.N[i]? = some x) (hv : Vis X.env.scope x) (hd : (x == ("__debug__" : Str)) = false := by decide) (hcd : (x == ("__classdict__" : Str)) = false := by decide) : PE X (.Name x pos) (tVar i) := by
  intro pins s σ H Q I h
  obtain ⟨v, e, h⟩ := h
  obtain ⟨m, hn, hl⟩ := I.loc
  obtain ⟨u, r, l⟩ := hl i x v hN e hv
  have fin : EP X pins σ Q u s := ⟨v, H, I, r, h⟩
  rcases l with ⟨hk, hm⟩ | ⟨hk, c, hc, hcell⟩
  · exact wpAny_Name (wpAny_loadName_local I.ok.kind hk hn hm fin) hd
  · rcases hk with hk | hk
    · exact wpAny_Name (wpAny_loadName_cell I.ok.kind hk hc hcell fin) hd
    · exact wpAny_Name (wpAny_loadName_free I.ok.kind hk hc hcell fin hcd) hd
theorem pe_int {i j pos} : PE X (.Constant (.int i) j pos) (tC (.int i)) := fun _ _ _ H _ I h => wpAny_Constant_int ⟨.int i, H, I.tok _, ⟨_, rfl⟩, h⟩
theorem pe_bl {b j pos} : PE X (.Constant (.bool b) j pos) (tC (.bl b)) := fun _ _ _ H _ I h => Constant_bool ⟨.bl b, H, I, rfl, h⟩
theorem pe_non {j pos} : PE X (.Constant .none j pos) (tC .non) := fun _ _ _ H _ I h => Constant_none ⟨.non, H, I, rfl, h⟩
theorem pe_str {x j pos} : PE X (.Constant (.str x) j pos) (tC (.str x)) := fun _ _ _ H _ I h => Calls.Constant_str ⟨.str x, H, I.tok _, ⟨_, rfl⟩, h⟩

/-- a global name of the def -/
def Gl (X : Cx) (x : Str) : Prop := X.env.kindOf x = some .globalImplicit
theorem ld_glob {E : Value → Shared → Prop} {pins : List (Addr × Obj)} {s : Shared} {σ : St} {H : Hp} {x : Str} {u : Value} {pos : Pos} {Q : Value → Shared → Prop} (I : Inv X pins σ H s) (hg : Gl X x) (hm : X.mg x = some u) (h : Q u s)
    (hd : (x == ("__debug__" : Str)) = false := by decide) : wpAny (model X.prog X.w) X.A (eval (.Name x pos) X.env) Q E s :=
  Calls.Name_function_global I.ok.kind hg (Calls.loadGlobal_global (by rw [I.ok.glob]; exact I.mod.glob.keeps I.bk) hm h) hd
theorem ld_blt {E : Value → Shared → Prop} {pins : List (Addr × Obj)} {s : Shared} {σ : St} {H : Hp} {x : Str} {u : Value} {pos : Pos} {Q : Value → Shared → Prop} (I : Inv X pins σ H s) (hg : Gl X x) (hm : X.mg x = none) (hv : bootBuiltins x = some u) (h : Q u s)
    (hn : x ≠ "__name__" := by decide) (hd : (x == ("__debug__" : Str)) = false := by decide) : wpAny (model X.prog X.w) X.A (eval (.Name x pos) X.env) Q E s := by
  obtain ⟨mb, h1, h2⟩ := I.mod.blt
  exact Calls.Name_function_global I.ok.kind hg (Calls.loadGlobal_builtin (by rw [I.ok.glob]; exact I.mod.glob.keeps I.bk) hm (by rw [I.ok.blt]; exact h1.keeps I.bk) ((h2 x hn).trans hv) h) hd
/-- a module's constant, a class, a function, as a value -/
theorem pe_glob {x : Str} {v : V} {u : Value} {pos : Pos} (hg : Gl X x) (hm : X.mg x = some u) (r : RelV v u) (hd : (x == ("__debug__" : Str)) = false := by decide) : PE X (.Name x pos) (tC v) :=
  fun _ _ _ H _ I h => ld_glob I hg hm ⟨v, H, I, r, h⟩ hd
/-! ### arithmetic -/
variable {a b : Expr} {ta tb : TE} {pos : Pos}
/-! ### comparisons -/
def PC (X : Cx) (op : CmpOp) (a b : Expr) (t : TE) : Prop :=
  ∀ (pins : List (Addr × Obj)) (s : Shared) (σ : St) (H : Hp) (Q : VK), Inv X pins σ H s → t σ H Q →
    wpAny (model X.prog X.w) X.A (eval a X.env) (fun v s₁ => wpAny (model X.prog X.w) X.A (eval b X.env) (fun u s₂ => wpAny (model X.prog X.w) X.A (compareOp op v u) (EP X pins σ Q) X.xe s₂) X.xe s₁) X.xe s
/-- a comparison as a value, as a test -/
def tB (t : TE) : TT := fun σ H Q => t σ H fun x H1 => ∃ c, x = .bl c ∧ Q c H1
theorem pt_cmp {op : CmpOp} {t : TE} (h : PC X op a b t) (h1 : behindInMarks op b = false := by first | exact nobehind _ (by decide) (by decide) | rfl) : PT X (.Compare a [op] [b] pos) (tB t) := by
  intro pins s σ H Q I hw
  refine wpAny_isTrue_Compare1 (thn (h pins s σ H _ I hw) fun v s1 h1 => thn h1 fun u s2 h2 => thn h2 fun c s3 ⟨x, H1, I1, r1, q1⟩ => ?_) h1
  obtain ⟨d, rfl, q⟩ := q1
  cases r1
  exact wpAny_truthy_bool ⟨H1, I1, q⟩
/-- an expression whose value is a bool, as a test -/
theorem pt_val {e : Expr} {t : TE} (h : PE X e t) (he : ∀ whole, isTrue e X.env whole = (do let v ← whole; standAt e.pos; holding [v] (truthy v)) := by intro _; rfl) : PT X e (tB t) := by
  intro pins s σ H Q I hw
  refine isTrue_plain (thn (h pins s σ H _ I hw) fun v s1 ⟨x, H1, I1, r1, q1⟩ => ?_) (he _)
  obtain ⟨d, rfl, q⟩ := q1
  cases r1
  exact wpAny_truthy_bool ⟨H1, I1, q⟩

/-! ### and, or, not -/
variable {tA tB' : TT} {rest : List Expr}
def tAnd (t u : TT) : TT := fun σ H Q => t σ H fun c H1 => if c = true then u σ H1 Q else Q false H1
def tOr (t u : TT) : TT := fun σ H Q => t σ H fun c H1 => if c = true then Q true H1 else u σ H1 Q
def tNot (t : TT) : TT := fun σ H Q => t σ H fun c H1 => Q (!c) H1
theorem pw_and1 (ha : PT X a tA) : PW X (.BoolOp .And [a] pos) tA := by
  intro wh pins s σ H Q I h
  refine isTrue_and (thn (ha pins s σ H Q I h) fun c s1 e => ?_)
  cases c with
  | true => exact isTrue_and_nil e
  | false => exact e
theorem pw_or1 (ha : PT X a tA) : PW X (.BoolOp .Or [a] pos) tA := by
  intro wh pins s σ H Q I h
  refine isTrue_or (thn (ha pins s σ H Q I h) fun c s1 e => ?_)
  cases c with
  | false => exact isTrue_or_nil e
  | true => exact e
theorem pw_and (ha : PT X a tA) (hb : PW X (.BoolOp .And (b :: rest) pos) tB') : PW X (.BoolOp .And (a :: b :: rest) pos) (tAnd tA tB') := by
  intro wh pins s σ H Q I h
  refine isTrue_and (thn (ha pins s σ H _ I h) fun c s1 ⟨H1, I1, q1⟩ => ?_)
  cases c with
  | true => exact hb wh pins s1 σ H1 Q I1 q1
  | false => exact ⟨H1, I1, q1⟩
theorem pw_or (ha : PT X a tA) (hb : PW X (.BoolOp .Or (b :: rest) pos) tB') : PW X (.BoolOp .Or (a :: b :: rest) pos) (tOr tA tB') := by
  intro wh pins s σ H Q I h
  refine isTrue_or (thn (ha pins s σ H _ I h) fun c s1 ⟨H1, I1, q1⟩ => ?_)
  cases c with
  | true => exact ⟨H1, I1, q1⟩
  | false => exact hb wh pins s1 σ H1 Q I1 q1
theorem pt_not (ha : PT X a tA) : PT X (.UnaryOp .Not a pos) (tNot tA) := by
  intro pins s σ H Q I h
  exact isTrue_not (ha pins s σ H (fun c H1 => Q (!c) H1) I h)
/-- .. as values (bools) -/
def tAndV (ta tb : TE) : TE := fun σ H Q => ta σ H fun x H1 => ∃ c, x = .bl c ∧ if c = true then tb σ H1 Q else Q (.bl false) H1
theorem pe_one {op} {t : TE} (h : PE X a t) : PE X (.BoolOp op [a] pos) t := fun pins s σ H Q I hw => BoolOp_one (h pins s σ H Q I hw)
theorem pe_and (ha : PE X a ta) (hb : PE X (.BoolOp .And (b :: rest) pos) tb) : PE X (.BoolOp .And (a :: b :: rest) pos) (tAndV ta tb) := by
  intro pins s σ H Q I h
  refine BoolOp_and (thn (ha pins s σ H _ I h) fun v s1 ⟨x, H1, I1, r1, q1⟩ => ?_)
  obtain ⟨c, rfl, q1⟩ := q1
  cases r1
  refine wpAny_truthy_bool ?_
  cases c with
  | true => exact hb pins s1 σ H1 Q I1 q1
  | false => exact ⟨.bl false, H1, I1, rfl, q1⟩
/-- a if t else b -/
def tIf (t : TT) (ta tb : TE) : TE := fun σ H Q => t σ H fun c H1 => if c = true then ta σ H1 Q else tb σ H1 Q
theorem pe_ifExp {c : Expr} (hc : PT X c tA) (ha : PE X a ta) (hb : PE X b tb) : PE X (.IfExp c a b pos) (tIf tA ta tb) := by
  intro pins s σ H Q I h
  refine wpAny_IfExp (thn (hc pins s σ H _ I h) fun d s1 ⟨H1, I1, q1⟩ => ?_)
  cases d with
  | true => exact ha pins s1 σ H1 Q I1 q1
  | false => exact hb pins s1 σ H1 Q I1 q1
end
end L2

namespace L2
open PySem PySem.Spec PyProof.Rows

/-! ### a list, a tuple that is read: tracked, frozen, or an object of the module -/
def SqL (K : PySem.W.Frag) (H : Hp) (a : Addr) (xs : List V) : Prop :=
  Rd H a (.lst xs) ∨
    ∃ (o : Obj) (its : Array Value) (n : Nat), K.lookup a = some o ∧ o.cls = .type "list" ∧ o.dict = none ∧ o.data = .seq its n ∧ its.size ≤ sizeLine ∧ Vals xs its.toList
def SqT (K : PySem.W.Frag) (H : Hp) (a : Addr) (xs : List V) : Prop :=
  Rd H a (.tup xs) ∨
    ∃ (o : Obj) (its : Array Value) (n : Nat), K.lookup a = some o ∧ o.cls = .type "tuple" ∧ o.data = .seq its n ∧ its.size ≤ sizeLine ∧ Vals xs its.toList
def absV : Value → Option V
  | .none => some .non
  | .bool b => some (.bl b)
  | .int i _ => some (.int i)
  | .str x _ => some (.str x)
  | .bytes b _ => some (.byt b)
  | .float b _ => some (.flt b)
  | .ref a => some (.ref a)
  | .type n => some (.ty n)
  | _ => none
theorem RelV.abs {x : V} {u : Value} (r : RelV x u) : absV u = some x := by
  cases x with
  | non => cases r; rfl
  | bl _ => cases r; rfl
  | int _ => obtain ⟨t, rfl⟩ := r; rfl
  | str _ => obtain ⟨t, rfl⟩ := r; rfl
  | byt _ => obtain ⟨t, rfl⟩ := r; rfl
  | flt _ => obtain ⟨t, rfl⟩ := r; rfl
  | ref _ => cases r; rfl
  | ty _ => cases r; rfl
theorem RelV.inj {x y : V} {u : Value} (r : RelV x u) (q : RelV y u) : x = y := Option.some.inj (r.abs.symm.trans q.abs)
theorem Vals.inj : ∀ {xs ys : List V} {us : List Value}, Vals xs us → Vals ys us → xs = ys
  | _, _, _, .nil, .nil => rfl
  | _, _, _, .cons r t, .cons r' t' => by rw [r.inj r', Vals.inj t t']
section
variable {X : Cx} {pins : List (Addr × Obj)} {σ : St} {H : Hp} {s : Shared} {a : Addr} {xs ys : List V}
theorem SqL.of {K : PySem.W.Frag} (h : H a = some (.lst xs)) : SqL K H a xs := .inl (.inl h)
theorem SqT.of {K : PySem.W.Frag} (h : H a = some (.tup xs)) : SqT K H a xs := .inl (.inl h)
theorem Inv.list (I : Inv X pins σ H s) (h : SqL X.K H a xs) : ∃ its : List Value, Vals xs its ∧ PlainL s.heap a its.toArray ∧ xs.length ≤ sizeLine := by
  rcases h with h | ⟨o, its, n, hk, hc, hd, hs, hz, r⟩
  · obtain ⟨z, its, n, r, e⟩ := h.ok I.hok
    exact ⟨its, r, ⟨_, n, e, rfl, rfl, rfl⟩, z⟩
  · refine ⟨its.toList, r, ⟨o, n, I.kIn a o hk, hc, hd, by simpa using hs⟩, ?_⟩
    have e := r.length
    simp only [Array.length_toList] at e
    omega
theorem Inv.tuple (I : Inv X pins σ H s) (h : SqT X.K H a xs) : ∃ its : List Value, Vals xs its ∧ IsTup s.heap a its.toArray ∧ xs.length ≤ sizeLine := by
  rcases h with h | ⟨o, its, n, hk, hc, hs, hz, r⟩
  · obtain ⟨z, its, r, p⟩ := h.ok I.hok
    exact ⟨its, r, p, z⟩
  · refine ⟨its.toList, r, ⟨o, I.kIn a o hk, hc, n, by simpa using hs⟩, ?_⟩
    have e := r.length
    simp only [Array.length_toList] at e
    omega
theorem Inv.list_inj (I : Inv X pins σ H s) (h : SqL X.K H a xs) (h' : SqL X.K H a ys) : xs = ys := by
  obtain ⟨its, r, ⟨o, n, e, _, _, d⟩, _⟩ := I.list h
  obtain ⟨its', r', ⟨o', n', e', _, _, d'⟩, _⟩ := I.list h'
  rw [e] at e'; cases e'
  rw [d] at d'
  injection d' with d1 _
  have : its = its' := by simpa using congrArg Array.toList d1
  subst this
  exact r.inj r'
theorem Inv.tuple_inj (I : Inv X pins σ H s) (h : SqT X.K H a xs) (h' : SqT X.K H a ys) : xs = ys := by
  obtain ⟨its, r, ⟨o, e, _, n, d⟩, _⟩ := I.tuple h
  obtain ⟨its', r', ⟨o', e', _, n', d'⟩, _⟩ := I.tuple h'
  rw [e] at e'; cases e'
  rw [d] at d'
  injection d' with d1 _
  have : its = its' := by simpa using congrArg Array.toList d1
  subst this
  exact r.inj r'
end

/-! ### another wish about exceptions -/
abbrev Cx.wish (X : Cx) (E : Value → Shared → Prop) : Cx := { X with xe := E }
/-- no exception leaves -/
abbrev Cx.nox (X : Cx) : Cx := X.wish fun _ _ => False
theorem Cx.Ok.wish {X : Cx} (ok : X.Ok) (E : Value → Shared → Prop) : (X.wish E).Ok :=
  ⟨ok.mod, ok.kind, ok.glob, ok.blt, ok.above, ok.inj, ok.has, ok.cab, ok.hd, ok.frames, ok.stk, ok.exf, ok.bs, ok.bsz, ok.noex, ok.exfs, ok.funs, ok.frf⟩
theorem Cx.Ok.unwish {X : Cx} {E : Value → Shared → Prop} (ok : (X.wish E).Ok) : X.Ok :=
  ⟨ok.mod, ok.kind, ok.glob, ok.blt, ok.above, ok.inj, ok.has, ok.cab, ok.hd, ok.frames, ok.stk, ok.exf, ok.bs, ok.bsz, ok.noex, ok.exfs, ok.funs, ok.frf⟩
section
variable {X : Cx} {pins : List (Addr × Obj)} {σ : St} {H : Hp} {s : Shared} {E : Value → Shared → Prop}
theorem Inv.wish (I : Inv X pins σ H s) (E : Value → Shared → Prop) : Inv (X.wish E) pins σ H s := ⟨I.ok.wish E, I.os, I.bare, I.base, I.loc, I.cell, I.free, I.freeC, I.pin, I.hok, I.len⟩
theorem Inv.unwish (I : Inv (X.wish E) pins σ H s) : Inv X pins σ H s := ⟨I.ok.unwish, I.os, I.bare, I.base, I.loc, I.cell, I.free, I.freeC, I.pin, I.hok, I.len⟩
theorem SP.unwish {D : Ends} {f : Flow} {s' : Shared} (h : SP (X.wish E) pins D f s') : SP X pins D f s' := by
  cases f with
  | next => obtain ⟨σ', H', I, q⟩ := h; exact ⟨σ', H', I.unwish, q⟩
  | brk => obtain ⟨σ', H', I, q⟩ := h; exact ⟨σ', H', I.unwish, q⟩
  | cont => obtain ⟨σ', H', I, q⟩ := h; exact ⟨σ', H', I.unwish, q⟩
  | ret u => obtain ⟨v, σ', H', I, r, q⟩ := h; exact ⟨v, σ', H', I.unwish, r, q⟩
theorem PSs.nox {st : List Stmt} {t : TS} (h : PSs X.nox st t) : PSs X st t := fun pins s σ H D I hw =>
  wpAny_mono (h pins s σ H D (I.wish _) hw) (fun _ _ q => q.unwish) fun _ _ z => False.elim z
end

/-! ### blocks and small statements -/
section
variable {X : Cx} {st : Stmt} {rest : List Stmt} {t u : TS} {e : Expr} {te : TE} {pos : Pos}
def tNext : TS := fun D σ H => D.nx σ H
def tSeq (t u : TS) : TS := fun D σ H => t { D with nx := u D } σ H
theorem pss_nil : PSs X [] tNext := fun _ _ σ H _ I h => wpAny_execs_nil ⟨σ, H, I, h⟩
theorem pss_cons (h1 : PS X st t) (h2 : PSs X rest u) : PSs X (st :: rest) (tSeq t u) := by
  intro pins s σ H D I h
  refine wpAny_execs_cons (thn (h1 pins s σ H { D with nx := u D } I h) fun f s1 q => ?_)
  cases f with
  | next =>
    obtain ⟨σ', H', I', q⟩ := q
    exact h2 pins s1 σ' H' D I' q
  | ret v => exact q
  | brk => exact q
  | cont => exact q
theorem pss_one (h1 : PS X st t) : PSs X [st] t := by
  intro pins s σ H D I h
  refine wpAny_execs_cons (thn (h1 pins s σ H D I h) fun f s1 q => ?_)
  cases f with
  | next => exact wpAny_execs_nil q
  | ret v => exact q
  | brk => exact q
  | cont => exact q
/-- in a def's body nothing is shown -/
theorem Inv.quiet {pins : List (Addr × Obj)} {σ : St} {H : Hp} {s : Shared} (I : Inv X pins σ H s) : interactive X.env = false := by simp [interactive, I.ok.kind]
/-- an expression whose value is dropped -/
def tDrop (te : TE) : TS := fun D σ H => te σ H fun _ H1 => D.nx σ H1
theorem ps_expr (he : PE X e te) (hs : swapsWith e none pos.line X.env = pure false := by rfl) : PS X (.Expr e pos) (tDrop te) := by
  intro pins s σ H D I h
  exact wpAny_Expr_any (thn (he pins s σ H _ I h) fun v s1 ⟨x, H1, I1, r1, q1⟩ => ⟨σ, H1, I1, q1⟩) I.quiet hs
def tRet (te : TE) : TS := fun D σ H => te σ H D.rt
theorem ps_ret (he : PE X e te) : PS X (.Return (some e) pos) (tRet te) := by
  intro pins s σ H D I h
  exact wpAny_Return_some (thn (he pins s σ H _ I h) fun v s1 ⟨x, H1, I1, r1, q1⟩ => ⟨x, σ, H1, I1, r1, q1⟩)
def tIfS (c : TT) (t u : TS) : TS := fun D σ H => c σ H fun b H1 => if b = true then t D σ H1 else u D σ H1
theorem ps_if {c : Expr} {a b : List Stmt} {tc : TT} (hc : PT X c tc) (ha : PSs X a t) (hb : PSs X b u) : PS X (.If c a b pos) (tIfS tc t u) := by
  intro pins s σ H D I h
  refine wpAny_If (thn (hc pins s σ H _ I h) fun d s1 ⟨H1, I1, q1⟩ => ?_)
  cases d with
  | true => exact ha pins s1 σ H1 D I1 q1
  | false => exact hb pins s1 σ H1 D I1 q1
end

/-! ### targets -/
abbrev TG := V → St → Hp → (St → Hp → Prop) → Prop
def PG (X : Cx) (target : Expr) (t : TG) : Prop :=
  ∀ (pins : List (Addr × Obj)) (s : Shared) (σ : St) (H : Hp) (v : V) (u : Value) (Q : St → Hp → Prop), Inv X pins σ H s → RelV v u → t v σ H Q →
    wpAny (model X.prog X.w) X.A (assign target X.env u) (fun _ s' => ∃ σ' H', Inv X pins σ' H' s' ∧ Q σ' H') X.xe s
section
variable {X : Cx} {pos : Pos}
def gName (i : Nat) : TG := fun v σ H Q => Q (σ.set i (some v)) H
theorem pg_name {i : Nat} {x : Str} (hN : X.N.Nodup) (hi : X.N[i]? = some x) (hx : Loc X.env.scope x) (hf : X.fn x = true ∨ X.env.scope.names.lookup x = some .local := by first | exact .inl rfl | exact .inr rfl | assumption) : PG X (.Name x pos) (gName i) := by
  intro pins s σ H v u Q I r h
  exact wpAny_assign_Name (store_ok I hN hi hx r (fun s' I' => ⟨_, H, I', h⟩) hf)
/-- target = value -/
def tAsg (te : TE) (g : TG) : TS := fun D σ H => te σ H fun x H1 => g x σ H1 D.nx
/-- name = value -/
theorem ps_set {i : Nat} {x : Str} {e : Expr} {te : TE} {pos' : Pos} (hN : X.N.Nodup) (hi : X.N[i]? = some x) (hx : Loc X.env.scope x) (he : PE X e te) (hs : swapsWith e (some (.Name x pos')) pos.line X.env = pure false := by rfl) (hf : X.fn x = true ∨ X.env.scope.names.lookup x = some .local := by first | exact .inl rfl | exact .inr rfl | assumption) :
    PS X (.Assign [.Name x pos'] e pos) (tAsg te (gName i)) := by
  intro pins s σ H D I h
  refine wpAny_Assign_Name (thn (he pins s σ H _ I h) fun v s1 ⟨y, H1, I1, r1, q1⟩ => ?_) hs
  exact store_ok I1 hN hi hx r1 (fun s2 I2 => ⟨_, H1, I2, q1⟩) hf
end

/-! ### while -/
section
variable {X : Cx} {pos : Pos}
/-- the invariant W with its measure -/
def tWhile (c : TT) (tb : TS) : TS := fun D σ H => ∃ W : Nat → St → Hp → Prop, (∃ m, W m σ H) ∧ ∀ m σ H, W m σ H →
  c σ H fun b H1 => if b = true then ∃ N : St → Hp → Prop, (∀ σ' H', N σ' H' → ∃ m', m' < m ∧ W m' σ' H') ∧ tb { D with nx := N, ct := N, bk := D.nx } σ H1 else D.nx σ H1
theorem ps_while {c : Expr} {body : List Stmt} {tc : TT} {tb : TS} (hp : PassesOwn (model X.prog X.w) X.A X.env X.xe) (hc : PT X c tc) (hb : PSs X body tb) : PS X (.While c body [] pos) (tWhile tc tb) := by
  intro pins s σ H D I h
  obtain ⟨W, ⟨m0, w0⟩, turn⟩ := h
  refine wpAny_While (codeAny_whileLoop (fun n s' => ∃ σ' H', Inv X pins σ' H' s' ∧ W n σ' H') ?_ m0 ⟨σ, H, I, w0⟩)
  rintro n s1 ⟨σ1, H1, I1, w1⟩
  refine wpAny_passesOwn hp (thn (hc pins s1 σ1 H1 _ I1 (turn n σ1 H1 w1)) fun b s2 ⟨H2, I2, q2⟩ => ?_)
  cases b with
  | true =>
    obtain ⟨N, hN, q2⟩ := q2
    rw [if_pos rfl]
    refine wpAny_passesOwn hp (thn (hb pins s2 σ1 H2 _ I2 q2) fun f s3 q3 => ?_)
    cases f with
    | next =>
      obtain ⟨σ3, H3, I3, n3⟩ := q3
      obtain ⟨m', hm, w3⟩ := hN σ3 H3 n3
      exact ⟨m', hm, σ3, H3, I3, w3⟩
    | cont =>
      obtain ⟨σ3, H3, I3, n3⟩ := q3
      obtain ⟨m', hm, w3⟩ := hN σ3 H3 n3
      exact ⟨m', hm, σ3, H3, I3, w3⟩
    | brk => exact q3
    | ret v => exact q3
  | false =>
    rw [if_neg Bool.false_ne_true]
    exact wpAny_execs_nil ⟨σ1, H2, I2, q2⟩
end

/-! ### what a loop or a comprehension walks -/
/-- at turn i: it yields x (the heap may grow), or it stops -/
structure It where
  go : Nat → Hp → Prop
  yld : Nat → Hp → V → Hp → Prop
  stop : Nat → Hp → Prop
/-- the iterator's own objects may turn: they are not the frame's, not pinned, younger than the entry (or a comprehension's own) -/
def FpOk (X : Cx) (pins : List (Addr × Obj)) (H : Hp) (b : Addr) : Prop :=
  H b = none ∧ b ≠ X.env.locals ∧ b ∉ X.fs ∧ (b ∈ X.ex ∨ X.s_0.heap.objs.size ≤ b) ∧ (∀ x c, X.env.cells.lookup x = some c → c ≠ b) ∧ ∀ p ∈ X.pn ++ pins, p.1 ≠ b
theorem Inv.fpOk {X : Cx} {pins : List (Addr × Obj)} {σ : St} {H H' : Hp} {s : Shared} {b : Addr} (I : Inv X pins σ H s) (hb : s.heap.objs.size ≤ b) (hn : H' b = none) : FpOk X pins H' b := by
  refine ⟨hn, Nat.ne_of_gt (Nat.lt_of_lt_of_le I.lt hb), I.nofs hb, .inr (Nat.le_trans I.sz hb), fun x c e z => ?_, fun p hp z => ?_⟩
  · obtain ⟨v, q⟩ := I.cell x c e
    exact absurd (Nat.lt_of_lt_of_le q.lt (by rw [z]; exact hb)) (Nat.lt_irrefl _)
  · exact absurd (Nat.lt_of_lt_of_le (Heap.lt_size (I.pin p hp).1) (by rw [z]; exact hb)) (Nat.lt_irrefl _)
structure Turn (P : Program) (w : World) (K : PySem.W.Frag) (tg : Expr) (J : It) (fp : List Addr) (it : Addr) (tn : Nat → Heap → Prop) : Prop where
  mem : it ∈ fp
  obj : ∀ i h, tn i h → ∀ b ∈ fp, ∃ o, h.get? b = some o ∧ ∀ v, o.data ≠ .cell v
  keep : ∀ i h h', tn i h → (∀ b ∈ fp, ∀ o, h.get? b = some o → h'.get? b = some o) → tn i h'
  item : ∀ (X : Cx), X.prog = P → X.w = w → X.K = K → X.calm = true → ∀ (i : Nat) (pins : List (Addr × Obj)) (s : Shared) (σ : St) (H : Hp) (E : Value → Shared → Prop), Inv X pins σ H s → (∀ b ∈ fp, FpOk X pins H b) → tn i s.heap → J.go i H →
    wpAny (model P w) X.A (pyNext (.ref it)) (fun r s1 => ∃ u, r = some u ∧
      wpAny (model P w) X.A (letOwnedTupleGo tg (.ref it) u) (fun _ s2 => ∃ x H', Inv X pins σ H' s2 ∧ RelV x u ∧ J.yld i H x H' ∧ tn (i + 1) s2.heap ∧ ∀ b ∈ fp, H' b = none) E s1) E s
  done : ∀ (X : Cx), X.prog = P → X.w = w → X.K = K → X.calm = true → ∀ (i : Nat) (pins : List (Addr × Obj)) (s : Shared) (σ : St) (H : Hp) (E : Value → Shared → Prop), Inv X pins σ H s → (∀ b ∈ fp, FpOk X pins H b) → tn i s.heap → J.stop i H →
    wpAny (model P w) X.A (pyNext (.ref it)) (fun r s1 => r = none ∧ Inv X pins σ H s1) E s
  self : ∀ (A : Around) (i : Nat) (s : Shared) (Q : Value → Shared → Prop) (E : Value → Shared → Prop), tn i s.heap → Q (.ref it) s → wpAny (model P w) A (pyIter (.ref it)) Q E s
abbrev TI := St → Hp → (It → Hp → Prop) → Prop
/-- an iterator has come -/
def PIE (X : Cx) (pins : List (Addr × Obj)) (σ : St) (tg : Expr) (R : It → Hp → Prop) (itv : Value) (s2 : Shared) : Prop :=
  ∃ (it : Addr) (fp : List Addr) (tn : Nat → Heap → Prop) (J : It) (H' : Hp), itv = .ref it ∧ Inv X pins σ H' s2 ∧ Turn X.prog X.w X.K tg J fp it tn ∧ tn 0 s2.heap ∧ (∀ b ∈ fp, FpOk X pins H' b) ∧ R J H'
def PI (X : Cx) (tg iter : Expr) (wi : TI) : Prop :=
  ∀ (pins : List (Addr × Obj)) (s : Shared) (σ : St) (H : Hp) (R : It → Hp → Prop), Inv X pins σ H s → wi σ H R →
    wpAny (model X.prog X.w) X.A (eval iter X.env) (fun v s1 => wpAny (model X.prog X.w) X.A (pyIter v) (PIE X pins σ tg R) X.xe s1) X.xe s

/-- the step ahead of the store is nothing for an iterator that keeps no tuple -/
theorem go_of {M : Model} {A : Around} {E : Value → Shared → Prop} {s : Shared} {tg : Expr} {it : Addr} {u : Value} {o : Obj} {n : String} {vs : Array Value} {Q : Unit → Shared → Prop} (ho : s.heap.get? it = some o) (hc : o.cls = .type n) (hd : o.data = .fields vs)
    (hn : ["enumerate", "zip", "dict_itemiterator", "dict_reverseitemiterator", "odict_iterator", "itertools.zip_longest", "itertools.pairwise"].contains n = false) (hQ : Q () s) : wpAny M A (letOwnedTupleGo tg (.ref it) u) Q E s := by
  unfold letOwnedTupleGo
  cases tg <;> first
    | exact wpAny_pure hQ
    | (cases u <;> first
        | exact wpAny_pure hQ
        | (refine wpAny_bind (wpAny_load ho ?_)
           rw [hc, hd]
           show wpAny M A (if (["enumerate", "zip", "dict_itemiterator", "dict_reverseitemiterator", "odict_iterator", "itertools.zip_longest", "itertools.pairwise"].contains n && vs[0]? == some (rawInt _)) = true then _ else _) Q E s
           rw [if_neg (by intro h; rw [hn, Bool.false_and] at h; cases h)]
           exact wpAny_pure hQ))

/-- the list at a, as it stands at each turn (a loop may append to it) -/
def Itl (K : PySem.W.Frag) (a : Addr) : It :=
  ⟨fun i H => ∃ xs x, SqL K H a xs ∧ xs[i]? = some x, fun i H x H' => H' = H ∧ ∀ xs, SqL K H a xs → xs[i]? = some x, fun i H => ∃ xs, SqL K H a xs ∧ xs.length ≤ i⟩
def Itt (K : PySem.W.Frag) (a : Addr) : It :=
  ⟨fun i H => ∃ xs x, SqT K H a xs ∧ xs[i]? = some x, fun i H x H' => H' = H ∧ ∀ xs, SqT K H a xs → xs[i]? = some x, fun i H => ∃ xs, SqT K H a xs ∧ xs.length ≤ i⟩
/-- lo, lo + 1, .. (n of them) -/
def Itr (lo : Int) (n : Nat) : It := ⟨fun i _ => i < n, fun i H x H' => H' = H ∧ x = .int (lo + i), fun i _ => n ≤ i⟩
theorem turn_list {P : Program} {w : World} {K : PySem.W.Frag} {tg : Expr} (a it : Addr) : Turn P w K tg (Itl K a) [it] it (fun i h => h.IsListIter it a i) where
  mem := by simp
  obj := fun i h st b hb => by
    have e : b = it := by simpa using hb
    subst e
    obtain ⟨o, e, c, d⟩ := st
    exact ⟨o, e, fun v z => by rw [d] at z; cases z⟩
  keep := fun i h h' st k => st.at fun o e => k it (by simp) o e
  item := by
    intro X hP hw hK hc i pins s σ H E I hf st hg
    subst hP hw hK
    obtain ⟨xs, x, hq, hx⟩ := hg
    obtain ⟨its, rv, p, hz⟩ := I.list hq
    obtain ⟨u, hu, ru⟩ := rv.get hx
    obtain ⟨f0, f1, f2, f3, f4, f5⟩ := hf it (by simp)
    refine wpAny_pyNext_list_item st p.isList (x := u) (by simpa using hu) fun h' st' sb => ?_
    have I1 : Inv X pins σ H { s with heap := h' } := I.turned (t' := s.toks) (fun b o hb e => (sb.2 b hb).trans e) f0 f1 f3 f4 f5
    obtain ⟨o, e, c, d⟩ := id st'
    exact ⟨u, rfl, go_of (s := { s with heap := h' }) e c d (by decide) ⟨x, H, I1, ru, ⟨rfl, fun ys hy => by rw [I.list_inj hy hq]; exact hx⟩, st', fun b hb => (hf b hb).1⟩⟩
  done := by
    intro X hP hw hK hc i pins s σ H E I hf st hg
    subst hP hw hK
    obtain ⟨xs, hq, hx⟩ := hg
    obtain ⟨its, rv, p, hz⟩ := I.list hq
    obtain ⟨f0, f1, f2, f3, f4, f5⟩ := hf it (by simp)
    have hl := rv.length
    exact wpAny_pyNext_list_end (I.ok.hd hc) st p.isList (by simp; omega) fun h' eb => ⟨rfl, I.turned (t' := s.toks) (fun b o hb e => eb b o hb e) f0 f1 f3 f4 f5⟩
  self := fun _ _ _ _ _ st h => wpAny_pyIter_listiter st h
theorem turn_tuple {P : Program} {w : World} {K : PySem.W.Frag} {tg : Expr} (a it : Addr) : Turn P w K tg (Itt K a) [it] it (fun i h => h.IsTupleIter it a i) where
  mem := by simp
  obj := fun i h st b hb => by
    have e : b = it := by simpa using hb
    subst e
    obtain ⟨o, e, c, d⟩ := st
    exact ⟨o, e, fun v z => by rw [d] at z; cases z⟩
  keep := fun i h h' st k => st.at fun o e => k it (by simp) o e
  item := by
    intro X hP hw hK hc i pins s σ H E I hf st hg
    subst hP hw hK
    obtain ⟨xs, x, hq, hx⟩ := hg
    obtain ⟨its, rv, p, hz⟩ := I.tuple hq
    obtain ⟨u, hu, ru⟩ := rv.get hx
    obtain ⟨f0, f1, f2, f3, f4, f5⟩ := hf it (by simp)
    refine wpAny_pyNext_tuple_item st (show s.heap.IsTuple a its.toArray from p) (x := u) (by simpa using hu) fun h' st' sb => ?_
    have I1 : Inv X pins σ H { s with heap := h' } := I.turned (t' := s.toks) (fun b o hb e => (sb.2 b hb).trans e) f0 f1 f3 f4 f5
    obtain ⟨o, e, c, d⟩ := id st'
    exact ⟨u, rfl, go_of (s := { s with heap := h' }) e c d (by decide) ⟨x, H, I1, ru, ⟨rfl, fun ys hy => by rw [I.tuple_inj hy hq]; exact hx⟩, st', fun b hb => (hf b hb).1⟩⟩
  done := by
    intro X hP hw hK hc i pins s σ H E I hf st hg
    subst hP hw hK
    obtain ⟨xs, hq, hx⟩ := hg
    obtain ⟨its, rv, p, hz⟩ := I.tuple hq
    obtain ⟨f0, f1, f2, f3, f4, f5⟩ := hf it (by simp)
    have hl := rv.length
    exact wpAny_pyNext_tuple_end (I.ok.hd hc) st (show s.heap.IsTuple a its.toArray from p) (by simp; omega) fun h' eb => ⟨rfl, I.turned (t' := s.toks) (fun b o hb e => eb b o hb e) f0 f1 f3 f4 f5⟩
  self := fun _ _ _ _ _ st h => wpAny_pyIter_tupleiter st h
theorem turn_range {P : Program} {w : World} {K : PySem.W.Frag} {tg : Expr} (it : Addr) (lo : Int) (n : Nat) : Turn P w K tg (Itr lo n) [it] it (fun i h => IsRangeIter h it (lo + (i : Nat) * 1) ((n : Int) - (i : Nat)) 1) where
  mem := by simp
  obj := fun i h st b hb => by
    have e : b = it := by simpa using hb
    subst e
    exact ⟨_, st, fun v z => by
      have z' : Data.fields _ = Data.cell v := z
      cases z'⟩
  keep := fun i h h' st k => k it (by simp) _ st
  item := by
    intro X hP hw hK hc i pins s σ H E I hf st hg
    subst hP hw hK
    obtain ⟨f0, f1, f2, f3, f4, f5⟩ := hf it (by simp)
    have W := Walks.range (prog := X.prog) (w := X.w) (I.ok.hd hc) it lo 1 n
    refine W.item i s _ _ hg st fun v h' tk hv st' kk => ?_
    obtain ⟨t, rfl⟩ := hv
    have I1 : Inv X pins σ H { s with heap := h', toks := tk } := I.turned (fun b o hb e => kk b o (by simpa using hb) e) f0 f1 f3 f4 f5
    refine ⟨_, rfl, go_of (s := { s with heap := h', toks := tk }) (n := "range_iterator") st' rfl rfl (by decide) ⟨.int (lo + i), H, I1, ⟨t, ?_⟩, ⟨rfl, rfl⟩, st', fun b hb => (hf b hb).1⟩⟩
    rw [Int.mul_one]
  done := by
    intro X hP hw hK hc i pins s σ H E I hf st hg
    subst hP hw hK
    obtain ⟨f0, f1, f2, f3, f4, f5⟩ := hf it (by simp)
    exact wpAny_pyNext_range_end (I.ok.hd hc) st (by have : n ≤ i := hg; omega) fun h' eb => ⟨rfl, I.turned (t' := s.toks) (fun b o hb e => eb b o hb e) f0 f1 f3 f4 f5⟩
  self := fun _ _ _ _ _ st h => wpAny_pyIter_rangeiter st h
end L2

namespace L2
open PySem PySem.Spec PyProof.Rows
section
variable {X : Cx} {tg : Expr}
def iList (K : PySem.W.Frag) (tl : TE) : TI := fun σ H R => tl σ H fun x H1 => ∃ a, x = .ref a ∧ (∃ xs, SqL K H1 a xs) ∧ R (Itl K a) H1
def iTup (K : PySem.W.Frag) (tl : TE) : TI := fun σ H R => tl σ H fun x H1 => ∃ a, x = .ref a ∧ (∃ xs, SqT K H1 a xs) ∧ R (Itt K a) H1
theorem pi_list {l : Expr} {tl : TE} (hl : PE X l tl) : PI X tg l (iList X.K tl) := by
  intro pins s σ H R I h
  refine thn (hl pins s σ H _ I h) fun v s1 ⟨x, H1, I1, r1, q1⟩ => ?_
  obtain ⟨a, e, ⟨xs, hq⟩, q⟩ := q1
  subst e
  cases r1
  obtain ⟨its, rv, p, hz⟩ := I1.list hq
  refine wpAny_pyIter_list p.isList ?_
  refine ⟨s1.heap.objs.size, [s1.heap.objs.size], _, _, H1, rfl, I1.kept (t' := s1.toks) fun b o e => Heap.get?_push_of_some _ e, turn_list a _, ⟨_, Heap.get?_push_size _ rfl, rfl, rfl⟩, fun b hb => ?_, q⟩
  have e : b = s1.heap.objs.size := by simpa using hb
  subst e
  exact I1.fpOk (Nat.le_refl _) (I1.hok.fresh (Nat.le_refl _))
theorem pi_tup {l : Expr} {tl : TE} (hl : PE X l tl) : PI X tg l (iTup X.K tl) := by
  intro pins s σ H R I h
  refine thn (hl pins s σ H _ I h) fun v s1 ⟨x, H1, I1, r1, q1⟩ => ?_
  obtain ⟨a, e, ⟨xs, hq⟩, q⟩ := q1
  subst e
  cases r1
  obtain ⟨its, rv, p, hz⟩ := I1.tuple hq
  refine wpAny_pyIter_tuple (show s1.heap.IsTuple a its.toArray from p) ?_
  refine ⟨s1.heap.objs.size, [s1.heap.objs.size], _, _, H1, rfl, I1.kept (t' := s1.toks) fun b o e => Heap.get?_push_of_some _ e, turn_tuple a _, ⟨_, Heap.get?_push_size _ rfl, rfl, rfl⟩, fun b hb => ?_, q⟩
  have e : b = s1.heap.objs.size := by simpa using hb
  subst e
  exact I1.fpOk (Nat.le_refl _) (I1.hok.fresh (Nat.le_refl _))
/-- a range object just made, walked -/
theorem range_it {pins : List (Addr × Obj)} {σ : St} {H : Hp} {s : Shared} {R : It → Hp → Prop} {E : Value → Shared → Prop} {lo hi : Int} {t u v : Tok} {tk : Nat} (I : Inv X pins σ H s) (h1 : -(2 ^ 62) ≤ lo) (h2 : lo < 2 ^ 62) (h3 : -(2 ^ 62) ≤ hi) (h4 : hi < 2 ^ 62)
    (q : R (Itr lo (hi - lo).toNat) H) : wpAny (model X.prog X.w) X.A (pyIter (.ref s.heap.objs.size)) (PIE X pins σ tg R) E { s with heap := s.heap.push { cls := .type "range", data := .fields #[.int lo t, .int hi u, .int 1 v] }, toks := tk } := by
  refine wpAny_pyIter_range (IsRange.new ..) (small_one h1 h2 h3 h4) ?_
  have I1 : Inv X pins σ H { s with heap := s.heap.push { cls := .type "range", data := .fields #[.int lo t, .int hi u, .int 1 v] }, toks := tk } := I.kept fun b o e => Heap.get?_push_of_some _ e
  refine ⟨(s.heap.push { cls := .type "range", data := .fields #[.int lo t, .int hi u, .int 1 v] }).objs.size, [(s.heap.push { cls := .type "range", data := .fields #[.int lo t, .int hi u, .int 1 v] }).objs.size], _, _, H, rfl,
    I1.kept (t' := tk) fun b o e => Heap.get?_push_of_some _ e, turn_range _ lo (hi - lo).toNat, ?_, fun b hb => ?_, q⟩
  · have e1 : lo + ((0 : Nat) : Int) * 1 = lo := by simp
    have e2 : (((hi - lo).toNat : Nat) : Int) - ((0 : Nat) : Int) = Builtin.Range.rangeSize lo hi 1 := by rw [rangeSize_one]; split <;> omega
    show IsRangeIter _ _ (lo + ((0 : Nat) : Int) * 1) ((((hi - lo).toNat : Nat) : Int) - ((0 : Nat) : Int)) 1
    rw [e1, e2]
    exact Heap.get?_push_size _ rfl
  · have e : b = (s.heap.push { cls := .type "range", data := .fields #[.int lo t, .int hi u, .int 1 v] }).objs.size := by simpa using hb
    subst e
    exact I1.fpOk (Nat.le_refl _) (I1.hok.fresh (Nat.le_refl _))
def iRng2 (ta : TA) : TI := fun σ H R => ta σ H fun vs H1 => ∃ i j : Int, vs = [.int i, .int j] ∧ (-(2 ^ 62) ≤ i ∧ i < 2 ^ 62 ∧ -(2 ^ 62) ≤ j ∧ j < 2 ^ 62) ∧ R (Itr i (j - i).toNat) H1
theorem pi_range2 {a b : Expr} {ta : TA} {p pos : Pos} (hg : Gl X "range") (hm : X.mg "range" = none) (ha : PA X [a, b] ta) (hs : starEach [a, b] X.env = [(false, eval a X.env), (false, eval b X.env)] := by rfl) (hs2 : starEach [b] X.env = [(false, eval b X.env)] := by rfl) :
    PI X tg (.Call (.Name "range" p) [a, b] [] pos) (iRng2 ta) := by
  intro pins s σ H R I h
  refine Call_ (ld_blt I hg hm boot_range (PyProof.Rows.callWith_type1 (thn (ha pos pins s σ H _ I h) fun us s1 ⟨vs, H1, I1, r1, q1⟩ => ?_) (by rw [hs, hs2]) (by rw [hs2]; rfl)))
  obtain ⟨i, j, e, ⟨q1, q2, q3, q4⟩, q⟩ := q1
  subst e
  cases r1 with
  | cons r rr =>
    cases rr with
    | cons r' rr =>
      cases rr
      obtain ⟨t, rfl⟩ := r
      obtain ⟨t', rfl⟩ := r'
      exact call_range_2 (range_it I1 q1 q2 q3 q4 q)

/-! ### for -/
/-- W: the invariant by the turn and a measure; N: what the body is to reach -/
def tFor (wi : TI) (g : TG) (tb : TS) : TS := fun D σ H => wi σ H fun J H1 => ∃ W : Nat → Nat → St → Hp → Prop, (∃ m, W 0 m σ H1) ∧ ∀ i m σ H, W i m σ H →
  (J.stop i H ∧ D.nx σ H) ∨ (J.go i H ∧ ∃ N : St → Hp → Prop, (∀ σ' H', N σ' H' → ∃ m', m' < m ∧ W (i + 1) m' σ' H') ∧ ∀ x H', J.yld i H x H' → g x σ H' fun σ2 H2 => tb { D with nx := N, ct := N, bk := D.nx } σ2 H2)
/-- the records at fp as they stand -/
def pinsAt (fp : List Addr) (h : Heap) : List (Addr × Obj) := fp.filterMap fun b => (h.get? b).map fun o => (b, o)
theorem mem_pinsAt {fp : List Addr} {h : Heap} {b : Addr} {o : Obj} (hb : b ∈ fp) (e : h.get? b = some o) : (b, o) ∈ pinsAt fp h := List.mem_filterMap.mpr ⟨b, hb, by rw [e]; rfl⟩
theorem of_pinsAt {fp : List Addr} {h : Heap} {p : Addr × Obj} (hp : p ∈ pinsAt fp h) : p.1 ∈ fp ∧ h.get? p.1 = some p.2 := by
  obtain ⟨b, hb, e⟩ := List.mem_filterMap.mp hp
  cases q : h.get? b with
  | none => rw [q] at e; cases e
  | some o =>
    rw [q] at e
    have e' : (b, o) = p := Option.some.inj e
    subst e'
    exact ⟨hb, q⟩
theorem Inv.pinned {pins : List (Addr × Obj)} {σ : St} {H : Hp} {s : Shared} {fp : List Addr} (I : Inv X pins σ H s) (hf : ∀ b ∈ fp, FpOk X pins H b) (ho : ∀ b ∈ fp, ∃ o, s.heap.get? b = some o ∧ ∀ v, o.data ≠ .cell v) : Inv X (pins ++ pinsAt fp s.heap) σ H s :=
  I.pins_of fun p hp => (List.mem_append.mp hp).elim (fun z => I.pin p (List.mem_append_right _ z)) fun z => by
    obtain ⟨hb, e⟩ := of_pinsAt z
    obtain ⟨f0, f1, f2, _⟩ := hf p.1 hb
    obtain ⟨o, e', d⟩ := ho p.1 hb
    rw [e] at e'; cases e'
    exact ⟨e, f0, f1, f2, d⟩
theorem Inv.unpinned {pins pl : List (Addr × Obj)} {σ : St} {H : Hp} {s : Shared} (I : Inv X (pins ++ pl) σ H s) : Inv X pins σ H s := I.pins_of fun p hp => I.pin p (List.mem_append_right _ (List.mem_append_left _ hp))
theorem ps_for {iter : Expr} {body : List Stmt} {wi : TI} {g : TG} {tb : TS} {pos : Pos} (hp : PassesOwn (model X.prog X.w) X.A X.env X.xe) (hc : X.calm = true) (hi : PI X tg iter wi) (hg : PG X tg g) (hb : PSs X body tb)
    (hs : ∀ x, foldedSetIterable iter X.env x = pure x := by intro _; rfl) : PS X (.For tg iter body [] pos) (tFor wi g tb) := by
  intro pins s σ H D I h
  refine wpAny_For (thn (hi pins s σ H _ I h) fun v s1 h1 => thn h1 fun itv s2 h2 => ?_) hs
  obtain ⟨it, fp, tn, J, H2, e, I2, T, st2, f2, W, ⟨m0, w0⟩, turn⟩ := h2
  subst e
  -- what stays true of the iterator's objects through the loop
  have stat : ∀ {H' : Hp}, (∀ b ∈ fp, H' b = none) → ∀ b ∈ fp, FpOk X pins H' b := fun hn b hb => ⟨hn b hb, (f2 b hb).2⟩
  refine codeAny_forLoop_any (fun n s' => ∃ i σ' H', Inv X pins σ' H' s' ∧ tn i s'.heap ∧ (∀ b ∈ fp, H' b = none) ∧ W i n σ' H') ?_ m0 ⟨0, σ, H2, I2, st2, fun b hb => (f2 b hb).1, w0⟩
  rintro n s3 ⟨i, σ3, H3, I3, st3, fr3, w3⟩
  rcases turn i n σ3 H3 w3 with ⟨stop, qn⟩ | ⟨go, N, hN, step⟩
  · refine wpAny_passesOwn hp (thn (T.done X rfl rfl rfl hc i pins s3 σ3 H3 X.xe I3 (stat fr3) st3 stop) fun r s4 ⟨hr, I4⟩ => ?_)
    subst hr
    exact wpAny_execs_nil ⟨σ3, H3, I4, qn⟩
  · refine wpAny_passesOwn hp (thn (T.item X rfl rfl rfl hc i pins s3 σ3 H3 X.xe I3 (stat fr3) st3 go) fun r s4 ⟨u, hr, h4⟩ => ?_)
    subst hr
    refine wpAny_passesOwn hp (thn h4 fun _ s5 ⟨x, H5, I5, r5, y5, st5, fr5⟩ => ?_)
    have I5' := I5.pinned (stat fr5) (T.obj _ _ st5)
    refine wpAny_passesOwn hp (thn (hg _ s5 σ3 H5 x u _ I5' r5 (step x H5 y5)) fun _ s6 ⟨σ6, H6, I6, q6⟩ => ?_)
    refine wpAny_passesOwn hp (thn (hb _ s6 σ6 H6 _ I6 q6) fun f s7 q7 => ?_)
    have again : ∀ {σ7 : St} {H7 : Hp}, Inv X (pins ++ pinsAt fp s5.heap) σ7 H7 s7 → N σ7 H7 → ∃ m, m < n ∧ ∃ i σ' H', Inv X pins σ' H' s7 ∧ tn i s7.heap ∧ (∀ b ∈ fp, H' b = none) ∧ W i m σ' H' := fun {σ7 H7} I7 n7 => by
      obtain ⟨m', hm, w7⟩ := hN σ7 H7 n7
      refine ⟨m', hm, i + 1, σ7, H7, I7.unpinned, T.keep _ _ _ st5 fun b hb o e => (I7.pin (b, o) (List.mem_append_right _ (List.mem_append_right _ (mem_pinsAt hb e)))).1, fun b hb => ?_, w7⟩
      obtain ⟨o, e, d⟩ := T.obj _ _ st5 b hb
      exact (I7.pin (b, o) (List.mem_append_right _ (List.mem_append_right _ (mem_pinsAt hb e)))).2.1
    cases f with
    | next => obtain ⟨σ7, H7, I7, n7⟩ := q7; exact again I7 n7
    | cont => obtain ⟨σ7, H7, I7, n7⟩ := q7; exact again I7 n7
    | brk => obtain ⟨σ7, H7, I7, q7⟩ := q7; exact ⟨σ7, H7, I7.unpinned, q7⟩
    | ret v => obtain ⟨x7, σ7, H7, I7, r7, q7⟩ := q7; exact ⟨x7, σ7, H7, I7.unpinned, r7, q7⟩
end

/-! ### the forms one uses -/
/-- over a list that the body leaves as it is -/
theorem for_list {K : PySem.W.Frag} {a : Addr} {xs : List V} {g : TG} {tb : TS} {D : Ends} {σ : St} {H : Hp} (Pv : Nat → St → Hp → Prop) (h0 : Pv 0 σ H) (hl : ∀ i σ H, i ≤ xs.length → Pv i σ H → SqL K H a xs)
    (hs : ∀ i x σ H, xs[i]? = some x → Pv i σ H → g x σ H fun σ2 H2 => tb { D with nx := Pv (i + 1), ct := Pv (i + 1), bk := D.nx } σ2 H2) (hd : ∀ σ H, Pv xs.length σ H → D.nx σ H) :
    ∃ W : Nat → Nat → St → Hp → Prop, (∃ m, W 0 m σ H) ∧ ∀ i m σ H, W i m σ H →
      ((Itl K a).stop i H ∧ D.nx σ H) ∨ ((Itl K a).go i H ∧ ∃ N : St → Hp → Prop, (∀ σ' H', N σ' H' → ∃ m', m' < m ∧ W (i + 1) m' σ' H') ∧ ∀ x H', (Itl K a).yld i H x H' → g x σ H' fun σ2 H2 => tb { D with nx := N, ct := N, bk := D.nx } σ2 H2) := by
  refine ⟨fun i m σ H => m = xs.length - i ∧ i ≤ xs.length ∧ Pv i σ H, ⟨xs.length, by simp, Nat.zero_le _, h0⟩, ?_⟩
  rintro i m σ H ⟨rfl, hi, p⟩
  have q := hl i σ H hi p
  by_cases hlt : i < xs.length
  · refine .inr ⟨⟨xs, xs[i], q, by simp [hlt]⟩, Pv (i + 1), fun σ' H' p' => ⟨xs.length - (i + 1), by omega, rfl, hlt, p'⟩, fun x H' y => ?_⟩
    obtain ⟨e, y⟩ := y
    subst e
    exact hs i x σ _ (y xs q) p
  · have e : i = xs.length := by omega
    subst e
    exact .inl ⟨⟨xs, q, Nat.le_refl _⟩, hd σ H p⟩
theorem for_tup {K : PySem.W.Frag} {a : Addr} {xs : List V} {g : TG} {tb : TS} {D : Ends} {σ : St} {H : Hp} (Pv : Nat → St → Hp → Prop) (h0 : Pv 0 σ H) (hl : ∀ i σ H, i ≤ xs.length → Pv i σ H → SqT K H a xs)
    (hs : ∀ i x σ H, xs[i]? = some x → Pv i σ H → g x σ H fun σ2 H2 => tb { D with nx := Pv (i + 1), ct := Pv (i + 1), bk := D.nx } σ2 H2) (hd : ∀ σ H, Pv xs.length σ H → D.nx σ H) :
    ∃ W : Nat → Nat → St → Hp → Prop, (∃ m, W 0 m σ H) ∧ ∀ i m σ H, W i m σ H →
      ((Itt K a).stop i H ∧ D.nx σ H) ∨ ((Itt K a).go i H ∧ ∃ N : St → Hp → Prop, (∀ σ' H', N σ' H' → ∃ m', m' < m ∧ W (i + 1) m' σ' H') ∧ ∀ x H', (Itt K a).yld i H x H' → g x σ H' fun σ2 H2 => tb { D with nx := N, ct := N, bk := D.nx } σ2 H2) := by
  refine ⟨fun i m σ H => m = xs.length - i ∧ i ≤ xs.length ∧ Pv i σ H, ⟨xs.length, by simp, Nat.zero_le _, h0⟩, ?_⟩
  rintro i m σ H ⟨rfl, hi, p⟩
  have q := hl i σ H hi p
  by_cases hlt : i < xs.length
  · refine .inr ⟨⟨xs, xs[i], q, by simp [hlt]⟩, Pv (i + 1), fun σ' H' p' => ⟨xs.length - (i + 1), by omega, rfl, hlt, p'⟩, fun x H' y => ?_⟩
    obtain ⟨e, y⟩ := y
    subst e
    exact hs i x σ _ (y xs q) p
  · have e : i = xs.length := by omega
    subst e
    exact .inl ⟨⟨xs, q, Nat.le_refl _⟩, hd σ H p⟩
theorem for_range {lo : Int} {n : Nat} {g : TG} {tb : TS} {D : Ends} {σ : St} {H : Hp} (Pv : Nat → St → Hp → Prop) (h0 : Pv 0 σ H)
    (hs : ∀ i σ H, i < n → Pv i σ H → g (.int (lo + i)) σ H fun σ2 H2 => tb { D with nx := Pv (i + 1), ct := Pv (i + 1), bk := D.nx } σ2 H2) (hd : ∀ σ H, Pv n σ H → D.nx σ H) :
    ∃ W : Nat → Nat → St → Hp → Prop, (∃ m, W 0 m σ H) ∧ ∀ i m σ H, W i m σ H →
      ((Itr lo n).stop i H ∧ D.nx σ H) ∨ ((Itr lo n).go i H ∧ ∃ N : St → Hp → Prop, (∀ σ' H', N σ' H' → ∃ m', m' < m ∧ W (i + 1) m' σ' H') ∧ ∀ x H', (Itr lo n).yld i H x H' → g x σ H' fun σ2 H2 => tb { D with nx := N, ct := N, bk := D.nx } σ2 H2) := by
  refine ⟨fun i m σ H => m = n - i ∧ i ≤ n ∧ Pv i σ H, ⟨n, by simp, Nat.zero_le _, h0⟩, ?_⟩
  rintro i m σ H ⟨rfl, hi, p⟩
  by_cases hlt : i < n
  · refine .inr ⟨hlt, Pv (i + 1), fun σ' H' p' => ⟨n - (i + 1), by omega, rfl, hlt, p'⟩, fun x H' y => ?_⟩
    obtain ⟨e, y⟩ := y
    subst e y
    exact hs i σ _ hlt p
  · have e : i = n := by omega
    subst e
    exact .inl ⟨Nat.le_refl _, hd σ H p⟩
end L2

namespace L2
open PySem PySem.Spec PyProof.Rows

abbrev R2 := V → V → Hp → VK → Prop
/-- a two-place operation on values: f is binaryOp op, inplaceOp op or compareOp op -/
def OpR (X : Cx) (f : Value → Value → Sem Value) (r : R2) : Prop :=
  ∀ (pins : List (Addr × Obj)) (s : Shared) (σ : St) (H : Hp) (x y : V) (v u : Value) (Q : VK), Inv X pins σ H s → RelV x v → RelV y u → r x y H Q →
    wpAny (model X.prog X.w) X.A (f v u) (EP X pins σ Q) X.xe s
/-- a call of a value that is known (a builtin, a type) with values -/
def CallR (X : Cx) (f : Value) (r : List V → Hp → VK → Prop) : Prop :=
  ∀ (pins : List (Addr × Obj)) (s : Shared) (σ : St) (H : Hp) (xs : List V) (us : List Value) (Q : VK), Inv X pins σ H s → Vals xs us → r xs H Q →
    wpAny (model X.prog X.w) X.A (call f us) (EP X pins σ Q) X.xe s
def tOp (r : R2) (ta tb : TE) : TE := fun σ H Q => ta σ H fun x H1 => tb σ H1 fun y H2 => r x y H2 Q
/-- ints in, under C, and a value out -/
def rI (C : Int → Int → Prop) (g : Int → Int → V) : R2 := fun x y H Q => ∃ i j, x = .int i ∧ y = .int j ∧ C i j ∧ Q (g i j) H
def rI0 (g : Int → Int → V) : R2 := fun x y H Q => ∃ i j, x = .int i ∧ y = .int j ∧ Q (g i j) H
section
variable {X : Cx} {a b c : Expr} {ta tb tc : TE} {pos : Pos}

theorem binT (ha : PE X a ta) (hb : PE X b tb) {pins : List (Addr × Obj)} {s : Shared} {σ : St} {H : Hp} {R : V → V → Hp → Prop} (I : Inv X pins σ H s)
    (h : ta σ H fun x H1 => tb σ H1 fun y H2 => R x y H2) {Q : Value → Shared → Prop} {f : Value → Value → Sem Value}
    (hf : ∀ v u s2 x y H2, Inv X pins σ H2 s2 → RelV x v → RelV y u → R x y H2 → wpAny (model X.prog X.w) X.A (f v u) Q X.xe s2) :
    wpAny (model X.prog X.w) X.A (eval a X.env) (fun v s₁ => wpAny (model X.prog X.w) X.A (eval b X.env) (fun u s₂ => wpAny (model X.prog X.w) X.A (f v u) Q X.xe s₂) X.xe s₁) X.xe s := by
  refine thn (ha pins s σ H _ I h) fun v s1 ⟨x, H1, I1, r1, q1⟩ => ?_
  refine thn (hb pins s1 σ H1 _ I1 q1) fun u s2 ⟨y, H2, I2, r2, q2⟩ => ?_
  exact hf v u s2 x y H2 I2 r1 r2 q2

theorem pe_op {op : Operator} {r : R2} (ho : OpR X (binaryOp op) r) (ha : PE X a ta) (hb : PE X b tb) : PE X (.BinOp a op b pos) (tOp r ta tb) := by
  intro pins s σ H Q I h
  exact wpAny_BinOp (binT ha hb I h fun v u s2 x y H2 I2 rx ry q => ho pins s2 σ H2 x y v u Q I2 rx ry q)
/-! ### ints -/
theorem opI {f : Value → Value → Sem Value} {C : Int → Int → Prop} {g : Int → Int → Int}
    (rule : ∀ (i j : Int) (t u : Tok) (s : Shared) (Q : Value → Shared → Prop) (E : Value → Shared → Prop), C i j → Q (.int (g i j) s.toks) { s with toks := s.toks + 1 } → wpAny (model X.prog X.w) X.A (f (.int i t) (.int j u)) Q E s) :
    OpR X f (rI C fun i j => .int (g i j)) := by
  intro pins s σ H x y v u Q I rx ry h
  obtain ⟨i, j, rfl, rfl, hc, q⟩ := h
  obtain ⟨t, rfl⟩ := rx
  obtain ⟨t', rfl⟩ := ry
  exact rule i j t t' s _ _ hc ⟨.int (g i j), H, I.tok _, ⟨_, rfl⟩, q⟩
theorem opI0 {f : Value → Value → Sem Value} {g : Int → Int → Int}
    (rule : ∀ (i j : Int) (t u : Tok) (s : Shared) (Q : Value → Shared → Prop) (E : Value → Shared → Prop), Q (.int (g i j) s.toks) { s with toks := s.toks + 1 } → wpAny (model X.prog X.w) X.A (f (.int i t) (.int j u)) Q E s) :
    OpR X f (rI0 fun i j => .int (g i j)) := by
  intro pins s σ H x y v u Q I rx ry h
  obtain ⟨i, j, rfl, rfl, q⟩ := h
  obtain ⟨t, rfl⟩ := rx
  obtain ⟨t', rfl⟩ := ry
  exact rule i j t t' s _ _ ⟨.int (g i j), H, I.tok _, ⟨_, rfl⟩, q⟩
theorem opB0 {f : Value → Value → Sem Value} {g : Int → Int → Bool}
    (rule : ∀ (i j : Int) (t u : Tok) (s : Shared) (Q : Value → Shared → Prop) (E : Value → Shared → Prop), Q (.bool (g i j)) s → wpAny (model X.prog X.w) X.A (f (.int i t) (.int j u)) Q E s) :
    OpR X f (rI0 fun i j => .bl (g i j)) := by
  intro pins s σ H x y v u Q I rx ry h
  obtain ⟨i, j, rfl, rfl, q⟩ := h
  obtain ⟨t, rfl⟩ := rx
  obtain ⟨t', rfl⟩ := ry
  exact rule i j t t' s _ _ ⟨.bl (g i j), H, I, rfl, q⟩

def CMul (i j : Int) : Prop := (-(2 ^ 64) < i ∧ i < 2 ^ 64) ∨ (-(2 ^ 64) < j ∧ j < 2 ^ 64)
theorem CMul.ok {i j : Int} (h : CMul i j) : IntMulOk i j := by
  rcases h with ⟨h1, h2⟩ | ⟨h1, h2⟩
  · exact .of_left (intBits_le_64 h1 h2)
  · exact .of_right (intBits_le_64 h1 h2)
theorem op_add : OpR X (binaryOp .Add) (rI0 fun i j => .int (i + j)) := opI0 fun _ _ _ _ _ _ _ q => add_int q
theorem op_sub : OpR X (binaryOp .Sub) (rI0 fun i j => .int (i - j)) := opI0 fun _ _ _ _ _ _ _ q => sub_int q
theorem op_mul : OpR X (binaryOp .Mult) (rI CMul fun i j => .int (i * j)) := opI fun _ _ _ _ _ _ _ hc q => mul_int q hc.ok
/-! ### bools among ints: n += (a < b) -/
end

/-! ### comparisons -/
/-- the scalars that == tells apart as data does -/
def scal : V → V → Bool
  | .non, .non => true | .non, .int _ => true | .int _, .non => true | .non, .bl _ => true | .bl _, .non => true | .non, .str _ => true | .str _, .non => true
  | .int _, .int _ => true | .bl _, .bl _ => true | .str _, .str _ => true | .byt _, .byt _ => true
  | .int _, .str _ => true | .str _, .int _ => true | .bl _, .str _ => true | .str _, .bl _ => true
  | _, _ => false
def rEq : R2 := fun x y H Q => scal x y = true ∧ Q (.bl (decide (x = y))) H
theorem dec_int {i j : Int} : decide (V.int i = V.int j) = (i == j) := by
  rw [Bool.eq_iff_iff]
  simp
theorem dec_bl {i j : Bool} : decide (V.bl i = V.bl j) = (i == j) := by
  rw [Bool.eq_iff_iff]
  simp
theorem dec_str {i j : Str} : decide (V.str i = V.str j) = (i == j) := by
  rw [Bool.eq_iff_iff]
  simp
theorem dec_byt {i j : Array UInt8} : decide (V.byt i = V.byt j) = (i.toList == j.toList) := by
  rw [Bool.eq_iff_iff]
  cases i
  cases j
  simp

section
variable {X : Cx} {a b c : Expr} {ta tb tc : TE} {pos : Pos}
theorem fin_bl {pins : List (Addr × Obj)} {σ : St} {H : Hp} {s : Shared} {Q : VK} {k k' : Bool} (I : Inv X pins σ H s) (q : Q (.bl k) H) (e : k = k') : EP X pins σ Q (.bool k') s := by
  subst e
  exact ⟨.bl k, H, I, rfl, q⟩
theorem op_eq : OpR X (compareOp .Eq) rEq := by
  intro pins s σ H x y v u Q I rx ry h
  obtain ⟨hs, q⟩ := h
  cases x with
  | non =>
    cases rx
    cases y with
    | non => cases ry; exact PySem.EqNone.eq_none_none (fin_bl I q (by simp))
    | bl j => cases ry; exact PySem.EqNone.eq_none_bool (fin_bl I q (by simp))
    | int j => obtain ⟨t', rfl⟩ := ry; exact PySem.EqNone.eq_none_int (fin_bl I q (by simp))
    | str j => obtain ⟨t', rfl⟩ := ry; exact PySem.EqNone.eq_none_str (fin_bl I q (by simp))
    | _ => exact absurd (show false = true from hs) Bool.false_ne_true
  | bl i =>
    cases rx
    cases y with
    | non => cases ry; exact PySem.EqNone.eq_bool_none (fin_bl I q (by simp))
    | bl j => cases ry; exact eq_bool (fin_bl I q dec_bl)
    | str j => obtain ⟨t', rfl⟩ := ry; exact PySem.EqMixed.eq_bool_str (fin_bl I q (by simp))
    | _ => exact absurd (show false = true from hs) Bool.false_ne_true
  | int i =>
    obtain ⟨t, rfl⟩ := rx
    cases y with
    | non => cases ry; exact PySem.EqNone.eq_int_none (fin_bl I q (by simp))
    | int j => obtain ⟨t', rfl⟩ := ry; exact eq_int (fin_bl I q dec_int)
    | str j => obtain ⟨t', rfl⟩ := ry; exact PySem.EqMixed.eq_int_str (fin_bl I q (by simp))
    | _ => exact absurd (show false = true from hs) Bool.false_ne_true
  | str i =>
    obtain ⟨t, rfl⟩ := rx
    cases y with
    | non => cases ry; exact PySem.EqNone.eq_str_none (fin_bl I q (by simp))
    | bl j => cases ry; exact PySem.EqMixed.eq_str_bool (fin_bl I q (by simp))
    | int j => obtain ⟨t', rfl⟩ := ry; exact PySem.EqMixed.eq_str_int (fin_bl I q (by simp))
    | str j => obtain ⟨t', rfl⟩ := ry; exact eq_str (fin_bl I q dec_str)
    | _ => exact absurd (show false = true from hs) Bool.false_ne_true
  | byt i =>
    obtain ⟨t, rfl⟩ := rx
    cases y with
    | byt j => obtain ⟨t', rfl⟩ := ry; exact PySem.W.eq_bytes (fin_bl I q dec_byt)
    | _ => exact absurd (show false = true from hs) Bool.false_ne_true
  | _ => cases y <;> exact absurd (show false = true from hs) Bool.false_ne_true
theorem op_lt : OpR X (compareOp .Lt) (rI0 fun i j => .bl (decide (i < j))) := opB0 fun _ _ _ _ _ _ _ q => lt_int q
theorem op_le : OpR X (compareOp .LtE) (rI0 fun i j => .bl (decide (i ≤ j))) := opB0 fun _ _ _ _ _ _ _ q => le_int q
theorem op_gt : OpR X (compareOp .Gt) (rI0 fun i j => .bl (decide (j < i))) := opB0 fun _ _ _ _ _ _ _ q => gt_int q
theorem op_ge : OpR X (compareOp .GtE) (rI0 fun i j => .bl (decide (j ≤ i))) := opB0 fun _ _ _ _ _ _ _ q => ge_int q
/-- is None, is not None: the right side a value none -/
theorem op_isN : OpR X (compareOp .Is) (fun x y H Q => y = .non ∧ Q (.bl (decide (x = .non))) H) := by
  intro pins s σ H x y v u Q I rx ry h
  obtain ⟨rfl, q⟩ := h
  cases ry
  refine is_none_gen (fin_bl I q ?_)
  cases x <;> first
    | (cases rx; rfl)
    | (obtain ⟨t, rfl⟩ := rx; rfl)
theorem nomark (b : Expr) {op : CmpOp} (h : op ≠ .In := by decide) (h2 : op ≠ .NotIn := by decide) : behindInMarks op b = false := by
  have e1 : (op == CmpOp.In) = false := by cases op <;> first | rfl | exact absurd rfl h
  have e2 : (op == CmpOp.NotIn) = false := by cases op <;> first | rfl | exact absurd rfl h2
  cases b <;> simp [behindInMarks, e1, e2]
/-- a comparison as a value; hm: nomark b, or (for in, not in) by with_unfolding_all rfl -/
theorem pe_cmpR {op : CmpOp} {r : R2} (ho : OpR X (compareOp op) r) (ha : PE X a ta) (hb : PE X b tb) (hm : behindInMarks op b = false) : PE X (.Compare a [op] [b] pos) (tOp r ta tb) := by
  intro pins s σ H Q I h
  exact wpAny_Compare1 (binT ha hb I h fun v u s2 x y H2 I2 rx ry q => ho pins s2 σ H2 x y v u Q I2 rx ry q) hm
/-- a reading of a value as a test -/
def tTest (t : TE) : TT := fun σ H Q => t σ H fun x H' => ∃ k, x = .bl k ∧ Q k H'
theorem pt_cmpR {op : CmpOp} {r : R2} (ho : OpR X (compareOp op) r) (ha : PE X a ta) (hb : PE X b tb) (hm : behindInMarks op b = false) : PT X (.Compare a [op] [b] pos) (tTest (tOp r ta tb)) := by
  intro pins s σ H Q I h
  refine wpAny_isTrue_Compare1 (thn (ha pins s σ H _ I h) fun v s1 ⟨x, H1, I1, r1, q1⟩ => thn (hb pins s1 σ H1 _ I1 q1) fun u s2 ⟨y, H2, I2, r2, q2⟩ =>
    thn (ho pins s2 σ H2 x y v u _ I2 r1 r2 q2) fun c s3 ⟨z, H3, I3, r3, k, e, q3⟩ => ?_) hm
  subst e
  cases r3
  exact wpAny_truthy_bool ⟨H3, I3, q3⟩
/-! ### truth -/
theorem line63 : (sizeLine : Nat) < 2 ^ 63 := by rw [sizeLine_eq]; decide
/-! ### strs and bytes -/
/-! ### scalar builtins, by CallR -/
theorem vals1 {x : V} {us : List Value} (r : Vals [x] us) : ∃ u, us = [u] ∧ RelV x u := by
  cases r with
  | cons r1 r2 => cases r2; exact ⟨_, rfl, r1⟩
theorem call_ord : CallR X (.builtin "ord") (fun xs H Q => ∃ x, xs = [.str x] ∧ x.length = 1 ∧ Q (.int (x.cps.getD 0 0 : Nat)) H) := by
  intro pins s σ H xs us Q I r h
  obtain ⟨x, rfl, hz, q⟩ := h
  obtain ⟨u, rfl, t, rfl⟩ := vals1 r
  exact ord_of_one hz ⟨.int _, H, I.tok _, ⟨_, rfl⟩, q⟩
end
end L2

namespace L2
open PySem PySem.Spec PyProof.Rows

/-! ### an instance, its attributes a map -/
structure ObjM (h : Heap) (x dx C : Addr) (mA : Str → Option Value) : Prop where
  obj : h.get? x = some (PySem.W.instObj C dx)
  ns : h.Ns1 dx mA
  ne : dx ≠ x

theorem lookIn_ns {h : Heap} {dx : Addr} {mA : Str → Option Value} (n : h.Ns1 dx mA) : ∃ od, h.get? dx = some od ∧ ∀ name, PySem.W.lookIn name od = some (mA name) := by
  obtain ⟨o, es, ep, ho, hd, hk, _, hm⟩ := n
  refine ⟨o, ho, fun name => ?_⟩
  have e := hm name
  unfold nsFind findBy at e
  rw [← Array.find?_toList] at e
  unfold PySem.W.lookIn
  rw [hd]
  dsimp only
  split
  · rename_i y q
    rw [q] at e
    exact congrArg some e
  · rename_i q
    rw [q] at e
    have a : es.toList.any (·.refKey) = false := by
      rw [List.any_eq_false]
      intro y hy
      obtain ⟨z, t, hkey⟩ := hk y (Array.mem_toList_iff.mp hy)
      simp [DictEntry.refKey, hkey]
    have a' : ¬ es.toList.any (·.refKey) = true := by rw [a]; exact Bool.false_ne_true
    rw [if_neg a']
    exact congrArg some e

theorem ObjM.look {h : Heap} {x dx C : Addr} {mA : Str → Option Value} (I : ObjM h x dx C mA) : ∃ od, PySem.W.InstAt h x (PySem.W.instObj C dx) C (some od) ∧ ∀ name, PySem.W.lookIn name od = some (mA name) :=
  let ⟨od, ho, hl⟩ := lookIn_ns I.ns
  ⟨od, ⟨I.obj, rfl, rfl, ho⟩, hl⟩

section
variable {prog : Program} {w : World} {A : Around} {E : Value → Shared → Prop} {s : Shared} {K : PySem.W.Frag} {x dx C f : Addr} {mA : Str → Option Value} {name : Str} {v : Value}

theorem get_map {expr : Bool} {Q : Value → Shared → Prop} (X : K.In s.heap) (I : ObjM s.heap x dx C mA) (hg : PySem.W.plainGet K C name = true) (hh : PySem.W.hasDictIn K C = true)
    (ha : PySem.W.findIn K (.ref C) name = some none) (hv : mA name = some v) (hv' : PySem.W.handedIn v = true) (h : Q v { s with toks := s.toks + 1 }) :
    wpAny (model prog w) A (getAttr (.ref x) name expr) Q E s := by
  obtain ⟨od, J, hl⟩ := I.look
  exact PySem.W.get_value X J (PySem.W.plainGet_of hg).1 (PySem.W.findObj_own hh ha rfl (by rw [hl, hv])) hv' h

theorem get_meth {pl : Sem Bool} {Q : Value × List Value → Shared → Prop} (X : K.In s.heap) (I : ObjM s.heap x dx C mA) (hg : PySem.W.plainGet K C name = true)
    (hf : PySem.W.findIn K (.ref C) name = some (some (.ref f))) (ht : PySem.W.isFn K (.ref f) = true) (hv : mA name = none) (h : Q (.ref f, [.ref x]) s) :
    wpAny (model prog w) A (getMethod (.ref x) name pl) Q E s := by
  obtain ⟨od, J, hl⟩ := I.look
  exact PySem.W.method_fn X J (PySem.W.plainGet_of hg).1 (PySem.W.plainGet_of hg).2 hf (beq_iff_eq.mp ht) (by show (PySem.W.lookIn name od).map (·.isSome) = some false; rw [hl, hv]; rfl) h

theorem set_map {ns : List Str} {Q : Unit → Shared → Prop} (X : K.In s.heap) (I : ObjM s.heap x dx C mA)
    (hs : PySem.W.findIn K (.ref C) "__setattr__" = some (some (.builtin "object.__setattr__"))) (hp : PySem.W.plainOver K C = true) (ht : PySem.W.takerIn K C name = some none) (hh : PySem.W.hasDictIn K C = true)
    (hw : PySem.Within mA ns) (hsz : ns.length ≤ sizeLine)
    (h : ∀ h', ObjM h' x dx C (fun y => if y = name then some v else mA y) → Heap.SameBut dx s.heap h' → Q () { s with heap := h', toks := s.toks + 2 }) :
    wpAny (model prog w) A (setAttr (.ref x) name v) Q E s := by
  obtain ⟨od, J, hl⟩ := I.look
  refine PySem.W.set_plain X J hs (PySem.W.osa_open (s := { s with toks := s.toks + 1 }) (r := none) X J hp ht fun b => ?_)
  obtain ⟨cd, hc, hd'⟩ := PySem.W.any_some hh
  have hx : s.heap.get? x = some ⟨.ref C, some dx, .plain, #[]⟩ := I.obj
  refine wpAny_bind (wpAny_pure (wpAny_bind (wpAny_bind (wpAny_loadPart hx (wpAny_bind (PySem.W.Looks.here (s := { s with toks := s.toks + 1 }) (PySem.W.looks_clsIn X hc) ?_))))))
  rw [hd']
  refine wpAny_pure (a := some dx) (wpAny_bind (wpAny_pure (wpAny_bind ?_)))
  refine wpAny_nsSet1 (s := { s with toks := s.toks + 1 }) I.ns fun h' hn2 hs2 => ?_
  obtain ⟨oD, esD, epD, hoD, hdD, hcD⟩ := hn2.count (PySem.Within.cons name v hw)
  refine wpAny_bind (wpAny_lookBehind hoD (by rw [hdD]; exact pastItsLine_dict (Nat.le_trans hcD (by rw [List.length_cons]; omega))) ?_)
  exact wpAny_pure (h _ ⟨(hs2.2 _ (Ne.symm I.ne)).trans I.obj, hn2, I.ne⟩ hs2)

/-- C(..): the dict at the heap's end, the instance behind it; then its __init__ -/
theorem make_map {R : Result → Shared → Prop} {vs : List Value} {kw : List (Str × Value)} (X : K.In s.heap) (hm : PySem.W.makesIn K C = true)
    (hi : PySem.W.findIn K (.ref C) "__init__" = some (some (.ref f))) (hf : PySem.W.typeIn K (.ref f) = some (.type "function"))
    (h : codeAny (model prog w) (A.under (.builtin "type.__call__" ⟨.ref C :: vs, kw⟩)) (.call (.ref f) ⟨.ref (s.heap.objs.size + 1) :: vs, kw⟩) (PySem.W.InitBack (s.heap.objs.size + 1) R)
      { s with heap := (s.heap.push PySem.W.emptyDict).push (PySem.W.instObj C s.heap.objs.size) }) :
    codeAny (model prog w) A (.call (.ref C) ⟨vs, kw⟩) R s := by
  obtain ⟨hh, g, d, t, os⟩ := s
  exact PySem.W.make_core (PySem.W.makes_of X hm) (PySem.W.looks_findIn X hi) (fun self => PySem.W.bind_fn X self hf) (.inl rfl) h
end

/-! ### the attributes as a list of pairs -/
def putF (f : Str) (v : V) : List (Str × V) → List (Str × V)
  | [] => [(f, v)]
  | (g, x) :: r => if g = f then (g, v) :: r else (g, x) :: putF f v r
theorem lookup_putF (f g : Str) (v : V) : ∀ fs : List (Str × V), (putF f v fs).lookup g = if g = f then some v else fs.lookup g
  | [] => by
    show List.lookup g [(f, v)] = _
    by_cases h : g = f
    · have hb : (g == f) = true := beq_iff_eq.mpr h
      simp only [List.lookup, hb, if_pos h]
    · have hb : (g == f) = false := beq_eq_false_iff_ne.mpr h
      simp only [List.lookup, hb, if_neg h]
  | (k, x) :: r => by
    have ih := lookup_putF f g v r
    rw [show putF f v ((k, x) :: r) = (if k = f then (k, v) :: r else (k, x) :: putF f v r) from rfl]
    by_cases hk : k = f
    · rw [if_pos hk]
      by_cases h : g = k
      · have hb : (g == k) = true := beq_iff_eq.mpr h
        simp only [List.lookup, hb, if_pos (h.trans hk)]
      · have hb : (g == k) = false := beq_eq_false_iff_ne.mpr h
        simp only [List.lookup, hb, if_neg (fun e : g = f => h (e.trans hk.symm))]
    · rw [if_neg hk]
      by_cases h : g = k
      · have hb : (g == k) = true := beq_iff_eq.mpr h
        simp only [List.lookup, hb, if_neg (fun e : g = f => hk (h.symm.trans e))]
      · have hb : (g == k) = false := beq_eq_false_iff_ne.mpr h
        simp only [List.lookup, hb]
        exact ih
theorem keys_putF (f : Str) (v : V) : ∀ fs : List (Str × V), f ∈ (putF f v fs).map (·.1) ∧ ∀ g, g ∈ fs.map (·.1) → g ∈ (putF f v fs).map (·.1)
  | [] => ⟨by simp [putF], fun g h => by simp at h⟩
  | (k, x) :: r => by
    obtain ⟨i1, i2⟩ := keys_putF f v r
    rw [show putF f v ((k, x) :: r) = (if k = f then (k, v) :: r else (k, x) :: putF f v r) from rfl]
    by_cases hk : k = f
    · rw [if_pos hk]
      subst hk
      exact ⟨by simp, fun g h => by simpa using h⟩
    · rw [if_neg hk]
      refine ⟨?_, fun g h => ?_⟩
      · rw [List.map_cons]
        exact List.mem_cons_of_mem _ i1
      · rw [List.map_cons] at h ⊢
        rcases List.mem_cons.mp h with e | e
        · exact List.mem_cons.mpr (.inl e)
        · exact List.mem_cons_of_mem _ (i2 g e)
theorem length_putF (f : Str) (v : V) : ∀ fs : List (Str × V), (putF f v fs).length ≤ fs.length + 1
  | [] => by simp [putF]
  | (k, x) :: r => by
    have ih := length_putF f v r
    rw [show putF f v ((k, x) :: r) = (if k = f then (k, v) :: r else (k, x) :: putF f v r) from rfl]
    by_cases hk : k = f
    · rw [if_pos hk, List.length_cons, List.length_cons]; omega
    · rw [if_neg hk, List.length_cons, List.length_cons]; omega

theorem RelO.some_of {v : V} {o : Option Value} (r : RelO (some v) o) : ∃ u, o = some u ∧ RelV v u := by
  cases o with
  | none => exact (show False from r).elim
  | some u => exact ⟨u, rfl, r⟩
theorem RelO.none_of {o : Option Value} (r : RelO none o) : o = none := by
  cases o with
  | none => rfl
  | some u => exact (show False from r).elim
theorem handed_of {v : V} {u : Value} (r : RelV v u) : PySem.W.handedIn u = true := by
  cases v with
  | non => cases (show u = Value.none from r); rfl
  | bl b => cases (show u = Value.bool b from r); rfl
  | int i => obtain ⟨t, e⟩ := (show ∃ t, u = Value.int i t from r); cases e; rfl
  | str x => obtain ⟨t, e⟩ := (show ∃ t, u = Value.str x t from r); cases e; rfl
  | byt b => obtain ⟨t, e⟩ := (show ∃ t, u = Value.bytes b t from r); cases e; rfl
  | flt b => obtain ⟨t, e⟩ := (show ∃ t, u = Value.float b t from r); cases e; rfl
  | ref a => cases (show u = Value.ref a from r); rfl
  | ty n => cases (show u = Value.type n from r); rfl

section
variable {P : Program} {w : World} {H H' : Hp} {h h' : Heap} {a C dx : Addr} {fs fs' : List (Str × V)}
theorem ins_get (hok : HOk P w H h) (e : H a = some (.ins C dx fs)) : ∃ mA, ObjM h a dx C mA ∧ (∀ f, RelO (fs.lookup f) (mA f)) ∧ PySem.Within mA (fs.map (·.1)) ∧ fs.length ≤ 1000 ∧ H dx = some (.own a) := by
  obtain ⟨d, z, ne, ob, mA, n, r, q⟩ := (show ObjOk P w H h a (.ins C dx fs) from hok a _ e)
  exact ⟨mA, ⟨ob, n, ne⟩, r, q, z, d⟩
end

/-! ### what of the text a class must have -/
structure Cls (K : PySem.W.Frag) (C : Addr) : Prop where
  pg : PySem.W.plainGet K C Str.empty = true
  hd : PySem.W.hasDictIn K C = true
  po : PySem.W.plainOver K C = true
  sa : PySem.W.findIn K (.ref C) "__setattr__" = some (some (.builtin "object.__setattr__"))
theorem Cls.get {K : PySem.W.Frag} {C : Addr} (c : Cls K C) (f : Str) : PySem.W.plainGet K C f = true := c.pg
/-- no class of it has the name -/
def NoAttr (K : PySem.W.Frag) (C : Addr) (f : Str) : Prop := PySem.W.findIn K (.ref C) f = some none
theorem NoAttr.taker {K : PySem.W.Frag} {C : Addr} {f : Str} (n : NoAttr K C f) : PySem.W.takerIn K C f = some none := by
  unfold PySem.W.takerIn
  rw [show PySem.W.findIn K (.ref C) f = some none from n]
  rfl
/-- a constant of the class -/
structure Con (K : PySem.W.Frag) (C : Addr) (f : Str) (v : V) (u : Value) : Prop where
  at_ : PySem.W.findIn K (.ref C) f = some (some u)
  rel : RelV v u
  get : PySem.W.specialIn K u "__get__" = some none
  cp : PySem.W.copiedNames.contains f = false
/-- a method: a plain def of the class or of one above it -/
structure Meth (K : PySem.W.Frag) (C : Addr) (m : Str) (f : Addr) : Prop where
  at_ : PySem.W.findIn K (.ref C) m = some (some (.ref f))
  fn : PySem.W.isFn K (.ref f) = true
  kp : PySem.W.keepIn K (.ref f) = true

section
variable {X : Cx} {pins : List (Addr × Obj)} {σ : St} {H : Hp} {s : Shared} {a C dx : Addr} {fs : List (Str × V)} {f : Str} {v : V} {A : Around} {E : Value → Shared → Prop}

theorem getattr_ok {b : Bool} {Q : Value → Shared → Prop} (I : Inv X pins σ H s) (e : H a = some (.ins C dx fs)) (c : Cls X.K C) (n : NoAttr X.K C f) (l : fs.lookup f = some v)
    (h : ∀ u s', Inv X pins σ H s' → RelV v u → Q u s') : wpAny (model X.prog X.w) A (getAttr (.ref a) f b) Q E s := by
  obtain ⟨mA, O, r, _, _, _⟩ := ins_get I.hok e
  obtain ⟨u, hu, ru⟩ := RelO.some_of (v := v) (o := mA f) (by rw [← l]; exact r f)
  exact get_map I.kIn O (c.get f) c.hd n hu (handed_of ru) (h u _ (I.tok _) ru)

theorem getmeth_ok {m : Str} {g : Addr} {pl : Sem Bool} {Q : Value × List Value → Shared → Prop} (I : Inv X pins σ H s) (e : H a = some (.ins C dx fs)) (c : Cls X.K C) (k : Meth X.K C m g) (l : fs.lookup m = none)
    (h : Q (.ref g, [.ref a]) s) : wpAny (model X.prog X.w) A (getMethod (.ref a) m pl) Q E s := by
  obtain ⟨mA, O, r, _, _, _⟩ := ins_get I.hok e
  have hn : mA m = none := RelO.none_of (by rw [← l]; exact r m)
  exact get_meth I.kIn O (c.get m) k.at_ k.fn hn h

theorem setattr_ok {y : V} {u : Value} {Q : Unit → Shared → Prop} (I : Inv X pins σ H s) (e : H a = some (.ins C dx fs)) (c : Cls X.K C) (n : NoAttr X.K C f) (hl : fs.length < 1000) (ry : RelV y u)
    (h : ∀ s', Inv X pins σ (upd H a (.ins C dx (putF f y fs))) s' → Q () s') : wpAny (model X.prog X.w) A (setAttr (.ref a) f u) Q E s := by
  obtain ⟨mA, O, r, wi, _, ho⟩ := ins_get I.hok e
  have hz : (fs.map (·.1)).length ≤ sizeLine := by rw [List.length_map, sizeLine_eq]; omega
  refine set_map I.kIn O c.sa c.po n.taker c.hd wi hz fun h' O' sb => h _ ?_
  have hd : ∃ o, h'.get? dx = some o := let ⟨o, _, _, e', _⟩ := O'.ns; ⟨o, e'⟩
  refine I.write (x := a) (e := dx) (by rw [e]; exact True.intro) (.inr ho) (fun b q hb z => (sb.2 b hb).trans z) hd ?_
  refine ⟨by rw [upd_ne O.ne]; exact ho, ?_, O.ne, O'.obj, _, O'.ns, fun g => ?_, fun g hg => ?_⟩
  · have := length_putF f y fs; omega
  · show RelO ((putF f y fs).lookup g) (if g = f then some u else mA g)
    rw [lookup_putF]
    by_cases q : g = f
    · rw [if_pos q, if_pos q]; exact ry
    · rw [if_neg q, if_neg q]; exact r g
  · by_cases q : g = f
    · rw [q]; exact (keys_putF f y fs).1
    · refine (keys_putF f y fs).2 g (wi g fun z => hg ?_)
      show (if g = f then some u else mA g) = none
      rw [if_neg q]; exact z

/-- a new instance, tracked, without attributes -/
theorem Inv.made (I : Inv X pins σ H s) : Inv X pins σ (upd (upd H s.heap.objs.size (.own (s.heap.objs.size + 1))) (s.heap.objs.size + 1) (.ins C s.heap.objs.size []))
    { s with heap := (s.heap.push PySem.W.emptyDict).push (PySem.W.instObj C s.heap.objs.size) } := by
  have e1 : (s.heap.push PySem.W.emptyDict).get? s.heap.objs.size = some PySem.W.emptyDict := Heap.get?_push_size s.heap rfl
  have e2 : ((s.heap.push PySem.W.emptyDict).push (PySem.W.instObj C s.heap.objs.size)).get? (s.heap.objs.size + 1) = some (PySem.W.instObj C s.heap.objs.size) := by
    have := Heap.get?_push_size (s.heap.push PySem.W.emptyDict) (o := PySem.W.instObj C s.heap.objs.size) rfl
    rwa [Heap.size_push] at this
  have e3 : (s.heap.push PySem.W.emptyDict).Ns s.heap.objs.size (fun _ => none) := ⟨PySem.W.emptyDict, #[], _, e1, rfl, (fun e he => absurd he (by simp)), fun _ => rfl⟩
  have I1 := I.laid (a := s.heap.objs.size) (o := .own (s.heap.objs.size + 1)) (h' := s.heap.push PySem.W.emptyDict) (t' := s.toks) (fun b u q => Heap.get?_push_of_some _ q) (Nat.le_refl _) ⟨_, e1⟩
  refine I1.laid (a := s.heap.objs.size + 1) (o := .ins C s.heap.objs.size []) (t' := s.toks) (fun b u q => Heap.get?_push_of_some _ q) (Nat.le_of_eq (Heap.size_push _ _)) ?_
  have ne : s.heap.objs.size ≠ s.heap.objs.size + 1 := Nat.ne_of_lt (Nat.lt_succ_self _)
  refine ⟨by rw [upd_ne ne, upd_same], Nat.zero_le _, ne, e2, fun _ => none, (Heap.Ns1.of_empty e3).at fun o q => Heap.get?_push_of_some _ q, fun _ => True.intro, fun y hy => absurd rfl hy⟩

/-- e.f where nothing but the object is asked: through attributeBase (super) and the last hold -/
theorem attr_of {prog : Program} {w : World} {env : Env} {e : Expr} {f : Str} {pos : Pos} {s : Shared} {Q : Value → Shared → Prop} (hb : attributeBase e f env (eval e env) = eval e env)
    (h : wpAny (model prog w) A (eval e env) (fun o s₁ => wpAny (model prog w) A (getAttr o f true) Q E s₁) E s) : wpAny (model prog w) A (eval (.Attribute e f pos) env) Q E s :=
  Attribute_any_ h (by rw [arm_eval_Attribute, hb])
end

/-! ### readings and rules -/
/-- e.f, an attribute of the instance -/
def tFld (K : PySem.W.Frag) (ta : TE) (f : Str) : TE := fun σ H Q => ta σ H fun x H1 => ∃ a C dx fs v, x = .ref a ∧ H1 a = some (.ins C dx fs) ∧ Cls K C ∧ NoAttr K C f ∧ fs.lookup f = some v ∧ Q v H1
/-- e.f = value -/
def sFld (K : PySem.W.Frag) (ta tv : TE) (f : Str) : TS := fun D σ H => tv σ H fun y H1 => ta σ H1 fun x H2 => ∃ a C dx fs, x = .ref a ∧ H2 a = some (.ins C dx fs) ∧ Cls K C ∧ NoAttr K C f ∧ fs.length < 1000 ∧
  D.nx σ (upd H2 a (.ins C dx (putF f y fs)))
/-- an augmented operator on two values -/
def InOp (X : Cx) (op : Operator) (rd : V → V → Hp → VK → Prop) : Prop :=
  ∀ (pins : List (Addr × Obj)) (s : Shared) (σ : St) (H : Hp) (x y : V) (u v : Value) (Q : VK), Inv X pins σ H s → RelV x u → RelV y v → rd x y H Q → wpAny (model X.prog X.w) X.A (inplaceOp op u v) (EP X pins σ Q) X.xe s
/-- e.f op= value -/
def sFldAug (K : PySem.W.Frag) (ta tv : TE) (rd : V → V → Hp → VK → Prop) (f : Str) : TS := fun D σ H => ta σ H fun x H1 => ∃ a C dx fs v, x = .ref a ∧ H1 a = some (.ins C dx fs) ∧ Cls K C ∧ NoAttr K C f ∧ fs.lookup f = some v ∧
  tv σ H1 fun y H2 => rd v y H2 fun z H3 => ∃ dx' fs', H3 a = some (.ins C dx' fs') ∧ fs'.length < 1000 ∧ D.nx σ (upd H3 a (.ins C dx' (putF f z fs')))

section
variable {X : Cx} {o e value : Expr} {f : Str} {pos pos' tpos : Pos} {ta tv : TE}
theorem pe_fld (he : PE X e ta) (hb : attributeBase e f X.env (eval e X.env) = eval e X.env) : PE X (.Attribute e f pos) (tFld X.K ta f) := by
  intro pins s σ H Q I h
  refine attr_of hb (thn (he pins s σ H _ I h) fun u s1 ⟨x, H1, I1, rx, a, C, dx, fs, v, ex, ea, c, n, l, q⟩ => ?_)
  subst ex
  obtain rfl : u = Value.ref a := rx
  exact getattr_ok I1 ea c n l fun u' s2 I2 ru => ⟨v, H1, I2, ru, q⟩
theorem ps_fld (ha : PE X o ta) (hv : PE X value tv) (hs : swapsWith value (some (.Attribute o f pos')) pos.line X.env = pure false) : PS X (.Assign [.Attribute o f pos'] value pos) (sFld X.K ta tv f) := by
  intro pins s σ H D I h
  refine plainObj_wpAny_Assign_Attribute (thn (hv pins s σ H _ I h) fun u s1 ⟨y, H1, I1, ry, q⟩ => thn (ha pins s1 σ H1 _ I1 q) fun ov s2 ⟨x, H2, I2, rx, a, C, dx, fs, ex, ea, c, n, l, q2⟩ => ?_) hs
  subst ex
  obtain rfl : ov = Value.ref a := rx
  exact setattr_ok I2 ea c n l ry fun s3 I3 => ⟨σ, _, I3, q2⟩
theorem ps_fldaug {op : Operator} {rd : V → V → Hp → VK → Prop} (ha : PE X o ta) (hv : PE X value tv) (hop : InOp X op rd) : PS X (.AugAssign (.Attribute o f tpos) op value pos) (sFldAug X.K ta tv rd f) := by
  intro pins s σ H D I h
  refine wpAny_AugAssign_AttributeAny (thn (ha pins s σ H _ I h) fun ov s1 ⟨x, H1, I1, rx, a, C, dx, fs, v, ex, ea, c, n, l, q⟩ => ?_)
  subst ex
  obtain rfl : ov = Value.ref a := rx
  refine getattr_ok I1 ea c n l fun u s2 I2 ru => thn (hv pins s2 σ H1 _ I2 q) fun w3 s3 ⟨y, H2, I3, ry, q3⟩ => thn (hop pins s3 σ H2 v y u w3 _ I3 ru ry q3) fun w4 s4 ⟨z, H3, I4, rz, dx', fs', ea', l', q4⟩ => ?_
  exact setattr_ok I4 ea' c n l' rz fun s5 I5 => ⟨σ, _, I5, q4⟩
def rAdd : V → V → Hp → VK → Prop := fun x y H Q => ∃ i j, x = .int i ∧ y = .int j ∧ Q (.int (i + j)) H
theorem in_add : InOp X .Add rAdd := by
  rintro pins s σ H x y u v Q I rx ry ⟨i, j, rfl, rfl, q⟩
  obtain ⟨t, rfl⟩ := (show ∃ t, u = Value.int i t from rx)
  obtain ⟨t', rfl⟩ := (show ∃ t', v = Value.int j t' from ry)
  exact PyProof.Rows.iadd_int ⟨.int (i + j), H, I.tok _, ⟨_, rfl⟩, q⟩
/-- what is between an instance and its method: the tree of a method call -/
theorem methcall_of {pl : Sem Bool} {m : Str} {apos : Pos} {args : List Expr} {pins : List (Addr × Obj)} {s : Shared} {σ : St} {H : Hp} {Q : Value → Shared → Prop} {te : TE} (he : PE X e te) (I : Inv X pins σ H s)
    (h : te σ H fun x H1 => ∃ a C dx fs g, x = .ref a ∧ H1 a = some (.ins C dx fs) ∧ Cls X.K C ∧ Meth X.K C m g ∧ fs.lookup m = none ∧
      ∀ s1, Inv X pins σ H1 s1 → wpAny (model X.prog X.w) X.A (callWith pos (.ref g) [.ref a] (backTo pos (starEach args X.env)) (backToKw pos (keywordEach [] X.env))) Q X.xe s1)
    (ht : eval (.Call (.Attribute e m apos) args [] pos) X.env = (do
      let ov ← eval e X.env
      standAt apos.atName
      let (f, first) ← holding [ov] (getMethod ov m pl)
      callWith pos f first (backTo pos (starEach args X.env)) (backToKw pos (keywordEach [] X.env)))) :
    wpAny (model X.prog X.w) X.A (eval (.Call (.Attribute e m apos) args [] pos) X.env) Q X.xe s := by
  refine PySem.W.methodCall_KW (pl := pl) (thn (he pins s σ H _ I h) fun u s1 ⟨x, H1, I1, rx, a, C, dx, fs, g, ex, ea, c, k, l, q⟩ => ?_) ht
  subst ex
  obtain rfl : u = Value.ref a := rx
  exact getmeth_ok I1 ea c k l (q s1 I1)
end

/-! ### isinstance -/
section
variable {X : Cx} {pins : List (Addr × Obj)} {σ : St} {H : Hp} {s : Shared} {A : Around} {E : Value → Shared → Prop} {Q : Value → Shared → Prop} {c : Value} {b : Bool}
/-- the type of a value, as the fragment's deciders take it; for an instance its class -/
inductive TyOf (K : PySem.W.Frag) (H : Hp) : V → Value → Prop where
  | non : TyOf K H .non (.type "NoneType")
  | bl (x : Bool) : TyOf K H (.bl x) (.type "bool")
  | int (i : Int) : TyOf K H (.int i) (.type "int")
  | str (x : Str) : TyOf K H (.str x) (.type "str")
  | flt (x : UInt64) : TyOf K H (.flt x) (.type "float")
  | lst {a : Addr} {xs : List V} (e : H a = some (.lst xs)) : TyOf K H (.ref a) (.type "list")
  | frz {a : Addr} {o : Obj} {xs : List V} (e : H a = some (.frz o (.lst xs))) : TyOf K H (.ref a) (.type "list")
  | tup {a : Addr} {xs : List V} (e : H a = some (.tup xs)) : TyOf K H (.ref a) (.type "tuple")
  | dK {a : Addr} {kvs : List (Key × V)} (e : H a = some (.dK kvs)) : TyOf K H (.ref a) (.type "dict")
  | dT {a : Addr} {kvs : List (List Key × V)} (e : H a = some (.dT kvs)) : TyOf K H (.ref a) (.type "dict")
  | ins {a C dx : Addr} {fs : List (Str × V)} (e : H a = some (.ins C dx fs)) (cl : Cls K C) (ha : PySem.W.findIn K (.ref C) "__class__" = some (some (.builtin "object.__class__")))
      (hn : PySem.W.specialIn K (.builtin "object.__class__") "__get__" = some (some (.builtin "getset_descriptor.__get__"))) (htk : PySem.W.takesIn K (.builtin "object.__class__") = some true)
      (hm : PySem.W.mroIn K C (.type "object") = some true) : TyOf K H (.ref a) (.ref C)
end
end L2

namespace L2
open PySem PySem.Spec PyProof.Rows

/-! ### room -/
structure Room (k : Nat) (A : Around) : Prop where
  hd : A.handled = none
  dp : A.depth + 3 * k + 5 < recursionLimit
  un : A.units + 16 * k + 200 < cLine
theorem Room.mono {j k : Nat} {A : Around} (r : Room k A) (h : j ≤ k) : Room j A := ⟨r.hd, by have := r.dp; omega, by have := r.un; omega⟩
theorem Room.deeper {k : Nat} {A : Around} (r : Room (k + 1) A) (env : Env) : Room k (A.deeper env) :=
  ⟨r.hd, by have := r.dp; show A.depth + 1 + 3 * k + 5 < _; omega, by have := r.un; show A.units + 3 + 16 * k + 200 < _; omega⟩
theorem make_depth {A : Around} {C : Addr} {us : List Value} {kw : List (Str × Value)} : (A.under (.builtin "type.__call__" ⟨.ref C :: us, kw⟩)).depth = A.depth + 1 := by
  first | rfl | simp [Around.under, Code.weight, Code.isCreation, Code.isGuard, Code.isCaller, Code.frames, Code.isFrame, guardIds]
theorem make_units {A : Around} {C : Addr} {us : List Value} {kw : List (Str × Value)} : (A.under (.builtin "type.__call__" ⟨.ref C :: us, kw⟩)).units = A.units + 1 := by
  first | rfl | simp [Around.under, Code.cUnits, Code.frames, Code.isFrame]
theorem Room.make {k : Nat} {A : Around} (r : Room (k + 1) A) (C : Addr) (us : List Value) (kw : List (Str × Value)) : Room k (A.under (.builtin "type.__call__" ⟨.ref C :: us, kw⟩)) :=
  ⟨r.hd, by have := r.dp; rw [make_depth]; omega, by have := r.un; rw [make_units]; omega⟩
theorem Room.depth {k : Nat} {A : Around} (r : Room k A) : A.depth < recursionLimit := by have := r.dp; omega
theorem Room.units {k : Nat} {A : Around} (r : Room k A) : A.units + 64 < cLine := by have := r.un; omega
/-! ### argument lists and displays -/
def tNil : TA := fun _ H Q => Q [] H
def tCons (ta : TE) (tr : TA) : TA := fun σ H Q => ta σ H fun x H1 => tr σ H1 fun xs H2 => Q (x :: xs) H2
section
variable {X : Cx} {e : Expr} {es : List Expr} {te : TE} {t : TA} {pos : Pos}
theorem pa_nil : PA X [] tNil := fun _ _ _ _ H Q I h => Calls.spliced_nil ⟨[], H, I, .nil, h⟩
theorem pa_cons (ha : PE X e te) (hr : PA X es t) (hs : starEach (e :: es) X.env = (false, eval e X.env) :: starEach es X.env := by rfl) : PA X (e :: es) (tCons te t) := by
  intro pos pins s σ H Q I h
  rw [hs]
  show wpAny _ _ (spliced ((false, eval e X.env) :: backTo pos (starEach es X.env))) _ _ s
  refine Calls.spliced_cons (thn (ha pins s σ H _ I h) fun u s1 ⟨x, H1, I1, r1, q1⟩ => ?_)
  exact thn (hr pos pins s1 σ H1 _ I1 q1) fun us s2 ⟨xs, H2, I2, r2, q2⟩ => ⟨x :: xs, H2, I2, .cons r1 r2, q2⟩

/-- a tuple, a list of written items -/
def tTup (t : TA) : TE := fun σ H Q => t σ H fun xs H1 => xs.length ≤ sizeLine ∧ ∀ p, H1 p = none → Q (.ref p) (upd H1 p (.tup xs))
def tLst (t : TA) : TE := fun σ H Q => t σ H fun xs H1 => xs.length ≤ sizeLine ∧ ∀ p, H1 p = none → Q (.ref p) (upd H1 p (.lst xs))
theorem pe_tup {x1} (h : PA X es t) : PE X (.Tuple es x1 pos) (tTup t) := by
  intro pins s σ H Q I hq
  refine wpAny_Tuple_spliced (thn (h pos pins s σ H _ I hq) fun us s1 ⟨xs, H1, I1, r, z, q⟩ => ⟨by rw [← r.length]; exact z, ?_⟩)
  have hf : H1 s1.heap.objs.size = none := I1.hok.fresh (Nat.le_refl _)
  refine ⟨.ref s1.heap.objs.size, upd H1 s1.heap.objs.size (.tup xs), I1.laid (t' := s1.toks) (fun b u e => Heap.get?_push_of_some _ e) (Nat.le_refl _) ?_, rfl, q _ hf⟩
  exact ⟨z, us, r, ⟨_, Heap.get?_push_size _ rfl, rfl, _, rfl⟩⟩
theorem pe_lst (h : PA X es t) : PE X (.List es pos) (tLst t) := by
  intro pins s σ H Q I hq
  refine wpAny_List_spliced (thn (h pos pins s σ H _ I hq) fun us s1 ⟨xs, H1, I1, r, z, q⟩ => ⟨by rw [← r.length]; exact z, ?_⟩)
  have hf : H1 s1.heap.objs.size = none := I1.hok.fresh (Nat.le_refl _)
  refine ⟨.ref s1.heap.objs.size, upd H1 s1.heap.objs.size (.lst xs), I1.laid (t' := s1.toks) (fun b u e => Heap.get?_push_of_some _ e) (Nat.le_refl _) ?_, rfl, q _ hf⟩
  exact ⟨z, us, 0, r, Heap.get?_push_size _ rfl⟩
end

/-! ### what a def promises -/
/-- a def's promise: the bound arguments in the parameters' order, the heap, the wanted end, the wanted exception -/
abbrev Sp := List V → Hp → VK → XK → Prop
/-- how an exception lies behind a call (file 08 gives it): the callers' frames, abstract heap and state ahead of the call, the wish, the exception, the state -/
abbrev CXT := List Env → Hp → Shared → XK → Value → Shared → Prop

/-- the state at a call -/
structure Env0 (P : Program) (w : World) (K : PySem.W.Frag) (mg : Str → Option Value) (base : Heap) (A : Around) (outer : List Env) (s : Shared) (H : Hp) : Prop where
  frames : A.frames = some outer
  mod : Mod K mg base
  bs : ∀ b o, base.get? b = some o → s.heap.get? b = some o ∧ H b = none
  bsz : base.objs.size ≤ s.heap.objs.size
  funs : s.heap.FunFrames base outer
  frf : ∀ b ∈ frs outer, H b = none
  hok : HOk P w H s.heap
  bare : AllBare s.gens
/-- a call's end -/
def CE (outer : List Env) (P : Program) (w : World) (H : Hp) (s : Shared) (Q : VK) (u : Value) (s' : Shared) : Prop :=
  ∃ v H', s'.os = s.os ∧ AllBare s'.gens ∧ Un (frs outer) [] H H' s.heap s'.heap ∧ HOk P w H' s'.heap ∧ RelV v u ∧ Q v H'
def CR (CX : CXT) (outer : List Env) (P : Program) (w : World) (H : Hp) (s : Shared) (Q : VK) (E : XK) (r : Result) (s' : Shared) : Prop :=
  match r with
  | .ok (.ret u) => CE outer P w H s Q u s'
  | .ok _ => False
  | .error e => CX outer H s E e s'
structure FnOk (P : Program) (w : World) (K : PySem.W.Frag) (mg : Str → Option Value) (base : Heap) (CX : CXT) (k : Nat) (f : Addr) (fd : FuncData) (ps : List Str) (sp : Sp) : Prop where
  len : ∀ vs H Q E, sp vs H Q E → vs.length = ps.length
  run : ∀ (A : Around) (outer : List Env) (s : Shared) (H : Hp) (args : Args) (us : List Value) (vs : List V) (Q : VK) (E : XK), Room k A → Env0 P w K mg base A outer s H → BindsTo s fd args (ps.zip us) → Vals vs us → sp vs H Q E →
    codeAny (model P w) A (.call (.ref f) args) (CR CX outer P w H s Q E) s
theorem Env0.make {P : Program} {w : World} {K : PySem.W.Frag} {mg : Str → Option Value} {base : Heap} {A : Around} {outer : List Env} {s : Shared} {H : Hp} (e : Env0 P w K mg base A outer s H) (C : Addr) (us : List Value) (kw : List (Str × Value)) :
    Env0 P w K mg base (A.under (.builtin "type.__call__" ⟨.ref C :: us, kw⟩)) outer s H := ⟨by first | exact e.frames | (simpa [Around.under, Code.envs, Code.isFrame, pushEnvs] using e.frames), e.mod, e.bs, e.bsz, e.funs, e.frf, e.hok, e.bare⟩
section
variable {X : Cx} {pins : List (Addr × Obj)} {σ : St} {H : Hp} {s s' : Shared}
/-- from a body: what a callee wants -/
theorem Inv.env0 (I : Inv X pins σ H s) : Env0 X.prog X.w X.K X.mg X.base X.A X.stack s H :=
  ⟨I.ok.frames, I.ok.mod, I.bs, Nat.le_trans I.ok.bsz I.sz, I.stack, I.stkFree, I.hok, I.bare⟩
/-- behind a call -/
theorem Inv.after {Q : VK} {u : Value} (I : Inv X pins σ H s) (h : CE X.stack X.prog X.w H s Q u s') : EP X pins σ Q u s' := by
  obtain ⟨v, H', os, bare, un, hok, r, q⟩ := h
  obtain ⟨hh, g, d, t, os'⟩ := s'
  obtain rfl : os' = s.os := os
  exact ⟨v, H', I.call (h' := hh) (g' := g) (d' := d) (t' := t) (ch := []) un hok bare (fun b z => absurd z (by simp)), r, q⟩
end

/-! ### calls -/
/-- f(..): the written arguments, then the defaults dvs; E: what is wanted of an exception -/
def tCall (sp : Sp) (dvs : List V) (E : XK) (t : TA) : TE := fun σ H Q => t σ H fun vs H1 => sp (vs ++ dvs) H1 Q E
/-- o.m(..) of an instance of the class at C -/
def tMeth (C : Addr) (m : Str) (sp : Sp) (dvs : List V) (E : XK) (ta : TE) (t : TA) : TE := fun σ H Q => ta σ H fun x H1 => ∃ a dx fs, x = .ref a ∧ H1 a = some (.ins C dx fs) ∧ fs.lookup m = none ∧
  t σ H1 fun vs H2 => sp (x :: (vs ++ dvs)) H2 Q E
/-- C(..): a new instance and its dict, then __init__ -/
def tMake (C : Addr) (sp : Sp) (dvs : List V) (E : XK) (t : TA) : TE := fun σ H Q => t σ H fun vs H1 => ∀ x dx, H1 x = none → H1 dx = none → dx ≠ x →
  sp (.ref x :: (vs ++ dvs)) (upd (upd H1 dx (.own x)) x (.ins C dx [])) (fun v H2 => v = .non ∧ Q (.ref x) H2) E

/-- how the parameters are bound: us the positional arguments, kw the keywords' values by name, ds the defaults that fill up -/
def Binds (K : PySem.W.Frag) (fd : FuncData) (ps : List Str) (ds : List Value) : Prop :=
  ∀ (s : Shared) (us : List Value), K.In s.heap → (us ++ ds).length = ps.length → BindsTo s fd ⟨us, []⟩ (ps.zip (us ++ ds))
/-- every parameter is given -/
theorem Binds.all {K : PySem.W.Frag} {fd : FuncData} {ps : List Str} (h : ∀ us : List Value, us.length = ps.length → bindArgs fd ⟨us, []⟩ = pure (ps.zip us)) : Binds K fd ps [] := fun s us _ hl => by
  rw [List.append_nil] at hl ⊢
  exact .of_eq (h us hl)

/-- an exception of a callee reaches what this body wants of exceptions -/
def Passes (CX : CXT) (X : Cx) (E : XK) : Prop := ∀ (pins : List (Addr × Obj)) (σ : St) (H : Hp) (s : Shared) (e : Value) (s' : Shared), Inv X pins σ H s → CX X.stack H s E e s' → X.xe e s'

section
variable {X : Cx} {CX : CXT} {k : Nat} {f C : Addr} {fd : FuncData} {ps : List Str} {sp : Sp} {dvs : List V} {ds : List Value} {E : XK} {x m : Str} {p pos apos : Pos} {e o : Expr} {es : List Expr} {ta : TE} {t : TA}

/-- the callee runs -/
theorem run_fn {pins : List (Addr × Obj)} {σ : St} {H : Hp} {s : Shared} {Q : VK} {us : List Value} {vs : List V} (F : FnOk X.prog X.w X.K X.mg X.base CX k f fd ps sp) (hr : Room k X.A) (hb : Binds X.K fd ps ds) (hd : Vals dvs ds) (hx : Passes CX X E)
    (I : Inv X pins σ H s) (r : Vals vs us) (h : sp (vs ++ dvs) H Q E) : wpAny (model X.prog X.w) X.A (call (.ref f) us) (EP X pins σ Q) X.xe s := by
  have r2 : Vals (vs ++ dvs) (us ++ ds) := r.append hd
  have hl : (us ++ ds).length = ps.length := by rw [← r2.length]; exact F.len _ _ _ _ h
  refine wpAny_call (codeAny_mono (F.run X.A X.stack s H ⟨us, []⟩ (us ++ ds) (vs ++ dvs) Q E hr I.env0 (hb s us I.kIn hl) r2 h) fun r s' hq => ?_)
  cases r with
  | error e => exact hx pins σ H s e s' I hq
  | ok fl =>
    cases fl with
    | ret u => exact I.after hq
    | next => exact False.elim hq
    | brk => exact False.elim hq
    | cont => exact False.elim hq

theorem pe_call (F : FnOk X.prog X.w X.K X.mg X.base CX k f fd ps sp) (hr : Room k X.A) (hg : Gl X x) (hm : X.mg x = some (.ref f)) (hk : PySem.W.keepIn X.K (.ref f) = true) (hb : Binds X.K fd ps ds) (hd : Vals dvs ds) (hx : Passes CX X E)
    (ha : PA X (e :: es) t) (hdb : (x == ("__debug__" : Str)) = false := by decide) (he : starEach (e :: es) X.env = (false, eval e X.env) :: starEach es X.env := by rfl) (hpl : (backTo pos (starEach es X.env)).any (·.1) = false := by rfl) :
    PE X (.Call (.Name x p) (e :: es) [] pos) (tCall sp dvs E t) := by
  intro pins s σ H Q I h
  refine wpAny_Call_Name_kw (ld_glob I hg hm ?_ hdb)
  refine PySem.W.callWith_K (h₀ := X.base) I.ok.mod.kin hk (thn (ha pos pins s σ H _ I h) fun us s1 ⟨vs, H1, I1, r, q⟩ => ⟨I1.kIn, ?_⟩) he hpl
  exact run_fn F hr hb hd hx I1 r q
/-- o.m(e, ..) -/
theorem pe_meth {pl : Sem Bool} (he : PE X o ta) (c : Cls X.K C) (hm : Meth X.K C m f) (F : FnOk X.prog X.w X.K X.mg X.base CX k f fd ps sp) (hr : Room k X.A) (hb : Binds X.K fd ps ds) (hd : Vals dvs ds) (hx : Passes CX X E) (ha : PA X (e :: es) t)
    (hst : starEach (e :: es) X.env = (false, eval e X.env) :: starEach es X.env := by rfl) (hpl : (backTo pos (starEach es X.env)).any (·.1) = false := by rfl)
    (ht : eval (.Call (.Attribute o m apos) (e :: es) [] pos) X.env = (do
      let ov ← eval o X.env
      standAt apos.atName
      let (f, first) ← holding [ov] (getMethod ov m pl)
      callWith pos f first (backTo pos (starEach (e :: es) X.env)) (backToKw pos (keywordEach [] X.env))) := by rfl) :
    PE X (.Call (.Attribute o m apos) (e :: es) [] pos) (tMeth C m sp dvs E ta t) := by
  intro pins s σ H Q I h
  refine PySem.W.methodCall_KW (pl := pl) (thn (he pins s σ H _ I h) fun u s1 ⟨x, H1, I1, rx, a, dx, fs, ex, ea, l, q⟩ => ?_) ht
  subst ex
  obtain rfl : u = Value.ref a := rx
  refine getmeth_ok I1 ea c hm l ?_
  refine PySem.W.callWith_K (first := [.ref a]) (h₀ := X.base) I.ok.mod.kin hm.kp (thn (ha pos pins s1 σ H1 _ I1 q) fun us s2 ⟨vs, H2, I2, r, q2⟩ => ⟨I2.kIn, ?_⟩) hst hpl
  exact run_fn (us := .ref a :: us) (vs := .ref a :: vs) F hr hb hd hx I2 (.cons rfl r) q2
/-- o.m() -/
theorem pe_meth0 {pl : Sem Bool} (he : PE X o ta) (c : Cls X.K C) (hm : Meth X.K C m f) (F : FnOk X.prog X.w X.K X.mg X.base CX k f fd ps sp) (hr : Room k X.A) (hb : Binds X.K fd ps ds) (hd : Vals dvs ds) (hx : Passes CX X E)
    (ht : eval (.Call (.Attribute o m apos) [] [] pos) X.env = (do
      let ov ← eval o X.env
      standAt apos.atName
      let (f, first) ← holding [ov] (getMethod ov m pl)
      callWith pos f first (backTo pos (starEach [] X.env)) (backToKw pos (keywordEach [] X.env))) := by rfl) :
    PE X (.Call (.Attribute o m apos) [] [] pos) (tMeth C m sp dvs E ta tNil) := by
  intro pins s σ H Q I h
  refine PySem.W.methodCall_KW (pl := pl) (thn (he pins s σ H _ I h) fun u s1 ⟨x, H1, I1, rx, a, dx, fs, ex, ea, l, q⟩ => ?_) ht
  subst ex
  obtain rfl : u = Value.ref a := rx
  refine getmeth_ok I1 ea c hm l ?_
  exact PySem.W.callWith_K0 (first := [.ref a]) I1.kIn hm.kp (run_fn (us := [.ref a]) (vs := [.ref a]) F hr hb hd hx I1 (.cons rfl .nil) q)

/-- what a class must have to be made -/
structure Mk (K : PySem.W.Frag) (C f : Addr) : Prop where
  makes : PySem.W.makesIn K C = true
  init : PySem.W.findIn K (.ref C) "__init__" = some (some (.ref f))
  fn : PySem.W.isFn K (.ref f) = true
  kp : PySem.W.keepIn K (.ref C) = true

theorem run_make {pins : List (Addr × Obj)} {σ : St} {H : Hp} {s : Shared} {Q : VK} {us : List Value} {vs : List V} (M : Mk X.K C f) (F : FnOk X.prog X.w X.K X.mg X.base CX k f fd ps sp) (hr : Room (k + 1) X.A) (hb : Binds X.K fd ps ds) (hd : Vals dvs ds)
    (hx : Passes CX X E) (I : Inv X pins σ H s) (r : Vals vs us)
    (h : ∀ x dx, H x = none → H dx = none → dx ≠ x → sp (.ref x :: (vs ++ dvs)) (upd (upd H dx (.own x)) x (.ins C dx [])) (fun v H2 => v = .non ∧ Q (.ref x) H2) E) :
    wpAny (model X.prog X.w) X.A (call (.ref C) us) (EP X pins σ Q) X.xe s := by
  have hq := h (s.heap.objs.size + 1) s.heap.objs.size (I.hok.fresh (Nat.le_succ _)) (I.hok.fresh (Nat.le_refl _)) (Nat.ne_of_lt (Nat.lt_succ_self _))
  have I2 := Inv.made (C := C) I
  have r2 : Vals (V.ref (s.heap.objs.size + 1) :: (vs ++ dvs)) (Value.ref (s.heap.objs.size + 1) :: (us ++ ds)) := .cons rfl (r.append hd)
  have hl : (Value.ref (s.heap.objs.size + 1) :: us ++ ds).length = ps.length := by
    have e := r2.length
    rw [F.len _ _ _ _ hq] at e
    exact e.symm
  refine wpAny_call (make_map (f := f) I.kIn M.makes M.init (beq_iff_eq.mp M.fn) (codeAny_mono (F.run _ X.stack _ _ ⟨Value.ref (s.heap.objs.size + 1) :: us, []⟩ (Value.ref (s.heap.objs.size + 1) :: (us ++ ds)) _ _ E (hr.make C us [])
    (I2.env0.make C us []) (hb _ (Value.ref (s.heap.objs.size + 1) :: us) I2.kIn hl) r2 hq) fun r s' hq' => ?_))
  cases r with
  | error e => exact hx pins σ _ _ e s' I2 hq'
  | ok fl =>
    cases fl with
    | ret u =>
      obtain ⟨v, H', I3, rv, ev, q3⟩ := I2.after hq'
      subst ev
      exact ⟨rv, ⟨V.ref (s.heap.objs.size + 1), H', I3, rfl, q3⟩⟩
    | next => exact False.elim hq'
    | brk => exact False.elim hq'
    | cont => exact False.elim hq'
theorem pe_make (M : Mk X.K C f) (F : FnOk X.prog X.w X.K X.mg X.base CX k f fd ps sp) (hr : Room (k + 1) X.A) (hg : Gl X x) (hm : X.mg x = some (.ref C)) (hb : Binds X.K fd ps ds) (hd : Vals dvs ds) (hx : Passes CX X E)
    (ha : PA X (e :: es) t) (hdb : (x == ("__debug__" : Str)) = false := by decide) (he : starEach (e :: es) X.env = (false, eval e X.env) :: starEach es X.env := by rfl) (hpl : (backTo pos (starEach es X.env)).any (·.1) = false := by rfl) :
    PE X (.Call (.Name x p) (e :: es) [] pos) (tMake C sp dvs E t) := by
  intro pins s σ H Q I h
  refine wpAny_Call_Name_kw (ld_glob I hg hm ?_ hdb)
  refine PySem.W.callWith_K (h₀ := X.base) I.ok.mod.kin M.kp (thn (ha pos pins s σ H _ I h) fun us s1 ⟨vs, H1, I1, r, q⟩ => ⟨I1.kIn, ?_⟩) he hpl
  exact run_make M F hr hb hd hx I1 r q
end

/-! ### keywords -/
section
variable {X : Cx} {CX : CXT} {k : Nat} {f C : Addr} {fd : FuncData} {ps ks : List Str} {sp : Sp} {E : XK} {x m : Str} {p pos apos kpos : Pos} {e o : Expr} {es : List Expr} {kws : List Keyword} {te ta : TE} {t tk : TA} {nm : Option Str}
/-- how a call with keywords binds: g puts the positional values us and the keywords' values ws (names ks) in the parameters' order, defaults among them -/
structure KBinds (K : PySem.W.Frag) (fd : FuncData) (ps ks : List Str) (g : List Value → List Value → List Value) (gV : List V → List V → List V) : Prop where
  to : ∀ (s : Shared) (us ws : List Value), K.In s.heap → (g us ws).length = ps.length → BindsTo s fd ⟨us, ks.zip ws⟩ (ps.zip (g us ws))
  rel : ∀ {vs : List V} {us : List Value} {zs : List V} {ws : List Value}, Vals vs us → Vals zs ws → Vals (gV vs zs) (g us ws)
variable {g : List Value → List Value → List Value} {gV : List V → List V → List V}
end

/-! ### a def's body keeps its promise -/
/-- names: the parameters first -/
structure FnScope (N P : List Str) (sc : Scope) : Prop where
  kind : sc.kind = .function
  co : sc.isCoroutine = false
  gen : sc.isGenerator = false
  nd : N.Nodup
  pre : N.take P.length = P
  par : ∀ x ∈ P, sc.names.lookup x = some .local ∨ sc.names.lookup x = some .cell
  nofree : ∀ y ∈ sc.names, y.2 ≠ .free

theorem bindL_out {kindOf : Str → Option NameKind} {x : Str} : ∀ {binds : List (Str × Value)} {m : Str → Option Value}, (∀ v, (x, v) ∉ binds) → bindL kindOf binds m x = m x
  | [], _, _ => rfl
  | (n, v) :: r, m, h => by
    unfold bindL
    rw [bindL_out fun w hw => h w (List.mem_cons_of_mem _ hw)]
    split
    · have : x ≠ n := by rintro rfl; exact h v List.mem_cons_self
      simp [this]
    · rfl
theorem bindC_out {kindOf : Str → Option NameKind} {x : Str} : ∀ {binds : List (Str × Value)} {m : Str → Option Value}, (∀ v, (x, v) ∉ binds) → bindC kindOf binds m x = m x
  | [], _, _ => rfl
  | (n, v) :: r, m, h => by
    unfold bindC
    rw [bindC_out fun w hw => h w (List.mem_cons_of_mem _ hw)]
    split
    · rfl
    · have : x ≠ n := by rintro rfl; exact h v List.mem_cons_self
      simp [this]
theorem bindL_get {kindOf : Str → Option NameKind} {x : Str} {v : Value} : ∀ {P : List Str} {vs : List Value} {i : Nat} {m : Str → Option Value}, P.Nodup → P[i]? = some x → vs[i]? = some v → kindOf x = some .local →
    bindL kindOf (P.zip vs) m x = some v
  | [], _, _, _, _, h, _, _ => by simp at h
  | _ :: _, [], _, _, _, _, h, _ => by simp at h
  | p :: P, w :: vs, 0, m, nd, h1, h2, hk => by
    simp at h1 h2; subst h1; subst h2
    show bindL kindOf ((p, w) :: P.zip vs) m p = _
    unfold bindL
    rw [bindL_out fun v hv => (List.nodup_cons.mp nd).1 (List.of_mem_zip hv).1, if_pos hk]
    simp
  | p :: P, w :: vs, i + 1, m, nd, h1, h2, hk => by
    show bindL kindOf ((p, w) :: P.zip vs) m x = _
    unfold bindL
    exact bindL_get (i := i) (List.nodup_cons.mp nd).2 (by simpa using h1) (by simpa using h2) hk
theorem bindC_get {kindOf : Str → Option NameKind} {x : Str} {v : Value} : ∀ {P : List Str} {vs : List Value} {i : Nat} {m : Str → Option Value}, P.Nodup → P[i]? = some x → vs[i]? = some v → kindOf x ≠ some .local →
    bindC kindOf (P.zip vs) m x = some v
  | [], _, _, _, _, h, _, _ => by simp at h
  | _ :: _, [], _, _, _, _, h, _ => by simp at h
  | p :: P, w :: vs, 0, m, nd, h1, h2, hk => by
    simp at h1 h2; subst h1; subst h2
    show bindC kindOf ((p, w) :: P.zip vs) m p = _
    unfold bindC
    rw [bindC_out fun v hv => (List.nodup_cons.mp nd).1 (List.of_mem_zip hv).1, if_neg hk]
    simp
  | p :: P, w :: vs, i + 1, m, nd, h1, h2, hk => by
    show bindC kindOf ((p, w) :: P.zip vs) m x = _
    unfold bindC
    exact bindC_get (i := i) (List.nodup_cons.mp nd).2 (by simpa using h1) (by simpa using h2) hk

/-- the names' values at the entry -/
def start (N : List Str) (vs : List V) : St := vs.map some ++ List.replicate (N.length - vs.length) none

/-- the context of a def's body, at its entry; an exception leaves the frame, then lies as CX says -/
def cxOf (CX : CXT) (P : Program) (w : World) (K : PySem.W.Frag) (mg : Str → Option Value) (base : Heap) (N : List Str) (qual : Str) (scope : Scope) (f : Addr) (cd : Value) (A : Around) (outer : List Env) (s : Shared) (H : Hp) (E : XK) : Cx where
  prog := P
  w := w
  K := K
  mg := mg
  base := base
  A := A.deeper (envOfC qual scope s.heap.objs.size f cd)
  N := N
  s_0 := s
  H_0 := H
  env := envOfC qual scope s.heap.objs.size f cd
  outer := outer
  stack := envOfC qual scope s.heap.objs.size f cd :: outer
  ex := []
  calm := true
  fn := fun _ => true
  pn := []
  xe := fun e s' => wpAny (model P w) (A.deeper (envOfC qual scope s.heap.objs.size f cd)) (leaving (envOfC qual scope s.heap.objs.size f cd) e) (fun _ s'' => CX outer H s E e s'') (fun e' s'' => CX outer H s E e' s'') s'

theorem cell_has {sc : Scope} {n : Nat} {x : Str} (h : sc.names.lookup x = some .cell) : ∃ c, (cellsFrom n sc.names []).lookup x = some c := by
  have q := PySem.W.cellsFrom_some sc.names n [] (.inl h)
  exact Option.isSome_iff_exists.mp q

theorem inv_start {CX : CXT} {P : Program} {w : World} {K : PySem.W.Frag} {mg : Str → Option Value} {base : Heap} {N ps : List Str} {qual : Str} {scope : Scope} {f : Addr} {cd : Value} {A : Around} {outer : List Env} {s s1 : Shared} {H : Hp} {E : XK} {us : List Value} {vs : List V}
    (S : FnScope N ps scope) (hd : A.handled = none) (e0 : Env0 P w K mg base A outer s H) (hl : vs.length = ps.length) (r : Vals vs us)
    (x : InCallC s s.heap.objs.size (bindL (envOfC qual scope s.heap.objs.size f cd).kindOf (ps.zip us) fun _ => none) (cellsFrom (s.heap.objs.size + 1) scope.names []) (bindC (envOfC qual scope s.heap.objs.size f cd).kindOf (ps.zip us) fun _ => none) s1) :
    Inv (cxOf CX P w K mg base N qual scope f cd A outer s H E) [] (start N vs) H s1 := by
  have hpl : ps.length ≤ N.length := by have := congrArg List.length S.pre; rw [List.length_take] at this; omega
  obtain ⟨h1, tk, rfl, hk⟩ := x.done
  have noA : ∀ b : Addr, b ∉ (cxOf CX P w K mg base N qual scope f cd A outer s H E).ex := fun b z => absurd (show b ∈ ([] : List Addr) from z) (by simp)
  refine ⟨⟨e0.mod, S.kind, rfl, rfl, Nat.le_refl _, fun y z c h1 h2 => ?_, fun y hy => ?_, fun y c _ h => ?_, fun _ => hd, Around.frames_deeper e0.frames, .inr ⟨rfl, rfl⟩, fun b z => absurd z (noA b), e0.bs, e0.bsz, fun b _ _ => noA b, fun b z => absurd z (noA b), e0.funs, e0.frf⟩,
    rfl, e0.bare, Un.kept hk, ⟨_, x.toInCall.ns, fun i y v h1 h2 h3 => ?_⟩, fun y c h => ⟨_, x.cell y c h⟩, e0.hok.fresh (Nat.le_refl _), fun y c h => ?_, fun p hp => absurd (show p ∈ ([] : List (Addr × Obj)) from hp) (by simp), e0.hok.kept hk, ?_⟩
  · exact name_of_addr x.apart (PySem.mem_of_lookup h1) (PySem.mem_of_lookup h2)
  · have hy : scope.names.lookup y = some .cell ∨ scope.names.lookup y = some .free := hy
    rcases hy with hy | hy
    · exact cell_has hy
    · exact absurd rfl (S.nofree _ (PySem.mem_of_lookup hy))
  · exact Nat.le_of_lt (x.above y c (PySem.mem_of_lookup h))
  · have hi : i < vs.length := by
      unfold start at h2
      by_cases hi : i < vs.length
      · exact hi
      · rw [List.getElem?_append_right (by simpa using hi)] at h2
        rw [List.getElem?_replicate] at h2
        split at h2 <;> cases h2
    have ha : vs[i]? = some v := by
      unfold start at h2
      rw [List.getElem?_append_left (by simpa using hi), List.getElem?_map] at h2
      cases e : vs[i]? with
      | none => rw [e] at h2; cases h2
      | some a => rw [e] at h2; cases h2; rfl
    obtain ⟨u, hu, rv⟩ := r.get ha
    have hp : ps[i]? = some y := by
      rw [← S.pre, List.getElem?_take_of_lt (by omega)]; exact h1
    have ndP : ps.Nodup := by rw [← S.pre]; exact S.nd.sublist (List.take_sublist _ _)
    refine ⟨u, rv, ?_⟩
    rcases S.par y (List.mem_of_getElem? hp) with k | k
    · exact .inl ⟨k, bindL_get ndP hp hu k⟩
    · obtain ⟨c, e⟩ := cell_has (n := s.heap.objs.size + 1) k
      refine .inr ⟨.inl k, c, e, ?_⟩
      have q := x.cell y c e
      rw [bindC_get ndP hp hu (by show scope.names.lookup y ≠ _; rw [k]; decide)] at q
      exact q
  · exact e0.hok.fresh (Nat.le_of_lt (x.above y c (PySem.mem_of_lookup h)))
  · unfold start
    show _ = N.length
    rw [List.length_append, List.length_map, List.length_replicate]
    omega

/-- THE RULE: a def (or a method) of the text, by its body. The body's reading t is chosen for each entry; it is run at the parameters' values -/
theorem fn_of {CX : CXT} {P : Program} {w : World} {K : PySem.W.Frag} {mg : Str → Option Value} {base : Heap} {k : Nat} {f : Addr} {name qual : Str} {params : Arguments} {body : List Stmt} {scope : Scope} {dV kV doc pm cdv ct oc : Value} {an od : Option Addr}
    {osl : Array (Option Value)} {N ps : List Str} {sp : Sp} (lk : K.lookup f = some ⟨oc, od, .func (PySem.W.fnOf name qual params body scope dV kV doc pm an cdv ct), osl⟩) (hcd : PySem.W.codeIn K cdv qual = true) (S : FnScope N ps scope)
    (len : ∀ vs H Q E, sp vs H Q E → vs.length = ps.length)
    (hbody : ∀ (A : Around) (outer : List Env) (s : Shared) (H : Hp) (vs : List V) (Q : VK) (E : XK), Room k (A.deeper (envOfC qual scope s.heap.objs.size f cdv)) → sp vs H Q E →
      ∃ t, PSs (cxOf CX P w K mg base N qual scope f cdv A outer s H E) body t ∧ t { nx := fun _ H' => Q .non H', rt := Q } (start N vs) H) :
    FnOk P w K mg base CX (k + 1) f (PySem.W.fnOf name qual params body scope dV kV doc pm an cdv ct) ps sp := by
  refine ⟨len, fun A outer s H args us vs Q E hr e0 hb r hsp => ?_⟩
  have hl := len _ _ _ _ hsp
  have KX : K.In s.heap := e0.mod.kin.keeps fun b o e => (e0.bs b o e).1
  have lim : s.heap.NoLimit := e0.mod.nolimit.keeps fun b o e => (e0.bs b o e).1
  have hkind : ∀ y ∈ ps.zip us, scope.names.lookup y.1 = some .local ∨ (scope.names.lookup y.1 = some .cell ∧ ((cellsFrom (s.heap.objs.size + 1) scope.names []).lookup y.1).isSome = true) := fun ⟨n, v⟩ hy => by
    rcases S.par n (List.of_mem_zip hy).1 with q | q
    · exact .inl q
    · exact .inr ⟨q, PySem.W.cellsFrom_some _ _ _ (.inl q)⟩
  refine codeAny_call_function hr.depth (KX _ _ lk) rfl S.co S.gen rfl (PySem.W.codeRec_of KX hcd) (hb _ _ _ _ ?_)
  refine wpAny_newFunctionEnv_cells S.kind hkind fun env he s1 x => ?_
  subst he
  refine ⟨lim.keeps x.toInCall.keep, codeAny_func ?_⟩
  obtain ⟨t, ht, hq⟩ := hbody A outer s H vs Q E (hr.deeper _) hsp
  have I : Inv (cxOf CX P w K mg base N qual scope f cdv A outer s H E) [] (start N vs) H s1 := inv_start S hr.hd e0 hl r x
  refine wpAny_mono (ht [] s1 (start N vs) H _ I hq) (fun fl s' hs => ?_) fun e s' hs => hs
  have fin : ∀ {σ' : St} {H' : Hp} {v : V} {u : Value}, Inv (cxOf CX P w K mg base N qual scope f cdv A outer s H E) [] σ' H' s' → RelV v u → Q v H' → CE outer P w H s Q u s' :=
    fun {σ' H' v u} J rv q => ⟨v, H', J.os, J.bare, J.base, J.hok, rv, q⟩
  cases fl with
  | ret u =>
    obtain ⟨v, σ', H', J, rv, q⟩ := hs
    exact fin J rv q
  | next =>
    obtain ⟨σ', H', J, q⟩ := hs
    exact fin (v := V.non) (u := Value.none) J rfl q
  | brk =>
    obtain ⟨_, _, _, q⟩ := hs
    exact False.elim q
  | cont =>
    obtain ⟨_, _, _, q⟩ := hs
    exact False.elim q
end L2

namespace L2
open PySem PySem.Spec PyProof.Rows
section
variable {X : Cx} {x : Str} {p pos : Pos} {e : Expr} {es : List Expr} {t : TA} {id T : String} {r : List V → Hp → VK → Prop}

def tCB (r : List V → Hp → VK → Prop) (t : TA) : TE := fun σ H Q => t σ H fun vs H1 => r vs H1 Q
/-- f(e, ..), f a built-in function -/
theorem pe_callB (hc : CallR X (.builtin id) r) (hg : Gl X x) (hm : X.mg x = none) (hv : bootBuiltins x = some (.builtin id)) (ha : PA X (e :: es) t) (hn : x ≠ "__name__" := by decide) (hdb : (x == ("__debug__" : Str)) = false := by decide)
    (he : starEach (e :: es) X.env = (false, eval e X.env) :: starEach es X.env := by rfl) (hpl : (backTo pos (starEach es X.env)).any (·.1) = false := by rfl) : PE X (.Call (.Name x p) (e :: es) [] pos) (tCB r t) := by
  intro pins s σ H Q I h
  refine wpAny_Call_Name_kw (ld_blt I hg hm hv ?_ hn hdb)
  exact PyProof.Rows.callWith_builtin1 (thn (ha pos pins s σ H _ I h) fun us s1 ⟨vs, H1, I1, r1, q1⟩ => hc pins s1 σ H1 vs us Q I1 r1 q1) he hpl
/-- T(e, ..), T a built-in type -/
theorem pe_callTy (hc : CallR X (.type T) r) (hg : Gl X x) (hm : X.mg x = none) (hv : bootBuiltins x = some (.type T)) (ha : PA X (e :: es) t) (hn : x ≠ "__name__" := by decide) (hdb : (x == ("__debug__" : Str)) = false := by decide)
    (he : starEach (e :: es) X.env = (false, eval e X.env) :: starEach es X.env := by rfl) (hpl : (backTo pos (starEach es X.env)).any (·.1) = false := by rfl) : PE X (.Call (.Name x p) (e :: es) [] pos) (tCB r t) := by
  intro pins s σ H Q I h
  refine wpAny_Call_Name_kw (ld_blt I hg hm hv ?_ hn hdb)
  exact PyProof.Rows.callWith_type1 (thn (ha pos pins s σ H _ I h) fun us s1 ⟨vs, H1, I1, r1, q1⟩ => hc pins s1 σ H1 vs us Q I1 r1 q1) he hpl
end
end L2

namespace HT
open PySem PyProof.Rows

section
open PySem.SeqAt
open PySem.AutoSeq1 (wpAny_loadPart')
open PySem.MeetsSeq PySem.MeetsSeq2 PySem.MeetsSeq3

end

section
variable {prog : Program} {w : World} {A : Around} {E : Value → Shared → Prop} {s : Shared}

/-! ### t[a:b], not the whole -/
/-- a slice's bound as a place among n (d where it is left out) -/
def sIx (n d : Nat) : Option Int → Nat
  | none => d
  | some v => if v < 0 then (v + (n : Int)).toNat else min v.toNat n
theorem sIx_nat (n d k : Nat) : sIx n d (some (k : Int)) = min k n := by
  show (if (k : Int) < 0 then ((k : Int) + (n : Int)).toNat else min (k : Int).toNat n) = min k n
  rw [if_neg (by omega), Int.toNat_natCast]
end
end HT

namespace L2
open PySem PySem.Spec PyProof.Rows

/-! ### the parts of a slice -/
abbrev TO := St → Hp → (Option Int → Hp → Prop) → Prop
/-- a slice's part (left out, or an int) -/
def PO (X : Cx) (e : Option Expr) (t : TO) : Prop :=
  ∀ (pins : List (Addr × Obj)) (s : Shared) (σ : St) (H : Hp) (Q : Option Int → Hp → Prop), Inv X pins σ H s → t σ H Q →
    wpAny (model X.prog X.w) X.A (evalPart e X.env) (fun u s' => ∃ o H', Inv X pins σ H' s' ∧ IsPart u o ∧ Q o H') X.xe s
def tPart (t : TE) : TO := fun σ H Q => t σ H fun x H1 => ∃ i, x = .int i ∧ Q (some i) H1

section
variable {X : Cx} {e : Expr} {te : TE} {lo hi : Option Expr} {tl th : TO} {pos p2 : Pos}

theorem po_some (h : PE X e te) : PO X (some e) (tPart te) := by
  intro pins s σ H Q I hw
  rw [evalPart_some]
  refine thn (h pins s σ H _ I hw) fun u s1 ⟨x, H1, I1, r1, q1⟩ => ?_
  obtain ⟨i, rfl, q⟩ := q1
  obtain ⟨t, rfl⟩ := r1
  exact ⟨some i, H1, I1, .int i t, q⟩

/-- what a slice of a value is, by values: the slice object stands at sl -/
def SlR (X : Cx) (r : V → Option Int → Option Int → Hp → VK → Prop) : Prop :=
  ∀ (pins : List (Addr × Obj)) (s : Shared) (σ : St) (H : Hp) (x : V) (v vl vu : Value) (lo hi : Option Int) (sl : Addr) (Q : VK), Inv X pins σ H s → RelV x v → s.heap.IsSliceOf sl vl vu .none → IsPart vl lo → IsPart vu hi → r x lo hi H Q →
    ∃ T id, typeLookup (.type T) "__getitem__" = pure (some (.builtin id)) ∧ s.TypeIs v T ∧ wpAny (model X.prog X.w) X.A (getItem v (.ref sl)) (EP X pins σ Q) X.xe s
def tSl (r : V → Option Int → Option Int → Hp → VK → Prop) (te : TE) (tl th : TO) : TE := fun σ H Q => te σ H fun x H1 => tl σ H1 fun l H2 => th σ H2 fun u H3 => r x l u H3 Q
/-- a[lo:hi], any a -/
theorem pe_slice {r : V → Option Int → Option Int → Hp → VK → Prop} (hr : SlR X r) (he : PE X e te) (hl : PO X lo tl) (hu : PO X hi th) : PE X (.Subscript e (.Slice lo hi none p2) pos) (tSl r te tl th) := by
  intro pins s σ H Q I h
  refine Subscript_ (thn (he pins s σ H _ I h) fun v s1 ⟨x, H1, I1, r1, q1⟩ => ?_)
  refine wpAny_Slice (thn (hl pins s1 σ H1 _ I1 q1) fun vl s2 ⟨l, H2, I2, pl, q2⟩ => thn (hu pins s2 σ H2 _ I2 q2) fun vu s3 ⟨u, H3, I3, pu, q3⟩ => ?_)
  rw [evalPart_none]
  refine wpAny_pure ?_
  have I4 : Inv X pins σ H3 { s3 with heap := s3.heap.push { cls := .type "slice", data := .fields #[vl, vu, .none] } } := I3.kept (t' := s3.toks) fun b ob q => Heap.get?_push_of_some _ q
  obtain ⟨T, id, hT, ht, hg⟩ := hr pins { s3 with heap := s3.heap.push { cls := .type "slice", data := .fields #[vl, vu, .none] } } σ H3 x v vl vu l u s3.heap.objs.size Q I4 r1 (Heap.IsSliceOf.new ..) pl pu q3
  show wpAny (model X.prog X.w) X.A (subscriptTail e (.Slice lo hi none p2) v (.ref s3.heap.objs.size)) (EP X pins σ Q) X.xe { s3 with heap := s3.heap.push { cls := .type "slice", data := .fields #[vl, vu, .none] } }
  exact tail_any (ops := [.ref s3.heap.objs.size, v]) ht hT hg (by with_unfolding_all rfl)

/-- the items of xs[lo:hi] -/
def cutV (xs : List V) (lo hi : Option Int) : List V := (xs.drop (HT.sIx xs.length 0 lo)).take (HT.sIx xs.length xs.length hi - HT.sIx xs.length 0 lo)
theorem cutV_length (xs : List V) (lo hi : Option Int) : (cutV xs lo hi).length ≤ xs.length := by
  unfold cutV
  rw [List.length_take, List.length_drop]
  omega
/-! ### t < u, t + u -/
end
end L2

namespace L2
open PySem PySem.Spec PyProof.Rows

/-! ### places -/
/-- the place that an index of any sign means -/
def ixN (n : Nat) (i : Int) : Option Nat := if 0 ≤ i then (if i < n then some i.toNat else none) else if -(n : Int) ≤ i then some (i + n).toNat else none
def atI {α : Type} (xs : List α) (i : Int) : Option α := (ixN xs.length i).bind fun j => xs[j]?
theorem ixN_seq {n : Nat} {i : Int} {j : Nat} (h : ixN n i = some j) : seqIndex? i n = some j ∧ j < n ∧ -(n : Int) ≤ i ∧ i < n := by
  unfold ixN at h
  by_cases h0 : 0 ≤ i
  · rw [if_pos h0] at h
    by_cases h1 : i < n
    · rw [if_pos h1] at h
      have e : i.toNat = j := Option.some.inj h
      exact ⟨by rw [seqIndex_of h0 h1, e], by omega, by omega, h1⟩
    · rw [if_neg h1] at h; cases h
  · rw [if_neg h0] at h
    by_cases h1 : -(n : Int) ≤ i
    · rw [if_pos h1] at h
      have e : (i + n).toNat = j := Option.some.inj h
      exact ⟨by rw [seqIndex_neg (by omega) h1, e], by omega, h1, by omega⟩
    · rw [if_neg h1] at h; cases h
theorem atI_get {α : Type} {xs : List α} {i : Int} {v : α} (h : atI xs i = some v) : ∃ j, seqIndex? i xs.length = some j ∧ xs[j]? = some v ∧ j < xs.length ∧ -(xs.length : Int) ≤ i ∧ i < xs.length := by
  unfold atI at h
  cases e : ixN xs.length i with
  | none => rw [e] at h; cases h
  | some j =>
    rw [e] at h
    obtain ⟨h1, h2, h3, h4⟩ := ixN_seq e
    exact ⟨j, h1, h, h2, h3, h4⟩
theorem atI_nat {α : Type} {xs : List α} {j : Nat} {v : α} (h : xs[j]? = some v) : atI xs (j : Int) = some v := by
  have hj : j < xs.length := (List.getElem?_eq_some_iff.mp h).1
  have e : ixN xs.length (j : Int) = some j := by
    unfold ixN
    rw [if_pos (by omega), if_pos (by omega)]; simp
  unfold atI; rw [e]; exact h
/-! ### what may be subscripted -/
/-- what stands as an index of a plain subscript -/
def PlainIx (b : Expr) : Prop := ∀ o i, subscripted b false o i = operate [o, i] (getItem o i)
/-- a subscript by values -/
def IxR (X : Cx) (r : R2) : Prop :=
  ∀ (value slice : Expr) (pins : List (Addr × Obj)) (s : Shared) (σ : St) (H : Hp) (x y : V) (v u : Value) (Q : VK), Inv X pins σ H s → RelV x v → RelV y u → r x y H Q →
    subscripted slice false v u = operate [v, u] (getItem v u) → wpAny (model X.prog X.w) X.A (subscriptTail value slice v u) (EP X pins σ Q) X.xe s
/-- a call of a builtin's method by values: the receiver, the arguments -/
def MtR (X : Cx) (id : String) (r : V → List V → Hp → VK → Prop) : Prop :=
  ∀ (pins : List (Addr × Obj)) (s : Shared) (σ : St) (H : Hp) (x : V) (xs : List V) (v : Value) (us : List Value) (Q : VK), Inv X pins σ H s → RelV x v → Vals xs us → r x xs H Q →
    wpAny (model X.prog X.w) X.A (call (.builtin id) (v :: us)) (EP X pins σ Q) X.xe s
section
variable {X : Cx} {a b : Expr} {ta tb : TE} {pos : Pos}
/-- a[b] -/
theorem pe_ix {r : R2} (hr : IxR X r) (ha : PE X a ta) (hb : PE X b tb) (hs : PlainIx b) : PE X (.Subscript a b pos) (tOp r ta tb) := by
  intro pins s σ H Q I h
  exact Subscript_ (binT ha hb I h fun v u s2 x y H2 I2 rx ry q => hr a b pins s2 σ H2 x y v u Q I2 rx ry q (hs _ _))

def rIxL (K : PySem.W.Frag) : R2 := fun x y H Q => ∃ p xs i v, x = .ref p ∧ y = .int i ∧ SqL K H p xs ∧ atI xs i = some v ∧ Q v H
def rIxT (K : PySem.W.Frag) : R2 := fun x y H Q => ∃ p xs i v, x = .ref p ∧ y = .int i ∧ SqT K H p xs ∧ atI xs i = some v ∧ Q v H
theorem ix_list : IxR X (rIxL X.K) := by
  intro value slice pins s σ H x y v u Q I rx ry h hs
  obtain ⟨p, xs, i, z, rfl, rfl, hq, he, q⟩ := h
  cases rx
  obtain ⟨t, rfl⟩ := ry
  obtain ⟨its, r, pl, hz⟩ := I.list hq
  obtain ⟨j, h1, h2, h3, h4, h5⟩ := atI_get he
  obtain ⟨w, ew, rw'⟩ := r.get h2
  have hl := r.length
  have hn := line63
  have fin : EP X pins σ Q w s := ⟨z, H, I, rw', q⟩
  by_cases h0 : 0 ≤ i
  · have hj : i.toNat = j := by
      rw [seqIndex_of h0 h5] at h1
      exact Option.some.inj h1
    exact item_listR pl.isList h0 (by omega) (by rw [hj]; simpa using ew) fin hs
  · have hj : (i + (its.toArray.size : Int)).toNat = j := by
      rw [seqIndex_neg (by omega) h4] at h1
      rw [List.size_toArray, ← hl]
      exact Option.some.inj h1
    exact subscriptTail_builtinR (x := w) pl.isList.typeIs slot_list_getitem.lookup
      (wpAny_getItem_list_neg (Q := fun r s' => r = w ∧ EP X pins σ Q r s') pl.isList (by omega) (by rw [List.size_toArray] <;> omega) (by omega) (by rw [hj]; simpa using ew) ⟨rfl, fin⟩) hs
theorem ix_tup : IxR X (rIxT X.K) := by
  intro value slice pins s σ H x y v u Q I rx ry h hs
  obtain ⟨p, xs, i, z, rfl, rfl, hq, he, q⟩ := h
  cases rx
  obtain ⟨t, rfl⟩ := ry
  obtain ⟨its, r, pl, hz⟩ := I.tuple hq
  obtain ⟨j, h1, h2, h3, h4, h5⟩ := atI_get he
  obtain ⟨w, ew, rw'⟩ := r.get h2
  have hl := r.length
  have hn := line63
  have fin : EP X pins σ Q w s := ⟨z, H, I, rw', q⟩
  exact subscriptTail_builtinR (x := w) pl.typeIs slot_tuple_getitem.lookup
    (getItem_tuple (j := j) (Q := fun r s' => r = w ∧ EP X pins σ Q r s') pl (by omega) (by omega) (by rw [List.size_toArray, ← hl]; exact h1) (by simpa using ew) ⟨rfl, fin⟩) hs
/-! ### xs[i] = v, any sign -/
/-! ### slices -/
theorem slice_bounds (lo hi : Option Int) (n : Nat) : (sliceBounds lo hi none n).1 = ((HT.sIx n 0 lo : Nat) : Int) ∧ (sliceBounds lo hi none n).2.1 = ((HT.sIx n n hi : Nat) : Int) ∧ (sliceBounds lo hi none n).2.2 = 1 := by
  refine ⟨?_, ?_, rfl⟩
  · cases lo with
    | none => simp [sliceBounds, HT.sIx]
    | some i =>
      simp only [sliceBounds, HT.sIx, Option.getD_none, show (1 : Int) > 0 by decide, if_true]
      by_cases h : i < 0
      · simp only [h, if_true] <;> omega
      · simp only [h, if_false] <;> omega
  · cases hi with
    | none => simp [sliceBounds, HT.sIx]
    | some i =>
      simp only [sliceBounds, HT.sIx, Option.getD_none, show (1 : Int) > 0 by decide, if_true]
      by_cases h : i < 0
      · simp only [h, if_true] <;> omega
      · simp only [h, if_false] <;> omega
theorem slicePick_cut (its : List Value) (lo hi : Option Int) : slicePick its.toArray lo hi none = ((its.drop (HT.sIx its.length 0 lo)).take (HT.sIx its.length its.length hi - HT.sIx its.length 0 lo)).toArray := by
  obtain ⟨h1, h2, h3⟩ := slice_bounds lo hi its.toArray.size
  unfold slicePick
  rw [h1, h2, h3]
  simp only [sliceRange_one, pick_run, List.size_toArray] <;> rfl
/-- xs[lo:hi] of a list: a new list -/
def rSlL (K : PySem.W.Frag) : V → Option Int → Option Int → Hp → VK → Prop := fun x lo hi H Q => ∃ a xs, x = .ref a ∧ SqL K H a xs ∧ ∀ p, H p = none → Q (.ref p) (upd H p (.lst (cutV xs lo hi)))
theorem sl_list : SlR X (rSlL X.K) := by
  intro pins s σ H x v vl vu lo hi sl Q I rx hs pl pu h
  obtain ⟨a, xs, rfl, hx, q⟩ := h
  cases rx
  obtain ⟨its, r, ht, hz⟩ := I.list hx
  have hlen := r.length
  refine ⟨"list", _, slot_list_getitem.lookup, ht.isList.typeIs, ?_⟩
  refine wpAny_getItem_list_slice ht.isList hs pl pu .none (by simp) ?_ (by rw [List.size_toArray] <;> omega)
  rw [slicePick_cut, ← hlen]
  refine ⟨.ref s.heap.objs.size, _, I.laid (t' := s.toks) (o := .lst (cutV xs lo hi)) (fun b ob q => Heap.get?_push_of_some _ q) (Nat.le_refl _) ?_, rfl, q _ (I.hok.fresh (Nat.le_refl _))⟩
  exact ⟨Nat.le_trans (cutV_length xs lo hi) hz, _, 0, (r.drop (HT.sIx xs.length 0 lo)).take (HT.sIx xs.length xs.length hi - HT.sIx xs.length 0 lo), Heap.get?_push_size _ rfl⟩

/-! ### in, not in: flat items -/
/-! ### len, list(x), tuple(x) of any list or tuple that is read -/
theorem call_len_seq : CallR X (.builtin "len") (fun xs H Q => ∃ p ys, xs = [.ref p] ∧ (SqL X.K H p ys ∨ SqT X.K H p ys) ∧ Q (.int ys.length) H) := by
  intro pins s σ H xs us Q I r h
  obtain ⟨p, ys, rfl, hq, q⟩ := h
  obtain ⟨u, rfl, rx⟩ := vals1 r
  cases rx
  have hn := line63
  rcases hq with hq | hq
  · obtain ⟨its, r', pl, hz⟩ := I.list hq
    have hlen := r'.length
    exact Calls.call_len_list pl.isList (by simp only [List.size_toArray] <;> omega) ⟨.int ys.length, H, I.tok _, ⟨s.toks + 1, by rw [List.size_toArray, hlen]⟩, q⟩
  · obtain ⟨its, r', pl, hz⟩ := I.tuple hq
    have hlen := r'.length
    exact len_tuple pl (by simp only [List.size_toArray] <;> omega) ⟨.int ys.length, H, I.tok _, ⟨s.toks + 1, by rw [List.size_toArray, hlen]⟩, q⟩
theorem call_list_of : CallR X (.type "list") (fun xs H Q => ∃ p ys, xs = [.ref p] ∧ (SqL X.K H p ys ∨ SqT X.K H p ys) ∧ ∀ l, H l = none → Q (.ref l) (upd H l (.lst ys))) := by
  intro pins s σ H xs us Q I r h
  obtain ⟨p, ys, rfl, hq, q⟩ := h
  obtain ⟨u, rfl, rx⟩ := vals1 r
  cases rx
  have fin : ∀ (its : List Value), Vals ys its → ys.length ≤ sizeLine → ∀ (h' : Heap) (c' : Nat), (∀ b o', s.heap.get? b = some o' → h'.get? b = some o') →
      h'.get? s.heap.objs.size = some { cls := .type "list", dict := none, data := .seq its.toArray c', slots := #[] } → EP X pins σ Q (.ref s.heap.objs.size) { s with heap := h' } := fun its r' hz h' c' kp e =>
    ⟨.ref s.heap.objs.size, _, I.laid (t' := s.toks) kp (Nat.le_refl _) (show ObjOk X.prog X.w _ h' _ (.lst ys) from ⟨hz, its, c', r', e⟩), rfl, q _ (I.hok.fresh (Nat.le_refl _))⟩
  rcases hq with hq | hq
  · obtain ⟨its, r', pl, hz⟩ := I.list hq
    have hlen := r'.length
    obtain ⟨o, ho, hc, n, hd⟩ := pl.isList
    exact call_list_seq p (.inl rfl) ho hc hd (fun h' c' kp e => fin its r' hz h' c' kp e) (by simp only [List.size_toArray] <;> omega)
  · obtain ⟨its, r', pl, hz⟩ := I.tuple hq
    have hlen := r'.length
    obtain ⟨o, ho, hc, n, hd⟩ := pl
    exact call_list_seq p (.inr rfl) ho hc hd (fun h' c' kp e => fin its r' hz h' c' kp e) (by simp only [List.size_toArray] <;> omega)
theorem call_tuple_of : CallR X (.type "tuple") (fun xs H Q => ∃ p ys, xs = [.ref p] ∧ ((SqL X.K H p ys ∧ ∀ l, H l = none → Q (.ref l) (upd H l (.tup ys))) ∨ (SqT X.K H p ys ∧ Q (.ref p) H))) := by
  intro pins s σ H xs us Q I r h
  obtain ⟨p, ys, rfl, h⟩ := h
  obtain ⟨u, rfl, rx⟩ := vals1 r
  cases rx
  rcases h with ⟨hq, q⟩ | ⟨hq, q⟩
  · obtain ⟨its, r', pl, hz⟩ := I.list hq
    have hlen := r'.length
    refine call_tuple_list pl.isList (fun h' kp => ?_) (by simp only [List.size_toArray] <;> omega)
    have I1 : Inv X pins σ H { s with heap := h' } := I.kept (t' := s.toks) kp
    have I2 : Inv X pins σ (upd H h'.objs.size (.tup ys)) { s with heap := h'.push { cls := .type "tuple", data := .seq its.toArray } } :=
      I1.laid (t' := s.toks) (fun b o e => Heap.get?_push_of_some _ e) (Nat.le_refl _) (show ObjOk X.prog X.w _ _ _ (.tup ys) from ⟨hz, its, r', IsTup.new _ _⟩)
    exact ⟨.ref h'.objs.size, _, I2, rfl, q _ (I1.hok.fresh (Nat.le_refl _))⟩
  · obtain ⟨its, r', pl, hz⟩ := I.tuple hq
    exact call_tuple_same pl ⟨.ref p, H, I, rfl, q⟩

/-! ### the call of a builtin's method: o.m(..) -/
/-- the value is of that builtin type -/
def tyV (K : PySem.W.Frag) (T : String) (x : V) (H : Hp) : Prop := match x with
  | .str _ => T = "str"
  | .int _ => T = "int"
  | .ref p => (T = "list" ∧ ∃ xs, SqL K H p xs) ∨ (T = "tuple" ∧ ∃ o, K.lookup p = some o ∧ o.cls = .type "tuple" ∧ o.dict = none) ∨
      (T = "dict" ∧ ((∃ kvs, H p = some (.dK kvs)) ∨ ∃ kvs, H p = some (.dT kvs))) ∨ (T = "set" ∧ ∃ S n, H p = some (.set S n))
  | _ => False
theorem tyV_is {pins : List (Addr × Obj)} {σ : St} {H : Hp} {s : Shared} {T : String} {x : V} {v : Value} (I : Inv X pins σ H s) (r : RelV x v) (ty : tyV X.K T x H) :
    s.TypeIs v T ∧ ∀ a, v = .ref a → ∃ ob, s.heap.get? a = some ob ∧ ob.dict = none := by
  cases x with
  | str z =>
    obtain ⟨t, rfl⟩ := r
    cases (show T = "str" from ty)
    exact ⟨typeIs_str s z t, fun _ e => nomatch e⟩
  | int i =>
    obtain ⟨t, rfl⟩ := r
    cases (show T = "int" from ty)
    exact ⟨typeIs_int s i t, fun _ e => nomatch e⟩
  | ref p =>
    cases r
    rcases ty with ⟨rfl, xs, hq⟩ | ⟨rfl, o, hk, hc, hd⟩ | ⟨rfl, hk⟩ | ⟨rfl, S, n, hk⟩
    · obtain ⟨its, _, pl, _⟩ := I.list hq
      refine ⟨pl.isList.typeIs, fun a e => ?_⟩
      cases e
      obtain ⟨o, n, e, c, hd, _⟩ := pl
      exact ⟨o, e, hd⟩
    · refine ⟨⟨o, I.kIn p o hk, hc⟩, fun a e => ?_⟩
      cases e
      exact ⟨o, I.kIn _ o hk, hd⟩
    · have z : ∃ o, s.heap.get? p = some o ∧ o.ExactDict := by
        rcases hk with ⟨kvs, hk⟩ | ⟨kvs, hk⟩
        · obtain ⟨_, _, _, _, o, _, _, e, ex, _⟩ := I.hok p _ hk
          exact ⟨o, e, ex⟩
        · obtain ⟨_, _, _, _, o, _, _, e, ex, _⟩ := I.hok p _ hk
          exact ⟨o, e, ex⟩
      obtain ⟨o, e, ex⟩ := z
      refine ⟨⟨o, e, ex.1⟩, fun a e2 => ?_⟩
      cases e2
      exact ⟨o, e, ex.2.1⟩
    · obtain ⟨o, _, _, _, e, ex, _⟩ := I.hok p _ hk
      refine ⟨⟨o, e, ex.1⟩, fun a e2 => ?_⟩
      cases e2
      exact ⟨o, e, ex.2.1⟩
  | _ => exact False.elim ty
def tBM (K : PySem.W.Frag) (T : String) (r : V → List V → Hp → VK → Prop) (to : TE) (t : TA) : TE := fun σ H Q => to σ H fun x H1 => tyV K T x H1 ∧ t σ H1 fun xs H2 => r x xs H2 Q
variable {o e : Expr} {es : List Expr} {to : TE} {t : TA} {name : Str} {apos cpos : Pos} {T id : String} {r : V → List V → Hp → VK → Prop}
theorem pe_bm (pa : PlainAttrs T) (slot : Slot T name id) (hty : typeOf (.builtin id) = pure (.type "method_descriptor")) (hm : MtR X id r) (ho : PE X o to) (ha : PA X (e :: es) t)
    (hbase : attributeBase o name X.env (eval o X.env) = eval o X.env := by rfl)
    (hfew : ((backTo cpos (starEach (e :: es) X.env)).all (fun x => !x.1) && (backToKw cpos (keywordEach [] X.env)).all (fun x => x.1.isSome)
      && decide ((e :: es).length + ([] : List Keyword).length + (if ([] : List Keyword).isEmpty then 0 else 1) < 30)) = true := by rfl)
    (hline : (apos.endLine == cpos.line) = true := by rfl) (hs : starEach (e :: es) X.env = (false, eval e X.env) :: starEach es X.env := by rfl) (hplain : (backTo cpos (starEach es X.env)).any (·.1) = false := by rfl) :
    PE X (.Call (.Attribute o name apos) (e :: es) [] cpos) (tBM X.K T r to t) := by
  intro pins s σ H Q I h
  refine wpAny_Call_method_late hbase hfew hline rfl (thn (ho pins s σ H _ I h) fun v s1 ⟨x, H1, I1, r1, ty, q1⟩ => ?_)
  obtain ⟨h1, h2⟩ := tyV_is I1 r1 ty
  refine ⟨T, id, pa, slot, hty, h1, h2, ?_⟩
  have hA := ha cpos pins s1 σ H1 _ I1 q1
  rw [hs] at hA ⊢
  refine Calls.callWith_builtin (by show (false || (backTo cpos (starEach es X.env)).any (·.1)) = false; rw [hplain] <;> rfl) (Calls.evalArgs_plain ?_)
  exact thn hA fun us s2 ⟨vs, H2, I2, r2, q2⟩ => hm pins s2 σ H2 x vs v us Q I2 r1 r2 q2
/- xs.append(e), list.index on a module's tuple .. are MtR facts of 06m -/
end
end L2

namespace L2
open PySem PySem.Spec PyProof.Rows

def MtM (X : Cx) (id : String) (r : V → List V → Hp → VK → Prop) : Prop :=
  ∀ (pins : List (Addr × Obj)) (s : Shared) (σ : St) (H : Hp) (x : V) (xs : List V) (v : Value) (us : List Value) (Q : VK), Inv X pins σ H s → RelV x v → Vals xs us → r x xs H Q →
    wpAny (model X.prog X.w) X.A (call (.builtin id) (v :: us)) (EP X pins σ Q) X.xe s

/-! ### lists of values -/
theorem Vals.one : ∀ {x : V} {us : List Value}, Vals [x] us → ∃ u, us = [u] ∧ RelV x u
  | _, _, .cons r .nil => ⟨_, rfl, r⟩
section
variable {X : Cx} {pins : List (Addr × Obj)} {σ : St} {H : Hp} {s : Shared} {l b : Addr} {xs ys zs : List V}

/-! ### the two steps: a tracked list is rewritten, a new list is laid -/
theorem Inv.lset {its its' : List Value} {n : Nat} {f : Array Value → Array Value} {t' : Nat} (I : Inv X pins σ H s) (hH : H l = some (.lst xs))
    (e : s.heap.get? l = some { cls := .type "list", data := .seq its.toArray n }) (hf : f its.toArray = its'.toArray) (hv : Vals ys its') (hz : ys.length ≤ sizeLine) :
    Inv X pins σ (upd H l (.lst ys)) { s with heap := s.heap.update l (Obj.mapSeq f), toks := t' } := by
  have q := PySem.IsL.update e f
  rw [hf] at q
  refine I.write (x := l) (e := l) (by rw [hH]; exact trivial) (.inl rfl) (fun b' u hb hu => (Heap.get?_update_other s.heap (Obj.mapSeq f) (Ne.symm hb)).trans hu) ⟨_, q⟩ ?_
  exact ⟨hz, its', _, hv, q⟩
theorem Inv.lnew {its : List Value} {t' : Nat} (I : Inv X pins σ H s) (hv : Vals ys its) (hz : ys.length ≤ sizeLine) :
    Inv X pins σ (upd H s.heap.objs.size (.lst ys)) { s with heap := s.heap.push { cls := .type "list", data := .seq its.toArray }, toks := t' } :=
  I.laid (fun _ _ q => Heap.get?_push_of_some _ q) (Nat.le_refl _) ⟨hz, its, 0, hv, Heap.get?_push_size _ rfl⟩
theorem Inv.fresh (I : Inv X pins σ H s) : H s.heap.objs.size = none := I.hok.fresh (Nat.le_refl _)
theorem Inv.lstM (I : Inv X pins σ H s) (hH : H l = some (.lst xs)) : xs.length ≤ sizeLine ∧ ∃ (its : List Value) (n : Nat), Vals xs its ∧ xs.length = its.length ∧ s.heap.get? l = some { cls := .type "list", data := .seq its.toArray n } := by
  obtain ⟨z, its, n, r, e⟩ := I.hok l _ hH
  exact ⟨z, its, n, r, r.length, e⟩

theorem notLongL {n : Nat} (h : n ≤ sizeLine) : Builtin.List.listTooLong n = false := by
  unfold Builtin.List.listTooLong
  exact decide_eq_false (by omega)
end

section
variable {X : Cx}

/-! ### methods -/
def rAppend : V → List V → Hp → VK → Prop := fun x vs H Q => ∃ l xs y, x = .ref l ∧ vs = [y] ∧ H l = some (.lst xs) ∧ xs.length < sizeLine ∧ Q .non (upd H l (.lst (xs ++ [y])))
theorem mt_append : MtM X "list.append" rAppend := by
  intro pins s σ H x vs v us Q I rx rv h
  obtain ⟨l, xs, y, rfl, rfl, hH, hz, q⟩ := h
  cases rx
  obtain ⟨u, rfl, ru⟩ := rv.one
  obtain ⟨z, its, n, r, hl, e⟩ := I.lstM hH
  refine call_meets F.slot_list_append ⟨_, e, rfl⟩ F.entry_list_append (F.args_list_append_2 _ _) (PySem.list_append l its.toArray n u (by rw [List.size_toArray]; omega)) ⟨e, ?_⟩
  refine ⟨.non, _, I.lset (its' := its ++ [u]) hH e (by simp) (r.append (.cons ru .nil)) ?_, rfl, q⟩
  rw [List.length_append, List.length_singleton]
  omega

def rExtend : V → List V → Hp → VK → Prop := fun x vs H Q => ∃ l b xs zs, x = .ref l ∧ vs = [.ref b] ∧ H l = some (.lst xs) ∧ H b = some (.lst zs) ∧ xs.length + zs.length ≤ sizeLine ∧ Q .non (upd H l (.lst (xs ++ zs)))
theorem mt_extend : MtM X "list.extend" rExtend := by
  intro pins s σ H x vs v us Q I rx rv h
  obtain ⟨l, b, xs, zs, rfl, rfl, hH, hB, hz, q⟩ := h
  cases rx
  obtain ⟨u, rfl, ru⟩ := rv.one
  cases ru
  obtain ⟨z, its, n, r, hl, e⟩ := I.lstM hH
  obtain ⟨z2, its2, n2, r2, hl2, e2⟩ := I.lstM hB
  have hsz : its.toArray.size + its2.toArray.size ≤ sizeLine := by rw [List.size_toArray, List.size_toArray]; omega
  have hlong : ¬ (!its.toArray.isEmpty && Builtin.List.listTooLong (its.toArray.size + its2.toArray.size)) = true := by
    rw [notLongL hsz, Bool.and_false]
    exact Bool.false_ne_true
  refine call_meets F.slot_list_extend ⟨_, e, rfl⟩ F.entry_list_extend (F.args_list_extend_2 _ _)
    (AutoSeq1.list_extend_list_list_0 l its.toArray n b its2.toArray n2 hlong (by rw [List.size_toArray]; omega) (by omega)) ⟨e, e2, ?_⟩
  refine ⟨.non, _, I.lset (its' := its ++ its2) hH e (by simp) (r.append r2) ?_, rfl, q⟩
  rw [List.length_append]
  omega

/-! ### list + list, list += list, list * int -/
def rCat : R2 := fun x y H Q => ∃ l b xs zs, x = .ref l ∧ y = .ref b ∧ H l = some (.lst xs) ∧ H b = some (.lst zs) ∧ xs.length + zs.length ≤ sizeLine ∧ ∀ p, H p = none → Q (.ref p) (upd H p (.lst (xs ++ zs)))
theorem op_cat : OpR X (binaryOp .Add) rCat := by
  intro pins s σ H x y v u Q I rx ry h
  obtain ⟨l, b, xs, zs, rfl, rfl, hH, hB, hz, q⟩ := h
  cases rx
  cases ry
  obtain ⟨z, its, n, r, hl, e⟩ := I.lstM hH
  obtain ⟨z2, its2, n2, r2, hl2, e2⟩ := I.lstM hB
  refine PySem.P.add_list e e2 ?_ (by rw [List.size_toArray, List.size_toArray]; omega)
  have ea : its.toArray ++ its2.toArray = (its ++ its2).toArray := by simp
  rw [ea]
  exact ⟨.ref _, _, I.lnew (t' := s.toks) (r.append r2) (by rw [List.length_append]; omega), rfl, q _ I.fresh⟩
/-! ### del xs[i] -/
end

/-! ### xs[a:b] = ys -/
section
variable {prog : Program} {w : World} {A : Around} {E : Value → Shared → Prop} {s : Shared}
set_option maxRecDepth 100000 in
end

section
variable {X : Cx}
end
end L2

namespace L2
open PySem PySem.Spec PyProof.Rows

theorem Vals.ints : ∀ {ns : List Int} {us : List Value}, Vals (ns.map V.int) us → IntsAre us ns
  | [], us, h => by
    rw [List.map_nil] at h
    cases h
    exact IntsAre.nil
  | n :: ns, us, h => by
    rw [List.map_cons] at h
    cases h with
    | cons r t =>
      obtain ⟨k, rfl⟩ := r
      exact IntsAre.cons n k (Vals.ints t)
theorem Vals.ref1 {a : Addr} {us : List Value} (r : Vals [V.ref a] us) : us = [Value.ref a] := by
  cases r with
  | cons r t =>
    cases t
    cases r
    rfl
/-! ### the library's walks over a list of ints, kept objects alone -/
section
variable {prog : Program} {w : World} {A : Around} {E : Value → Shared → Prop} {s : Shared} {l : Addr} {its : List Value} {ns : List Int} {Q : Value → Shared → Prop}
theorem sum_raw (hh : A.handled = none) (hl : s.heap.IsList l its.toArray) (hi : IntsAre its ns)
    (h : ∀ h' tk t', (∀ b o, s.heap.get? b = some o → h'.get? b = some o) → Q (.int ns.sum t') { s with heap := h', toks := tk }) : wpAny (model prog w) A (call (.builtin "sum") [.ref l]) Q E s := by
  obtain ⟨xs, e⟩ := hi.allInts.items
  have hn : numsOf (intItems xs).toList = ns := by rw [← e]; exact hi.numsOf
  rw [nums_intItems] at hn
  rw [e] at hl
  refine PySem.sum_intListG hh hl fun h' tk t' hk => ?_
  have := h h' tk t' hk
  rw [preSum_eq, List.take_of_length_le (by simp), hn]; exact this
end

/-! ### the calls, by values (CallR of 03t; MtR of 06l) -/
section
variable {X : Cx}
/-- sum(xs) of a list of ints -/
def rSum (K : PySem.W.Frag) : List V → Hp → VK → Prop := fun vs H Q => ∃ (a : Addr) (ns : List Int), vs = [V.ref a] ∧ SqL K H a (ns.map V.int) ∧ Q (.int ns.sum) H
theorem cr_sum (hc : X.calm = true) : CallR X (.builtin "sum") (rSum X.K) := by
  intro pins s σ H vs us Q I r h
  obtain ⟨a, ns, rfl, hs, q⟩ := h
  obtain ⟨its, rv, hl, _⟩ := I.list hs
  rw [Vals.ref1 r]
  exact sum_raw (I.ok.hd hc) hl.isList rv.ints fun h' tk t' hk => ⟨.int _, H, I.kept hk, ⟨_, rfl⟩, q⟩
/-! sorted, sort (fewer than 64 items: the library's own bound) -/
end

/-! ### list.index, flat items -/
section
variable {X : Cx}
end

/-! ### type(x) of an own instance; is, is not of a module's class -/
section
variable {X : Cx}
end

/-! ### any(xs), all(xs) of a list of bools -/
section
variable {X : Cx}
end

/-! ### == and != of data at any depth: none, bools, ints, texts, lists, tuples -/
mutual
inductive Dp (K : PySem.W.Frag) (H : Hp) : V → PyData → Prop
  | non : Dp K H .non .none
  | bl (b : Bool) : Dp K H (.bl b) (.bool b)
  | int (i : Int) : Dp K H (.int i) (.int i)
  | str (x : Str) : Dp K H (.str x) (.str x)
  | lst {a : Addr} {xs : List V} {ds : List PyData} : SqL K H a xs → DpAll K H xs ds → Dp K H (.ref a) (.list ds)
  | tup {a : Addr} {xs : List V} {ds : List PyData} : SqT K H a xs → DpAll K H xs ds → Dp K H (.ref a) (.tuple ds)
inductive DpAll (K : PySem.W.Frag) (H : Hp) : List V → List PyData → Prop
  | nil : DpAll K H [] []
  | cons {v : V} {vs : List V} {d : PyData} {ds : List PyData} : Dp K H v d → DpAll K H vs ds → DpAll K H (v :: vs) (d :: ds)
end
section
variable {X : Cx} {pins : List (Addr × Obj)} {σ : St} {H : Hp} {s : Shared}
mutual
theorem Dp.reads (I : Inv X pins σ H s) : ∀ (d : PyData) (v : V) (u : Value), Dp X.K H v d → RelV v u → ∃ as, Reads s.heap u d as
  | .none, _, _, h, r => by
    cases h
    cases r
    exact ⟨_, Reads.none⟩
  | .bool b, _, _, h, r => by
    cases h
    cases r
    exact ⟨_, Reads.bool b⟩
  | .int i, _, _, h, r => by
    cases h
    obtain ⟨t, rfl⟩ := r
    exact ⟨_, Reads.int i t⟩
  | .str x, _, _, h, r => by
    cases h
    obtain ⟨t, rfl⟩ := r
    exact ⟨_, Reads.str x t⟩
  | .list ds, _, _, h, r => by
    cases h with
    | lst hs ha =>
      cases r
      obtain ⟨its, rv, ⟨o, n, ho, hc, _, hd⟩, _⟩ := I.list hs
      obtain ⟨as, hr⟩ := Dp.readsAll I ds _ its ha rv
      exact ⟨_, Reads.list ho hc hd hr⟩
  | .tuple ds, _, _, h, r => by
    cases h with
    | tup hs ha =>
      cases r
      obtain ⟨its, rv, ⟨o, ho, hc, n, hd⟩, _⟩ := I.tuple hs
      obtain ⟨as, hr⟩ := Dp.readsAll I ds _ its ha rv
      exact ⟨_, Reads.tuple ho hc hd hr⟩
  | .dict _, _, _, h, _ => by cases h
theorem Dp.readsAll (I : Inv X pins σ H s) : ∀ (ds : List PyData) (vs : List V) (us : List Value), DpAll X.K H vs ds → Vals vs us → ∃ as, ReadsAll s.heap us ds as
  | [], _, _, h, r => by
    cases h
    cases r
    exact ⟨_, ReadsAll.nil⟩
  | d :: ds, _, _, h, r => by
    cases h with
    | cons h1 h2 =>
      cases r with
      | cons r1 r2 =>
        obtain ⟨as, q1⟩ := Dp.reads I d _ _ h1 r1
        obtain ⟨bs, q2⟩ := Dp.readsAll I ds _ _ h2 r2
        exact ⟨_, ReadsAll.cons q1 q2⟩
end
end
section
variable {X : Cx}
def rEqD (K : PySem.W.Frag) : R2 := fun x y H Q => ∃ d e, Dp K H x d ∧ Dp K H y e ∧ SeqAt.shaped d = true ∧ SeqAt.shaped e = true ∧ Q (.bl (PyData.eqv d e)) H
def rNeD (K : PySem.W.Frag) : R2 := fun x y H Q => ∃ d e, Dp K H x d ∧ Dp K H y e ∧ SeqAt.shaped d = true ∧ SeqAt.shaped e = true ∧ Q (.bl (!PyData.eqv d e)) H
theorem op_eqD (hu : X.A.units + 64 < cLine) : OpR X (compareOp .Eq) (rEqD X.K) := by
  intro pins s σ H x y v u Q I rx ry h
  obtain ⟨d, e, hd, he, sd, se, q⟩ := h
  obtain ⟨as, r1⟩ := Dp.reads I d x v hd rx
  obtain ⟨bs, r2⟩ := Dp.reads I e y u he ry
  exact SeqAt.compareEq_shaped r1 r2 sd se hu ⟨.bl _, H, I, rfl, q⟩
theorem op_neD (hu : X.A.units + 64 < cLine) : OpR X (compareOp .NotEq) (rNeD X.K) := by
  intro pins s σ H x y v u Q I rx ry h
  obtain ⟨d, e, hd, he, sd, se, q⟩ := h
  obtain ⟨as, r1⟩ := Dp.reads I d x v hd rx
  obtain ⟨bs, r2⟩ := Dp.reads I e y u he ry
  exact SeqAt.compareNe_shaped r1 r2 sd se hu ⟨.bl _, H, I, rfl, q⟩
end
end L2

namespace L2
open PySem PySem.Spec PyProof.Rows
abbrev CellAt (h : Heap) (c : Addr) (v : Option Value) : Prop := h.IsCell c v
def relS (scope sc : Scope) : Scope :=
  { scope with names := scope.names.map fun (n, k) => if (k == .free && sc.kind == .function && sc.names.lookup n == some .cell) then (n, .cell) else (n, k) }

def cloFrom (cells : List (Str × Addr)) : List (Str × NameKind) → List (Str × Addr) → List (Str × Addr)
  | [], acc => acc
  | (n, k) :: r, acc => if k == .free then cloFrom cells r ((n, (cells.lookup n).getD 0) :: acc) else cloFrom cells r acc

theorem closure_loop (env : Env) (f : Str × NameKind → List (Str × Addr) → Sem (ForInStep (List (Str × Addr))))
    (hf : ∀ n k c, f (n, k) c = if k == .free then (do let a ← cellOf env n; pure (.yield ((n, a) :: c))) else pure (.yield c)) :
    ∀ (names : List (Str × NameKind)) (acc : List (Str × Addr)), (∀ y ∈ names, y.2 = .free → ∃ c, env.cells.lookup y.1 = some c) → forIn names acc f = pure (cloFrom env.cells names acc)
  | [], acc, _ => by rw [List.forIn_nil]; rfl
  | (n, k) :: r, acc, h => by
    rw [List.forIn_cons, hf]
    have ih := fun acc => closure_loop env f hf r acc fun y hy => h y (List.mem_cons_of_mem _ hy)
    unfold cloFrom
    by_cases hk : (k == NameKind.free) = true
    · rw [if_pos hk, if_pos hk]
      obtain ⟨c, hc⟩ := h (n, k) List.mem_cons_self (by simpa using hk)
      have e : cellOf env n = pure c := by unfold cellOf; rw [hc]
      rw [e]
      have e2 : (env.cells.lookup n).getD 0 = c := by rw [hc]; rfl
      rw [e2]
      exact ih _
    · rw [if_neg hk, if_neg hk]
      exact ih _
theorem closure_ok {scope : Scope} {env : Env} (h : ∀ y ∈ scope.names, y.2 = .free → ∃ c, env.cells.lookup y.1 = some c) : closureFor scope env = pure (cloFrom env.cells scope.names []) := by
  simp only [closureFor]
  rw [closure_loop env _ (fun n k c => rfl) scope.names [] h]
  rfl

theorem mem_lookup {α : Type} : ∀ {l : List (Str × α)} {n : Str} {c : α}, (n, c) ∈ l → ∃ c', l.lookup n = some c'
  | (k, v) :: r, n, c, h => by
    rw [List.lookup_cons]
    cases hb : n == k with
    | true => exact ⟨_, rfl⟩
    | false =>
      rcases List.mem_cons.mp h with e | h
      · cases e; simp at hb
      · exact mem_lookup h

theorem cloFrom_mem {cells : List (Str × Addr)} : ∀ {names : List (Str × NameKind)} {acc : List (Str × Addr)} {n : Str} {c : Addr}, (n, c) ∈ cloFrom cells names acc → (n, c) ∈ acc ∨ ((n, .free) ∈ names ∧ c = (cells.lookup n).getD 0)
  | [], _, _, _, h => .inl h
  | (m, k) :: r, acc, n, c, h => by
    unfold cloFrom at h
    split at h
    · rename_i hk
      have hk : k = .free := by simpa using hk
      rcases cloFrom_mem h with h | ⟨h1, h2⟩
      · rcases List.mem_cons.mp h with e | h
        · cases e; exact .inr ⟨hk ▸ List.mem_cons_self, rfl⟩
        · exact .inl h
      · exact .inr ⟨List.mem_cons_of_mem _ h1, h2⟩
    · rcases cloFrom_mem h with h | ⟨h1, h2⟩
      · exact .inl h
      · exact .inr ⟨List.mem_cons_of_mem _ h1, h2⟩
theorem cloFrom_acc {cells : List (Str × Addr)} : ∀ {names : List (Str × NameKind)} {acc : List (Str × Addr)} {p : Str × Addr}, p ∈ acc → p ∈ cloFrom cells names acc
  | [], _, _, h => h
  | (m, k) :: r, acc, p, h => by
    unfold cloFrom
    split
    · exact cloFrom_acc (List.mem_cons_of_mem _ h)
    · exact cloFrom_acc h
theorem cloFrom_has {cells : List (Str × Addr)} : ∀ {names : List (Str × NameKind)} {acc : List (Str × Addr)} {n : Str}, (n, .free) ∈ names → (n, (cells.lookup n).getD 0) ∈ cloFrom cells names acc
  | (m, k) :: r, acc, n, h => by
    unfold cloFrom
    rcases List.mem_cons.mp h with e | h
    · cases e
      exact cloFrom_acc List.mem_cons_self
    · split
      · exact cloFrom_has h
      · exact cloFrom_has h

theorem cells_mem : ∀ {names : List (Str × NameKind)} {h : Heap} {acc : List (Str × Addr)} {x : Str} {c : Addr}, (x, c) ∈ cellsFrom h.objs.size names acc →
    (x, c) ∈ acc ∨ ((x, .cell) ∈ names ∧ h.objs.size ≤ c ∧ CellAt (pushCells h names) c none)
  | [], _, _, _, _, h => .inl h
  | (n, k) :: r, h, acc, x, c, hm => by
    unfold cellsFrom at hm
    unfold pushCells
    split at hm
    · rename_i hk
      rw [if_pos hk]
      have hk : k = .cell := by simpa using hk
      rw [← Heap.size_push h { cls := .type "cell", data := .cell none }] at hm
      rcases cells_mem hm with hm | ⟨h1, h2, h3⟩
      · rcases List.mem_cons.mp hm with e | hm
        · cases e
          exact .inr ⟨hk ▸ List.mem_cons_self, Nat.le_refl _, _, pushCells_keeps r _ _ _ (Heap.get?_push_size _ rfl), rfl⟩
        · exact .inl hm
      · rw [Heap.size_push] at h2
        exact .inr ⟨List.mem_cons_of_mem _ h1, Nat.le_of_succ_le h2, h3⟩
    · rename_i hk
      rw [if_neg hk]
      rcases cells_mem hm with hm | ⟨h1, h2, h3⟩
      · exact .inl hm
      · exact .inr ⟨List.mem_cons_of_mem _ h1, h2, h3⟩
theorem cells_acc : ∀ {names : List (Str × NameKind)} {n : Nat} {acc : List (Str × Addr)} {p : Str × Addr}, p ∈ acc → p ∈ cellsFrom n names acc
  | [], _, _, _, h => h
  | (m, k) :: r, n, acc, p, h => by
    unfold cellsFrom
    split
    · exact cells_acc (List.mem_cons_of_mem _ h)
    · exact cells_acc h
theorem cells_has : ∀ {names : List (Str × NameKind)} {n : Nat} {acc : List (Str × Addr)} {x : Str}, (x, .cell) ∈ names → ∃ c, (x, c) ∈ cellsFrom n names acc
  | (m, k) :: r, n, acc, x, h => by
    unfold cellsFrom
    rcases List.mem_cons.mp h with e | h
    · cases e
      exact ⟨n, cells_acc List.mem_cons_self⟩
    · split
      · exact cells_has h
      · exact cells_has h
theorem cells_inj : ∀ {names : List (Str × NameKind)} {h : Heap} {acc : List (Str × Addr)} {x y : Str} {c : Addr}, (∀ p ∈ acc, p.2 < h.objs.size) → (∀ x y c, (x, c) ∈ acc → (y, c) ∈ acc → x = y) →
    (x, c) ∈ cellsFrom h.objs.size names acc → (y, c) ∈ cellsFrom h.objs.size names acc → x = y
  | [], _, _, _, _, _, _, hi, h1, h2 => hi _ _ _ h1 h2
  | (n, k) :: r, h, acc, x, y, c, hl, hi, h1, h2 => by
    unfold cellsFrom at h1 h2
    split at h1
    · rename_i hk
      rw [if_pos hk] at h2
      rw [← Heap.size_push h { cls := .type "cell", data := .cell none }] at h1 h2
      refine cells_inj (h := h.push _) (fun p hp => ?_) (fun x y c a b => ?_) h1 h2
      · rw [Heap.size_push]
        rcases List.mem_cons.mp hp with rfl | hp
        · exact Nat.lt_succ_self _
        · exact Nat.lt_succ_of_lt (hl p hp)
      · rcases List.mem_cons.mp a with e | a <;> rcases List.mem_cons.mp b with e' | b
        · cases e; cases e'; rfl
        · cases e; exact absurd (hl _ b) (Nat.lt_irrefl _)
        · cases e'; exact absurd (hl _ a) (Nat.lt_irrefl _)
        · exact hi _ _ _ a b
    · rename_i hk
      rw [if_neg hk] at h2
      exact cells_inj hl hi h1 h2

theorem newEnv_comp {M : Model} {A : Around} {E : Value → Shared → Prop} {s : Shared} {scope : Scope} {globals : Addr} {closure : List (Str × Addr)} {qual : Str} {func : Option Addr} {code : Value} {around : Env} {builtins : Addr} {Q : Env → Shared → Prop}
    (h : Q (newEnv scope s.heap.objs.size globals (cellsFrom (s.heap.objs.size + 1) scope.names closure) qual func code (some around) builtins)
      { s with heap := pushCells (s.heap.push { cls := .type "dict", data := .dict #[] }) scope.names }) :
    wpAny M A (newFunctionEnv scope globals closure [] qual func code (some around) builtins) Q E s := by
  simp only [newFunctionEnv, Option.isSome_some, if_true]
  refine wpAny_bind (wpAny_alloc ?_)
  refine wpAny_bind (wpAny_layCells _ (fun n k c => rfl) scope.names closure _ _ ?_)
  rw [show ({ s with heap := s.heap.push { cls := .type "dict", data := .dict #[] } } : Shared).heap.objs.size = s.heap.objs.size + 1 from Heap.size_push ..]
  rw [List.forIn_nil]
  exact wpAny_bind (wpAny_pure (wpAny_pure h))

/-- every name of the written scope, in the scope that runs -/
theorem lookup_relS {sc : Scope} : ∀ {names : List (Str × NameKind)} {x : Str} {k : NameKind},
    (names.map fun (n, k) => if (k == NameKind.free && sc.kind == .function && sc.names.lookup n == some .cell) then (n, NameKind.cell) else (n, k)).lookup x = some k →
    ∃ k', names.lookup x = some k' ∧ (k = k' ∨ (k' = .free ∧ k = .cell))
  | [], _, _, h => by simp at h
  | (n, k₀) :: r, x, k, h => by
    have ih := @lookup_relS sc r x k
    have h' : List.lookup x ((if (k₀ == NameKind.free && sc.kind == .function && sc.names.lookup n == some .cell) = true then (n, NameKind.cell) else (n, k₀)) :: (r.map _)) = some k := h
    cases hx : x == n with
    | true =>
      simp only [List.lookup_cons, hx]
      by_cases hc : (k₀ == NameKind.free && sc.kind == .function && sc.names.lookup n == some .cell) = true
      · rw [if_pos hc] at h'
        simp only [List.lookup_cons, hx] at h'
        cases h'
        simp only [Bool.and_eq_true, beq_iff_eq] at hc
        exact ⟨k₀, rfl, .inr ⟨hc.1.1, rfl⟩⟩
      · rw [if_neg hc] at h'
        simp only [List.lookup_cons, hx] at h'
        cases h'
        exact ⟨_, rfl, .inl rfl⟩
    | false =>
      simp only [List.lookup_cons, hx]
      by_cases hc : (k₀ == NameKind.free && sc.kind == .function && sc.names.lookup n == some .cell) = true
      · rw [if_pos hc] at h'
        simp only [List.lookup_cons, hx] at h'
        exact ih h'
      · rw [if_neg hc] at h'
        simp only [List.lookup_cons, hx] at h'
        exact ih h'
/-- the names of a comprehension's block: its own (with their places in N), or captured -/
structure BlkOk (N : List Str) (sc scope : Scope) (own : List (Str × Nat)) : Prop where
  kind : scope.kind = .function
  uniq : ∀ y ∈ scope.names, scope.names.lookup y.1 = some y.2
  ix : ∀ p ∈ own, N[p.2]? = some p.1
  free : ∀ y ∈ scope.names, y.2 = .free → sc.names.lookup y.1 = some .cell ∨ sc.names.lookup y.1 = some .free
  own : ∀ y ∈ scope.names, y.2 = .local ∨ y.2 = .cell → y.1 ∈ own.map (·.1) ∨ y.1 ∉ N
/-- the slots of the block's own names forgotten -/
def wipe (σ : St) : List Nat → St
  | [] => σ
  | v :: vs => (wipe σ vs).set v none
theorem wipe_length (σ : St) : ∀ vs : List Nat, (wipe σ vs).length = σ.length
  | [] => rfl
  | v :: vs => by unfold wipe; rw [List.length_set, wipe_length σ vs]
theorem wipe_some {σ : St} {i : Nat} {x : V} : ∀ {vs : List Nat}, (wipe σ vs)[i]? = some (some x) → σ[i]? = some (some x) ∧ i ∉ vs
  | [], h => ⟨h, by simp⟩
  | v :: vs, h => by
    unfold wipe at h
    by_cases hi : v = i
    · subst hi
      by_cases hv : v < (wipe σ vs).length
      · rw [List.getElem?_set_self hv] at h; cases h
      · rw [List.getElem?_eq_none (by simpa using hv)] at h; cases h
    · rw [List.getElem?_set_ne hi] at h
      obtain ⟨h1, h2⟩ := wipe_some h
      exact ⟨h1, by simp only [List.mem_cons, not_or]; exact ⟨fun e => hi e.symm, h2⟩⟩

/-- the context of a block that starts at s, its iterator's objects at fp -/
abbrev Cx.blk (X : Cx) (s : Shared) (H : Hp) (scope : Scope) (cenv : Env) (fp : List Addr) : Cx := { X with s_0 := s, H_0 := H, env := cenv, outer := X.stack, ex := fp, fn := fun x => scope.names.lookup x == some .cell, pn := [], xe := fun _ _ => False }
section
variable {X : Cx} {pins : List (Addr × Obj)} {σ : St} {H : Hp} {s : Shared}
theorem block_start {scope : Scope} {own : List (Str × Nat)} {fp : List Addr} (I : Inv X pins σ H s) (ok : BlkOk X.N X.env.scope scope own) (hN : X.N.Nodup) (hfp : ∀ b ∈ fp, FpOk X pins H b ∧ b < s.heap.objs.size) :
    Inv (X.blk s H scope (compEnvC scope (cellsFrom (s.heap.objs.size + 1) scope.names (cloFrom X.env.cells scope.names [])) s.heap.objs.size X.env) fp) [] (wipe σ (own.map (·.2))) H { s with heap := pushCells (s.heap.push { cls := .type "dict", data := .dict #[] }) scope.names } := by
  have hfree : ∀ y ∈ scope.names, y.2 = .free → ∃ c, X.env.cells.lookup y.1 = some c := fun y hy e => by
    rcases ok.free y hy e with k | k
    · exact I.ok.has _ (.inl k)
    · exact I.ok.has _ (.inr k)
  generalize hcenv : compEnvC scope (cellsFrom (s.heap.objs.size + 1) scope.names (cloFrom X.env.cells scope.names [])) s.heap.objs.size X.env = cenv
  have kp : ∀ b o, s.heap.get? b = some o → (pushCells (s.heap.push { cls := .type "dict", data := .dict #[] }) scope.names).get? b = some o := fun b o e => pushCells_keeps _ _ _ _ (Heap.get?_push_of_some _ e)
  have hL : cenv.locals = s.heap.objs.size := by rw [← hcenv]; rfl
  have hcl : cenv.cells = cellsFrom (s.heap.objs.size + 1) scope.names (cloFrom X.env.cells scope.names []) := by rw [← hcenv]; rfl
  have hsc : cenv.scope = relS scope X.env.scope := by rw [← hcenv]; rfl
  rw [← Heap.size_push s.heap { cls := .type "dict", data := .dict #[] }] at hcl
  have cm : ∀ {y c}, (y, c) ∈ cloFrom X.env.cells scope.names [] → X.env.cells.lookup y = some c ∧ c < s.heap.objs.size := fun {y c} hm => by
    rcases cloFrom_mem hm with hm | ⟨h1, rfl⟩
    · cases hm
    · obtain ⟨c, hc⟩ := hfree _ h1 rfl
      rw [hc]
      obtain ⟨w, z⟩ := I.cell _ _ hc
      exact ⟨rfl, z.lt⟩
  have mem : ∀ {y c}, cenv.cells.lookup y = some c → (X.env.cells.lookup y = some c ∧ c < s.heap.objs.size) ∨ (s.heap.objs.size + 1 ≤ c ∧ CellAt (pushCells (s.heap.push { cls := .type "dict", data := .dict #[] }) scope.names) c none) := fun {y c} e => by
    rw [hcl] at e
    rcases cells_mem (PySem.mem_of_lookup e) with hm | ⟨_, h2, h3⟩
    · exact .inl (cm hm)
    · rw [Heap.size_push] at h2; exact .inr ⟨h2, h3⟩
  have look : ∀ {y}, scope.names.lookup y = some .free → ∃ c, cenv.cells.lookup y = some c ∧ X.env.cells.lookup y = some c := fun {y} hl => by
    have hy : (y, NameKind.free) ∈ scope.names := PySem.mem_of_lookup hl
    obtain ⟨c', e'⟩ := mem_lookup (cells_acc (names := scope.names) (n := (s.heap.push { cls := .type "dict", data := .dict #[] }).objs.size) (cloFrom_has (cells := X.env.cells) (acc := []) hy))
    rw [← hcl] at e'
    refine ⟨c', e', ?_⟩
    rw [hcl] at e'
    rcases cells_mem (PySem.mem_of_lookup e') with hm | ⟨h1, _, _⟩
    · exact (cm hm).1
    · have := ok.uniq _ h1
      rw [hl] at this; cases this
  have okB : (X.blk s H scope cenv fp).Ok := by
    refine ⟨I.ok.mod, by show cenv.scope.kind = _; rw [hsc]; exact ok.kind, by show cenv.globals = _; rw [← hcenv]; exact I.ok.glob, by show cenv.builtins = _; rw [← hcenv]; exact I.ok.blt, by show s.heap.objs.size ≤ cenv.locals; rw [hL]; exact Nat.le_refl _,
      fun y z c e1 e2 => ?_, fun y hy => ?_, fun y c z e => ?_, I.ok.hd, I.ok.frames, .inl rfl, fun b hb => ⟨?_, fun y c e z => ?_⟩, I.bs, Nat.le_trans I.ok.bsz I.sz, fun b o e hb => ?_, fun b hb z => ?_, I.stack, I.stkFree⟩
    · have e1 : cenv.cells.lookup y = some c := e1
      have e2 : cenv.cells.lookup z = some c := e2
      rw [hcl] at e1 e2
      refine cells_inj (fun p hp => ?_) (fun y z c a b => I.ok.inj y z c (cm a).1 (cm b).1) (PySem.mem_of_lookup e1) (PySem.mem_of_lookup e2)
      rw [Heap.size_push]
      exact Nat.lt_succ_of_lt (cm (y := p.1) (c := p.2) hp).2
    · show ∃ c, cenv.cells.lookup y = some c
      have key : ∀ k, cenv.kindOf y = some k → (k = .cell ∨ k = .free) → ∃ c, cenv.cells.lookup y = some c := fun k hk hk' => by
        unfold Env.kindOf at hk
        rw [hsc] at hk
        obtain ⟨k', e, r⟩ := lookup_relS hk
        have : k' = .cell ∨ k' = .free := by
          rcases r with rfl | ⟨rfl, _⟩
          · exact hk'
          · exact .inr rfl
        rcases this with rfl | rfl
        · obtain ⟨c, hm⟩ := cells_has (n := (s.heap.push { cls := .type "dict", data := .dict #[] }).objs.size) (acc := cloFrom X.env.cells scope.names []) (PySem.mem_of_lookup e)
          obtain ⟨c', e'⟩ := mem_lookup hm
          exact ⟨c', by rw [hcl]; exact e'⟩
        · obtain ⟨c, h1, _⟩ := look e
          exact ⟨c, h1⟩
      rcases hy with hy | hy
      · exact key _ hy (.inl rfl)
      · exact key _ hy (.inr rfl)
    · have z : (scope.names.lookup y == some NameKind.cell) = true := z
      have z : scope.names.lookup y = some .cell := by simpa using z
      have e : cenv.cells.lookup y = some c := e
      rw [hcl] at e
      rcases cells_mem (PySem.mem_of_lookup e) with hm | ⟨_, h2, _⟩
      · rcases cloFrom_mem hm with hm | ⟨h1, _⟩
        · cases hm
        · have q := ok.uniq _ h1
          rw [z] at q; cases q
      · rw [Heap.size_push] at h2
        exact Nat.le_of_succ_le h2
    · show b ≠ cenv.locals
      rw [hL]; exact Nat.ne_of_lt (hfp b hb).2
    · have e : cenv.cells.lookup y = some c := e
      rcases mem e with ⟨h1, _⟩ | ⟨h1, _⟩
      · exact (hfp b hb).1.2.2.2.2.1 y c h1 z
      · have h2 : s.heap.objs.size + 1 ≤ b := by rw [← z]; exact h1
        exact absurd (Nat.lt_of_lt_of_le (hfp b hb).2 (Nat.le_of_succ_le h2)) (Nat.lt_irrefl _)
    · rcases (hfp b hb).1.2.2.2.1 with z | z
      · exact I.ok.noex b o e z
      · exact absurd (Nat.lt_of_lt_of_le (Heap.lt_size e) (Nat.le_trans I.ok.bsz z)) (Nat.lt_irrefl _)
    · rcases List.mem_cons.mp (I.stkSub b z) with z | z
      · exact (hfp b hb).1.2.1 z
      · exact (hfp b hb).1.2.2.1 z
  refine ⟨okB, rfl, I.bare, Un.kept kp, ⟨fun _ => none, ?_, fun i y av e1 e2 e3 => ?_⟩, fun y c e => ?_, ?_, fun y c e => ?_, fun p hp => ?_, I.hok.kept kp, by rw [wipe_length]; exact I.len⟩
  · show Heap.Ns _ cenv.locals _
    rw [hL]
    exact Heap.Ns.keeps (Heap.Ns.new ..) fun b o e => pushCells_keeps _ _ _ _ e
  · obtain ⟨e2, hne⟩ := wipe_some e2
    have hfr : scope.names.lookup y = some .free ∧ (cenv.kindOf y = some .cell ∨ cenv.kindOf y = some .free) := by
      have key : ∀ k, cenv.scope.names.lookup y = some k → k = .local ∨ k = .cell ∨ k = .free → scope.names.lookup y = some .free ∧ (cenv.kindOf y = some .cell ∨ cenv.kindOf y = some .free) := fun k hk hk' => by
        have hk0 := hk
        rw [hsc] at hk
        obtain ⟨k', e, r⟩ := lookup_relS hk
        have no : ¬ (k' = .local ∨ k' = .cell) := fun hh => by
          rcases ok.own _ (PySem.mem_of_lookup e) hh with e' | e'
          · obtain ⟨p, hp, hpy⟩ := List.mem_map.mp e'
            have e3 := ok.ix p hp
            have : p.1 = y := hpy
            rw [this] at e3
            exact hne (List.mem_map.mpr ⟨p, hp, nodup_ix hN e3 e1⟩)
          · exact e' (List.mem_of_getElem? e1)
        rcases r with rfl | ⟨rfl, rfl⟩
        · rcases hk' with rfl | rfl | rfl
          · exact absurd (.inl rfl) no
          · exact absurd (.inr rfl) no
          · exact ⟨e, .inr hk0⟩
        · exact ⟨e, .inl hk0⟩
      have e3 : Vis cenv.scope y := e3
      rcases e3 with e3 | e3 | e3
      · exact key _ e3 (.inl rfl)
      · exact key _ e3 (.inr (.inl rfl))
      · exact key _ e3 (.inr (.inr rfl))
    obtain ⟨m, hn, hl⟩ := I.loc
    have hvis : Vis X.env.scope y := (ok.free _ (PySem.mem_of_lookup hfr.1) rfl).elim (fun k => .inr (.inl k)) (fun k => .inr (.inr k))
    obtain ⟨w, r, q⟩ := hl i y av e1 e2 hvis
    refine ⟨w, r, .inr ⟨hfr.2, ?_⟩⟩
    obtain ⟨c, h1, h2⟩ := look hfr.1
    rcases q with ⟨k, _⟩ | ⟨_, c', e', z⟩
    · have k : X.env.scope.names.lookup y = some .local := k
      rcases ok.free _ (PySem.mem_of_lookup hfr.1) rfl with k' | k' <;> rw [show X.env.scope.names.lookup y = _ from k'] at k <;> cases k
    · rw [h2] at e'; cases e'
      exact ⟨c, h1, z.keeps kp⟩
  · have e : cenv.cells.lookup y = some c := e
    rcases mem e with ⟨h1, _⟩ | ⟨_, z⟩
    · obtain ⟨w, z⟩ := I.cell y c h1
      exact ⟨w, z.keeps kp⟩
    · exact ⟨_, z⟩
  · show H cenv.locals = none
    rw [hL]; exact I.hok.fresh (Nat.le_refl _)
  · have e : cenv.cells.lookup y = some c := e
    rcases mem e with ⟨h1, _⟩ | ⟨h1, _⟩
    · exact I.freeC y c h1
    · exact I.hok.fresh (Nat.le_of_succ_le h1)
  · exact absurd (show p ∈ ([] : List (Addr × Obj)) ++ [] from hp) (by simp)

/-- an item appended to a tracked list -/
theorem app_ok {E : Value → Shared → Prop} {D : Addr} {xs : List V} {y : V} {v : Value} {Q : Value → Shared → Prop} (I : Inv X pins σ H s) (hD : H D = some (.lst xs)) (hz : xs.length < sizeLine) (r : RelV y v)
    (h : ∀ s', Inv X pins σ (upd H D (.lst (xs ++ [y]))) s' → Q .none s') : wpAny (model X.prog X.w) X.A (call (.builtin "list.append") [.ref D, v]) Q E s := by
  obtain ⟨hz', its, n, ri, e⟩ := I.hok D _ hD
  have hl := ri.length
  refine append_at (hsz := by rw [List.size_toArray]; omega) e fun h' sb ho' => ?_
  refine h { s with heap := h' } (I.write (t' := s.toks) (by rw [hD]; trivial) (.inl rfl) (fun b u hb q => (sb.2 b hb).trans q) ⟨_, ho'⟩ ⟨by rw [List.length_append]; exact hz, its ++ [v], n + 1, ri.append (.cons r .nil), ?_⟩)
  rw [ho']
  simp

/-- a clause's tests -/
def PTs (X : Cx) (ifs : List Expr) (t : TT) : Prop :=
  ∀ (pins : List (Addr × Obj)) (s : Shared) (σ : St) (H : Hp) (Q : Bool → Hp → Prop), Inv X pins σ H s → t σ H Q →
    wpAny (model X.prog X.w) X.A (forIn ifs true fun c r => if r = true then do let ok ← isTrue c X.env (eval c X.env); pure (ForInStep.yield ok) else pure (ForInStep.yield r)) (TP X pins σ Q) X.xe s
def tYes : TT := fun _ H Q => Q true H
theorem pts_nil : PTs X [] tYes := fun _ _ _ H _ I h => wpAny_tests_nil ⟨H, I, h⟩
theorem pts_one {c : Expr} {t : TT} (h : PT X c t) : PTs X [c] t := fun pins s σ H Q I hw => wpAny_tests_one (h pins s σ H Q I hw)
end

theorem thnF {α : Type} {t : Sem α} {Q Q' : α → Shared → Prop} {M : Model} {A : Around} {E : Value → Shared → Prop} {s : Shared} (h : wpAny M A t Q (fun _ _ => False) s) (hQ : ∀ a s, Q a s → Q' a s) : wpAny M A t Q' E s := wpAny_mono h hQ fun _ _ z => False.elim z

/-- the loop of a list comprehension's block, the target of any form (codeAny_compLoop_tests asks a target that no tuple goes to; statement and proof follow it, PyProof/CompMap.lean:41-61, with the step letOwnedTupleGo kept) -/
theorem compLoop_any {prog : Program} {w : World} {A : Around} {R : Result → Shared → Prop} {s : Shared} {elt target iter : Expr} {ifs : List Expr} {scope : Scope} {pos : Pos} {it acc : Value} {env : Env} (I : Nat → Shared → Prop)
    (turn : ∀ n s, I n s → wpAny (model prog w) A (pyNext it) (fun r s₁ => match r with
      | none => R (.ok .next) s₁
      | some v => wpAny (model prog w) A (letOwnedTupleGo target it v) (fun _ s₁' => wpAny (model prog w) A (assign target env v) (fun _ s₂ =>
          wpAny (model prog w) A (forIn ifs true fun c r => if r = true then do let ok ← isTrue c env (eval c env); pure (ForInStep.yield ok) else pure (ForInStep.yield r)) (fun ok s₃ =>
            if ok = true then wpAny (model prog w) A (eval elt env) (fun x s₄ =>
              wpAny (model prog w) A (call (.builtin "list.append") [acc, x]) (fun _ s₅ => ∃ m, m < n ∧ I m s₅) (notedBy (model prog w) A env fun e s' => R (.error e) s') s₄) (notedBy (model prog w) A env fun e s' => R (.error e) s') s₃
            else ∃ m, m < n ∧ I m s₃) (notedBy (model prog w) A env fun e s' => R (.error e) s') s₂) (notedBy (model prog w) A env fun e s' => R (.error e) s') s₁') (notedBy (model prog w) A env fun e s' => R (.error e) s') s₁) (notedBy (model prog w) A env fun e s' => R (.error e) s') s)
    (n : Nat) (h : I n s) :
    codeAny (model prog w) A (.compLoop (.ListComp elt [⟨target, iter, ifs, 0⟩] scope pos) 0 it acc env) R s := by
  refine codeAny_loop rfl I (fun n s hI => ?_) n h
  show wpAny _ A ((compTurn (.ListComp elt [⟨target, iter, ifs, 0⟩] scope pos) 0 it acc env).onRaise (fun x => do noteFrame x env; theTreesLotGoes x)) _ _ s
  refine wpAny_noted ?_
  rw [compTurn_list]
  refine wpAny_bind (wpAny_standAt (wpAny_bind (wpAny_mono (turn n s hI) (fun r s₁ h₁ => ?_) fun _ _ h' => h')))
  cases r with
  | none => exact wpAny_pure h₁
  | some v =>
    refine wpAny_bind (wpAny_mono h₁ (fun _ s₁' h₁' => ?_) fun _ _ h' => h')
    refine wpAny_bind (wpAny_mono h₁' (fun _ s₂ h₂ => wpAny_bind (wpAny_mono h₂ (fun ok s₃ h₃ => ?_) fun _ _ h' => h')) fun _ _ h' => h')
    cases ok with
    | false => exact wpAny_pure ⟨rfl, h₃⟩
    | true =>
      exact wpAny_bind (wpAny_bind (wpAny_mono h₃ (fun x s₄ h₄ => wpAny_bind (wpAny_mono h₄ (fun _ s₅ h₅ => wpAny_pure (wpAny_pure ⟨rfl, h₅⟩)) fun _ _ h' => h')) fun _ _ h' => h'))

section
variable {X : Cx}
/-- [elt for target in iter if ..]: D the new list; W by the turn and a measure, Nx what a turn is to reach -/
def tLc (wi : TI) (g : TG) (tt : TT) (te : TE) (vs : List Nat) : TE := fun σ H Q => wi σ H fun J H1 => ∀ D, H1 D = none → ∃ W : Nat → Nat → Hp → Prop, (∃ m, W 0 m (upd H1 D (.lst []))) ∧ ∀ i m H, W i m H →
  (J.stop i H ∧ Q (.ref D) H) ∨ (J.go i H ∧ ∃ Nx : Hp → Prop, (∀ H', Nx H' → ∃ m', m' < m ∧ W (i + 1) m' H') ∧ ∀ x H', J.yld i H x H' → g x (wipe σ vs) H' fun σ2 H2 => wipe σ2 vs = wipe σ vs ∧ tt σ2 H2 fun b H3 =>
    if b = true then te σ2 H3 fun y H4 => ∃ acc, H4 D = some (.lst acc) ∧ acc.length < sizeLine ∧ Nx (upd H4 D (.lst (acc ++ [y]))) else Nx H3)
theorem lc_core {pins : List (Addr × Obj)} {s : Shared} {σ : St} {H : Hp} {Q : VK} {elt tg iter : Expr} {ifs : List Expr} {scope : Scope} {own : List (Str × Nat)} {pos pos' : Pos} {wi : TI} {g : TG} {tt : TT} {te : TE} {use : Option (Value → Sem Unit)} {Qf : Value → Shared → Prop}
    (hc : X.calm = true) (hN : X.N.Nodup) (I : Inv X pins σ H s) (hi : PI X tg iter wi) (ok : BlkOk X.N X.env.scope scope own)
    (hg : ∀ (s : Shared) (H : Hp) (C : Addr) (cl : List (Str × Addr)) (fp : List Addr), PG (X.blk s H scope (compEnvC scope cl C X.env) fp) tg g) (ht : ∀ (s : Shared) (H : Hp) (C : Addr) (cl : List (Str × Addr)) (fp : List Addr), PTs (X.blk s H scope (compEnvC scope cl C X.env) fp) ifs tt)
    (he : ∀ (s : Shared) (H : Hp) (C : Addr) (cl : List (Str × Addr)) (fp : List Addr), PE (X.blk s H scope (compEnvC scope cl C X.env) fp) elt te) (hs : ∀ x, foldedSetIterable iter X.env x = pure x)
    (h : tLc wi g tt te (own.map (·.2)) σ H Q)
    (hRR : ∀ D C s' m H', Inv X pins σ H' s' → Q (.ref D) H' → s'.heap.Ns C m → FpOk X pins H' C → compPost (model X.prog X.w) X.A X.xe use Qf (.ref D) C (.ok .next) s') :
    wpAny (model X.prog X.w) X.A (comprehension (.ListComp elt [⟨tg, iter, ifs, 0⟩] scope pos) scope X.env pos' (newList []) false (eval iter X.env) use) Qf X.xe s := by
  have hfree : ∀ y ∈ scope.names, y.2 = .free → ∃ c, X.env.cells.lookup y.1 = some c := fun y hy e => by
    rcases ok.free y hy e with k | k
    · exact I.ok.has _ (.inl k)
    · exact I.ok.has _ (.inr k)
  refine wpAny_comprehension_free (use := use) rfl hs (closure_ok hfree) ok.kind (fun y hy e => by rw [ok.uniq y hy, e])
    (thn (hi pins s σ H _ I h) fun xv s1 hx => thn hx fun itv s2 h2 => ?_)
  obtain ⟨it, fp, tn, J, H2, e, I2, T, st2, f2, q⟩ := h2
  subst e
  refine wpAny_newObj_type (newEnv_comp ?_) (by show 0 ≤ sizeLine; decide)
  generalize hD : s2.heap.objs.size = D
  have hDn : H2 D = none := I2.hok.fresh (Nat.le_of_eq hD)
  obtain ⟨W, ⟨m0, w0⟩, turn⟩ := q D hDn
  -- the new list
  generalize hs3 : ({ s2 with heap := s2.heap.push { cls := .type "list", data := .seq ([] : List Value).toArray } } : Shared) = s3
  have I3 : Inv X pins σ (upd H2 D (.lst [])) s3 := by
    rw [← hs3]
    refine I2.laid (t' := s2.toks) (fun b o e => Heap.get?_push_of_some _ e) (Nat.le_of_eq hD) ⟨Nat.zero_le _, [], 0, .nil, ?_⟩
    rw [← hD]
    exact Heap.get?_push_size _ rfl
  have h3 : s3.heap = s2.heap.push { cls := .type "list", data := .seq ([] : List Value).toArray } := by rw [← hs3]
  have sz : ∀ b ∈ fp, b < s2.heap.objs.size := fun b hb => by
    obtain ⟨o, e, _⟩ := T.obj _ _ st2 b hb
    exact Heap.lt_size e
  have f3 : ∀ b ∈ fp, FpOk X pins (upd H2 D (.lst [])) b ∧ b < s3.heap.objs.size := fun b hb => by
    have hlt := sz b hb
    refine ⟨⟨?_, (f2 b hb).2⟩, by rw [h3, Heap.size_push]; exact Nat.lt_succ_of_lt hlt⟩
    rw [upd_ne (by rw [← hD]; exact Nat.ne_of_lt hlt)]
    exact (f2 b hb).1
  have st3 : tn 0 s3.heap := T.keep _ _ _ st2 fun b _ o e => by rw [h3]; exact Heap.get?_push_of_some _ e
  have I4 := block_start I3 ok hN f3
  have pg := hg s3 (upd H2 D (.lst [])) s3.heap.objs.size (cellsFrom (s3.heap.objs.size + 1) scope.names (cloFrom X.env.cells scope.names [])) fp
  have pt := ht s3 (upd H2 D (.lst [])) s3.heap.objs.size (cellsFrom (s3.heap.objs.size + 1) scope.names (cloFrom X.env.cells scope.names [])) fp
  have pe := he s3 (upd H2 D (.lst [])) s3.heap.objs.size (cellsFrom (s3.heap.objs.size + 1) scope.names (cloFrom X.env.cells scope.names [])) fp
  show codeAny _ _ (.compStart (.ListComp elt [⟨tg, iter, ifs, 0⟩] scope pos) 0 (.ref it) (.ref D) (compEnvC scope (cellsFrom (s3.heap.objs.size + 1) scope.names (cloFrom X.env.cells scope.names [])) s3.heap.objs.size X.env)) (compPost (model X.prog X.w) X.A X.xe use Qf (.ref D) s3.heap.objs.size) { s3 with heap := pushCells (s3.heap.push { cls := .type "dict", data := .dict #[] }) scope.names }
  have nfp : ∀ b ∈ fp, (upd H2 D (.lst [])) b = none := fun b hb => (f3 b hb).1.1
  generalize hce : compEnvC scope (cellsFrom (s3.heap.objs.size + 1) scope.names (cloFrom X.env.cells scope.names [])) s3.heap.objs.size X.env = ce at I4 pg pt pe ⊢
  have cL : ce.locals = s3.heap.objs.size := by subst hce; rfl
  generalize hH3 : upd H2 D (.lst []) = H3 at I3 I4 pg pt pe w0 nfp f3
  generalize hs4 : ({ s3 with heap := pushCells (s3.heap.push { cls := .type "dict", data := .dict #[] }) scope.names } : Shared) = s4 at I4 ⊢
  have st4 : tn 0 s4.heap := T.keep _ _ _ st3 fun b _ o e => by rw [← hs4]; exact pushCells_keeps _ _ _ _ (Heap.get?_push_of_some _ e)
  have stat : ∀ {σ' : St} {H' : Hp} {s' : Shared}, Inv (X.blk s3 H3 scope ce fp) [] σ' H' s' → (∀ b ∈ fp, H' b = none) → ∀ b ∈ fp, FpOk (X.blk s3 H3 scope ce fp) [] H' b := fun {σ' H' s'} I' hn b hb =>
    ⟨hn b hb, (I'.ok.exf b hb).1, I'.ok.exfs b hb, .inl hb, fun x c e => (I'.ok.exf b hb).2 x c e, fun p hp => absurd (show p ∈ ([] : List (Addr × Obj)) ++ [] from hp) (by simp)⟩
  have loop : codeAny (model X.prog X.w) X.A (.compLoop (.ListComp elt [⟨tg, iter, ifs, 0⟩] scope pos) 0 (.ref it) (.ref D) ce) (compPost (model X.prog X.w) X.A X.xe use Qf (.ref D) s3.heap.objs.size) s4 := by
    refine compLoop_any (fun n s' => ∃ i H', Inv (X.blk s3 H3 scope ce fp) [] (wipe σ (own.map (·.2))) H' s' ∧ tn i s'.heap ∧ (∀ b ∈ fp, H' b = none) ∧ W i n H') ?_ m0 ⟨0, H3, I4, st4, nfp, w0⟩
    rintro n s5 ⟨i, H5, I5, st5, n5, w5⟩
    rcases turn i n H5 w5 with ⟨stop, qq⟩ | ⟨go, Nx, hNx, step⟩
    · have td := T.done (X.blk s3 H3 scope ce fp) rfl rfl rfl hc i [] s5 _ H5 (fun _ _ => False) I5 (stat I5 n5) st5 stop
      refine thnF td fun r s6 ⟨hr, I6⟩ => ?_
      subst hr
      -- back in the def's context
      have I7 : Inv X pins σ H5 s6 := I3.call' (ch := fp) I6.os I6.base I6.hok I6.bare fun b hb => ⟨(f3 b hb).1.2.2.2.1, (f3 b hb).1.2.1, (f3 b hb).1.2.2.2.2.1, (f3 b hb).1.2.2.2.2.2⟩
      have nC : H5 s3.heap.objs.size = none := by
        have z : H5 ce.locals = none := I6.free
        rw [cL] at z
        exact z
      obtain ⟨m, hn, _⟩ := I6.loc
      have hn : s6.heap.Ns ce.locals m := hn
      rw [cL] at hn
      exact hRR D s3.heap.objs.size s6 m H5 I7 qq hn (I3.fpOk (Nat.le_refl _) nC)
    · have ti := T.item (X.blk s3 H3 scope ce fp) rfl rfl rfl hc i [] s5 _ H5 (fun _ _ => False) I5 (stat I5 n5) st5 go
      refine thnF ti fun r s6 ⟨u, hr, h6⟩ => ?_
      subst hr
      refine thnF h6 fun _ s7 ⟨x, H7, I7, r7, y7, st7, n7⟩ => ?_
      have I7' := I7.pinned (stat I7 n7) (T.obj _ _ st7)
      refine thnF (pg _ s7 _ H7 x u _ I7' r7 (step x H7 y7)) fun _ s8 ⟨σ8, H8, I8, hw8, q8⟩ => ?_
      refine thnF (pt _ s8 σ8 H8 _ I8 q8) fun b s9 ⟨H9, I9, q9⟩ => ?_
      -- the turn's end
      have fin : ∀ {s' : Shared} {H' : Hp}, Inv (X.blk s3 H3 scope ce fp) ([] ++ pinsAt fp s7.heap) σ8 H' s' → Nx H' → ∃ m, m < n ∧ ∃ i H', Inv (X.blk s3 H3 scope ce fp) [] (wipe σ (own.map (·.2))) H' s' ∧ tn i s'.heap ∧ (∀ b ∈ fp, H' b = none) ∧ W i m H' := fun {s' H'} I' nx => by
        obtain ⟨m', hm, w'⟩ := hNx H' nx
        have pin' : ∀ b ∈ fp, ∀ o, s7.heap.get? b = some o → s'.heap.get? b = some o ∧ H' b = none := fun b hb o e =>
          let z := I'.pin (b, o) (List.mem_append_right _ (List.mem_append_right _ (mem_pinsAt hb e)))
          ⟨z.1, z.2.1⟩
        have hl : (wipe σ (own.map (·.2))).length = σ8.length := by rw [← hw8, wipe_length]
        refine ⟨m', hm, i + 1, H', (I'.unpinned (pins := [])).weak hl (fun j v e => ?_), T.keep _ _ _ st7 fun b hb o e => (pin' b hb o e).1, fun b hb => ?_, w'⟩
        · rw [← hw8] at e
          exact (wipe_some e).1
        · obtain ⟨o, e, _⟩ := T.obj _ _ st7 b hb
          exact (pin' b hb o e).2
      cases b with
      | false =>
        simp only [Bool.false_eq_true, if_false] at q9 ⊢
        exact fin I9 q9
      | true =>
        simp only [if_true] at q9 ⊢
        refine thnF (pe _ s9 σ8 H9 _ I9 q9) fun z s10 ⟨yv, H10, I10, r10, acc, hD10, hz10, nx⟩ => ?_
        exact app_ok (X := X.blk s3 H3 scope ce fp) I10 hD10 hz10 r10 fun s11 I11 => fin I11 nx
  exact codeAny_compStart_list loop (T.self X.A 0 _ _ _ st4 loop)
/-- as a value -/
theorem pe_lc {elt tg iter : Expr} {ifs : List Expr} {scope : Scope} {own : List (Str × Nat)} {pos : Pos} {wi : TI} {g : TG} {tt : TT} {te : TE} (hc : X.calm = true) (hN : X.N.Nodup) (hi : PI X tg iter wi) (ok : BlkOk X.N X.env.scope scope own)
    (hg : ∀ (s : Shared) (H : Hp) (C : Addr) (cl : List (Str × Addr)) (fp : List Addr), PG (X.blk s H scope (compEnvC scope cl C X.env) fp) tg g) (ht : ∀ (s : Shared) (H : Hp) (C : Addr) (cl : List (Str × Addr)) (fp : List Addr), PTs (X.blk s H scope (compEnvC scope cl C X.env) fp) ifs tt)
    (he : ∀ (s : Shared) (H : Hp) (C : Addr) (cl : List (Str × Addr)) (fp : List Addr), PE (X.blk s H scope (compEnvC scope cl C X.env) fp) elt te) (hs : ∀ x, foldedSetIterable iter X.env x = pure x := by intro _; rfl) :
    PE X (.ListComp elt [⟨tg, iter, ifs, 0⟩] scope pos) (tLc wi g tt te (own.map (·.2))) := by
  intro pins s σ H Q I h
  rw [eval_ListComp]
  refine lc_core hc hN I hi ok hg ht he hs h fun D C s' m H' I' q hn f => ⟨m, hn, fun h'' sb => ?_⟩
  obtain ⟨f0, f1, f2, f3, f4, f5⟩ := f
  exact ⟨.ref D, H', I'.turned (t' := s'.toks) (fun b o hb e => (sb.2 b hb).trans e) f0 f1 f3 f4 f5, rfl, q⟩
end

/-! ### the forms one uses -/
def blkC (N : List Str) (sc scope : Scope) (own : List (Str × Nat)) : Bool :=
  (match scope.kind with | .function => true | _ => false) && (scope.names.all fun y => decide (scope.names.lookup y.1 = some y.2)) && (own.all fun p => decide (N[p.2]? = some p.1)) &&
    (scope.names.all fun y => match y.2 with
      | .free => (match sc.names.lookup y.1 with | some .cell => true | some .free => true | _ => false)
      | .local => decide (y.1 ∈ own.map (·.1)) || decide (y.1 ∉ N)
      | .cell => decide (y.1 ∈ own.map (·.1)) || decide (y.1 ∉ N)
      | _ => true)
theorem blkOk_by {N : List Str} {sc scope : Scope} {own : List (Str × Nat)} (h : blkC N sc scope own = true) : BlkOk N sc scope own := by
  unfold blkC at h
  simp only [Bool.and_eq_true, List.all_eq_true, decide_eq_true_eq] at h
  obtain ⟨⟨⟨h1, h2⟩, h3⟩, h4⟩ := h
  refine ⟨?_, h2, h3, fun y hy e => ?_, fun y hy e => ?_⟩
  · split at h1
    · assumption
    · cases h1
  · have q := h4 y hy
    simp only [e] at q
    split at q <;> first | exact .inl (by assumption) | exact .inr (by assumption) | cases q
  · have q := h4 y hy
    rcases e with e | e <;> (simp only [e, Bool.or_eq_true, decide_eq_true_eq] at q; exact q)
end L2

namespace L2
open PySem PySem.Spec PyProof.Rows

section
variable {prog : Program} {w : World} {A : Around} {R : Result → Shared → Prop} {s : Shared} {elt t0 i0 t1 i1 : Expr} {ifs0 ifs1 : List Expr} {scope : Scope} {pos : Pos} {it acc : Value} {env : Env}
end

section
variable {X : Cx}
end
end L2

namespace L2
open PySem PySem.Spec PyProof.Rows

/-! ### lists of pairs as tables -/
section
variable {κ : Type} [DecidableEq κ]
def valV (kvs : List (κ × V)) (k : κ) : Option V := (kvs.find? fun kv => decide (kv.1 = k)).map (·.2)
/-- in its place, or at the end -/
def putK (kvs : List (κ × V)) (k : κ) (v : V) : List (κ × V) :=
  if (kvs.any fun kv => decide (kv.1 = k)) = true then kvs.map (fun kv => if kv.1 = k then (kv.1, v) else kv) else kvs ++ [(k, v)]
theorem valV_pos {p : κ × V} {r : List (κ × V)} {k : κ} (e : p.1 = k) : valV (p :: r) k = some p.2 := by simp [valV, List.find?_cons, e]
theorem valV_neg {p : κ × V} {r : List (κ × V)} {k : κ} (e : ¬ p.1 = k) : valV (p :: r) k = valV r k := by simp [valV, List.find?_cons, e]
theorem valV_any (k : κ) : ∀ kvs : List (κ × V), (kvs.any fun kv => decide (kv.1 = k)) = (valV kvs k).isSome
  | [] => rfl
  | p :: r => by
    rw [List.any_cons]
    by_cases e : p.1 = k
    · simp only [valV_pos e, decide_eq_true e, Bool.true_or, Option.isSome_some]
    · rw [valV_neg e, decide_eq_false e, Bool.false_or]; exact valV_any k r
theorem length_putK (kvs : List (κ × V)) (k : κ) (v : V) : (putK kvs k v).length ≤ kvs.length + 1 := by
  unfold putK
  split
  · rw [List.length_map]; omega
  · rw [List.length_append, List.length_cons, List.length_nil]; omega
theorem putK_new {kvs : List (κ × V)} {k : κ} (v : V) (h : valV kvs k = none) : putK kvs k v = kvs ++ [(k, v)] := by
  unfold putK
  rw [valV_any, h]
  exact if_neg (by decide)

theorem RelO.isSome_eq {o : Option V} {u : Option Value} (r : RelO o u) : o.isSome = u.isSome := by
  cases o with
  | none => cases u with
    | none => rfl
    | some _ => exact (show False from r).elim
  | some _ => cases u with
    | none => exact (show False from r).elim
    | some _ => rfl
/-- raw tables of the same keys -/
theorem KV.val {kvs : List (κ × V)} {vs : List (κ × Value)} (r : KV kvs vs) (k : κ) : RelO (valV kvs k) (valueAt vs k) := by
  unfold KV at r
  induction r with
  | nil => exact True.intro
  | @cons p q ps qs h t ih =>
    obtain ⟨h1, h2⟩ := h
    by_cases e : p.1 = k
    · have e' : q.1 = k := h1.symm.trans e
      have b : valueAt (q :: qs) k = some q.2 := by simp [valueAt, List.find?_cons, e']
      rw [valV_pos e, b]; exact h2
    · have e' : ¬ q.1 = k := fun z => e (h1.trans z)
      have b : valueAt (q :: qs) k = valueAt qs k := by simp [valueAt, List.find?_cons, e']
      rw [valV_neg e, b]; exact ih
theorem KV.any {kvs : List (κ × V)} {vs : List (κ × Value)} (r : KV kvs vs) (k : κ) : (kvs.any fun kv => decide (kv.1 = k)) = vs.any fun kv => decide (kv.1 = k) := by
  unfold KV at r
  induction r with
  | nil => rfl
  | cons h t ih => rw [List.any_cons, List.any_cons, ih, h.1]
theorem KV.repl {kvs : List (κ × V)} {vs : List (κ × Value)} (r : KV kvs vs) (k : κ) {y : V} {u : Value} (ry : RelV y u) :
    KV (kvs.map fun kv => if kv.1 = k then (kv.1, y) else kv) (vs.map fun kv => if kv.1 = k then (kv.1, u) else kv) := by
  unfold KV at r ⊢
  induction r with
  | nil => exact .nil
  | @cons p q ps qs h t ih =>
    rw [List.map_cons, List.map_cons]
    refine .cons ?_ ih
    obtain ⟨h1, h2⟩ := h
    by_cases e : p.1 = k
    · rw [if_pos e, if_pos (h1.symm.trans e)]; exact ⟨h1, ry⟩
    · rw [if_neg e, if_neg (fun z => e (h1.trans z))]; exact ⟨h1, h2⟩
theorem KV.put {kvs : List (κ × V)} {vs : List (κ × Value)} (r : KV kvs vs) (k : κ) {y : V} {u : Value} (ry : RelV y u) : KV (putK kvs k y) (stored vs k u) := by
  unfold putK stored
  rw [r.any k]
  by_cases e : (vs.any fun kv => decide (kv.1 = k)) = true
  · rw [if_pos e, if_pos e]; exact r.repl k ry
  · rw [if_neg e, if_neg e]; exact Paired.snoc r ⟨rfl, ry⟩
theorem KV.length {kvs : List (κ × V)} {vs : List (κ × Value)} (r : KV kvs vs) : kvs.length = vs.length := Paired.length r
end


/-! ### a tracked dict, its keys ints and texts or tuples of these -/
theorem kV_is {P : Program} {w : World} {k : Key} {u : Value} (r : RelV (kV k) u) : (mixKind P w).is k u = true := by
  cases k with
  | inl i => obtain ⟨t, e⟩ := (show ∃ t, u = Value.int i t from r); subst e; exact mixKind_int P w i t
  | inr x => obtain ⟨t, e⟩ := (show ∃ t, u = Value.str x t from r); subst e; exact mixKind_str P w x t
theorem items_are {P : Program} {w : World} : ∀ {ks : List Key} {us : List Value}, Vals (ks.map kV) us → ItemsAre (mixKind P w) ks us
  | [], _, r => by rw [List.map_nil] at r; cases r; exact .nil
  | k :: ks, _, r => by
    rw [List.map_cons] at r
    cases r with
    | cons h t => exact .cons (kV_is h) (items_are t)

/-- raw entries of a dict with tuple keys -/
abbrev KT (H : Hp) : List (List Key × V) → List (List Key × Addr × Value) → Prop := Paired fun p q => p.1 = q.1 ∧ H q.2.1 = some (.tup (p.1.map kV)) ∧ RelV p.2 q.2.2
theorem KT.val {H : Hp} {kvs : List (List Key × V)} {xs : List (List Key × Addr × Value)} (r : KT H kvs xs) (k : List Key) : RelO (valV kvs k) ((atKey xs k).map (·.2)) := by
  induction r with
  | nil => exact True.intro
  | @cons p q ps qs h t ih =>
    obtain ⟨h1, _, h2⟩ := h
    by_cases e : p.1 = k
    · have e' : q.1 = k := h1.symm.trans e
      have b : atKey (q :: qs) k = some q.2 := by simp [atKey, List.find?_cons, e']
      rw [valV_pos e, b]; exact h2
    · have e' : ¬ q.1 = k := fun z => e (h1.trans z)
      have b : atKey (q :: qs) k = atKey qs k := by simp [atKey, List.find?_cons, e']
      rw [valV_neg e, b]; exact ih
theorem KT.repl {H : Hp} {kvs : List (List Key × V)} {xs : List (List Key × Addr × Value)} (r : KT H kvs xs) (k : List Key) {y : V} {u : Value} (ry : RelV y u) :
    KT H (kvs.map fun kv => if kv.1 = k then (kv.1, y) else kv) (xs.map (putAt k u)) := by
  induction r with
  | nil => exact .nil
  | @cons p q ps qs h t ih =>
    rw [List.map_cons, List.map_cons]
    refine .cons ?_ ih
    obtain ⟨h1, h2, h3⟩ := h
    unfold putAt
    by_cases e : p.1 = k
    · rw [if_pos e, if_pos (h1.symm.trans e)]; exact ⟨h1, h2, ry⟩
    · rw [if_neg e, if_neg (fun z => e (h1.trans z))]; exact ⟨h1, h2, h3⟩
theorem KT.put {H : Hp} {kvs : List (List Key × V)} {xs : List (List Key × Addr × Value)} (r : KT H kvs xs) (k : List Key) {b : Addr} {y : V} {u : Value} (hb : H b = some (.tup (k.map kV))) (ry : RelV y u) :
    KT H (putK kvs k y) (storedH xs k b u) := by
  have e : (kvs.any fun kv => decide (kv.1 = k)) = (atKey xs k).isSome := by
    rw [valV_any, (r.val k).isSome_eq, Option.isSome_map]
  unfold putK storedH
  rw [e]
  by_cases q : (atKey xs k).isSome = true
  · rw [if_pos q, if_pos q]; exact r.repl k ry
  · rw [if_neg q, if_neg q]; exact Paired.snoc r ⟨rfl, hb, ry⟩
theorem KT.keeps {H H' : Hp} {kvs : List (List Key × V)} {xs : List (List Key × Addr × Value)} (r : KT H kvs xs) (ht : ∀ b ys, H b = some (.tup ys) → H' b = some (.tup ys)) : KT H' kvs xs :=
  Paired.mapP r fun _ _ z => ⟨z.1, ht _ _ z.2.1, z.2.2⟩

section
variable {P : Program} {w : World} {H : Hp} {h : Heap} {a : Addr}
theorem rd_of {u : HO} (ok : HOk P w H h) (e : Rd H a u) : ObjOk P w H h a u := e.ok ok
theorem dk_rd {kvs : List (Key × V)} (ok : HOk P w H h) (e : Rd H a (.dK kvs)) : kvs.length ≤ sizeLine ∧ (a == sysModules) = false ∧ ∃ vs, KV kvs vs ∧ h.DictOf (mixKind P w) a vs :=
  show ObjOk P w H h a (.dK kvs) from rd_of ok e
theorem dk_of {kvs : List (Key × V)} (ok : HOk P w H h) (e : H a = some (.dK kvs)) : kvs.length ≤ sizeLine ∧ (a == sysModules) = false ∧ ∃ vs, KV kvs vs ∧ h.DictOf (mixKind P w) a vs := dk_rd ok (.inl e)
/-- a tracked tuple of ints and texts is a key -/
theorem key_of {ks : List Key} (ok : HOk P w H h) (e : H a = some (.tup (ks.map kV))) : (tupleKind (mixKind P w)).is h ks a := by
  obtain ⟨_, its, r, o, h1, h2, n, h3⟩ := (show ObjOk P w H h a (.tup (ks.map kV)) from ok a _ e)
  exact ⟨o, its.toArray, n, h1, h2, h3, by simpa using items_are r⟩
theorem dt_rd {kvs : List (List Key × V)} (ok : HOk P w H h) (e : Rd H a (.dT kvs)) : kvs.length ≤ sizeLine ∧ (a == sysModules) = false ∧
    ∃ xs, KT H kvs xs ∧ h.DictOfH (tupleKind (mixKind P w)) a xs := by
  obtain ⟨z, y, xs, r, o, es, ep, h1, h2, h3, h4, h5⟩ := (show ObjOk P w H h a (.dT kvs) from rd_of ok e)
  refine ⟨z, y, xs, r, o, es, ep, h1, h2, h3, h4, fun x hx => ?_, h5⟩
  have all : ∀ {l : List (List Key × V)} {m : List (List Key × Addr × Value)}, KT H l m → ∀ x ∈ m, (tupleKind (mixKind P w)).is h x.1 x.2.1 := by
    intro l m q
    induction q with
    | nil => intro x hx; exact nomatch hx
    | @cons p q ps qs hq t ih =>
      intro x hx
      rcases List.mem_cons.mp hx with e | hx
      · subst e
        exact key_of ok (by rw [← hq.1]; exact hq.2.1)
      · exact ih x hx
  exact all r x hx
theorem dt_of {kvs : List (List Key × V)} (ok : HOk P w H h) (e : H a = some (.dT kvs)) : kvs.length ≤ sizeLine ∧ (a == sysModules) = false ∧
    ∃ xs, KT H kvs xs ∧ h.DictOfH (tupleKind (mixKind P w)) a xs := dt_rd ok (.inl e)
end

/-- what the dict at a holds at the key y -/
def DGet (H : Hp) (a : Addr) (y : V) (r : Option V) : Prop :=
  (∃ kvs k, Rd H a (.dK kvs) ∧ y = kV k ∧ r = valV kvs k) ∨ ∃ kvs k b, Rd H a (.dT kvs) ∧ y = .ref b ∧ H b = some (.tup (k.map kV)) ∧ r = valV kvs k
/-- the heap behind a[y] = v -/
def DPut (H : Hp) (a : Addr) (y v : V) (H' : Hp) : Prop :=
  (∃ kvs k, H a = some (.dK kvs) ∧ y = kV k ∧ kvs.length < sizeLine ∧ H' = upd H a (.dK (putK kvs k v))) ∨
  ∃ kvs k b, H a = some (.dT kvs) ∧ y = .ref b ∧ H b = some (.tup (k.map kV)) ∧ kvs.length < sizeLine ∧ H' = upd H a (.dT (putK kvs k v))
theorem DGet.t {H : Hp} {a b : Addr} {kvs : List (List Key × V)} {k : List Key} (e : H a = some (.dT kvs)) (eb : H b = some (.tup (k.map kV))) : DGet H a (.ref b) (valV kvs k) := .inr ⟨kvs, k, b, .inl e, rfl, eb, rfl⟩
theorem DPut.t {H : Hp} {a b : Addr} {kvs : List (List Key × V)} {k : List Key} {v : V} (e : H a = some (.dT kvs)) (eb : H b = some (.tup (k.map kV))) (hl : kvs.length < sizeLine) :
    DPut H a (.ref b) v (upd H a (.dT (putK kvs k v))) := .inr ⟨kvs, k, b, e, rfl, eb, hl, rfl⟩


section
variable {X : Cx} {pins : List (Addr × Obj)} {σ : St} {H : Hp} {s : Shared} {a : Addr} {y v : V} {u r : Value} {o : Option V} {A : Around} {E : Value → Shared → Prop}

theorem Inv.big (I : Inv X pins σ H s) : sysModules < s.heap.objs.size := by
  have h : mainGlobals < s.heap.objs.size := (I.mod.glob.keeps I.bk).lt
  exact Nat.lt_trans (by decide) h

/-- d[y], there -/
theorem d_getItem {Q : Value → Shared → Prop} (hu : A.units + 1 < cLine) (I : Inv X pins σ H s) (g : DGet H a y (some v)) (ry : RelV y u) (h : ∀ w' s', Inv X pins σ H s' → RelV v w' → Q w' s') :
    wpAny (model X.prog X.w) A (getItem (.ref a) u) Q E s := by
  rcases g with ⟨kvs, k, e, ey, l⟩ | ⟨kvs, k, b, e, ey, eb, l⟩
  · subst ey
    obtain ⟨z, hd, vs, rel, dd⟩ := dk_rd I.hok e
    obtain ⟨w', hw, rw'⟩ := RelO.some_of (v := v) (o := valueAt vs k) (by rw [l]; exact rel.val k)
    exact wpAny_getItem_of (kV_is ry) dd.mapOf hw (h w' _ (I.tok _) rw')
  · subst ey
    cases (show u = Value.ref b from ry)
    obtain ⟨z, hd, xs, rel, dd⟩ := dt_rd I.hok e
    obtain ⟨w', hw, rw'⟩ := RelO.some_of (v := v) (o := (atKey xs k).map (·.2)) (by rw [l]; exact rel.val k)
    obtain ⟨p, hp, hp2⟩ := Option.map_eq_some_iff.mp hw
    refine wpAny_getItem_heap (tupleKind_room_in1 hu) (key_of I.hok eb) dd hp ?_
    rw [hp2]
    exact h w' _ (I.tok _) rw'
/-- y in d -/
theorem d_in {Q : Value → Shared → Prop} (hu : A.units + 1 < cLine) (I : Inv X pins σ H s) (g : DGet H a y o) (ry : RelV y u) (h : ∀ s', Inv X pins σ H s' → Q (.bool o.isSome) s') :
    wpAny (model X.prog X.w) A (compareOp .In u (.ref a)) Q E s := by
  rcases g with ⟨kvs, k, e, ey, l⟩ | ⟨kvs, k, b, e, ey, eb, l⟩
  · subst ey
    obtain ⟨z, hd, vs, rel, dd⟩ := dk_rd I.hok e
    refine wpAny_in_of (kV_is ry) hd dd.mapOf ?_
    rw [← (rel.val k).isSome_eq, ← l]
    exact h _ (I.tok _)
  · subst ey
    cases (show u = Value.ref b from ry)
    obtain ⟨z, hd, xs, rel, dd⟩ := dt_rd I.hok e
    refine wpAny_in_heap (tupleKind_room_in1 hu) (key_of I.hok eb) hd dd ?_
    have q := (rel.val k).isSome_eq
    rw [Option.isSome_map] at q
    rw [← q, ← l]
    exact h _ (I.tok _)
theorem d_notIn {Q : Value → Shared → Prop} (hu : A.units + 1 < cLine) (I : Inv X pins σ H s) (g : DGet H a y o) (ry : RelV y u) (h : ∀ s', Inv X pins σ H s' → Q (.bool (!o.isSome)) s') :
    wpAny (model X.prog X.w) A (compareOp .NotIn u (.ref a)) Q E s := by
  rcases g with ⟨kvs, k, e, ey, l⟩ | ⟨kvs, k, b, e, ey, eb, l⟩
  · subst ey
    obtain ⟨z, hd, vs, rel, dd⟩ := dk_rd I.hok e
    refine wpAny_notIn_of (kV_is ry) hd dd.mapOf ?_
    rw [← (rel.val k).isSome_eq, ← l]
    exact h _ (I.tok _)
  · subst ey
    cases (show u = Value.ref b from ry)
    obtain ⟨z, hd, xs, rel, dd⟩ := dt_rd I.hok e
    refine wpAny_notIn_heap (tupleKind_room_in1 hu) (key_of I.hok eb) hd dd ?_
    have q := (rel.val k).isSome_eq
    rw [Option.isSome_map] at q
    rw [← q, ← l]
    exact h _ (I.tok _)
/-- a dict's object is replaced -/
theorem d_write {h' : Heap} {t' : Nat} {ob : HO} (I : Inv X pins σ H s) (mu : Mut (H a)) (hs : Heap.SameBut a s.heap h') (he : ∃ q, h'.get? a = some q) (new : ObjOk X.prog X.w (upd H a ob) h' a ob) :
    Inv X pins σ (upd H a ob) { s with heap := h', toks := t' } :=
  I.write (x := a) (e := a) mu (.inl rfl) (fun b q hb z => (hs.2 b hb).trans z) he new
theorem dk_new {P : Program} {w : World} {H' : Hp} {h' : Heap} {kvs : List (Key × V)} {vs : List (Key × Value)} (z : kvs.length ≤ sizeLine) (hd : (a == sysModules) = false) (rel : KV kvs vs) (dd : h'.DictOf (mixKind P w) a vs) :
    ObjOk P w H' h' a (.dK kvs) := ⟨z, hd, vs, rel, dd⟩
/-- d[y] = v -/
theorem d_setItem {H' : Hp} {Q : Unit → Shared → Prop} (hu : A.units + 1 < cLine) (I : Inv X pins σ H s) (g : DPut H a y v H') (ry : RelV y u) (rv : RelV v r) (h : ∀ s', Inv X pins σ H' s' → Q () s') :
    wpAny (model X.prog X.w) A (setItem (.ref a) u r) Q E s := by
  rcases g with ⟨kvs, k, e, ey, l, eH⟩ | ⟨kvs, k, b, e, ey, eb, l, eH⟩
  · subst ey eH
    obtain ⟨z, hd, vs, rel, dd⟩ := dk_of I.hok e
    have hz : vs.length ≤ sizeLine := by rw [← rel.length]; exact z
    have hl : (putK kvs k v).length ≤ sizeLine := by have := length_putK kvs k v; omega
    refine wpAny_setItem_pairs (hsz := hz) (kV_is ry) dd fun h' dd' hs => h _ ?_
    have he : ∃ q, h'.get? a = some q := let ⟨q, _, _, hq, _⟩ := dd'; ⟨q, hq⟩
    exact d_write I (by rw [e]; exact True.intro) hs he (dk_new hl hd (rel.put k rv) dd')
  · subst ey eH
    cases (show u = Value.ref b from ry)
    obtain ⟨z, hd, xs, rel, dd⟩ := dt_of I.hok e
    have hz : xs.length ≤ sizeLine := by rw [← Paired.length rel]; exact z
    have hl : (putK kvs k v).length ≤ sizeLine := by have := length_putK kvs k v; omega
    refine wpAny_setItem_heap (hsz := hz) (tupleKind_room_in1 hu) (key_of I.hok eb) dd fun h' dd' hs => h _ ?_
    obtain ⟨q, es, ep, hq, h2, h3, h4, _, h5⟩ := dd'
    refine d_write I (by rw [e]; exact True.intro) hs ⟨q, hq⟩ ⟨hl, hd, _, (rel.put k eb rv).keeps fun c ys ec => ?_, q, es, ep, hq, h2, h3, h4, h5⟩
    rw [upd_ne (ne_of ec e (fun z => nomatch z))]
    exact ec
end

section
variable {X : Cx} {pins : List (Addr × Obj)} {σ : St} {H : Hp} {s : Shared} {a : Addr} {kvs : List (Key × V)} {k : Key} {u : Value} {A : Around} {E : Value → Shared → Prop}
end


/-! ### readings and rules -/
/-- the element of a subscription, not a slice -/
def NoSl (i : Expr) : Prop := ∀ ov iv, subscripted i false ov iv = operate [ov, iv] (getItem ov iv)
theorem subD_of {prog : Program} {w : World} {A : Around} {E : Value → Shared → Prop} {s : Shared} {env : Env} {value slice : Expr} {pos : Pos} {T id : String} {Q : Value → Shared → Prop}
    (hl : typeLookup (.type T) "__getitem__" = pure (some (.builtin id))) (hs : NoSl slice)
    (h : wpAny (model prog w) A (eval value env) (fun o s₁ => wpAny (model prog w) A (eval slice env) (fun i s₂ => s₂.TypeIs o T ∧ wpAny (model prog w) A (getItem o i) Q E s₂) E s₁) E s) :
    wpAny (model prog w) A (eval (.Subscript value slice pos) env) Q E s := by
  refine Subscript_ (wpAny_mono h (fun o s₁ h₁ => wpAny_mono h₁ (fun i s₂ h₂ => ?_) fun _ _ x => x) fun _ _ x => x)
  obtain ⟨hT, h₂⟩ := h₂
  unfold subscriptTail
  refine wpAny_bind ?_
  rw [getitemInPython_of_ne hT.not_modules]
  refine wpAny_bind (wpAny_specialOf hT hl ?_)
  have fin : wpAny (model prog w) A (subscripted slice false o i) (fun r s₃ => wpAny (model prog w) A (letTemporaryGo value o r >>= fun _ => pure r) Q E s₃) E s₂ := by
    rw [hs o i]
    exact wpAny_operating (wpAny_mono h₂ (fun r s₃ h₃ => wpAny_bind (wpAny_letTemporaryGo (wpAny_pure h₃))) fun _ _ x => x)
  first
    | exact wpAny_pure (wpAny_bind fin)
    | exact wpAny_bind (wpAny_pure (wpAny_bind fin))
    | exact wpAny_bind fin

theorem dict_typeIs {X : Cx} {pins : List (Addr × Obj)} {σ : St} {H : Hp} {s : Shared} {a : Addr} {y : V} {o : Option V} (I : Inv X pins σ H s) (g : DGet H a y o) : s.TypeIs (.ref a) "dict" := by
  rcases g with ⟨kvs, k, e, _, _⟩ | ⟨kvs, k, b, e, _, _, _⟩
  · obtain ⟨_, _, vs, _, dd⟩ := dk_rd I.hok e
    exact dd.typeIs
  · obtain ⟨_, _, xs, _, dd⟩ := dt_rd I.hok e
    exact dd.typeIs
/-- d[y] -/
def tDGet (td ty : TE) : TE := fun σ H Q => td σ H fun x H1 => ty σ H1 fun y H2 => ∃ a v, x = .ref a ∧ DGet H2 a y (some v) ∧ Q v H2
/-- y in d, y not in d -/
def tDIn (ty td : TE) : TE := fun σ H Q => ty σ H fun y H1 => td σ H1 fun x H2 => ∃ a o, x = .ref a ∧ DGet H2 a y o ∧ Q (.bl o.isSome) H2
def tDNotIn (ty td : TE) : TE := fun σ H Q => ty σ H fun y H1 => td σ H1 fun x H2 => ∃ a o, x = .ref a ∧ DGet H2 a y o ∧ Q (.bl (!o.isSome)) H2
/-- d[y] = v -/
def sDPut (td ty tv : TE) : TS := fun D σ H => tv σ H fun v H1 => td σ H1 fun x H2 => ty σ H2 fun y H3 => ∃ a H4, x = .ref a ∧ DPut H3 a y v H4 ∧ D.nx σ H4
section
variable {X : Cx} {o i e value : Expr} {pos pos' tpos : Pos} {td ty tv : TE}
theorem pe_dget (hu : X.A.units + 1 < cLine) (ho : PE X o td) (hi : PE X i ty) (hs : NoSl i) : PE X (.Subscript o i pos) (tDGet td ty) := by
  intro pins s σ H Q I h
  refine subD_of PySem.F.slot_dict_getitem.lookup hs (thn (ho pins s σ H _ I h) fun u s1 ⟨x, H1, I1, rx, q1⟩ => thn (hi pins s1 σ H1 _ I1 q1) fun iv s2 ⟨y, H2, I2, ry, a, v, ex, g, q2⟩ => ?_)
  subst ex
  obtain rfl : u = Value.ref a := rx
  exact ⟨dict_typeIs I2 g, d_getItem hu I2 g ry fun w' s3 I3 rw' => ⟨v, H2, I3, rw', q2⟩⟩
theorem pc_din (hu : X.A.units + 1 < cLine) (hi : PE X i ty) (ho : PE X o td) : PC X .In i o (tDIn ty td) := by
  intro pins s σ H Q I h
  refine thn (hi pins s σ H _ I h) fun iv s1 ⟨y, H1, I1, ry, q1⟩ => thn (ho pins s1 σ H1 _ I1 q1) fun u s2 ⟨x, H2, I2, rx, a, ov, ex, g, q2⟩ => ?_
  subst ex
  obtain rfl : u = Value.ref a := rx
  exact d_in hu I2 g ry fun s3 I3 => ⟨.bl ov.isSome, H2, I3, rfl, q2⟩
theorem pc_dnotin (hu : X.A.units + 1 < cLine) (hi : PE X i ty) (ho : PE X o td) : PC X .NotIn i o (tDNotIn ty td) := by
  intro pins s σ H Q I h
  refine thn (hi pins s σ H _ I h) fun iv s1 ⟨y, H1, I1, ry, q1⟩ => thn (ho pins s1 σ H1 _ I1 q1) fun u s2 ⟨x, H2, I2, rx, a, ov, ex, g, q2⟩ => ?_
  subst ex
  obtain rfl : u = Value.ref a := rx
  exact d_notIn hu I2 g ry fun s3 I3 => ⟨.bl (!ov.isSome), H2, I3, rfl, q2⟩
theorem ps_dput (hu : X.A.units + 1 < cLine) (ho : PE X o td) (hi : PE X i ty) (hv : PE X value tv) (hs : swapsWith value (some (.Subscript o i pos')) pos.line X.env = pure false) :
    PS X (.Assign [.Subscript o i pos'] value pos) (sDPut td ty tv) := by
  intro pins s σ H D I h
  refine wpAny_Assign_Subscript (thn (hv pins s σ H _ I h) fun r s1 ⟨v, H1, I1, rv, q1⟩ => thn (ho pins s1 σ H1 _ I1 q1) fun u s2 ⟨x, H2, I2, rx, q2⟩ => thn (hi pins s2 σ H2 _ I2 q2) fun iv s3 ⟨y, H3, I3, ry, a, H4, ex, g, q3⟩ => ?_) hs
  subst ex
  obtain rfl : u = Value.ref a := rx
  exact d_setItem hu I3 g ry rv fun s4 I4 => ⟨σ, H4, I4, q3⟩
end


/-! ### displays -/
theorem dt_empty {P : Program} {w : World} {H : Hp} (h : Heap) (hb : sysModules < h.objs.size) : ObjOk P w H (h.push { cls := .type "dict", data := .dict #[] }) h.objs.size (.dT []) :=
  ⟨Nat.zero_le _, beq_eq_false_iff_ne.mpr (Ne.symm (Nat.ne_of_lt hb)), [], .nil, _, #[], 0, Heap.get?_push_size _ rfl, ⟨rfl, rfl, rfl⟩, rfl, rfl, List.nodup_nil⟩
def tDNewT : TE := fun _ H Q => ∀ p, H p = none → Q (.ref p) (upd H p (.dT []))
section
variable {X : Cx} {pos : Pos}
theorem pe_dnewT : PE X (.Dict [] [] pos) tDNewT := fun pins s σ H Q I h =>
  wpAny_Dict_empty ⟨.ref s.heap.objs.size, _, I.laid (a := s.heap.objs.size) (o := .dT []) (t' := s.toks) (fun _ _ q => Heap.get?_push_of_some _ q) (Nat.le_refl _) (dt_empty s.heap I.big), rfl, h _ (I.hok.fresh (Nat.le_refl _))⟩
end

/-! ### methods -/
/-- a method call o.m(e) of a built-in, with one argument: what must be seen of the text -/
structure M1 (X : Cx) (o : Expr) (m : Str) (apos : Pos) (e : Expr) (cpos : Pos) : Prop where
  base : attributeBase o m X.env (eval o X.env) = eval o X.env
  few : ((backTo cpos (starEach [e] X.env)).all (fun x => !x.1) && (backToKw cpos (keywordEach [] X.env)).all (fun x => x.1.isSome)
    && decide (([e] : List Expr).length + ([] : List Keyword).length + (if ([] : List Keyword).isEmpty then 0 else 1) < 30)) = true
  line : (apos.endLine == cpos.line) = true
  trees : backTo cpos (starEach [e] X.env) = [(false, eval e X.env)]
structure M2 (X : Cx) (o : Expr) (m : Str) (apos : Pos) (e f : Expr) (cpos : Pos) : Prop where
  base : attributeBase o m X.env (eval o X.env) = eval o X.env
  few : ((backTo cpos (starEach [e, f] X.env)).all (fun x => !x.1) && (backToKw cpos (keywordEach [] X.env)).all (fun x => x.1.isSome)
    && decide (([e, f] : List Expr).length + ([] : List Keyword).length + (if ([] : List Keyword).isEmpty then 0 else 1) < 30)) = true
  line : (apos.endLine == cpos.line) = true
  trees : backTo cpos (starEach [e, f] X.env) = [(false, eval e X.env), (false, eval f X.env)]

section
variable {X : Cx} {pins : List (Addr × Obj)} {σ : St} {H : Hp} {s : Shared} {a : Addr} {y d : V} {u r : Value} {o : Option V} {A : Around} {E : Value → Shared → Prop}
end

section
variable {X : Cx} {o e f : Expr} {apos cpos : Pos} {td ty tx : TE}
end

/-! ### dict(d): a copy -/
section
variable {X : Cx} {pins : List (Addr × Obj)} {σ : St} {H : Hp} {s : Shared} {a : Addr} {kvs : List (Key × V)} {A : Around} {E : Value → Shared → Prop}
end


section
variable {X : Cx} {pins : List (Addr × Obj)} {σ : St} {H : Hp} {s : Shared} {a : Addr} {y : V} {u : Value} {A : Around} {E : Value → Shared → Prop}
end
end L2

namespace L2
open PySem PySem.Spec PyProof.Rows

section
variable {prog : Program} {w : World} {A : Around} {E : Value → Shared → Prop}
end

section
variable {X : Cx}
end
end L2

namespace L2
open PySem PySem.Spec PyProof.Rows

section
variable {X : Cx} {pins : List (Addr × Obj)} {σ : St} {H : Hp} {s : Shared} {h' : Heap}
/-! ### locking a thing while a statement runs -/
theorem Inv.lock {d : Addr} {u : HO} (I : Inv X pins σ H s) (h : H d = some u) (mu : Mut (some u)) : ∃ od, Inv X pins σ (upd H d (.frz od u)) s := by
  have x := I.hok d u h
  have ex : ∃ od, s.heap.get? d = some od := by
    cases u with
    | lst xs => obtain ⟨_, _, _, _, e⟩ := x; exact ⟨_, e⟩
    | dK kvs => obtain ⟨_, _, _, _, o, _, _, e, _⟩ := x; exact ⟨o, e⟩
    | dT kvs => obtain ⟨_, _, _, _, o, _, _, e, _⟩ := x; exact ⟨o, e⟩
    | set S n => obtain ⟨o, _, _, _, e, _⟩ := x; exact ⟨o, e⟩
    | ins C dx fs => obtain ⟨_, _, _, e, _⟩ := x; exact ⟨_, e⟩
    | ext φ => obtain ⟨_, ⟨_, e⟩, _⟩ := x; exact ⟨_, e⟩
    | _ => exact False.elim mu
  obtain ⟨od, e⟩ := ex
  have new : ObjOk X.prog X.w (upd H d (.frz od u)) s.heap d (.frz od u) := by
    refine ⟨e, x.stay (fun b v _ q => q) (fun b q => ?_) fun b xs q => ?_⟩
    · rw [upd_ne (fun z => by rw [z, h] at q; cases q; exact mu)]; exact q
    · rw [upd_ne (fun z => by rw [z, h] at q; cases q; exact mu)]; exact q
  exact ⟨od, I.write (x := d) (e := d) (t' := s.toks) (h' := s.heap) (by rw [h]; exact mu) (.inl rfl) (fun b v _ q => q) ⟨od, e⟩ new⟩
theorem Inv.nofrz {d : Addr} {u : HO} (I : Inv X pins σ H s) (h : H d = some u) (mu : Mut (some u)) : ∀ o' u', X.H_0 d ≠ some (.frz o' u') := fun o' u' e => by
  have q := I.base.frzs d o' u' e
  rw [h] at q
  cases q
  exact mu
theorem Inv.unlock {d : Addr} {od : Obj} {u : HO} (I : Inv X pins σ H s) (h : H d = some (.frz od u)) (hn : ∀ o' u', X.H_0 d ≠ some (.frz o' u')) : Inv X pins σ (upd H d u) s := by
  have neH : ∀ b o, H b = some o → (∀ o' u', o ≠ .frz o' u') → b ≠ d := fun b o e hne z => by
    rw [z, h] at e
    cases e
    exact hne _ _ rfl
  have neN : ∀ b, H b = none → b ≠ d := fun b e z => by rw [z, h] at e; cases e
  refine ⟨I.ok, I.os, I.bare, ⟨I.base.keep, I.base.slot, fun b o e n hx => ?_, I.base.there, fun b xs e => ?_, fun b o x e => ?_, fun b ps e => ?_⟩, I.loc, I.cell, ?_, fun x c e => ?_, fun p hp => ?_, fun b o e => ?_, I.len⟩
  · rw [upd_ne (neN b (I.base.free b o e n hx))]; exact I.base.free b o e n hx
  · have q := I.base.tups b xs e
    rw [upd_ne (neH b _ q (fun _ _ z => nomatch z))]; exact q
  · have q := I.base.frzs b o x e
    rw [upd_ne (fun z => by rw [z] at e; exact hn _ _ e)]; exact q
  · obtain ⟨m, q⟩ := I.base.tbls b ps e
    exact ⟨m, by rw [upd_ne (neH b _ q (fun _ _ z => nomatch z))]; exact q⟩
  · rw [upd_ne (neN _ I.free)]; exact I.free
  · rw [upd_ne (neN c (I.freeC x c e))]; exact I.freeC x c e
  · obtain ⟨e, n, r⟩ := I.pin p hp
    exact ⟨e, by rw [upd_ne (neN _ n)]; exact n, r⟩
  · by_cases hb : b = d
    · rw [hb, upd_same] at e
      cases e
      rw [hb]
      obtain ⟨_, x⟩ := I.hok d _ h
      exact x.stay (fun c v _ q => q) (fun c q => by rw [upd_ne (neH c _ q (fun _ _ z => nomatch z))]; exact q) fun c xs q => by rw [upd_ne (neH c _ q (fun _ _ z => nomatch z))]; exact q
    · rw [upd_ne hb] at e
      exact (I.hok b o e).stay (fun c v _ q => q) (fun c q => by rw [upd_ne (neH c _ q (fun _ _ z => nomatch z))]; exact q) fun c xs q => by rw [upd_ne (neH c _ q (fun _ _ z => nomatch z))]; exact q
end
/-- the statement runs while the thing at d is locked (read, not written); d and what stands there are the reading's choice -/
def tLock (t : TS) : TS := fun D σ H => ∃ d u, H d = some u ∧ Mut (some u) ∧ ∀ od, t ⟨fun σ' H' => H' d = some (.frz od u) ∧ D.nx σ' (upd H' d u), fun v H' => H' d = some (.frz od u) ∧ D.rt v (upd H' d u), fun σ' H' => H' d = some (.frz od u) ∧ D.bk σ' (upd H' d u), fun σ' H' => H' d = some (.frz od u) ∧ D.ct σ' (upd H' d u)⟩ σ (upd H d (.frz od u))
def tLockE (t : TE) : TE := fun σ H Q => ∃ d u, H d = some u ∧ Mut (some u) ∧ ∀ od, t σ (upd H d (.frz od u)) fun v H' => H' d = some (.frz od u) ∧ Q v (upd H' d u)
section
variable {X : Cx}
theorem ps_lock {st : Stmt} {t : TS} (h : PS X st t) : PS X st (tLock t) := by
  intro pins s σ H D I hw
  obtain ⟨d, u, hd, mu, hw⟩ := hw
  obtain ⟨od, I1⟩ := I.lock hd mu
  refine thn (h pins s σ _ _ I1 (hw od)) fun f s1 q => ?_
  cases f with
  | next => obtain ⟨σ', H', I2, e, q⟩ := q; exact ⟨σ', _, I2.unlock e (I.nofrz hd mu), q⟩
  | brk => obtain ⟨σ', H', I2, e, q⟩ := q; exact ⟨σ', _, I2.unlock e (I.nofrz hd mu), q⟩
  | cont => obtain ⟨σ', H', I2, e, q⟩ := q; exact ⟨σ', _, I2.unlock e (I.nofrz hd mu), q⟩
  | ret v => obtain ⟨x, σ', H', I2, r, e, q⟩ := q; exact ⟨x, σ', _, I2.unlock e (I.nofrz hd mu), r, q⟩
theorem pe_lock {e : Expr} {t : TE} (h : PE X e t) : PE X e (tLockE t) := by
  intro pins s σ H Q I hw
  obtain ⟨d, u, hd, mu, hw⟩ := hw
  obtain ⟨od, I1⟩ := I.lock hd mu
  refine thn (h pins s σ _ _ I1 (hw od)) fun v s1 ⟨x, H1, I2, r, e2, q⟩ => ?_
  exact ⟨x, _, I2.unlock e2 (I.nofrz hd mu), r, q⟩

/-! ### one iterator just laid -/
theorem pi_one {tg : Expr} {pins : List (Addr × Obj)} {σ : St} {H : Hp} {s : Shared} {R : It → Hp → Prop} {J : It} {tn : Nat → Heap → Prop} {tk : Nat} (I : Inv X pins σ H s) (o : Obj)
    (T : Turn X.prog X.w X.K tg J [s.heap.objs.size] s.heap.objs.size tn) (st : tn 0 (s.heap.push o)) (q : R J H) : PIE X pins σ tg R (.ref s.heap.objs.size) { s with heap := s.heap.push o, toks := tk } := by
  refine ⟨s.heap.objs.size, [s.heap.objs.size], tn, J, H, rfl, I.kept fun b ob e => Heap.get?_push_of_some _ e, T, st, fun b hb => ?_, q⟩
  have e : b = s.heap.objs.size := by simpa using hb
  subst e
  exact I.fpOk (Nat.le_refl _) (I.hok.fresh (Nat.le_refl _))
end

/-! ### range with a step -/
section
variable {X : Cx} {tg : Expr}
end
/-! ### reversed(list) -/
section
variable {X : Cx} {tg : Expr}
end

/-! ### a str -/
def Its (x : Str) : It := ⟨fun i _ => i < x.cps.size, fun i H v H' => H' = H ∧ ∃ c, x.cps[i]? = some c ∧ v = .str ⟨#[c]⟩, fun i _ => x.cps.size ≤ i⟩
theorem turn_str {P : Program} {w : World} {K : PySem.W.Frag} {tg : Expr} (it : Addr) (x : Str) (t : Tok) (ty : String) (hty : ty = "str_ascii_iterator" ∨ ty = "str_iterator") :
    Turn P w K tg (Its x) [it] it (fun i h => h.IsStrIter it ty x t i) where
  mem := by simp
  obj := fun i h st b hb => by
    have e : b = it := by simpa using hb
    subst e
    obtain ⟨o, e, c, d⟩ := st
    exact ⟨o, e, fun v z => by rw [d] at z; cases z⟩
  keep := fun i h h' st k => let ⟨o, ho, r⟩ := st; ⟨o, k it (by simp) o ho, r⟩
  item := by
    intro X hP hw hK hc i pins s σ H E I hf st hg
    subst hP hw hK
    obtain ⟨f0, f1, f2, f3, f4, f5⟩ := hf it (by simp)
    have W : Walks X.prog X.w X.A it [it] [it] x.cps.size (SignAt x) (fun i h => h.IsStrIter it ty x t i) := by
      rcases hty with e | e
      · rw [e]; exact Walks.strAscii (I.ok.hd hc) it x t
      · rw [e]; exact Walks.strWide (I.ok.hd hc) it x t
    have hno : ["enumerate", "zip", "dict_itemiterator", "dict_reverseitemiterator", "odict_iterator", "itertools.zip_longest", "itertools.pairwise"].contains ty = false := by
      rcases hty with e | e
      · rw [e]; decide
      · rw [e]; decide
    refine W.item i s _ _ hg st fun v h' tk hv st' kk => ?_
    obtain ⟨c, u, hcx, rfl⟩ := hv
    have I1 : Inv X pins σ H { s with heap := h', toks := tk } := I.turned (fun b o hb e => kk b o (by simpa using hb) e) f0 f1 f3 f4 f5
    obtain ⟨oi, e, cc, dd⟩ := id st'
    exact ⟨_, rfl, go_of (s := { s with heap := h', toks := tk }) e cc dd hno ⟨.str ⟨#[c]⟩, H, I1, ⟨u, rfl⟩, ⟨rfl, c, hcx, rfl⟩, st', fun b hb => (hf b hb).1⟩⟩
  done := by
    intro X hP hw hK hc i pins s σ H E I hf st hg
    subst hP hw hK
    obtain ⟨f0, f1, f2, f3, f4, f5⟩ := hf it (by simp)
    have hx : x.cps[i]? = none := Array.getElem?_eq_none hg
    rcases hty with e | e
    · rw [e] at st
      exact wpAny_pyNext_ascii_end (I.ok.hd hc) st hx fun h' eb => ⟨rfl, I.turned (t' := s.toks) (fun b o hb e => eb b o hb e) f0 f1 f3 f4 f5⟩
    · rw [e] at st
      exact wpAny_pyNext_wide_end (I.ok.hd hc) st hx fun h' eb => ⟨rfl, I.turned (t' := s.toks) (fun b o hb e => eb b o hb e) f0 f1 f3 f4 f5⟩
  self := fun A i s Q E st h => by
    rcases hty with e | e
    · rw [e] at st; exact wpAny_pyIter_striter_ascii st h
    · rw [e] at st; exact wpAny_pyIter_striter_wide st h
def iStr (te : TE) : TI := fun σ H R => te σ H fun v H1 => ∃ x, v = .str x ∧ R (Its x) H1
theorem pi_str {X : Cx} {tg e : Expr} {te : TE} (he : PE X e te) : PI X tg e (iStr te) := by
  intro pins s σ H R I h
  refine thn (he pins s σ H _ I h) fun v s1 ⟨y, H1, I1, r1, x, ex, q⟩ => ?_
  subst ex
  obtain ⟨t, rfl⟩ := r1
  cases ha : x.cps.all (· < 128)
  · exact wpAny_pyIter_wide ha (pi_one (tk := s1.toks) I1 _ (turn_str _ x t "str_iterator" (.inr rfl)) ⟨_, Heap.get?_push_size _ rfl, rfl, rfl⟩ q)
  · exact wpAny_pyIter_ascii ha (pi_one (tk := s1.toks) I1 _ (turn_str _ x t "str_ascii_iterator" (.inl rfl)) ⟨_, Heap.get?_push_size _ rfl, rfl, rfl⟩ q)

/-! ### a dict's keys: any dict's entries -/
section
variable {prog : Program} {w : World} {A : Around} {E : Value → Shared → Prop} {s : Shared}
end

/-! ### a locked dict -/
theorem paired_get {α β : Type} {G : α → β → Prop} {l₁ : List α} {l₂ : List β} (h : Paired G l₁ l₂) : ∀ {i : Nat} {a : α}, l₁[i]? = some a → ∃ b, l₂[i]? = some b ∧ G a b := by
  induction h with
  | nil => intro i a e; simp at e
  | @cons a b l₁ l₂ r t ih =>
    intro i a' e
    cases i with
    | zero =>
      simp only [List.getElem?_cons_zero, Option.some.injEq] at e
      subst e
      exact ⟨b, rfl, r⟩
    | succ j =>
      simp only [List.getElem?_cons_succ] at e ⊢
      exact ih e
section
variable {X : Cx} {pins : List (Addr × Obj)} {σ : St} {H : Hp} {s : Shared} {d : Addr} {o : Obj}
end

theorem dict_ep {o : Obj} {es es' : Array DictEntry} {ep ep' : Nat} (h : o.data = .dict es ep) (h' : o.data = .dict es' ep') : es' = es ∧ ep' = ep := by
  rw [h] at h'
  cases h'
  exact ⟨rfl, rfl⟩
section
variable {P : Program} {w : World} {K : PySem.W.Frag} {tg : Expr} {d : Addr} {o : Obj} {es : Array DictEntry} {ep : Nat}
end

/-! ### for k in d, d.keys(), d.values(), d.items() -/
section
variable {X : Cx} {tg e : Expr} {td : TE} {apos cpos : Pos}
end

/-! ### enumerate(list) -/
/-! ### zip(list, list) -/
end L2

section 
namespace Bits
open PySem PyProof.Rows

end Bits
end 

section 
namespace TL
open PySem PySem.Builtin PySem.Builtin.Str PySem.StrLaws

/-! ### the list functions -/
/-! ### the model's split and partition are these -/
/-! ### computing spl and par -/
/-! ### digits -/
/-! ### words: x.split() -/
end TL
end 

namespace L2
open PySem PySem.Spec PyProof.Rows

section
variable {X : Cx} {pins : List (Addr × Obj)} {σ : St} {H : Hp} {s : Shared} {Q : VK}
end

section
variable {X : Cx}

/-! ### of a text alone -/
/-! ### of a text and a text -/
end

section
variable {X : Cx} {o e : Expr} {to te : TE}
end
end L2

namespace L2
open PySem PySem.Spec PyProof.Rows

section
variable {X : Cx}
end

/-! ### slices of a text -/
end L2

namespace Att
open PySem PySem.W PySem.Calls PyProof.Rows

/-! ### the script -/
/-! ### the attachment: holds_open's last premise (the goal 'hc' behind k_head) from a wpAny of the law's body -/
/-! ### rules over ANY heap (no ledger) from facts about the written part K: the library's own take a ledger (News) for what they write -/
section
variable {prog : Program} {w : World} {A : Around} {E : Value → Shared → Prop} {s : Shared} {K : Frag}

/-! the whole heap as the ledger: makes every rule that writes through a ledger a rule over any heap -/
end
end Att

namespace L2
open PySem PySem.Spec PyProof.Rows

end L2

namespace L2
open PySem PySem.Spec PyProof.Rows

end L2

/- THE LAST THEOREM (shape; LID, My.* are yours):
   My.Adr: a structure of the addresses that your layer names (classes, functions); My.Txt K t: a structure (Prop) of the equations over K;
   My.txt_mk : {K} {implicit addresses ..} (e1 : nsIn K mainGlobals "law" = some (some (.ref f))) (e2 : K.lookup f = some ⟨oc, od, .func (fnOf "law" "law" params body scope dV kV doc pm an cdv ct), sl⟩) (e3 : codeIn K cdv "law" = true) .. : ∃ t, My.Txt K t

set_option maxRecDepth 100000 in
set_option maxHeartbeats 0 in
theorem PySem.Challenge.cw_LID_holds : PySem.Challenge.rw_LID.Holds := by
  w_on; o_law; k_head; (case hw => w_witness2)
  k_fill
  refine L2.walk_of (l := PySem.Challenge.rw_LID) (n := 63) (k := 40) (x := "script") (CX := fun w => ..) (sp := fun _ => My.sp_law) rfl (by decide) rfl ⟨rfl, by decide, by decide⟩ (fun w h Y => PySem.W.kIn_of Y) ?F ?S ?C
  case F =>
    intro w mg fa h KX G hmg
    have T : ∃ t, My.Txt (L2.KOf KX) t := by
      dsimp only [L2.KOf]                          -- K must stand as «<heap const> w.params» for k_is
      refine' My.txt_mk ?e1 ?e2 ?e3 ..
      (case e1 => PySem.W.k_is)                    -- in the order: a name -> its address -> its object -> its parts
      (case e2 => PySem.W.k_is)
      ..
    obtain ⟨t, T⟩ := T
    have e0 := hmg.symm.trans (PySem.W.mg_of KX G T.law)
    cases e0                                       -- fa is the law's own address
    exact ⟨_, fun s u => .of_eq rfl, fun base kb nb => My.law_fn T kb nb⟩     -- if «.of_eq rfl» comes too early: refine' ⟨_, ?b, fun base kb nb => My.law_fn T kb nb⟩; exact fun s u => .of_eq rfl
  case S => exact fun w H a ns hl hO hS => ..
  case C => exact ..
(the tactic k_is has no namespace: write k_is) -/

/-! SHORT WORDS over the layer: a def of the text, its body, what a loop and a test want. -/
namespace L2
open PySem PySem.Spec PyProof.Rows

/-! ### the text by places -/
/-- the j-th statement of a class's body -/
def inClass (s : Stmt) (j : Nat) : Stmt := match s with
  | .ClassDef _ _ _ body _ _ _ _ _ _ _ => body.getD j (.Pass ⟨0, 0, 0, 0⟩)
  | _ => .Pass ⟨0, 0, 0, 0⟩
def defArgs (s : Stmt) : Arguments := match s with
  | .FunctionDef _ a _ _ _ _ _ _ _ _ => a
  | _ => { posonlyargs := [], args := [], vararg := none, kwonlyargs := [], kw_defaults := [], kwarg := none, defaults := [] }
def defBody (s : Stmt) : List Stmt := match s with
  | .FunctionDef _ _ b _ _ _ _ _ _ _ => b
  | _ => []
def defScope (s : Stmt) : Scope := match s with
  | .FunctionDef _ _ _ _ _ _ sc _ _ _ => sc
  | _ => { kind := .function, names := [], isGenerator := false, isCoroutine := false }

/-! ### no exception leaves a def -/
abbrev CX0 : CXT := fun _ _ _ _ _ _ => False
abbrev E0 : XK := fun _ _ _ => False
theorem pass0 {X : Cx} : Passes CX0 X E0 := fun _ _ _ _ _ _ _ h => h.elim

/-! ### a def (or method) of the text as it stands behind the top -/
structure Fun (K : PySem.W.Frag) (x qual : Str) (st : Stmt) (f : Addr) (fd : FuncData) : Prop where
  ex : ∃ (oc : Value) (od : Option Addr) (kV doc pm : Value) (an : Option Addr) (cdv ct : Value) (osl : Array (Option Value)),
    fd = PySem.W.fnOf x qual (defArgs st) (defBody st) (defScope st) .none kV doc pm an cdv ct ∧ K.lookup f = some ⟨oc, od, .func fd, osl⟩ ∧ PySem.W.codeIn K cdv qual = true
  kp : PySem.W.keepIn K (.ref f) = true
section
variable {P : Program} {w : World} {K : PySem.W.Frag} {mg : Str → Option Value} {base : Heap}
/-- THE RULE for a def: its body as a term of rules, and the reading of that term -/
theorem Fun.ok {x qual : Str} {st : Stmt} {f : Addr} {fd : FuncData} {N ps : List Str} {k : Nat} {sp : Sp} (F : Fun K x qual st f fd) (S : FnScope N ps (defScope st)) (len : ∀ vs H Q E, sp vs H Q E → vs.length = ps.length)
    (hbody : ∀ (cdv : Value) (A : Around) (outer : List Env) (s : Shared) (H : Hp) (vs : List V) (Q : VK) (E : XK), Room k (A.deeper (envOfC qual (defScope st) s.heap.objs.size f cdv)) → sp vs H Q E →
      ∃ t, PSs (cxOf CX0 P w K mg base N qual (defScope st) f cdv A outer s H E).nox (defBody st) t ∧ t { nx := fun _ H' => Q .non H', rt := Q } (start N vs) H) : FnOk P w K mg base CX0 (k + 1) f fd ps sp := by
  obtain ⟨oc, od, kV, doc, pm, an, cdv, ct, osl, rfl, lk, hcd⟩ := F.ex
  refine fn_of lk hcd S len fun A outer s H vs Q E hr hsp => ?_
  obtain ⟨t, h, q⟩ := hbody cdv A outer s H vs Q E hr hsp
  exact ⟨t, h.nox, q⟩
/-- how its arguments bind (no defaults): h is «fun _ _ _ _ _ _ us hl => match us, hl with | [_, _], _ => rfl», one _ a parameter -/
theorem Fun.binds {x qual : Str} {st : Stmt} {f : Addr} {fd : FuncData} {ps : List Str} (F : Fun K x qual st f fd)
    (h : ∀ (kV doc pm : Value) (an : Option Addr) (cdv ct : Value) (us : List Value), us.length = ps.length → bindArgs (PySem.W.fnOf x qual (defArgs st) (defBody st) (defScope st) .none kV doc pm an cdv ct) ⟨us, []⟩ = pure (ps.zip us)) : Binds K fd ps [] := by
  obtain ⟨oc, od, kV, doc, pm, an, cdv, ct, osl, rfl, lk, hcd⟩ := F.ex
  exact .all (h kV doc pm an cdv ct)
theorem fun_mk {x qual : Str} {st : Stmt} {f : Addr} {oc : Value} {od an : Option Addr} {osl : Array (Option Value)} {kV doc pm cdv ct : Value} (l : K.lookup f = some ⟨oc, od, .func (PySem.W.fnOf x qual (defArgs st) (defBody st) (defScope st) .none kV doc pm an cdv ct), osl⟩)
    (c : PySem.W.codeIn K cdv qual = true) (k : PySem.W.keepIn K (.ref f) = true) : Fun K x qual st f (PySem.W.fnOf x qual (defArgs st) (defBody st) (defScope st) .none kV doc pm an cdv ct) := ⟨⟨oc, od, kV, doc, pm, an, cdv, ct, osl, rfl, l, c⟩, k⟩
end
theorem hu_of {A : Around} {k : Nat} (hr : Room k A) : A.units + 1 < cLine := Nat.lt_of_le_of_lt (Nat.add_le_add_left (by decide : 1 ≤ 64) _) hr.units
/-! ### expressions in short: the name that stands in the i-th slot -/
section
variable {X : Cx}
theorem pv (i : Nat) {x : Str} {pos : Pos} (hN : X.N[i]? = some x := by rfl) (hv : Vis X.env.scope x := by first | exact Or.inl rfl | exact Or.inr (Or.inl rfl) | exact Or.inr (Or.inr rfl)) (hd : (x == ("__debug__" : Str)) = false := by decide)
    (hcd : (x == ("__classdict__" : Str)) = false := by decide) : PE X (.Name x pos) (tVar i) := pe_var hN hv hd hcd
end

/-! ### tests -/
theorem iteF {A B : Prop} (h : B) : if false = true then A else B := by
  rw [if_neg Bool.false_ne_true]
  exact h
theorem iteT {A B : Prop} (h : A) : if true = true then A else B := by
  rw [if_pos rfl]
  exact h
theorem ite2 {c A B : Prop} [Decidable c] (h1 : c → A) (h2 : ¬ c → B) : if c then A else B := by
  by_cases h : c
  · rw [if_pos h]
    exact h1 h
  · rw [if_neg h]
    exact h2 h
/-! ### heaps -/
/-- all that was tracked is as it was -/
def Same (H H' : Hp) : Prop := ∀ b o, H b = some o → H' b = some o
theorem Same.refl (H : Hp) : Same H H := fun _ _ h => h
theorem Same.trans {H H1 H2 : Hp} (a : Same H H1) (b : Same H1 H2) : Same H H2 := fun c o h => b c o (a c o h)
theorem Same.free {H H' : Hp} (e : Same H H') {l : Addr} (h : H' l = Option.none) : H l = Option.none := by
  cases q : H l with
  | none => rfl
  | some o =>
    rw [e l o q] at h
    cases h
/-! ### a dict's pairs: keys that differ -/
section
variable {κ : Type} [DecidableEq κ]
end
/-! ### lists -/
theorem at_of {xs : List V} {z : Int} {j : Nat} {v : V} (e : z = (j : Int)) (h : xs[j]? = some v) : atI xs z = some v := by
  rw [e]
  exact atI_nat h
/-- a new instance and its __init__ leave all that was tracked as it was -/
theorem Same.made {H H1 : Hp} {x dx C : Addr} (nx : H x = Option.none) (nd : H dx = Option.none) (k : ∀ b o, (upd (upd H dx (.own x)) x (.ins C dx [])) b = some o → b ≠ x → H1 b = some o) : Same H H1 := fun b o e =>
  k b o (by rw [upd_ne (ne_of_none e nx), upd_ne (ne_of_none e nd)]; exact e) (ne_of_none e nx)
end L2
section
set_option Elab.async false
set_option linter.all false
set_option maxRecDepth 100000
set_option maxHeartbeats 2000000
namespace L2
open PySem PySem.Spec PyProof.Rows
open PySem.W (WData Codec OpenSpec Well WellAll ReadsW ReadsAllW)
/-! ### an answer as data -/
mutual
/-- x stands for the datum d, lists and tuples all the way -/
inductive Dw (K : PySem.W.Frag) (H : Hp) : V → WData → Prop
  | non : Dw K H .non .none
  | bl (b : Bool) : Dw K H (.bl b) (.bool b)
  | int (i : Int) : Dw K H (.int i) (.int i)
  | str (x : Str) : Dw K H (.str x) (.str x)
  | byt (b : Array UInt8) : Dw K H (.byt b) (.bytes b.toList)
  | lst {a : Addr} {xs : List V} {ds : List WData} : SqL K H a xs → DwAll K H xs ds → Dw K H (.ref a) (.list ds)
  | tup {a : Addr} {xs : List V} {ds : List WData} : SqT K H a xs → DwAll K H xs ds → Dw K H (.ref a) (.tuple ds)
inductive DwAll (K : PySem.W.Frag) (H : Hp) : List V → List WData → Prop
  | nil : DwAll K H [] []
  | cons {v : V} {vs : List V} {d : WData} {ds : List WData} : Dw K H v d → DwAll K H vs ds → DwAll K H (v :: vs) (d :: ds)
end
theorem dw_ints {K : PySem.W.Frag} {H : Hp} : ∀ ns : List Int, DwAll K H (ns.map V.int) (ns.map WData.int)
  | [] => .nil
  | n :: r => .cons (.int n) (dw_ints r)
theorem ints_dw {K : PySem.W.Frag} {H : Hp} : ∀ (ns : List Int) (xs : List V), DwAll K H xs (ns.map WData.int) → xs = ns.map V.int
  | [], xs, h => by
    cases h
    rfl
  | n :: r, xs, h => by
    cases h with
    | cons h1 h2 =>
      cases h1
      rw [ints_dw r _ h2] <;> rfl
section
variable {P : Program} {w : World} {K : PySem.W.Frag} {H : Hp} {h : Heap} {R : PySem.W.WRecords} {cl : Str → Option Addr}
theorem sqL_at {a : Addr} {xs : List V} (hok : HOk P w H h) (KX : K.In h) (q : SqL K H a xs) : ∃ (its : List Value) (o : Obj) (n : Nat), Vals xs its ∧ h.get? a = some o ∧ o.cls = .type "list" ∧ o.data = .seq its.toArray n := by
  rcases q with q | ⟨o, its, n, e, hc, _, hd, _, hv⟩
  · obtain ⟨_, its, n, hv, e⟩ := (show ObjOk P w H h a (.lst xs) from q.ok hok)
    exact ⟨its, _, n, hv, e, rfl, rfl⟩
  · exact ⟨its.toList, o, n, hv, KX _ _ e, hc, by simp [hd]⟩
theorem sqT_at {a : Addr} {xs : List V} (hok : HOk P w H h) (KX : K.In h) (q : SqT K H a xs) : ∃ (its : List Value) (o : Obj) (n : Nat), Vals xs its ∧ h.get? a = some o ∧ o.cls = .type "tuple" ∧ o.data = .seq its.toArray n := by
  rcases q with q | ⟨o, its, n, e, hc, hd, _, hv⟩
  · obtain ⟨_, its, hv, o, e, hc, n, hd⟩ := (show ObjOk P w H h a (.tup xs) from q.ok hok)
    exact ⟨its, o, n, hv, e, hc, hd⟩
  · exact ⟨its.toList, o, n, hv, KX _ _ e, hc, by simp [hd]⟩
mutual
theorem Dw.reads (hok : HOk P w H h) (KX : K.In h) : ∀ (d : WData) (v : V) (u : Value), Dw K H v d → RelV v u → ∃ as, ReadsW R cl h u d as
  | .none, _, _, x, r => by
    cases x
    cases r
    exact ⟨_, ReadsW.none⟩
  | .bool b, _, _, x, r => by
    cases x
    cases r
    exact ⟨_, ReadsW.bool b⟩
  | .int i, _, _, x, r => by
    cases x
    obtain ⟨t, rfl⟩ := r
    exact ⟨_, ReadsW.int i t⟩
  | .str s, _, _, x, r => by
    cases x
    obtain ⟨t, rfl⟩ := r
    exact ⟨_, ReadsW.str s t⟩
  | .bytes b, _, _, x, r => by
    cases x
    obtain ⟨t, rfl⟩ := r
    exact ⟨_, ReadsW.bytes _ t⟩
  | .list ds, _, _, x, r => by
    cases x with
    | lst hs ha =>
      cases r
      obtain ⟨its, o, n, rv, ho, hc, hd⟩ := sqL_at hok KX hs
      obtain ⟨as, hr⟩ := Dw.readsAll hok KX ds _ its ha rv
      exact ⟨_, ReadsW.list ho hc hd hr⟩
  | .tuple ds, _, _, x, r => by
    cases x with
    | tup hs ha =>
      cases r
      obtain ⟨its, o, n, rv, ho, hc, hd⟩ := sqT_at hok KX hs
      obtain ⟨as, hr⟩ := Dw.readsAll hok KX ds _ its ha rv
      exact ⟨_, ReadsW.tuple ho hc hd hr⟩
  | .float _, _, _, x, _ => by cases x
  | .dict _, _, _, x, _ => by cases x
  | .bytearray _, _, _, x, _ => by cases x
  | .set _, _, _, x, _ => by cases x
  | .frozenset _, _, _, x, _ => by cases x
  | .obj _ _, _, _, x, _ => by cases x
theorem Dw.readsAll (hok : HOk P w H h) (KX : K.In h) : ∀ (ds : List WData) (vs : List V) (us : List Value), DwAll K H vs ds → Vals vs us → ∃ as, ReadsAllW R cl h us ds as
  | [], _, _, x, r => by
    cases x
    cases r
    exact ⟨_, ReadsAllW.nil⟩
  | d :: ds, _, _, x, r => by
    cases x with
    | cons h1 h2 =>
      cases r with
      | cons r1 r2 =>
        obtain ⟨as, q1⟩ := Dw.reads hok KX d _ _ h1 r1
        obtain ⟨bs, q2⟩ := Dw.readsAll hok KX ds _ _ h2 r2
        exact ⟨_, ReadsAllW.cons q1 q2⟩
end
end
/-! ### the arguments -/
mutual
/-- data that a codec tells -/
def plW : WData → Bool
  | .none => true
  | .bool _ => true
  | .int _ => true
  | .str _ => true
  | .bytes _ => true
  | .list xs => plWs xs
  | .tuple xs => plWs xs
  | _ => false
def plWs : List WData → Bool
  | [] => true
  | x :: r => plW x && plWs r
end
theorem plWs_map {α : Type} {f : α → WData} (h : ∀ a, plW (f a) = true) : ∀ l : List α, plWs (l.map f) = true
  | [] => rfl
  | x :: r => by
    show (plW (f x) && plWs (r.map f)) = true
    rw [h x, plWs_map h r] <;> rfl
theorem pl_enc : ∀ (c : Codec) (a : c.denote), plW (c.enc a) = true
  | .unit, _ => rfl
  | .bool, _ => rfl
  | .int _ _, _ => rfl
  | .nat _ _, _ => rfl
  | .u8, _ => rfl
  | .bytes _ _, _ => rfl
  | .text _ _ _ _, _ => rfl
  | .list _ _ c, a => plWs_map (fun x => pl_enc c x) a
  | .pair c d, a => by
    show (plW (c.enc a.1) && (plW (d.enc a.2) && true)) = true
    rw [pl_enc c a.1, pl_enc d a.2] <;> rfl
  | .triple c d e, a => by
    show (plW (c.enc a.1) && (plW (d.enc a.2.1) && (plW (e.enc a.2.2) && true))) = true
    rw [pl_enc c a.1, pl_enc d a.2.1, pl_enc e a.2.2] <;> rfl
  | .option c, none => rfl
  | .option c, some x => pl_enc c x
theorem pl_encAll : ∀ (cs : List Codec) (a : Codec.denoteAll cs), plWs (Codec.encAll cs a) = true
  | [], _ => rfl
  | c :: cs, a => by
    show (plW (c.enc a.1) && plWs (Codec.encAll cs a.2)) = true
    rw [pl_enc c a.1, pl_encAll cs a.2] <;> rfl
theorem weight_mem : ∀ {xs : List WData} {d : WData}, d ∈ xs → d.weight ≤ WData.weightAll xs
  | [], d, h => absurd h (by simp)
  | x :: r, d, h => by
    show d.weight ≤ x.weight + 1 + WData.weightAll r
    rcases List.mem_cons.mp h with e | m
    · rw [e]
      omega
    · have z := weight_mem m
      omega
def toV : Value → V
  | .none => .non
  | .bool b => .bl b
  | .int i _ => .int i
  | .str x _ => .str x
  | .bytes b _ => .byt b
  | .ref a => .ref a
  | _ => .non
/-- a value of the arguments, its objects among A -/
def OkU (A : List Addr) : Value → Prop
  | .none => True
  | .bool _ => True
  | .int _ _ => True
  | .str _ _ => True
  | .bytes _ _ => True
  | .ref a => a ∈ A
  | _ => False
theorem OkU.mono {A B : List Addr} (h : ∀ a ∈ A, a ∈ B) : ∀ {u : Value}, OkU A u → OkU B u := fun {u} x => by
  cases u with
  | ref a => exact h a x
  | none => trivial
  | bool b => trivial
  | int i t => trivial
  | str s t => trivial
  | bytes b t => trivial
  | _ => exact False.elim x
theorem relV_toV {A : List Addr} {u : Value} (x : OkU A u) : RelV (toV u) u := by
  cases u with
  | ref a => rfl
  | none => rfl
  | bool b => rfl
  | int i t => exact ⟨t, rfl⟩
  | str s t => exact ⟨t, rfl⟩
  | bytes b t => exact ⟨t, rfl⟩
  | _ => exact False.elim x
theorem vals_toV {A : List Addr} : ∀ {vs : List Value}, (∀ u ∈ vs, OkU A u) → Vals (vs.map toV) vs
  | [], _ => .nil
  | u :: r, h => .cons (relV_toV (h u (List.mem_cons_self ..))) (vals_toV fun x hx => h x (List.mem_cons_of_mem _ hx))
/-- an object of the arguments -/
def ArgOb (h : Heap) (A : List Addr) (a : Addr) : Prop := ∃ vs : List Value, vs.length ≤ sizeLine ∧ (∀ u ∈ vs, OkU A u) ∧
  (h.get? a = some { cls := .type "list", data := .seq vs.toArray } ∨ h.get? a = some { cls := .type "tuple", data := .seq vs.toArray })
theorem ArgOb.mono {h : Heap} {A B : List Addr} {a : Addr} (k : ∀ a ∈ A, a ∈ B) (x : ArgOb h A a) : ArgOb h B a := by
  obtain ⟨vs, h1, h2, h3⟩ := x
  exact ⟨vs, h1, fun u hu => (h2 u hu).mono k, h3⟩
theorem wellAll_len {P : Params} {h : Heap} : ∀ {vs : List Value} {ds : List WData}, WellAll P h vs ds → vs.length = ds.length
  | _, _, .nil => rfl
  | _, _, .cons _ b => by
    show _ + 1 = _ + 1
    rw [wellAll_len b]
theorem well_list {P : Params} {h : Heap} {v : Value} {ds : List WData} (x : Well P h v (.list ds)) : ∃ (a : Addr) (vs : List Value), v = .ref a ∧ h.get? a = some { cls := .type "list", data := .seq vs.toArray } ∧ WellAll P h vs ds := by
  cases x with
  | list ho hall => exact ⟨_, _, rfl, ho, hall⟩
theorem well_tuple {P : Params} {h : Heap} {v : Value} {ds : List WData} (x : Well P h v (.tuple ds)) : ∃ (a : Addr) (vs : List Value), v = .ref a ∧ h.get? a = some { cls := .type "tuple", data := .seq vs.toArray } ∧ WellAll P h vs ds := by
  cases x with
  | tuple ho hall => exact ⟨_, _, rfl, ho, hall⟩
theorem well_cons {P : Params} {h : Heap} {us : List Value} {d : WData} {ds : List WData} (x : WellAll P h us (d :: ds)) : ∃ (v : Value) (vs : List Value), us = v :: vs ∧ Well P h v d ∧ WellAll P h vs ds := by
  cases x with
  | cons a b => exact ⟨_, _, rfl, a, b⟩
theorem line_of {n : Nat} (h : n ≤ 1048576) : n ≤ sizeLine := Nat.le_trans h (by decide)
section
variable {P : Params} {h : Heap}
mutual
theorem area_one : ∀ (d : WData) (v : Value), Well P h v d → plW d = true → d.weight ≤ 1048576 → ∃ A : List Addr, OkU A v ∧ ∀ a ∈ A, ArgOb h A a
  | .none, _, x, _, _ => by
    cases x
    exact ⟨[], trivial, fun a m => absurd m (by simp)⟩
  | .bool b, _, x, _, _ => by
    cases x
    exact ⟨[], trivial, fun a m => absurd m (by simp)⟩
  | .int i, _, x, _, _ => by
    cases x
    exact ⟨[], trivial, fun a m => absurd m (by simp)⟩
  | .str s, _, x, _, _ => by
    cases x
    exact ⟨[], trivial, fun a m => absurd m (by simp)⟩
  | .bytes b, _, x, _, _ => by
    cases x
    exact ⟨[], trivial, fun a m => absurd m (by simp)⟩
  | .list ds, _, x, p, z => by
    obtain ⟨a, vs, rfl, ho, hall⟩ := well_list x
    have z2 : WData.weightAll ds ≤ 1048576 := z
    obtain ⟨A, h1, h2⟩ := area_all ds _ hall p fun d hd => Nat.le_trans (weight_mem hd) z2
    have k : ∀ b ∈ A, b ∈ a :: A := fun b hb => List.mem_cons_of_mem _ hb
    refine ⟨a :: A, List.mem_cons_self .., fun b hb => ?_⟩
    rcases List.mem_cons.mp hb with e | m
    · rw [e]
      exact ⟨vs, line_of (by rw [wellAll_len hall]; exact Nat.le_trans (PySem.W.length_le_weightAllW ds) z2), fun u hu => (h1 u hu).mono k, .inl ho⟩
    · exact (h2 b m).mono k
  | .tuple ds, _, x, p, z => by
    obtain ⟨a, vs, rfl, ho, hall⟩ := well_tuple x
    have z2 : WData.weightAll ds ≤ 1048576 := z
    obtain ⟨A, h1, h2⟩ := area_all ds _ hall p fun d hd => Nat.le_trans (weight_mem hd) z2
    have k : ∀ b ∈ A, b ∈ a :: A := fun b hb => List.mem_cons_of_mem _ hb
    refine ⟨a :: A, List.mem_cons_self .., fun b hb => ?_⟩
    rcases List.mem_cons.mp hb with e | m
    · rw [e]
      exact ⟨vs, line_of (by rw [wellAll_len hall]; exact Nat.le_trans (PySem.W.length_le_weightAllW ds) z2), fun u hu => (h1 u hu).mono k, .inr ho⟩
    · exact (h2 b m).mono k
  | .float _, _, _, p, _ => Bool.noConfusion (show false = true from p)
  | .dict _, _, _, p, _ => Bool.noConfusion (show false = true from p)
  | .bytearray _, _, _, p, _ => Bool.noConfusion (show false = true from p)
  | .set _, _, _, p, _ => Bool.noConfusion (show false = true from p)
  | .frozenset _, _, _, p, _ => Bool.noConfusion (show false = true from p)
  | .obj _ _, _, _, p, _ => Bool.noConfusion (show false = true from p)
theorem area_all : ∀ (ds : List WData) (vs : List Value), WellAll P h vs ds → plWs ds = true → (∀ d ∈ ds, d.weight ≤ 1048576) → ∃ A : List Addr, (∀ u ∈ vs, OkU A u) ∧ ∀ a ∈ A, ArgOb h A a
  | [], _, x, _, _ => by
    cases x
    exact ⟨[], fun u m => absurd m (by simp), fun a m => absurd m (by simp)⟩
  | d :: ds, _, x, p, z => by
    obtain ⟨v, vs, rfl, x1, x2⟩ := well_cons x
    have q : plW d = true ∧ plWs ds = true := Bool.and_eq_true_iff.mp p
    obtain ⟨A, a1, a2⟩ := area_one d v x1 q.1 (z d (List.mem_cons_self ..))
    obtain ⟨B, b1, b2⟩ := area_all ds vs x2 q.2 fun e he => z e (List.mem_cons_of_mem _ he)
    have kA : ∀ b ∈ A, b ∈ A ++ B := fun b hb => List.mem_append.mpr (.inl hb)
    have kB : ∀ b ∈ B, b ∈ A ++ B := fun b hb => List.mem_append.mpr (.inr hb)
    refine ⟨A ++ B, fun u hu => ?_, fun b hb => ?_⟩
    · rcases List.mem_cons.mp hu with e | m
      · rw [e]
        exact a1.mono kA
      · exact (b1 u m).mono kB
    · rcases List.mem_append.mp hb with m | m
      · exact (a2 b m).mono kA
      · exact (b2 b m).mono kB
end
end
/-- what is tracked of an argument's object -/
def hoOf (o : Obj) : Option HO := match o.data with
  | .seq vs _ => if (o.cls == Value.type "list") = true then some (.frz o (.lst (vs.toList.map toV))) else some (.frz o (.tup (vs.toList.map toV)))
  | _ => none
def argH (K : PySem.W.Frag) (h : Heap) (A : List Addr) : Hp := fun b => if b ∈ A then (if (K.lookup b).isNone = true then (h.get? b).bind hoOf else none) else none
/-- nothing is tracked but what is known to the object -/
def OnlyF (H : Hp) : Prop := ∀ b, H b = none ∨ ∃ o u, H b = some (.frz o u)
theorem hoOf_lst (vs : List Value) : hoOf { cls := .type "list", data := .seq vs.toArray } = some (.frz { cls := .type "list", data := .seq vs.toArray } (.lst (vs.map toV))) := by
  show (if (Value.type "list" == Value.type "list") = true then some (HO.frz { cls := .type "list", data := .seq vs.toArray } (.lst (vs.toArray.toList.map toV))) else some (HO.frz { cls := .type "list", data := .seq vs.toArray } (.tup (vs.toArray.toList.map toV)))) = _
  rw [if_pos (beq_self_eq_true _)]
theorem hoOf_tup (vs : List Value) : hoOf { cls := .type "tuple", data := .seq vs.toArray } = some (.frz { cls := .type "tuple", data := .seq vs.toArray } (.tup (vs.map toV))) := by
  show (if (Value.type "tuple" == Value.type "list") = true then some (HO.frz { cls := .type "tuple", data := .seq vs.toArray } (.lst (vs.toArray.toList.map toV))) else some (HO.frz { cls := .type "tuple", data := .seq vs.toArray } (.tup (vs.toArray.toList.map toV)))) = _
  rw [if_neg (by decide)]
section
variable {P : Program} {w : World} {K : PySem.W.Frag} {h : Heap} {A : List Addr}
theorem argH_at {b : Addr} {o : Obj} (hb : b ∈ A) (hk : K.lookup b = none) (e : h.get? b = some o) : argH K h A b = hoOf o := by
  unfold argH
  rw [if_pos hb, hk, if_pos (show (none : Option Obj).isNone = true from rfl), e] <;> rfl
theorem of_argH {b : Addr} {u : HO} (q : argH K h A b = some u) : b ∈ A ∧ K.lookup b = none := by
  unfold argH at q
  by_cases hb : b ∈ A
  · rw [if_pos hb] at q
    cases hk : K.lookup b with
    | none => exact ⟨hb, rfl⟩
    | some o =>
      rw [hk, if_neg (by simp)] at q
      cases q
  · rw [if_neg hb] at q
    cases q
/-- what stands tracked -/
theorem argH_is (ar : ∀ a ∈ A, ArgOb h A a) {b : Addr} {u : HO} (q : argH K h A b = some u) : K.lookup b = none ∧ ∃ vs : List Value, vs.length ≤ sizeLine ∧ (∀ u ∈ vs, OkU A u) ∧
    ((h.get? b = some { cls := .type "list", data := .seq vs.toArray } ∧ u = .frz { cls := .type "list", data := .seq vs.toArray } (.lst (vs.map toV))) ∨
     (h.get? b = some { cls := .type "tuple", data := .seq vs.toArray } ∧ u = .frz { cls := .type "tuple", data := .seq vs.toArray } (.tup (vs.map toV)))) := by
  obtain ⟨hb, hk⟩ := of_argH q
  obtain ⟨vs, h1, h2, h3⟩ := ar b hb
  refine ⟨hk, vs, h1, h2, ?_⟩
  rcases h3 with e | e
  · rw [argH_at hb hk e, hoOf_lst] at q
    exact .inl ⟨e, (Option.some.inj q).symm⟩
  · rw [argH_at hb hk e, hoOf_tup] at q
    exact .inr ⟨e, (Option.some.inj q).symm⟩
theorem argH_only (ar : ∀ a ∈ A, ArgOb h A a) : OnlyF (argH K h A) := fun b => by
  cases q : argH K h A b with
  | none => exact .inl rfl
  | some u =>
    obtain ⟨_, vs, _, _, ⟨_, e⟩ | ⟨_, e⟩⟩ := argH_is ar q
    · exact .inr ⟨_, _, by rw [e]⟩
    · exact .inr ⟨_, _, by rw [e]⟩
theorem argH_ok (ar : ∀ a ∈ A, ArgOb h A a) : HOk P w (argH K h A) h := fun b u q => by
  obtain ⟨_, vs, h1, h2, ⟨e, rfl⟩ | ⟨e, rfl⟩⟩ := argH_is ar q
  · exact ⟨e, by rw [List.length_map]; exact h1, vs, _, vals_toV h2, e⟩
  · exact ⟨e, by rw [List.length_map]; exact h1, vs, vals_toV h2, _, e, rfl, _, rfl⟩
theorem seq_inj {c c' : Value} {vs us : List Value} (e : (some { cls := c, data := .seq vs.toArray } : Option Obj) = some { cls := c', data := .seq us.toArray }) : c = c' ∧ vs = us := by
  have e1 := Option.some.inj e
  have e2 : c = c' := congrArg Obj.cls e1
  have e3 : Data.seq vs.toArray = Data.seq us.toArray := congrArg Obj.data e1
  injection e3 with e4
  refine ⟨e2, ?_⟩
  have e5 := congrArg Array.toList e4
  simpa using e5
/-- a list argument -/
theorem argL (KX : K.In h) (ar : ∀ a ∈ A, ArgOb h A a) {a : Addr} {vs : List Value} (ha : a ∈ A) (e : h.get? a = some { cls := .type "list", data := .seq vs.toArray }) : (∀ u ∈ vs, OkU A u) ∧ SqL K (argH K h A) a (vs.map toV) := by
  obtain ⟨us, h1, h2, h3⟩ := ar a ha
  have hu : us = vs := by
    rcases h3 with q | q
    · rw [e] at q
      exact (seq_inj q).2.symm
    · rw [e] at q
      exact absurd (Value.type.inj (seq_inj q).1) (by decide)
  subst hu
  refine ⟨h2, ?_⟩
  cases hk : K.lookup a with
  | none => exact .inl (.inr ⟨_, by rw [argH_at ha hk e, hoOf_lst]⟩)
  | some o =>
    have e2 := KX a o hk
    rw [e] at e2
    obtain rfl := Option.some.inj e2
    exact .inr ⟨_, us.toArray, _, hk, rfl, rfl, rfl, by rw [List.size_toArray]; exact h1, by simpa using vals_toV h2⟩
theorem argT (KX : K.In h) (ar : ∀ a ∈ A, ArgOb h A a) {a : Addr} {vs : List Value} (ha : a ∈ A) (e : h.get? a = some { cls := .type "tuple", data := .seq vs.toArray }) : (∀ u ∈ vs, OkU A u) ∧ SqT K (argH K h A) a (vs.map toV) := by
  obtain ⟨us, h1, h2, h3⟩ := ar a ha
  have hu : us = vs := by
    rcases h3 with q | q
    · rw [e] at q
      exact absurd (Value.type.inj (seq_inj q).1) (by decide)
    · rw [e] at q
      exact (seq_inj q).2.symm
  subst hu
  refine ⟨h2, ?_⟩
  cases hk : K.lookup a with
  | none => exact .inl (.inr ⟨_, by rw [argH_at ha hk e, hoOf_tup]⟩)
  | some o =>
    have e2 := KX a o hk
    rw [e] at e2
    obtain rfl := Option.some.inj e2
    exact .inr ⟨_, us.toArray, _, hk, rfl, rfl, by rw [List.size_toArray]; exact h1, by simpa using vals_toV h2⟩
mutual
theorem dw_one {Pm : Params} (KX : K.In h) (ar : ∀ a ∈ A, ArgOb h A a) : ∀ (d : WData) (v : Value), Well Pm h v d → plW d = true → OkU A v → Dw K (argH K h A) (toV v) d
  | .none, _, x, _, _ => by
    cases x
    exact .non
  | .bool b, _, x, _, _ => by
    cases x
    exact .bl b
  | .int i, _, x, _, _ => by
    cases x
    exact .int i
  | .str s, _, x, _, _ => by
    cases x
    exact .str s
  | .bytes b, _, x, _, _ => by
    cases x
    have z := Dw.byt (K := K) (H := argH K h A) b.toArray
    exact z
  | .list ds, _, x, p, hu => by
    obtain ⟨a, vs, rfl, ho, hall⟩ := well_list x
    obtain ⟨h2, hs⟩ := argL KX ar hu ho
    exact .lst hs (dw_all KX ar ds _ hall p h2)
  | .tuple ds, _, x, p, hu => by
    obtain ⟨a, vs, rfl, ho, hall⟩ := well_tuple x
    obtain ⟨h2, hs⟩ := argT KX ar hu ho
    exact .tup hs (dw_all KX ar ds _ hall p h2)
  | .float _, _, _, p, _ => Bool.noConfusion (show false = true from p)
  | .dict _, _, _, p, _ => Bool.noConfusion (show false = true from p)
  | .bytearray _, _, _, p, _ => Bool.noConfusion (show false = true from p)
  | .set _, _, _, p, _ => Bool.noConfusion (show false = true from p)
  | .frozenset _, _, _, p, _ => Bool.noConfusion (show false = true from p)
  | .obj _ _, _, _, p, _ => Bool.noConfusion (show false = true from p)
theorem dw_all {Pm : Params} (KX : K.In h) (ar : ∀ a ∈ A, ArgOb h A a) : ∀ (ds : List WData) (vs : List Value), WellAll Pm h vs ds → plWs ds = true → (∀ u ∈ vs, OkU A u) → DwAll K (argH K h A) (vs.map toV) ds
  | [], _, x, _, _ => by
    cases x
    exact .nil
  | d :: ds, _, x, p, hu => by
    obtain ⟨v, vs, rfl, x1, x2⟩ := well_cons x
    have q : plW d = true ∧ plWs ds = true := Bool.and_eq_true_iff.mp p
    exact .cons (dw_one KX ar d v x1 q.1 (hu _ (List.mem_cons_self ..))) (dw_all KX ar ds vs x2 q.2 fun u m => hu u (List.mem_cons_of_mem _ m))
end
end
/-! ### the call -/
theorem spec_call {P : Program} {w : World} {K : PySem.W.Frag} {mg mb : Str → Option Value} {CX : CXT} {k : Nat} {fa : Addr} {fd : FuncData} {ps : List Str} {sp : Sp} {s₁ : Shared} {vals : List Value} {ds : List WData} {R : PySem.W.WRecords} {cl : Str → Option Addr} {d0 : WData}
    (KX : K.In s₁.heap) (hns : s₁.heap.Ns mainGlobals mg) (hb : s₁.heap.Ns builtinsNs mb) (hbb : ∀ x : Str, x ≠ "__name__" → mb x = bootBuiltins x) (hlim : s₁.heap.NoLimit) (hg : s₁.gens = #[])
    (hwl : WellAll w.params s₁.heap vals ds) (hpl : plWs ds = true) (hwt : ∀ d ∈ ds, d.weight ≤ 1048576) (hr : Room k callerA)
    (F : ∀ base : Heap, K.In base → base.Ns mainGlobals mg → FnOk P w K mg base CX k fa fd ps sp) (hbind : ∀ (s : Shared) (us : List Value), us.length = ps.length → BindsTo s fd ⟨us, []⟩ (ps.zip us)) (hlen : ds.length = ps.length)
    (hsp : ∀ (H : Hp) (xs : List V), OnlyF H → DwAll K H xs ds → sp xs H (fun v H' => Dw K H' v d0) fun _ _ _ => False)
    (hCX : ∀ H e s', CX [] H s₁ (fun _ _ _ => False) e s' → False) :
    codeAny (model P w) callerA (.call (.ref fa) ⟨vals, []⟩) (fun r s' => ∃ u as, r = .ok (.ret u) ∧ ReadsW R cl s'.heap u d0 as ∧ OldK s₁.heap s'.heap ∧ s'.os = s₁.os ∧ AllBare s'.gens) s₁ := by
  obtain ⟨A, ho, ar⟩ := area_all ds vals hwl hpl hwt
  have hO : OnlyF (argH K s₁.heap A) := argH_only ar
  have hok : HOk P w (argH K s₁.heap A) s₁.heap := argH_ok ar
  have hS := dw_all KX ar ds vals hwl hpl ho
  have hV := vals_toV ho
  have hK : ∀ b u, argH K s₁.heap A b = some u → K.lookup b = none := fun b u q => (argH_is ar q).1
  have noA : ∀ {b : Addr} {o : Obj} {es : Array DictEntry} {ep : Nat}, s₁.heap.get? b = some o → o.data = .dict es ep → argH K s₁.heap A b = none := fun {b o es ep} e d => by
    cases q : argH K s₁.heap A b with
    | none => rfl
    | some u =>
      obtain ⟨_, vs, _, _, ⟨e2, _⟩ | ⟨e2, _⟩⟩ := argH_is ar q
      · rw [e2] at e
        cases e
        have d' : Data.seq vs.toArray _ = Data.dict es ep := d
        cases d'
      · rw [e2] at e
        cases e
        have d' : Data.seq vs.toArray _ = Data.dict es ep := d
        cases d'
  generalize argH K s₁.heap A = H at hO hok hS hK noA
  have base_of : ∀ {b : Addr} {o : Obj}, s₁.heap.get? b = some o → H b = none → (hidT s₁.heap H).get? b = some o := fun e n => hidT_get e n
  have nsK : ∀ {b : Addr} {m : Str → Option Value}, s₁.heap.Ns b m → (hidT s₁.heap H).Ns b m := fun {b m} ⟨o, es, ep, e, d, r⟩ => ⟨o, es, ep, base_of e (noA e d), d, r⟩
  have nK : ∀ b o, K.lookup b = some o → H b = none := fun b o e => by
    cases q : H b with
    | none => rfl
    | some u =>
      rw [hK b u q] at e
      cases e
  have hKb : K.In (hidT s₁.heap H) := fun b o e => base_of (KX b o e) (nK b o e)
  have hM : Mod K mg (hidT s₁.heap H) := ⟨hKb, nsK hns, ⟨mb, nsK hb, hbb⟩, let ⟨mc, h1, h2⟩ := hlim; ⟨mc, nsK h1, h2⟩⟩
  have e0 : Env0 P w K mg (hidT s₁.heap H) callerA [] s₁ H := ⟨rfl, hM, fun b o e => of_hidT e, Nat.le_of_eq (hidT_size _ _), trivial, fun b hb => absurd (show b ∈ ([] : List Addr) from hb) (by simp), hok, .of_eq hg⟩
  have hl : vals.length = ps.length := by rw [wellAll_len hwl]; exact hlen
  refine codeAny_mono ((F _ hKb (nsK hns)).run callerA [] s₁ H ⟨vals, []⟩ vals (vals.map toV) _ _ hr e0 (hbind s₁ vals hl) hV (hsp H _ hO hS)) fun r s' x => ?_
  cases r with
  | error e => exact (hCX H e s' x).elim
  | ok fl =>
    cases fl with
    | next => exact False.elim x
    | brk => exact False.elim x
    | cont => exact False.elim x
    | ret u =>
      obtain ⟨v, H', os, bare, un, hok', r', q⟩ := x
      have kept : ∀ b o, s₁.heap.get? b = some o → s'.heap.get? b = some o := fun b o e => by
        cases q2 : H b with
        | none => exact un.keep b o e q2 (by intro z; exact absurd (show b ∈ ([] : List Addr) from z) (by simp)) (by simp)
        | some u2 =>
          rcases hO b with z | ⟨ob, u3, z⟩
          · rw [q2] at z
            cases z
          · have z2 := un.frzs b ob _ z
            obtain ⟨e1, _⟩ := hok b _ z
            obtain ⟨e2, _⟩ := hok' b _ z2
            rw [e] at e1
            cases e1
            exact e2
      have KX' : K.In s'.heap := fun b o e => kept b o (KX b o e)
      obtain ⟨as, hrd⟩ := Dw.reads (R := R) (cl := cl) hok' KX' d0 v u q r'
      exact ⟨u, as, rfl, hrd, OldK.of_keep kept, os, bare⟩
/-! ### the row -/
theorem layable_weight {ds : List WData} (h : WData.layableAll ds = true) : ∀ d ∈ ds, d.weight ≤ 1048576 := fun d hd =>
  (PySem.W.layableW_iff.mp (List.all_eq_true.mp h d hd)).2.2
theorem encAll_len : ∀ (cs : List Codec) (a : Codec.denoteAll cs), (Codec.encAll cs a).length = cs.length
  | [], _ => rfl
  | c :: cs, a => by
    show (Codec.encAll cs a.2).length + 1 = cs.length + 1
    rw [encAll_len cs a.2]
/-- the goal that k_headS leaves (case hc), from the promise of the row's def: whatever the arguments that the codecs let and the row asks for, the def gives what stands for enc (f ..) -/
theorem walk_spec {r : OpenSpec} {k : Nat} {q : Program} {loose : List Str} {XP : (Str → Option Value) → Heap → Prop} {YP : World → Heap → Prop} {d : DefRec} {K : Params → PySem.W.Frag} {CX : World → CXT} {ps : List Str} {sp : World → Sp}
    (hwell : r.wellSaid = true) (hdf : d.params.defaults = []) (hlen : r.args.length = ps.length) (hr : Room k callerA)
    (hY : ∀ (w : World) (h : Heap), YP w h → (K w.params).In h)
    (F : ∀ (w : World) (mg : Str → Option Value) (fa : Addr) (h : Heap), YP w h → (K w.params).In h → h.Ns mainGlobals mg → mg d.name = some (.ref fa) →
      ∃ fd : FuncData, (∀ (s : Shared) (us : List Value), us.length = ps.length → BindsTo s fd ⟨us, []⟩ (ps.zip us)) ∧
        ∀ base : Heap, (K w.params).In base → base.Ns mainGlobals mg → FnOk r.prog w (K w.params) mg base (CX w) k fa fd ps (sp w))
    (hsp : ∀ (w : World) (H : Hp) (xs : List V) (a : Codec.denoteAll r.args), OnlyF H → Codec.withinAll r.args a = true → Codec.app r.args r.asked a = true → DwAll (K w.params) H xs (Codec.encAll r.args a) →
      sp w xs H (fun v H' => Dw (K w.params) H' v (r.ret.enc (Codec.app r.args r.f a))) fun _ _ _ => False)
    (hCX : ∀ (w : World) (H : Hp) (s : Shared) (e : Value) (s' : Shared), CX w [] H s (fun _ _ _ => False) e s' → False) :
    PySem.W.WalkOS q loose XP YP r d [] (fun f vs => PySem.call f vs) := by
  intro w s_0 s₁ mg mb G Y fa o pm cd doc dV kV ho hd hcd hD hmg hg args vals as hpre hlay hrd hwl hlo
  obtain ⟨a, e1, e2⟩ := PySem.W.os_pre_some hpre
  obtain ⟨e3, hwi⟩ := Codec.encAll_of_decAll r.args args a e1
  subst e3
  have KX := hY w _ Y
  obtain ⟨fd, hb, hF⟩ := F w mg fa _ Y KX G.T.g hmg
  refine PySem.W.enter_call (codeAny_mono (spec_call (R := []) (cl := classAt s_0.heap) (d0 := r.ret.enc (Codec.app r.args r.f a)) KX G.T.g G.T.b G.T.builtins G.T.nolimit hg hwl (pl_encAll _ _) (layable_weight hlay) hr hF hb (by rw [encAll_len]; exact hlen)
    (fun H xs hO hS => hsp w H xs a hO hwi e2 hS) fun H e s' => hCX w H s₁ e s') fun r' s' hq => ?_)
  obtain ⟨u, as', rfl, h1, h2, h3, h4⟩ := hq
  exact ⟨.inl ⟨u, _, as', rfl, fun _ => rfl, h1, (OpenSpec.post_iff hwell hwi _ _).mpr rfl, fun z => Bool.noConfusion (show false = true from z)⟩, h2, h3, h4⟩
/-- the same where the promise hangs on the written part alone -/
theorem walk_specK {r : OpenSpec} {k : Nat} {q : Program} {loose : List Str} {XP : (Str → Option Value) → Heap → Prop} {YP : World → Heap → Prop} {d : DefRec} {K : Params → PySem.W.Frag} {CX : CXT} {ps : List Str} {sp : PySem.W.Frag → Sp}
    (hwell : r.wellSaid = true) (hdf : d.params.defaults = []) (hlen : r.args.length = ps.length) (hr : Room k callerA)
    (hY : ∀ (w : World) (h : Heap), YP w h → (K w.params).In h)
    (F : ∀ (w : World) (mg : Str → Option Value) (fa : Addr) (h : Heap), YP w h → (K w.params).In h → h.Ns mainGlobals mg → mg d.name = some (.ref fa) →
      ∃ fd : FuncData, (∀ (s : Shared) (us : List Value), us.length = ps.length → BindsTo s fd ⟨us, []⟩ (ps.zip us)) ∧
        ∀ base : Heap, (K w.params).In base → base.Ns mainGlobals mg → FnOk r.prog w (K w.params) mg base CX k fa fd ps (sp (K w.params)))
    (hsp : ∀ (K : PySem.W.Frag) (H : Hp) (xs : List V) (a : Codec.denoteAll r.args), OnlyF H → Codec.withinAll r.args a = true → Codec.app r.args r.asked a = true → DwAll K H xs (Codec.encAll r.args a) →
      sp K xs H (fun v H' => Dw K H' v (r.ret.enc (Codec.app r.args r.f a))) fun _ _ _ => False)
    (hCX : ∀ (H : Hp) (s : Shared) (e : Value) (s' : Shared), CX [] H s (fun _ _ _ => False) e s' → False) :
    PySem.W.WalkOS q loose XP YP r d [] (fun f vs => PySem.call f vs) :=
  walk_spec (K := K) (CX := fun _ => CX) (sp := fun w => sp (K w.params)) hwell hdf hlen hr hY F (fun w H xs a h1 h2 h3 h4 => hsp (K w.params) H xs a h1 h2 h3 h4) fun _ H s e s' => hCX H s e s'
end L2
-- rests on (row put in by the clerk, for the bench that shows a file only what it spells): KE.SpHead KE.OsShapes
end
set_option Elab.async false
set_option maxRecDepth 100000
set_option maxHeartbeats 4000000
/-! Exceptions of an own class with attributes: the record, its head entry, what a frame that is left writes. -/
namespace Fx
open PySem PySem.Spec PyProof.Rows L2

/-- the record of an exception: its class, its dict, its members -/
def Rec (h : Heap) (a : Addr) (C : Value) (d : Option Addr) (vs : Array Value) : Prop := ∃ o, h.get? a = some o ∧ o.cls = C ∧ o.dict = d ∧ o.data = .fields vs
/-- its head entry: none, or one whose flight is fl -/
def Hd (h : Heap) (a : Addr) (vs : Array Value) (fl : Value) : Option Addr → Prop
  | none => vs[1]? = some .none
  | some T => vs[1]? = some (.ref T) ∧ T ≠ a ∧ ∃ o ts, h.get? T = some o ∧ o.data = .fields ts ∧ ts[3]? = some fl
theorem dict_mapF (o : Obj) (f : Array Value → Array Value) : (o.mapFields f).dict = o.dict := by
  obtain ⟨c, d, dt, sl⟩ := o
  cases dt <;> rfl
/-- all but a and T (and the slots of the frames) is kept -/
structure Kpt (h h' : Heap) (a : Addr) (T : Option Addr) (fs : List Addr) : Prop where
  keep : ∀ b o, b ≠ a → T ≠ some b → b ∉ fs → h.get? b = some o → h'.get? b = some o
  slot : ∀ b o, b ≠ a → T ≠ some b → h.get? b = some o → ∃ sl, h'.get? b = some { o with slots := sl }
section
variable {M : Model} {A : Around} {E : Value → Shared → Prop} {s : Shared} {base : Heap} {env : Env} {outer : List Env} {L a : Addr} {C : Value} {d : Option Addr} {vs : Array Value}

theorem entry_ok {hn : Bool} {head : Value} {Q : Unit → Shared → Prop} (hfr : A.frames = some (env :: outer)) (hl : s.heap.FunFrames base (env :: outer)) (hf : env.frame = some L) (R : Rec s.heap a C d vs) (hz : 1 < vs.size)
    (q : ∀ h' T, Rec h' a C d (vs.setIfInBounds 1 (.ref T)) → Hd h' a (vs.setIfInBounds 1 (.ref T)) (rawInt L) (some T) → s.heap.objs.size ≤ T → Kpt s.heap h' a none (frs (env :: outer)) → Q () { s with heap := h' }) :
    wpAny M A (do
      let fr ← frameOf env
      let pl ← entryPlaceOf L hn
      let en ← EntryCells.newEntry head fr .none (rawInt L) .none pl
      setField (.ref a) 1 en) Q E s := by
  obtain ⟨oe, ge, gc, gd, gv⟩ := R
  have an : a ∉ frs (env :: outer) := fun m => by
    obtain ⟨_, o1, g1, n1⟩ := hl.mem m
    rw [ge] at g1
    cases g1
    exact n1 vs gv
  refine wpAny_bind (wpAny_frameOf_fun hfr hl hf fun h1 so => wpAny_bind (wpAny_entryPlaceOf fun pl hpl => ?_))
  have g1 : h1.get? a = some oe := (so.2.1 a an).trans ge
  unfold EntryCells.newEntry newFields
  refine wpAny_bind (wpAny_newObj_type ?_ (hpl.sizeOk5 _ _ _ _ _))
  generalize hN : ([head, Value.ref L, Value.none, rawInt L, Value.none] ++ if pl.isEmpty = true then List.replicate 6 Value.none else pl).toArray = mem
  have m3 : mem[3]? = some (rawInt L) := by rw [← hN]; simp
  have g2 := Heap.get?_push_of_some (h := h1) { cls := .type "traceback", dict := none, data := .fields mem } g1
  refine wpAny_setField g2 gv hz (q _ h1.objs.size ?_ ?_ ?_ ?_)
  · exact ⟨_, Heap.get?_update_self _ g2 (Obj.isFreed_of_fields (Obj.data_mapFields gv _)), (Obj.cls_mapFields _ _).trans gc, (dict_mapF _ _).trans gd, Obj.data_mapFields gv _⟩
  · refine ⟨by simp [hz], Nat.ne_of_gt (Heap.lt_size g1), _, mem, (Heap.get?_update_other _ _ (Nat.ne_of_lt (Heap.lt_size g1))).trans (Heap.get?_push_size h1 rfl), rfl, m3⟩
  · exact Nat.le_of_eq so.1.symm
  · refine ⟨fun b o hb _ hf' e => ?_, fun b o hb _ e => ?_⟩
    · rw [Heap.get?_update_other _ _ (Ne.symm hb)]
      exact Heap.get?_push_of_some _ ((so.2.1 b hf').trans e)
    · obtain ⟨sl, e1⟩ := so.2.2 b o e
      exact ⟨sl, by rw [Heap.get?_update_other _ _ (Ne.symm hb)]; exact Heap.get?_push_of_some _ e1⟩

theorem note_ok {T : Option Addr} {Q : Unit → Shared → Prop} (hfr : A.frames = some (env :: outer)) (hl : s.heap.FunFrames base (env :: outer)) (hf : env.frame = some L) (R : Rec s.heap a C d vs) (hh : Hd s.heap a vs .none T)
    (q : ∀ h' vs' T', Rec h' a C d vs' → Hd h' a vs' (rawInt L) (some T') → s.heap.objs.size ≤ T' → Kpt s.heap h' a T (frs (env :: outer)) → Q () { s with heap := h' }) :
    wpAny M A (noteFrame (.ref a) env) Q E s := by
  obtain ⟨oe, ge, gc, gd, gv⟩ := id R
  unfold noteFrame
  simp only [hf]
  cases T with
  | none =>
    have h1 : vs[1]? = some .none := hh
    refine wpAny_bind (wpAny_field ge gv h1 ?_)
    rw [if_neg (by decide)]
    exact entry_ok hfr hl hf R (Array.getElem?_eq_some_iff.mp h1).1 fun h' T' r1 r2 r3 r4 => q h' _ T' r1 r2 r3 r4
  | some T =>
    obtain ⟨h1, na, oT, ts, gT, dT, h3⟩ := hh
    refine wpAny_bind (wpAny_field ge gv h1 ?_)
    rw [if_pos (show (Value.ref T != Value.none) = true by simp)]
    refine wpAny_bind (wpAny_field gT dT h3 ?_)
    rw [if_neg (show ¬ (Value.none == rawInt L) = true by simp [rawInt])]
    refine wpAny_bind (wpAny_setField gT dT (Array.getElem?_eq_some_iff.mp h3).1 ?_)
    have oth : ∀ b, b ≠ T → (s.heap.update T (Obj.mapFields (·.setIfInBounds 3 Value.none))).get? b = s.heap.get? b := fun b hb => Heap.get?_update_other _ _ (Ne.symm hb)
    refine entry_ok (s := { s with heap := s.heap.update T (Obj.mapFields (·.setIfInBounds 3 Value.none)) }) hfr (hl.of_keeps fun b o e nf => ⟨o, (oth b fun z => ?_).trans e, rfl⟩) hf ⟨oe, (oth a (Ne.symm na)).trans ge, gc, gd, gv⟩ (Array.getElem?_eq_some_iff.mp h1).1 fun h' T' r1 r2 r3 r4 => ?_
    · rw [z, gT] at e
      cases e
      exact nf ts dT
    · have r3' : s.heap.objs.size ≤ T' := Nat.le_trans (Nat.le_of_eq (Heap.size_after_update ..).symm) r3
      refine q h' _ T' r1 r2 r3' ⟨fun b o n1 n2 n3 e => ?_, fun b o n1 n2 e => ?_⟩
      · exact r4.keep b o n1 (by simp) n3 ((oth b fun z => n2 (by rw [z])).trans e)
      · exact r4.slot b o n1 (by simp) ((oth b fun z => n2 (by rw [z])).trans e)

theorem flight_ok {T : Addr} {fl : Value} {Q : Unit → Shared → Prop} (R : Rec s.heap a C d vs) (hh : Hd s.heap a vs fl (some T))
    (q : ∀ h', Rec h' a C d vs → Hd h' a vs .none (some T) → (∀ b o, b ≠ T → s.heap.get? b = some o → h'.get? b = some o) → (∀ b, s.heap.get? b = none → h'.get? b = none) → Q () { s with heap := h' }) : wpAny M A (setFlight (.ref a) none) Q E s := by
  obtain ⟨oe, ge, gc, gd, gv⟩ := id R
  obtain ⟨h1, na, oT, ts, gT, dT, h3⟩ := hh
  have oth : ∀ b, b ≠ T → (s.heap.update T (Obj.mapFields (·.setIfInBounds 3 Value.none))).get? b = s.heap.get? b := fun b hb => Heap.get?_update_other _ _ (Ne.symm hb)
  have l3 := (Array.getElem?_eq_some_iff.mp h3).1
  unfold setFlight
  refine wpAny_bind (wpAny_field ge gv h1 ?_)
  rw [if_pos (show (Value.ref T != Value.none) = true by simp)]
  refine wpAny_setField gT dT l3 (q _ ?_ ?_ (fun b o hb e => (oth b hb).trans e) fun b e => (oth b fun z => by rw [z, gT] at e; cases e).trans e)
  · exact ⟨oe, (oth a (Ne.symm na)).trans ge, gc, gd, gv⟩
  · exact ⟨h1, na, _, _, Heap.get?_update_self _ gT (Obj.isFreed_of_fields (Obj.data_mapFields dT _)), Obj.data_mapFields dT _, by simp [l3]⟩

/-- a frame is left -/
theorem leave_ok {T : Option Addr} {Q : Unit → Shared → Prop} (hfr : A.frames = some (env :: outer)) (hl : s.heap.FunFrames base (env :: outer)) (hf : env.frame = some L) (R : Rec s.heap a C d vs) (hh : Hd s.heap a vs .none T)
    (q : ∀ h' vs' T', Rec h' a C d vs' → Hd h' a vs' .none (some T') → s.heap.objs.size ≤ T' → Kpt s.heap h' a T (frs (env :: outer)) → Q () { s with heap := h' }) :
    wpAny M A (leaving env (.ref a)) Q E s := by
  unfold leaving
  refine wpAny_bind (note_ok hfr hl hf R hh fun h1 vs1 T1 r1 r2 r3 r4 => ?_)
  refine flight_ok (s := { s with heap := h1 }) r1 r2 fun h2 p1 p2 p3 p4 => q h2 vs1 T1 p1 p2 r3 ⟨fun b o n1 n2 n3 e => ?_, fun b o n1 n2 e => ?_⟩
  · exact p3 b o (fun z => absurd (Nat.lt_of_lt_of_le (Heap.lt_size e) r3) (by rw [z]; exact Nat.lt_irrefl _)) (r4.keep b o n1 n2 n3 e)
  · obtain ⟨sl, e1⟩ := r4.slot b o n1 n2 e
    exact ⟨sl, p3 b _ (fun z => absurd (Nat.lt_of_lt_of_le (Heap.lt_size e) r3) (by rw [z]; exact Nat.lt_irrefl _)) e1⟩
end
end Fx
set_option Elab.async false
set_option maxRecDepth 100000
set_option maxHeartbeats 400000
namespace Fx
open PySem PySem.Spec PyProof.Rows L2
open Builtin Builtin.ObjectAttr

abbrev excMro : List Value := [.type "Exception", .type "BaseException", .type "object"]
/-- a class of the text under Exception, with an __init__ of its own -/
structure XCls (K : PySem.W.Frag) (C N fI : Addr) : Prop where
  obj : ∃ (nm q : Str) (bs : List Value) (sn : List Str) (sub : List Value) (ab : Bool) (col : Option Bool) (dd : Option Addr) (k0 k1 k2 k3 k5 : Option Value),
    K.lookup C = some (excClassObj nm q C N bs excMro true sn sub ab col dd k0 k1 k2 k3 k5 "Exception.__new__")
  ns : ∃ (oc : Value) (od : Option Addr) (es : Array DictEntry) (ep : Nat) (sl : Array (Option Value)), K.lookup N = some ⟨oc, od, .dict es ep, sl⟩ ∧ StrKeys es
  init : PySem.W.nsIn K N "__init__" = some (some (.ref fI))
  fn : PySem.W.isFn K (.ref fI) = true
  kp : PySem.W.keepIn K (.ref C) = true
  sa : PySem.W.findIn K (.ref C) "__setattr__" = some (some (.builtin "object.__setattr__"))
  ga : PySem.W.findIn K (.ref C) "__getattribute__" = some (some (.builtin "BaseException.__getattribute__"))
  gh : PySem.W.findIn K (.ref C) "__getattr__" = some none
theorem XCls.cls {K : PySem.W.Frag} {C N fI : Addr} (x : XCls K C N fI) : ∃ cd, PySem.W.clsIn K C = some cd ∧ cd.mro = .ref C :: excMro ∧ cd.hasDict = true := by
  obtain ⟨nm, q, bs, sn, sub, ab, col, dd, k0, k1, k2, k3, k5, e⟩ := x.obj
  exact ⟨{ name := nm, bases := bs, mro := .ref C :: excMro, ns := N, qualname := q, hasDict := true, slotNames := sn, subclasses := sub, abstract := ab, collection := col, hasDel := false }, by unfold PySem.W.clsIn; rw [e], rfl, rfl⟩
theorem XCls.mro {K : PySem.W.Frag} {C N fI : Addr} (x : XCls K C N fI) (b : Value) (hb : excMro.contains b = true) : PySem.W.mroIn K C b = some true := by
  obtain ⟨cd, e, m, _⟩ := x.cls
  unfold PySem.W.mroIn
  rw [e, Option.bind_some, m, if_neg (by simp), List.contains_cons, hb, Bool.or_true]
section
variable {prog : Program} {w : World} {A : Around} {E : Value → Shared → Prop} {s : Shared} {K : PySem.W.Frag} {C N fI x : Addr} {o : Obj} {od : Option Obj} {name : Str} {v : Value} {Q : Unit → Shared → Prop}
/-- up to where the attribute goes -/
theorem setx_open (X : K.In s.heap) (XC : XCls K C N fI) (na : NoAttr K C name) (J : PySem.W.InstAt s.heap x o C od)
    (h : ∀ b, wpAny (model prog w) A.in1 (storeInOwnDict (.ref x) (.ref C) (.str name s.toks) name v b) (fun fin s' => match fin with | .done (.ret _) => Q () s' | _ => False) E { s with toks := s.toks + 1 }) :
    wpAny (model prog w) A (setAttr (.ref x) name v) Q E s := by
  have SF := PySem.F.store_Exception
  obtain ⟨cd, hcd, hm, hh⟩ := XC.cls
  refine PySem.W.set_plain X J XC.sa ?_
  have sub : PySem.W.Looks (model prog w) s.heap (isInstance (.ref x) (.type "object")) true := J.type.andThen (PySem.W.looks_mroIn X (XC.mro _ (by decide)))
  refine codeAny_call_builtin SF.slot.plain SF.entry (@PySem.W.check_slot (model prog w) _ _ { s with toks := s.toks + 1 } "object.__setattr__" "object" "__setattr__" (.ref x) [.str name s.toks, v] [] _ SF.kind SF.split sub (SF.args (.ref x) (.str name s.toks) v) ?_)
  have hmr : PySem.W.Looks (model prog w) s.heap (mroOf (.ref C)) cd.mro := (PySem.W.looks_clsIn X hcd).andThen .now
  rw [PySem.W.osa_eq, refuse_eq]
  refine wpAny_bind (wpAny_bind (J.type.here (s := { s with toks := s.toks + 1 }) (wpAny_bind (hmr.here (s := { s with toks := s.toks + 1 }) ?_))))
  rw [hm, refuseLoop_ref, SF.passes]
  refine wpAny_pure (wpAny_bind (J.type.here (s := { s with toks := s.toks + 1 }) (wpAny_bind ((PySem.W.looks_findIn X na).here (s := { s with toks := s.toks + 1 }) (wpAny_bind ?_)))))
  refine wpAny_pure ?_
  refine thn (h _) fun fin s' z => ?_
  cases fin with
  | again c => exact z.elim
  | done f => cases f <;> first | exact z | exact z.elim
/-- the first attribute: the dict is laid -/
theorem setx_none (X : K.In s.heap) (XC : XCls K C N fI) (na : NoAttr K C name) (hx : s.heap.get? x = some o) (hc : o.cls = .ref C) (hv : ∃ vs, o.data = .fields vs) (hd : o.dict = none)
    (q : ∀ h' tk, h'.get? x = some { o with dict := some s.heap.objs.size } → h'.Ns1 s.heap.objs.size (fun y => if y = name then some v else none) → (∀ b u, b ≠ x → s.heap.get? b = some u → h'.get? b = some u) → Q () { s with heap := h', toks := tk }) :
    wpAny (model prog w) A (setAttr (.ref x) name v) Q E s := by
  obtain ⟨vs, hv⟩ := hv
  obtain ⟨cd, hcd, hm, hh⟩ := XC.cls
  refine setx_open (od := none) X XC na ⟨hx, hc, by unfold PySem.W.notCls; rw [hv], by rw [hd]; trivial⟩ fun b => ?_
  obtain ⟨oc, odi, oda, osl⟩ := o
  dsimp only at hc hd hv
  subst hc hd hv
  refine wpAny_bind (wpAny_pure (wpAny_bind (wpAny_bind (wpAny_loadPart (s := { s with toks := s.toks + 1 }) hx (wpAny_bind ((PySem.W.looks_clsIn X hcd).here (s := { s with toks := s.toks + 1 }) ?_))))))
  rw [hh]
  obtain ⟨hp, gg, dr, tt, oss⟩ := s
  dsimp only at *
  have hx1 : (hp.push { cls := .type "dict", data := .dict #[] }).get? x = some ⟨.ref C, none, .fields vs, osl⟩ := Heap.get?_push_of_some _ hx
  have ne : x ≠ hp.objs.size := Nat.ne_of_lt (Heap.lt_size hx)
  refine wpAny_bind (wpAny_alloc' (wpAny_bind (wpAny_update' hx1 (wpAny_pure ?_))))
  have gx := Heap.get?_update_self (fun o : Obj => { o with dict := some hp.objs.size }) hx1 rfl
  have gd : ((hp.push { cls := .type "dict", data := .dict #[] }).update x fun o => { o with dict := some hp.objs.size }).get? hp.objs.size = some { cls := .type "dict", data := .dict #[] } :=
    (Heap.get?_update_ne _ _ _ _ ne.symm).trans (Heap.get?_push_at rfl rfl)
  have nd : ((hp.push { cls := .type "dict", data := .dict #[] }).update x fun o => { o with dict := some hp.objs.size }).Ns hp.objs.size (fun _ => none) := ⟨_, #[], _, gd, rfl, fun e he => absurd he (by simp), fun _ => rfl⟩
  show wpAny _ _ (storeInDict hp.objs.size _ name v) _ _ _
  unfold storeInDict newKeyGuard
  refine wpAny_bind (wpAny_pure (wpAny_bind (wpAny_nsSet1 (Heap.Ns1.of_empty nd) fun h2 n2 s2 => ?_)))
  obtain ⟨oD, esD, epD, p1, p2, p3⟩ := n2.count (Within.cons name v Within.nil)
  refine wpAny_bind (wpAny_lookBehind p1 (by rw [p2]; exact pastItsLine_dict (Nat.le_trans p3 (by rw [List.length_cons, List.length_nil, sizeLine_eq]; omega))) ?_)
  refine wpAny_pure ?_
  refine q h2 _ ((s2.2 x ne).trans gx) n2 fun b u hb e => ?_
  exact (s2.2 b (Nat.ne_of_lt (Heap.lt_size e))).trans ((Heap.get?_update_ne _ _ _ _ hb).trans (Heap.get?_push_of_some _ e))
/-- a further one -/
theorem setx_some {dx : Addr} {mA : Str → Option Value} {ns : List Str} (X : K.In s.heap) (XC : XCls K C N fI) (na : NoAttr K C name) (hx : s.heap.get? x = some o) (hc : o.cls = .ref C) (hv : ∃ vs, o.data = .fields vs) (hd : o.dict = some dx)
    (n1 : s.heap.Ns1 dx mA) (hw : Within mA ns) (hz : ns.length ≤ sizeLine)
    (q : ∀ h' tk, h'.Ns1 dx (fun y => if y = name then some v else mA y) → (∀ b u, b ≠ dx → s.heap.get? b = some u → h'.get? b = some u) → Q () { s with heap := h', toks := tk }) :
    wpAny (model prog w) A (setAttr (.ref x) name v) Q E s := by
  obtain ⟨vs, hv⟩ := hv
  obtain ⟨cd, hcd, hm, hh⟩ := XC.cls
  obtain ⟨od, es, ep, gd, r⟩ := id n1
  refine setx_open (od := some od) X XC na ⟨hx, hc, by unfold PySem.W.notCls; rw [hv], by rw [hd]; exact gd⟩ fun b => ?_
  obtain ⟨oc, odi, oda, osl⟩ := o
  dsimp only at hc hd hv
  subst hc hd hv
  refine wpAny_bind (wpAny_pure (wpAny_bind (wpAny_bind (wpAny_loadPart (s := { s with toks := s.toks + 1 }) hx (wpAny_bind ((PySem.W.looks_clsIn X hcd).here (s := { s with toks := s.toks + 1 }) ?_))))))
  rw [hh]
  refine wpAny_pure (a := some dx) ?_
  show wpAny _ _ (storeInDict dx _ name v) _ _ _
  unfold storeInDict newKeyGuard
  refine wpAny_bind (wpAny_pure (wpAny_bind (wpAny_nsSet1 (s := { s with toks := s.toks + 1 }) n1 fun h2 n2 s2 => ?_)))
  obtain ⟨oD, esD, epD, p1, p2, p3⟩ := n2.count (Within.cons name v hw)
  refine wpAny_bind (wpAny_lookBehind p1 (by rw [p2]; exact pastItsLine_dict (Nat.le_trans p3 (by rw [List.length_cons]; omega))) ?_)
  exact wpAny_pure (q h2 _ n2 fun b u hb e => (s2.2 b hb).trans e)
end
section
variable {prog : Program} {w : World} {A : Around} {E : Value → Shared → Prop} {s : Shared} {K : PySem.W.Frag} {C N fI x dx : Addr} {o : Obj} {name : Str} {v : Value} {mA : Str → Option Value} {Q : Value → Shared → Prop}
theorem bga_kind : builtinKind "BaseException.__getattribute__" = some .slot := by decide +kernel
theorem bga_split : splitId "BaseException.__getattribute__" = some ("BaseException", "__getattribute__") := by decide +kernel
/-- an attribute of an exception is read -/
theorem getx_ok {expr : Bool} (X : K.In s.heap) (XC : XCls K C N fI) (na : NoAttr K C name) (hx : s.heap.get? x = some o) (hc : o.cls = .ref C) (hv : ∃ vs, o.data = .fields vs) (hd : o.dict = some dx)
    (n1 : s.heap.Ns1 dx mA) (e : mA name = some v) (hh : PySem.W.handedIn v = true) (q : ∀ tk, Q v { s with toks := tk }) : wpAny (model prog w) A (getAttr (.ref x) name expr) Q E s := by
  obtain ⟨vs, hv⟩ := hv
  obtain ⟨cd, hcd, hm, hdi⟩ := XC.cls
  obtain ⟨od, gd, hl⟩ := lookIn_ns n1
  have J : PySem.W.InstAt s.heap x o C (some od) := ⟨hx, hc, by unfold PySem.W.notCls; rw [hv], by rw [hd]; exact gd⟩
  have FB := PySem.F.attrBase_Exception
  have fo : PySem.W.findObj K C (some od) name = some (.value v) := by
    unfold PySem.W.findObj
    rw [hcd, Option.bind_some, show PySem.W.findIn K (.ref C) name = some none from na]
    simp only [Option.bind_some]
    unfold PySem.W.ownOf
    rw [if_pos hdi]
    dsimp only
    rw [hl, e]
    rfl
  have hx0 : (expr && onTheHeap (Value.builtin "BaseException.__getattribute__")) = false := by cases expr <;> rfl
  unfold getAttr getAttrBy
  refine wpAny_bind (wpAny_mkText (wpAny_holding (wpAny_bind (J.type.here (s := { s with toks := s.toks + 1 }) (wpAny_bind ((PySem.W.looks_findIn X XC.ga).here (s := { s with toks := s.toks + 1 }) ?_))))))
  show wpAny _ _ (getAttrByItsOwn _ _ _ _ _ _) _ _ _
  unfold getAttrByItsOwn hookBefore
  refine wpAny_bind ?_
  rw [if_pos (by rfl)]
  refine (PySem.W.looks_findIn X XC.gh).here (s := { s with toks := s.toks + 1 }) ?_
  refine wpAny_bind (wpAny_attempt (wpAny_holding ?_))
  unfold callGetattribute
  rw [hx0, if_neg (by decide)]
  unfold boundAndCalled
  rw [FB.ga.bind]
  refine wpAny_bind (wpAny_pure ?_)
  have sub : PySem.W.Looks (model prog w) s.heap (isInstance (.ref x) (.type "BaseException")) true := J.type.andThen (PySem.W.looks_mroIn X (XC.mro _ (by decide)))
  refine wpAny_call (codeAny_call_builtin FB.ga.plain PySem.F.entry_bexc_ga (@PySem.W.check_slot (model prog w) _ _ { s with toks := s.toks + 1 } "BaseException.__getattribute__" "BaseException" "__getattribute__" (.ref x) [.str name s.toks] [] _ bga_kind bga_split sub (PySem.F.args_bexc_ga (.ref x) (.str name s.toks)) ?_))
  unfold Builtin.«object.__getattribute__»
  refine wpAny_bind (wpAny_pure (wpAny_bind (wpAny_pure (wpAny_bind (J.type.here (s := { s with toks := s.toks + 1 }) (wpAny_bind ((PySem.W.looks_find X J fo).here (s := { s with toks := s.toks + 1 }) ?_)))))))
  refine wpAny_pure ?_
  show wpAny _ _ (handedOut v) _ _ _
  rw [PySem.W.handedOut_of hh]
  exact wpAny_pure (q _)
end
end Fx
set_option Elab.async false
set_option maxRecDepth 100000
set_option maxHeartbeats 400000
namespace Fx
open PySem PySem.Spec PyProof.Rows L2

/-- an exception's record in the abstract heap: one without an entry, any one; its dict -/
abbrev exN (a : Addr) (C : Value) (d : Option Addr) : HO := .ext fun h => ∃ vs, Rec h a C d vs ∧ vs[1]? = some .none
abbrev exO (a : Addr) (C : Value) (d : Option Addr) : HO := .ext fun h => ∃ vs, Rec h a C d vs
abbrev exD (x : Addr) (fs : List (Str × V)) : HO := .ext fun h => ∃ mA, h.Ns1 x mA ∧ (∀ f, RelO (fs.lookup f) (mA f)) ∧ Within mA (fs.map (·.1))
section
variable {P : Program} {w : World} {H : Hp} {h h' : Heap} {a : Addr} {C : Value} {d : Option Addr} {vs : Array Value} {o : HO}
theorem okN (R : Rec h a C d vs) (e : vs[1]? = some .none) : ObjOk P w H h a (exN a C d) :=
  ⟨⟨vs, R, e⟩, let ⟨o, g, _⟩ := R; ⟨o, g⟩, fun _ _ ⟨vs, ⟨o, g, r⟩, e⟩ k => ⟨vs, ⟨o, k o g, r⟩, e⟩⟩
theorem okO (R : Rec h a C d vs) : ObjOk P w H h a (exO a C d) :=
  ⟨⟨vs, R⟩, let ⟨o, g, _⟩ := R; ⟨o, g⟩, fun _ _ ⟨vs, ⟨o, g, r⟩⟩ k => ⟨vs, ⟨o, k o g, r⟩⟩⟩
theorem okD {x : Addr} {fs : List (Str × V)} {mA : Str → Option Value} (n : h.Ns1 x mA) (r : ∀ f, RelO (fs.lookup f) (mA f)) (q : Within mA (fs.map (·.1))) : ObjOk P w H h x (exD x fs) :=
  ⟨⟨mA, n, r, q⟩, let ⟨o, _, _, g, _⟩ := n; ⟨o, g⟩, fun _ _ ⟨mA, ⟨o, es, ep, g, c⟩, r⟩ k => ⟨mA, ⟨o, es, ep, k o g, c⟩, r⟩⟩
theorem ok_ex (x : ObjOk P w H h a o) : ∃ u, h.get? a = some u := by
  cases o with
  | lst xs => obtain ⟨_, _, _, _, e⟩ := x; exact ⟨_, e⟩
  | tup xs => obtain ⟨_, _, _, o, e, _⟩ := x; exact ⟨_, e⟩
  | dK kvs => obtain ⟨_, _, _, _, o, _, _, e, _⟩ := x; exact ⟨_, e⟩
  | dT kvs => obtain ⟨_, _, _, _, o, _, _, e, _⟩ := x; exact ⟨_, e⟩
  | set S n => obtain ⟨o, _, _, _, e, _⟩ := x; exact ⟨_, e⟩
  | ins C dx fs => obtain ⟨_, _, _, e, _⟩ := x; exact ⟨_, e⟩
  | own y => obtain ⟨_, e⟩ := x; exact ⟨_, e⟩
  | xd fs => obtain ⟨_, ⟨_, _, _, e, _⟩, _⟩ := x; exact ⟨_, e⟩
  | rng lo hi => obtain ⟨_, _, _, e⟩ := x; exact ⟨_, e⟩
  | frz ob u => obtain ⟨e, _⟩ := x; exact ⟨_, e⟩
  | tbl ps => exact ⟨_, show h.get? a = some _ from x⟩
  | met f y => exact ⟨_, show h.get? a = some _ from x⟩
  | ext φ => obtain ⟨_, ⟨_, e⟩, _⟩ := x; exact ⟨_, e⟩
theorem gone (x : HOk P w H h) (e : h.get? a = none) : H a = none := by
  cases q : H a with
  | none => rfl
  | some u =>
    obtain ⟨v, e'⟩ := ok_ex (x a u q)
    rw [e] at e'
    cases e'
/-- a thing that stands there is tracked from now on -/
theorem track (x : HOk P w H h) (hn : H a = none) (new : ObjOk P w (upd H a o) h a o) : HOk P w (upd H a o) h := fun b u e => by
  by_cases hb : b = a
  · subst hb
    rw [upd_same] at e
    cases e
    exact new
  · rw [upd_ne hb] at e
    exact (x b u e).stay (fun _ _ _ q => q) (fun c q => by rw [upd_ne (ne_of_none q hn)]; exact q) fun c xs q => by rw [upd_ne (ne_of_none q hn)]; exact q
end
section
variable {X : Cx} {pins : List (Addr × Obj)} {σ : L2.St} {H : Hp} {s : Shared} {a C N fI : Addr} {f : Str} {h' : Heap} {o : HO} {A : Around} {E : Value → Shared → Prop}
theorem laidx {t' : Nat} (I : Inv X pins σ H s) (k : ∀ b u, s.heap.get? b = some u → h'.get? b = some u) (hp : s.heap.get? a = none) (new : ObjOk X.prog X.w (upd H a o) h' a o) : Inv X pins σ (upd H a o) { s with heap := h', toks := t' } := by
  have hn := gone I.hok hp
  have ne : ∀ b u, s.heap.get? b = some u → b ≠ a := fun b u q z => by rw [z, hp] at q; cases q
  refine I.un ⟨fun b u q _ _ _ => k b u q, fun b u q _ _ _ => ⟨u.slots, k b u q⟩, fun b u q n _ => by rw [upd_ne (ne b u q)]; exact n, fun b u q _ => ⟨u, k b u q⟩,
    fun b xs q => by rw [upd_ne (ne_of_none q hn)]; exact q, fun b u xs q => by rw [upd_ne (ne_of_none q hn)]; exact q, fun b ps q => ⟨#[], by rw [upd_ne (ne_of_none q hn), q]; simp⟩⟩ (track (I.hok.kept k) hn new)
/-- the first attribute -/
theorem setxN {y : V} {u : Value} {Q : Unit → Shared → Prop} (I : Inv X pins σ H s) (e : H a = some (exN a (.ref C) none)) (XC : XCls X.K C N fI) (na : NoAttr X.K C f) (ry : RelV y u)
    (h : ∀ dx s', H dx = none → dx ≠ a → Inv X pins σ (upd (upd H a (exN a (.ref C) (some dx))) dx (exD dx [(f, y)])) s' → Q () s') : wpAny (model X.prog X.w) A (setAttr (.ref a) f u) Q E s := by
  obtain ⟨⟨vs, ⟨o, g, hc, hd, hv⟩, h1⟩, _⟩ := (show ObjOk X.prog X.w H s.heap a (exN a (.ref C) none) from I.hok a _ e)
  refine setx_none I.kIn XC na g hc ⟨vs, hv⟩ hd fun h' tk gx n1 kp => ?_
  have lt := Heap.lt_size g
  have hn : H s.heap.objs.size = none := I.hok.fresh (Nat.le_refl _)
  have ne : s.heap.objs.size ≠ a := Nat.ne_of_gt lt
  refine h s.heap.objs.size _ hn ne ?_
  have na' : ∀ b, H b = none → b ≠ a := fun b n z => by rw [z, e] at n; cases n
  have new1 : ∀ H1, ObjOk X.prog X.w H1 h' a (exN a (.ref C) (some s.heap.objs.size)) := fun _ => okN (vs := vs) ⟨_, gx, hc, rfl, hv⟩ h1
  have ok1 : HOk X.prog X.w (upd H a (exN a (.ref C) (some s.heap.objs.size))) h' := I.hok.write (x := a) (e := a) (by rw [e]; exact True.intro) (.inl rfl) kp ⟨_, gx⟩ (new1 _)
  have hn1 : upd H a (exN a (.ref C) (some s.heap.objs.size)) s.heap.objs.size = none := by rw [upd_ne ne]; exact hn
  have ok2 := track (o := exD s.heap.objs.size [(f, y)]) ok1 hn1 (okD n1 (fun g => by
    show RelO (List.lookup g [(f, y)]) (if g = f then some u else none)
    by_cases q : g = f
    · have hb : (g == f) = true := beq_iff_eq.mpr q
      simp only [List.lookup, hb, if_pos q]
      exact ry
    · have hb : (g == f) = false := beq_eq_false_iff_ne.mpr q
      simp only [List.lookup, hb, if_neg q]
      trivial) fun g hg => by
    by_cases q : g = f
    · simp [q]
    · exact absurd (if_neg q) hg)
  have two : ∀ b u, H b = some u → (∀ v, u ≠ .ext v) → upd (upd H a (exN a (.ref C) (some s.heap.objs.size))) s.heap.objs.size (exD s.heap.objs.size [(f, y)]) b = some u := fun b u q nx => by
    rw [upd_ne (ne_of_none q hn), upd_ne (fun z => by rw [z, e] at q; cases q; exact nx _ rfl)]
    exact q
  refine I.un ⟨fun b u q n _ _ => kp b u (na' b n) q, fun b u q n _ _ => ⟨u.slots, kp b u (na' b n) q⟩, fun b u q n _ => ?_, fun b u q _ => ?_, fun b xs q => two b _ q (fun _ z => by cases z), fun b u xs q => two b _ q (fun _ z => by cases z), fun b ps q => ⟨#[], by rw [two b _ q (fun _ z => by cases z)]; simp⟩⟩ ok2
  · rw [upd_ne (Nat.ne_of_lt (Heap.lt_size q)), upd_ne (na' b n)]
    exact n
  · by_cases z : b = a
    · exact ⟨_, z ▸ gx⟩
    · exact ⟨u, kp b u z q⟩
/-- a further one -/
theorem setxS {y : V} {u : Value} {dx : Addr} {fs : List (Str × V)} {Q : Unit → Shared → Prop} (I : Inv X pins σ H s) (e : H a = some (exN a (.ref C) (some dx))) (ed : H dx = some (exD dx fs)) (XC : XCls X.K C N fI) (na : NoAttr X.K C f) (hl : fs.length < 1000) (ry : RelV y u)
    (h : ∀ s', Inv X pins σ (upd H dx (exD dx (putF f y fs))) s' → Q () s') : wpAny (model X.prog X.w) A (setAttr (.ref a) f u) Q E s := by
  obtain ⟨⟨vs, ⟨o, g, hc, hd, hv⟩, h1⟩, _⟩ := (show ObjOk X.prog X.w H s.heap a (exN a (.ref C) (some dx)) from I.hok a _ e)
  obtain ⟨⟨mA, n1, r, wi⟩, _⟩ := (show ObjOk X.prog X.w H s.heap dx (exD dx fs) from I.hok dx _ ed)
  refine setx_some I.kIn XC na g hc ⟨vs, hv⟩ hd n1 wi (by rw [List.length_map, sizeLine_eq]; omega) fun h' tk n2 kp => h _ ?_
  have he : ∃ q, h'.get? dx = some q := let ⟨q, _, _, e', _⟩ := n2; ⟨q, e'⟩
  refine I.write (x := dx) (e := dx) (by rw [ed]; exact True.intro) (.inl rfl) kp he (okD n2 (fun g => ?_) fun g hg => ?_)
  · show RelO ((putF f y fs).lookup g) (if g = f then some u else mA g)
    rw [lookup_putF]
    by_cases q : g = f
    · rw [if_pos q, if_pos q]
      exact ry
    · rw [if_neg q, if_neg q]
      exact r g
  · by_cases q : g = f
    · rw [q]
      exact (keys_putF f y fs).1
    · refine (keys_putF f y fs).2 g (wi g fun z => hg ?_)
      rw [if_neg q]
      exact z
/-- it is read -/
theorem getxO {v : V} {dx : Addr} {fs : List (Str × V)} {b : Bool} {Q : Value → Shared → Prop} (I : Inv X pins σ H s) (e : H a = some (exO a (.ref C) (some dx))) (ed : H dx = some (exD dx fs)) (XC : XCls X.K C N fI) (na : NoAttr X.K C f) (l : fs.lookup f = some v)
    (h : ∀ u s', Inv X pins σ H s' → RelV v u → Q u s') : wpAny (model X.prog X.w) A (getAttr (.ref a) f b) Q E s := by
  obtain ⟨⟨vs, ⟨o, g, hc, hd, hv⟩⟩, _⟩ := (show ObjOk X.prog X.w H s.heap a (exO a (.ref C) (some dx)) from I.hok a _ e)
  obtain ⟨⟨mA, n1, r, wi⟩, _⟩ := (show ObjOk X.prog X.w H s.heap dx (exD dx fs) from I.hok dx _ ed)
  obtain ⟨u, hu, ru⟩ := RelO.some_of (v := v) (o := mA f) (by rw [← l]; exact r f)
  exact getx_ok I.kIn XC na g hc ⟨vs, hv⟩ hd n1 hu (handed_of ru) fun tk => h u _ (I.tok tk) ru
end
/-- self.f = value, the first; a further one -/
def sX0 (K : PySem.W.Frag) (ta tv : TE) (f : Str) : TS := fun D σ H => tv σ H fun y H1 => ta σ H1 fun x H2 => ∃ a C N fI, x = .ref a ∧ H2 a = some (exN a (.ref C) none) ∧ XCls K C N fI ∧ NoAttr K C f ∧
  ∀ dx, H2 dx = none → dx ≠ a → D.nx σ (upd (upd H2 a (exN a (.ref C) (some dx))) dx (exD dx [(f, y)]))
def sX1 (K : PySem.W.Frag) (ta tv : TE) (f : Str) : TS := fun D σ H => tv σ H fun y H1 => ta σ H1 fun x H2 => ∃ a C N fI dx fs, x = .ref a ∧ H2 a = some (exN a (.ref C) (some dx)) ∧ H2 dx = some (exD dx fs) ∧ XCls K C N fI ∧ NoAttr K C f ∧ fs.length < 1000 ∧
  D.nx σ (upd H2 dx (exD dx (putF f y fs)))
/-- e.f of an exception -/
def tXF (K : PySem.W.Frag) (ta : TE) (f : Str) : TE := fun σ H Q => ta σ H fun x H1 => ∃ a C N fI dx fs v, x = .ref a ∧ H1 a = some (exO a (.ref C) (some dx)) ∧ H1 dx = some (exD dx fs) ∧ XCls K C N fI ∧ NoAttr K C f ∧ fs.lookup f = some v ∧ Q v H1
section
variable {X : Cx} {o e value : Expr} {f : Str} {pos pos' : Pos} {ta tv : TE}
theorem ps_x0 (ha : PE X o ta) (hv : PE X value tv) (hs : swapsWith value (some (.Attribute o f pos')) pos.line X.env = pure false) : PS X (.Assign [.Attribute o f pos'] value pos) (sX0 X.K ta tv f) := by
  intro pins s σ H D I h
  refine plainObj_wpAny_Assign_Attribute (thn (hv pins s σ H _ I h) fun u s1 ⟨y, H1, I1, ry, q⟩ => thn (ha pins s1 σ H1 _ I1 q) fun ov s2 ⟨x, H2, I2, rx, a, C, N, fI, ex, ea, c, n, q2⟩ => ?_) hs
  subst ex
  obtain rfl : ov = Value.ref a := rx
  exact setxN I2 ea c n ry fun dx s3 h1 h2 I3 => ⟨σ, _, I3, q2 dx h1 h2⟩
theorem ps_x1 (ha : PE X o ta) (hv : PE X value tv) (hs : swapsWith value (some (.Attribute o f pos')) pos.line X.env = pure false) : PS X (.Assign [.Attribute o f pos'] value pos) (sX1 X.K ta tv f) := by
  intro pins s σ H D I h
  refine plainObj_wpAny_Assign_Attribute (thn (hv pins s σ H _ I h) fun u s1 ⟨y, H1, I1, ry, q⟩ => thn (ha pins s1 σ H1 _ I1 q) fun ov s2 ⟨x, H2, I2, rx, a, C, N, fI, dx, fs, ex, ea, ed, c, n, l, q2⟩ => ?_) hs
  subst ex
  obtain rfl : ov = Value.ref a := rx
  exact setxS I2 ea ed c n l ry fun s3 I3 => ⟨σ, _, I3, q2⟩
theorem pe_xf (he : PE X e ta) (hb : attributeBase e f X.env (eval e X.env) = eval e X.env) : PE X (.Attribute e f pos) (tXF X.K ta f) := by
  intro pins s σ H Q I h
  refine attr_of hb (thn (he pins s σ H _ I h) fun u s1 ⟨x, H1, I1, rx, a, C, N, fI, dx, fs, v, ex, ea, ed, c, n, l, q⟩ => ?_)
  subst ex
  obtain rfl : u = Value.ref a := rx
  exact getxO I1 ea ed c n l fun u' s2 I2 ru => ⟨v, H1, I2, ru, q⟩
end
end Fx
set_option Elab.async false
set_option maxRecDepth 100000
set_option maxHeartbeats 400000
namespace Fx
open PySem PySem.Spec PyProof.Rows L2

/-- how an exception lies behind a call -/
def CXF (P : Program) (w : World) : CXT := fun outer H s E e s' => ∃ (a T : Addr) (d : Option Addr) (C : Value) (H' : Hp) (vs : Array Value), e = .ref a ∧ s'.os = s.os ∧ AllBare s'.gens ∧ Un (frs outer) [] H H' s.heap s'.heap ∧ HOk P w H' s'.heap ∧
  H' a = some (exO a C d) ∧ s.heap.get? a = none ∧ Rec s'.heap a C d vs ∧ Hd s'.heap a vs .none (some T) ∧ s.heap.objs.size ≤ T ∧ H' T = none ∧ E C d H'
/-- an exception within a body -/
def Infl (X : Cx) (pins : List (Addr × Obj)) (σ : L2.St) (H : Hp) (s : Shared) (a : Addr) (d : Option Addr) (C : Value) : Prop :=
  Inv X pins σ H s ∧ H a = some (exO a C d) ∧ X.s_0.heap.get? a = none ∧ ∃ (vs : Array Value) (T : Option Addr), Rec s.heap a C d vs ∧ Hd s.heap a vs .none T ∧ ∀ t, T = some t → FpOk X pins H t
/-- the exceptions that are wanted by E reach the body's wish -/
def XE (X : Cx) (E : XK) : Prop := ∀ (pins : List (Addr × Obj)) (σ : L2.St) (H : Hp) (s : Shared) (a : Addr) (d : Option Addr) (C : Value), Infl X pins σ H s a d C → E C d H → X.xe (.ref a) s

theorem passes {X : Cx} {E : XK} (h : XE X E) (hx : X.ex = []) : Passes (CXF X.prog X.w) X E := by
  intro pins σ H s e s' I q
  obtain ⟨a, T, d, C, H', vs, rfl, os, bare, un, hok, e1, e2, e3, e4, e5, e6, e7⟩ := q
  have old : ∀ b, s.heap.get? b = none → X.s_0.heap.get? b = none := fun b n => by
    cases q : X.s_0.heap.get? b with
    | none => rfl
    | some o =>
      obtain ⟨o', z⟩ := I.base.there b o q (by rw [hx]; simp)
      rw [n] at z
      cases z
  refine h pins σ H' s' a d C ⟨I.call' (ch := []) os un hok bare (fun b z => absurd z (by simp)), e1, old a e2, vs, some T, e3, e4, fun t z => ?_⟩ e7
  cases z
  exact I.fpOk e5 e6

/-- behind a frame that an exception has left -/
theorem left_ok {X : Cx} {pins : List (Addr × Obj)} {σ : L2.St} {H : Hp} {s : Shared} {a : Addr} {d : Option Addr} {C : Value} {h' : Heap} {vs' : Array Value} {T' : Addr} {T : Option Addr} {E : XK} (I : Inv X pins σ H s) (ea : H a = some (exO a C d)) (na : X.s_0.heap.get? a = none)
    (nT : ∀ t, T = some t → FpOk X pins H t) (hx : X.ex = []) (r1 : Rec h' a C d vs') (r2 : Hd h' a vs' .none (some T')) (r3 : s.heap.objs.size ≤ T') (k : Kpt s.heap h' a T (frs X.stack)) (hE : E C d H) :
    CXF X.prog X.w X.outer X.H_0 X.s_0 E (.ref a) { s with heap := h' } := by
  have n1 : ∀ b o, X.s_0.heap.get? b = some o → b ≠ a ∧ T ≠ some b := fun b o q => ⟨fun z => (by rw [z, na] at q; cases q), fun z => (by
    rcases (nT b z).2.2.2.1 with y | y
    · rw [hx] at y
      exact absurd y (by simp)
    · exact absurd (Nat.lt_of_lt_of_le (Heap.lt_size q) y) (Nat.lt_irrefl _))⟩
  have nfr : ∀ b o, X.s_0.heap.get? b = some o → b ∉ frs X.outer → b ∉ frs X.stack := fun b o q hb z => by
    rcases List.mem_cons.mp (I.stkSub b z) with e | e
    · exact absurd (Nat.lt_of_lt_of_le (Heap.lt_size q) I.ok.above) (by rw [e]; exact Nat.lt_irrefl _)
    · exact hb e
  refine ⟨a, T', d, C, H, vs', rfl, I.os, I.bare, ⟨fun b o q n hb _ => ?_, fun b o q n hb _ => ?_, fun b o q n _ => I.base.free b o q n (by rw [hx]; simp), fun b o q _ => ?_, I.base.tups, I.base.frzs, I.base.tbls⟩, fun b u e => ?_, ea, na, r1, r2, Nat.le_trans I.sz r3, I.hok.fresh r3, hE⟩
  · obtain ⟨m1, m2⟩ := n1 b o q
    exact k.keep b o m1 m2 (nfr b o q hb) (I.base.keep b o q n hb (by rw [hx]; simp))
  · obtain ⟨m1, m2⟩ := n1 b o q
    obtain ⟨sl, e1⟩ := I.base.slot b o q n hb (by rw [hx]; simp)
    obtain ⟨sl', e2⟩ := k.slot b _ m1 m2 e1
    exact ⟨sl', e2⟩
  · obtain ⟨m1, m2⟩ := n1 b o q
    obtain ⟨o', e1⟩ := I.base.there b o q (by rw [hx]; simp)
    obtain ⟨sl', e2⟩ := k.slot b _ m1 m2 e1
    exact ⟨_, e2⟩
  · by_cases hb : b = a
    · subst hb
      rw [ea] at e
      cases e
      exact okO r1
    · have ntk : ∀ c u, H c = some u → T ≠ some c := fun c u q z => by rw [(nT c z).1] at q; cases q
      have nst : ∀ c u, H c = some u → c ∉ frs X.stack := fun c u q z => by rw [I.stkFree c z] at q; cases q
      refine (I.hok b u e).stay (fun c v hc q => ?_) (fun _ q => q) fun _ _ q => q
      rcases hc with rfl | hc
      · exact k.keep c v hb (ntk c u e) (nst c u e) q
      · exact k.keep c v (fun z => by rw [z, ea] at hc; cases hc) (ntk c _ hc) (nst c _ hc) q

/-- the body of a def: its exceptions leave the frame -/
theorem xe_def {P : Program} {w : World} {K : PySem.W.Frag} {mg : Str → Option Value} {base : Heap} {N : List Str} {qual : Str} {scope : Scope} {f : Addr} {cd : Value} {A : Around} {outer : List Env} {s : Shared} {H : Hp} {E : XK} :
    XE (cxOf (CXF P w) P w K mg base N qual scope f cd A outer s H E) E := by
  intro pins σ H1 s1 a d C ⟨I, ea, na, vs, T, r1, r2, r3⟩ hE
  refine leave_ok (L := s.heap.objs.size) I.ok.frames I.stack rfl r1 r2 fun h' vs' T' q1 q2 q3 q4 => ?_
  exact left_ok I ea na r3 rfl q1 q2 q3 q4 hE

/-- C(..) of a class under Exception -/
theorem run_exc {X : Cx} {pins : List (Addr × Obj)} {σ : L2.St} {H : Hp} {s : Shared} {Q : VK} {us : List Value} {vs : List V} {CX : CXT} {k : Nat} {C N fI : Addr} {fd : FuncData} {ps : List Str} {sp : Sp} {E : XK} (XC : XCls X.K C N fI) (F : FnOk X.prog X.w X.K X.mg X.base CX k fI fd ps sp)
    (hr : Room (k + 1) X.A) (hb : Binds X.K fd ps []) (hx : Passes CX X E) (hx0 : X.ex = []) (I : Inv X pins σ H s) (r : Vals vs us) (hl : us.length ≤ sizeLine)
    (h : ∀ x, H x = none → X.s_0.heap.get? x = none → sp (.ref x :: vs) (upd H x (exN x (.ref C) none)) (fun v H2 => v = .non ∧ Q (.ref x) H2) E) : wpAny (model X.prog X.w) X.A (call (.ref C) us) (EP X pins σ Q) X.xe s := by
  obtain ⟨nm, q, bs, sn, sub, ab, col, dd, k0, k1, k2, k3, k5, eC⟩ := XC.obj
  obtain ⟨oc, od, es, ep, sl, eN, sk⟩ := XC.ns
  have nN : s.heap.Ns N (nsFind es) := ⟨_, es, ep, I.kIn _ _ eN, rfl, sk, fun _ => rfl⟩
  have ini : nsFind es "__init__" = some (.ref fI) := by
    have e := XC.init
    unfold PySem.W.nsIn at e
    rw [eN] at e
    dsimp only at e
    split at e
    · rename_i en he
      have e' : en.val = .ref fI := Option.some.inj (Option.some.inj e)
      unfold nsFind findBy
      rw [← Array.find?_toList, he, ← e']
      rfl
    · split at e <;> cases e
  obtain ⟨oF, hF, hFc⟩ : ∃ oF, X.K.lookup fI = some oF ∧ oF.cls = .type "function" := by
    have e := beq_iff_eq.mp XC.fn
    obtain ⟨oF, h1, h2⟩ := Option.map_eq_some_iff.mp (show (X.K.lookup fI).map (·.cls) = some (.type "function") from e)
    exact ⟨oF, h1, h2⟩
  obtain ⟨hh, g, d, t, os⟩ := s
  refine PySem.wpAny_call_exc_init PySem.F.excBase_Exception (I.kIn _ _ eC) nN ini (I.kIn _ _ hF) hFc (fun h' x m => ?_) hl
  obtain ⟨tt, m1, m2, m3⟩ := m.there
  have hn := gone I.hok m.new
  have I2 : Inv X pins σ (upd H x (exN x (.ref C) none)) ⟨h', g, d, t, os⟩ := laidx (t' := t) I m.keeps m.new (okN ⟨_, m1, rfl, rfl, rfl⟩ rfl)
  have q0 := h x hn (by
    cases q : X.s_0.heap.get? x with
    | none => rfl
    | some o =>
      obtain ⟨o', z⟩ := I.base.there x o q (by rw [hx0]; simp)
      rw [m.new] at z
      cases z)
  have r2 : Vals (V.ref x :: vs) (Value.ref x :: us) := .cons rfl r
  have len : (Value.ref x :: us).length = ps.length := by rw [← r2.length]; exact F.len _ _ _ _ q0
  refine wpAny_call (codeAny_mono (F.run _ X.stack _ _ ⟨Value.ref x :: us, []⟩ (Value.ref x :: us) _ _ E (hr.make C us []) (I2.env0.make C us []) (by simpa using hb _ (Value.ref x :: us) I2.kIn (by simpa using len)) r2 q0) fun r s' hq => ?_)
  cases r with
  | error e => exact hx pins σ _ _ e s' I2 hq
  | ok fl =>
    cases fl with
    | ret u =>
      obtain ⟨v, H', I3, rv, ev, q3⟩ := I2.after hq
      subst ev
      exact ⟨rv, ⟨V.ref x, H', I3, rfl, q3⟩⟩
    | next => exact False.elim hq
    | brk => exact False.elim hq
    | cont => exact False.elim hq
end Fx
set_option Elab.async false
set_option maxRecDepth 100000
set_option maxHeartbeats 400000
namespace Fx
open PySem PySem.Spec PyProof.Rows L2

/-- C(..), an exception -/
def tExc (C : Addr) (s0 : Shared) (sp : Sp) (E : XK) (t : TA) : TE := fun σ H Q => t σ H fun vs H1 => vs.length ≤ sizeLine ∧ ∀ x, H1 x = none → s0.heap.get? x = none → sp (.ref x :: vs) (upd H1 x (exN x (.ref C) none)) (fun v H2 => v = .non ∧ Q (.ref x) H2) E
/-- raise e -/
def sRaise (K : PySem.W.Frag) (s0 : Shared) (te : TE) (E : XK) : TS := fun _ σ H => te σ H fun v H1 => ∃ a C N fI dx, v = .ref a ∧ H1 a = some (exN a (.ref C) (some dx)) ∧ XCls K C N fI ∧ s0.heap.get? a = none ∧ E (.ref C) (some dx) (upd H1 a (exO a (.ref C) (some dx)))
section
variable {X : Cx} {CX : CXT} {k : Nat} {C N fI : Addr} {fd : FuncData} {ps : List Str} {sp : Sp} {E E' : XK} {x : Str} {p pos : Pos} {e : Expr} {es : List Expr} {t : TA} {te : TE}
theorem pe_exc (XC : XCls X.K C N fI) (F : FnOk X.prog X.w X.K X.mg X.base CX k fI fd ps sp) (hr : Room (k + 1) X.A) (hg : Gl X x) (hm : X.mg x = some (.ref C)) (hb : Binds X.K fd ps []) (hx : Passes CX X E) (hx0 : X.ex = [])
    (ha : PA X (e :: es) t) (hdb : (x == ("__debug__" : Str)) = false := by decide) (he : starEach (e :: es) X.env = (false, eval e X.env) :: starEach es X.env := by rfl) (hpl : (backTo pos (starEach es X.env)).any (·.1) = false := by rfl) :
    PE X (.Call (.Name x p) (e :: es) [] pos) (tExc C X.s_0 sp E t) := by
  intro pins s σ H Q I h
  refine wpAny_Call_Name_kw (ld_glob I hg hm ?_ hdb)
  refine PySem.W.callWith_K (h₀ := X.base) I.ok.mod.kin XC.kp (thn (ha pos pins s σ H _ I h) fun us s1 ⟨vs, H1, I1, r, hl, q⟩ => ⟨I1.kIn, ?_⟩) he hpl
  exact run_exc XC F hr hb hx hx0 I1 r (by show us.length ≤ sizeLine; rw [← r.length]; exact hl) q
theorem ps_raise (hc : X.calm = true) (hE : XE X E) (he : PE X e te) : PS X (.Raise (some e) none pos) (sRaise X.K X.s_0 te E) := by
  intro pins s σ H D I h
  show wpAny _ _ (do standAt pos; raiseStmt X.env (some (do let v ← eval e X.env; standAt pos; pure v)) none) _ _ s
  refine wpAny_bind (wpAny_standAt ?_)
  unfold raiseStmt
  dsimp only
  refine wpAny_bind (wpAny_bind (thn (he pins s σ H _ I h) fun v s1 ⟨z, H1, I1, rz, a, C, N, fI, dx, ez, ea, XC, na, q⟩ => wpAny_bind (wpAny_standAt (wpAny_pure ?_))))
  subst ez
  obtain rfl : v = Value.ref a := rz
  obtain ⟨⟨vs, ⟨o, g, hcl, hd, hv⟩, h1⟩, _⟩ := (show ObjOk X.prog X.w H1 s1.heap a (exN a (.ref C) (some dx)) from I1.hok a _ ea)
  obtain ⟨nm, qn, bs, sn, sub, ab, col, dd, k0, k1, k2, k3, k5, eC⟩ := XC.obj
  have gC := I1.kIn _ _ eC
  have J : PySem.W.Looks (model X.prog X.w) s1.heap (typeOf (.ref a)) (.ref C) := hcl ▸ (PySem.W.Looks.ld g).andThen .now
  have nt : ∀ {Q' : Bool → Shared → Prop}, Q' false s1 → wpAny (model X.prog X.w) X.A (isType (.ref a)) Q' X.xe s1 := by
    intro Q' hq
    simp only [isType, loadHead]
    refine wpAny_bind (wpAny_loadPart g ?_)
    rw [hv]
    exact wpAny_pure hq
  refine wpAny_bind (wpAny_pure ?_)
  dsimp only
  refine wpAny_bind (wpAny_holding ?_)
  unfold excFromValue isExcClass
  refine wpAny_bind (wpAny_bind (nt ?_))
  simp only [Bool.false_eq_true, if_false]
  refine wpAny_pure ?_
  simp only [Bool.false_eq_true, if_false]
  have inst : PySem.W.Looks (model X.prog X.w) s1.heap (isInstance (.ref a) (.type "BaseException")) true := J.andThen (PySem.W.looks_mroIn I1.kIn (XC.mro _ (by decide)))
  refine wpAny_bind (inst.here ?_)
  simp only [if_true]
  refine wpAny_pure (wpAny_bind (nt ?_))
  simp only [Bool.false_eq_true, if_false]
  unfold raisedInstance
  have tC : PySem.W.Looks (model X.prog X.w) s1.heap (typeOf (.ref C)) (.type "type") := (PySem.W.Looks.ld gC).andThen .now
  refine wpAny_bind (wpAny_bind (J.here (wpAny_bind (tC.here ?_))))
  rw [if_pos (by simp)]
  refine wpAny_pure ?_
  unfold setFlight raiseNew
  refine wpAny_bind (wpAny_bind (wpAny_field g hv h1 ?_))
  rw [if_neg (by decide)]
  refine wpAny_pure (wpAny_bind (wpAny_handled ?_))
  rw [I.ok.hd hc]
  have I2 : Inv X pins σ (upd H1 a (exO a (.ref C) (some dx))) s1 := I1.write (x := a) (e := a) (h' := s1.heap) (t' := s1.toks) (by rw [ea]; exact True.intro) (.inl rfl) (fun _ _ _ z => z) ⟨_, g⟩ (okO ⟨o, g, hcl, hd, hv⟩)
  have fin : X.xe (.ref a) s1 := hE pins σ _ s1 a (some dx) _ ⟨I2, upd_same, na, vs, none, ⟨o, g, hcl, hd, hv⟩, h1, fun t z => by cases z⟩ q
  first
    | exact wpAny_throw fin
    | exact wpAny_bind (wpAny_pure (wpAny_throw fin))
end
section
variable {P : Program} {w : World} {K : PySem.W.Frag} {mg : Str → Option Value} {base : Heap}
/-- THE RULE for a def whose exceptions leave it -/
theorem okX {x qual : Str} {st : Stmt} {f : Addr} {fd : FuncData} {N ps : List Str} {k : Nat} {sp : Sp} (F : Fun K x qual st f fd) (S : FnScope N ps (defScope st)) (len : ∀ vs H Q E, sp vs H Q E → vs.length = ps.length)
    (hbody : ∀ (cdv : Value) (A : Around) (outer : List Env) (s : Shared) (H : Hp) (vs : List V) (Q : VK) (E : XK), Room k (A.deeper (envOfC qual (defScope st) s.heap.objs.size f cdv)) → sp vs H Q E →
      ∃ t, PSs (cxOf (CXF P w) P w K mg base N qual (defScope st) f cdv A outer s H E) (defBody st) t ∧ t { nx := fun _ H' => Q .non H', rt := Q } (start N vs) H) : FnOk P w K mg base (CXF P w) (k + 1) f fd ps sp := by
  obtain ⟨oc, od, kV, doc, pm, an, cdv, ct, osl, rfl, lk, hcd⟩ := F.ex
  exact fn_of lk hcd S len fun A outer s H vs Q E hr hsp => hbody cdv A outer s H vs Q E hr hsp
/-- a callee's exceptions pass on -/
theorem passX {N : List Str} {qual : Str} {scope : Scope} {f : Addr} {cd : Value} {A : Around} {outer : List Env} {s : Shared} {H : Hp} {E : XK} :
    Passes (CXF P w) (cxOf (CXF P w) P w K mg base N qual scope f cd A outer s H E) E := passes xe_def rfl
end
end Fx
set_option Elab.async false
set_option maxRecDepth 100000
set_option maxHeartbeats 400000
namespace Fx
open PySem PySem.Spec PyProof.Rows L2

section
variable {X : Cx} {pins pins2 p' : List (Addr × Obj)} {σ : L2.St} {H : Hp} {s : Shared} {A' : Around} {c' : Bool} {E' : Value → Shared → Prop}
theorem inv_to (I : Inv X pins σ H s) (hd : c' = true → A'.handled = none) (hf : A'.frames = X.A.frames) (hp : ∀ p ∈ p' ++ pins2, p ∈ X.pn ++ pins) : Inv { X with A := A', calm := c', pn := p', xe := E' } pins2 σ H s :=
  ⟨⟨I.ok.mod, I.ok.kind, I.ok.glob, I.ok.blt, I.ok.above, I.ok.inj, I.ok.has, I.ok.cab, hd, hf.trans I.ok.frames, I.ok.stk, I.ok.exf, I.ok.bs, I.ok.bsz, I.ok.noex, I.ok.exfs, I.ok.funs, I.ok.frf⟩, I.os, I.bare, I.base, I.loc, I.cell, I.free, I.freeC, fun p h => I.pin p (hp p h), I.hok, I.len⟩
/-- .. and back -/
theorem inv_from (I : Inv { X with A := A', calm := c', pn := p', xe := E' } pins2 σ H s) (hd : X.calm = true → X.A.handled = none) (hf : X.A.frames = A'.frames) (hp : ∀ p ∈ X.pn ++ pins, p ∈ p' ++ pins2) : Inv X pins σ H s :=
  ⟨⟨I.ok.mod, I.ok.kind, I.ok.glob, I.ok.blt, I.ok.above, I.ok.inj, I.ok.has, I.ok.cab, hd, hf.trans I.ok.frames, I.ok.stk, I.ok.exf, I.ok.bs, I.ok.bsz, I.ok.noex, I.ok.exfs, I.ok.funs, I.ok.frf⟩, I.os, I.bare, I.base, I.loc, I.cell, I.free, I.freeC, fun p h => I.pin p (hp p h), I.hok, I.len⟩

/-- a local name is unbound -/
theorem unbind_ok {M : Model} {A : Around} {E : Value → Shared → Prop} {i : Nat} {n : Str} {v : V} {Q : Unit → Shared → Prop} (I : Inv X pins σ H s) (hN : X.N.Nodup) (hi : X.N[i]? = some n) (hl : X.env.scope.names.lookup n = some .local) (hv : σ[i]? = some (some v))
    (h : ∀ s', Inv X pins (σ.set i none) H s' → Q () s') : wpAny M A (unbindName X.env n) Q E s := by
  obtain ⟨m, hn, hlk⟩ := id I.loc
  obtain ⟨u, r, l⟩ := hlk i n v hi hv (.inl hl)
  have hm : m n = some u := by
    rcases l with ⟨_, e⟩ | ⟨k, _⟩
    · exact e
    · rcases k with k | k
      · have k' : X.env.scope.names.lookup n = some .cell := k
        rw [hl] at k'
        cases k'
      · have k' : X.env.scope.names.lookup n = some .free := k
        rw [hl] at k'
        cases k'
  have hiσ : i < σ.length := (List.getElem?_eq_some_iff.mp hv).1
  have cne := I.cne
  refine wpAny_unbindName_local hl hn hm (by rw [I.ok.kind]; rfl) fun h' w hn' sb => ?_
  obtain ⟨oL, _, _, hoL, _⟩ := id hn
  have up : ∀ {b : Addr} {o : Obj}, X.s_0.heap.get? b = some o → b ≠ X.env.locals := fun e => Nat.ne_of_lt (Nat.lt_of_lt_of_le (Heap.lt_size e) I.ok.above)
  have tr : HOk X.prog X.w H h' := fun b ob e => by
    refine (I.hok b ob e).stay (fun c w' hc q => (sb.2 c fun z => ?_).trans q) (fun _ q => q) fun _ _ q => q
    rw [z] at hc
    rcases hc with e1 | e1
    · rw [← e1, I.free] at e
      cases e
    · rw [I.free] at e1
      cases e1
  refine h _ ⟨I.ok, I.os, I.bare, ⟨fun b o e n hb hx => (sb.2 b (up e)).trans (I.base.keep b o e n hb hx), fun b o e n hb hx => ?_, I.base.free, fun b o e hx => ?_, I.base.tups, I.base.frzs, I.base.tbls⟩, ⟨_, hn', fun j y v' e1 e2 e3 => ?_⟩, fun y c e => ?_, I.free, I.freeC, fun p hp => ?_, tr, by simpa using I.len⟩
  · obtain ⟨sl, e1⟩ := I.base.slot b o e n hb hx
    exact ⟨sl, (sb.2 b (up e)).trans e1⟩
  · obtain ⟨o', e1⟩ := I.base.there b o e hx
    exact ⟨o', (sb.2 b (up e)).trans e1⟩
  · by_cases hj : j = i
    · subst hj
      rw [List.getElem?_set_self hiσ] at e2
      cases e2
    · rw [List.getElem?_set_ne (Ne.symm hj)] at e2
      obtain ⟨u', r', q⟩ := hlk j y v' e1 e2 e3
      refine ⟨u', r', ?_⟩
      rcases q with ⟨k, e⟩ | ⟨k, c, e, z⟩
      · refine .inl ⟨k, ?_⟩
        have ny : y ≠ n := fun z => hj (nodup_ix hN e1 (z ▸ hi))
        simp [ny, e]
      · exact .inr ⟨k, c, e, z.sameBut sb (cne y c e)⟩
  · obtain ⟨w', z⟩ := I.cell y c e
    exact ⟨w', z.sameBut sb (cne y c e)⟩
  · obtain ⟨e, n, ne, nf, d⟩ := I.pin p hp
    exact ⟨(sb.2 p.1 ne).trans e, n, ne, nf, d⟩

/-- behind the notes that a frame makes of an exception which it holds -/
theorem inv_noted {h' : Heap} {a : Addr} {d : Option Addr} {C : Value} {T : Option Addr} {vs' : Array Value} (I : Inv X pins σ H s) (ea : H a = some (exO a C d)) (hT : ∀ t, T = some t → FpOk X pins H t) (r1 : Rec h' a C d vs') (k : Kpt s.heap h' a T (frs X.stack)) : Inv X pins σ H { s with heap := h' } := by
  have nk : ∀ b, H b = none → b ≠ a := fun b n z => by rw [z, ea] at n; cases n
  have ntk : ∀ c u, H c = some u → T ≠ some c := fun c u q z => by rw [(hT c z).1] at q; cases q
  have nst : ∀ c u, H c = some u → c ∉ frs X.stack := fun c u q z => by rw [I.stkFree c z] at q; cases q
  refine I.call (h' := h') (g' := s.gens) (d' := s.drawn) (t' := s.toks) (ch := T.toList) ⟨fun b o q n hb hc => ?_, fun b o q n hb hc => ?_, fun _ _ _ n _ => n, fun b o q hc => ?_, fun _ _ q => q, fun _ _ _ q => q, fun b ps q => ⟨#[], by rw [q]; simp⟩⟩ (fun b u e => ?_) I.bare fun b hb => ?_
  · exact k.keep b o (nk b n) (fun z => hc (by rw [z]; simp)) hb q
  · exact k.slot b o (nk b n) (fun z => hc (by rw [z]; simp)) q
  · by_cases hb : b = a
    · obtain ⟨ob, g, _⟩ := r1
      exact ⟨ob, hb ▸ g⟩
    · obtain ⟨sl, e⟩ := k.slot b o hb (fun z => hc (by rw [z]; simp)) q
      exact ⟨_, e⟩
  · by_cases hb : b = a
    · subst hb
      rw [ea] at e
      cases e
      exact okO r1
    · refine (I.hok b u e).stay (fun c v hc q => ?_) (fun _ q => q) fun _ _ q => q
      rcases hc with rfl | hc
      · exact k.keep c v hb (ntk c u e) (nst c u e) q
      · exact k.keep c v (fun z => by rw [z, ea] at hc; cases hc) (ntk c _ hc) (nst c _ hc) q
  · have e : T = some b := by
      cases T with
      | none => simp at hb
      | some t => simp at hb; rw [hb]
    obtain ⟨f1, f2, f3, f4, f5, f6⟩ := hT b e
    exact ⟨f4, f2, f5, f6⟩
end
end Fx
set_option Elab.async false
set_option maxRecDepth 100000
set_option maxHeartbeats 400000
namespace Fx
open PySem PySem.Spec PyProof.Rows L2

/-- try: body; except C as n: suite (n stands in slot i). EB: the exceptions of the body -/
def sTry (C : Addr) (EB : XK) (i : Nat) (tb th : TS) : TS := fun D σ H => tb D σ H ∧ ∀ (σ' : L2.St) (H' : Hp) (a : Addr) (d : Option Addr), i < σ'.length → H' a = some (exO a (.ref C) d) → EB (.ref C) d H' →
  th { nx := fun σ2 H2 => D.nx (σ2.set i none) H2, rt := D.rt, bk := fun σ2 H2 => D.bk (σ2.set i none) H2, ct := fun σ2 H2 => D.ct (σ2.set i none) H2 } (σ'.set i (some (.ref a))) H'
section
variable {X : Cx} {C N fI : Addr} {EB : XK} {tb th : TS} {body suite : List Stmt} {b0 : Stmt} {x n : Str} {np hpos pos : Pos} {i : Nat}
theorem unb {pins : List (Addr × Obj)} {σ : L2.St} {H : Hp} {s : Shared} {Q : Unit → Shared → Prop} (I : Inv X pins σ H s) (hN : X.N.Nodup) (hi : X.N[i]? = some n) (hlo : X.env.scope.names.lookup n = some .local) (q : ∀ s', Inv X pins (σ.set i none) H s' → Q () s') :
    wpAny (model X.prog X.w) X.A (do bindName X.env n .none; unbindBehindTheSuite X.env n hpos) Q X.xe s := by
  refine wpAny_bind (wpAny_bindName (store_ok (v := .non) I hN hi (.inl hlo) rfl (fun s8 I9 => ?_) (.inr hlo)))
  unfold unbindBehindTheSuite
  have hlt : i < σ.length := by rw [I.len]; exact (List.getElem?_eq_some_iff.mp hi).1
  refine wpAny_onRaise (unbind_ok (v := .non) I9 hN hi hlo (List.getElem?_set_self hlt) fun s9 I10 => ?_)
  rw [List.set_set] at I10
  exact q s9 I10
theorem ps_try (hst : X.stack = X.env :: X.outer) (hL : X.env.frame = some X.env.locals) (XC : XCls X.K C N fI) (hg : Gl X x) (hm : X.mg x = some (.ref C)) (hN : X.N.Nodup) (hi : X.N[i]? = some n) (hlo : X.env.scope.names.lookup n = some .local)
    (hEB : ∀ c d H, EB c d H → c = .ref C) (hb : ∀ E' p', XE { X with pn := p', xe := E' } EB → PSs { X with pn := p', xe := E' } body tb)
    (hh : ∀ a E', PSs { X with A := X.A.mark (some (.ref a)), calm := false, xe := E' } (b0 :: suite) th) (hd : (x == ("__debug__" : Str)) = false := by decide) :
    PS X (.Try body [.ExceptHandler (some (.Name x np)) (some n) (b0 :: suite) hpos] [] [] pos) (sTry C EB i tb th) := by
  intro pins s σ H D I ⟨h1, h2⟩
  refine wpAny_Try_except ?_
  have xeb : XE { X with pn := X.pn ++ pins, xe := fun e s1 => wpAny (model X.prog X.w) X.A (noteFrame e X.env) (fun _ s2 => wpAny (model X.prog X.w) X.A (setFlight e none) (fun _ s3 => wpAny (model X.prog X.w) X.A (handleBy e X.env [.ExceptHandler (some (.Name x np)) (some n) (b0 :: suite) hpos]) (SP X pins D) X.xe s3) X.xe s2) X.xe s1 } EB := by
    intro pins' σ' H' s' a d Cv ⟨I', ea, na, vs, T, r1, r2, r3⟩ hE
    have e0 := hEB _ _ _ hE
    subst e0
    show wpAny (model X.prog X.w) X.A (noteFrame (.ref a) X.env) _ _ s'
    have fr : X.A.frames = some (X.env :: X.outer) := by rw [← hst]; exact I'.ok.frames
    have ff : s'.heap.FunFrames X.base (X.env :: X.outer) := by rw [← hst]; exact I'.stack
    refine note_ok (L := X.env.locals) fr ff hL r1 r2 fun g1 vs1 T1 q1 q2 q3 q4 => ?_
    have I1 := inv_noted I' ea r3 q1 (by show Kpt _ _ _ _ (frs X.stack); rw [hst]; exact q4)
    have fT := I'.fpOk q3 (I'.hok.fresh q3)
    refine flight_ok (s := { s' with heap := g1 }) q1 q2 fun g2 p1 p2 p3 p4 => ?_
    have I2 := inv_noted (T := some T1) I1 ea (fun t z => by cases z; exact fT) p1 ⟨fun b o _ n2 _ e => p3 b o (fun z => n2 (by rw [z])) e, fun b o _ n2 e => ⟨o.slots, p3 b o (fun z => n2 (by rw [z])) e⟩⟩
    have sub : ∀ p ∈ X.pn ++ pins, p ∈ (X.pn ++ pins) ++ pins' := fun p hp => List.mem_append_left _ hp
    refine wpAny_handleBy_cons (codeAny_handlers_test ?_) (by intro z; cases z)
    have I3 : Inv { X with A := X.A.mark (some (.ref a)), calm := false } pins σ' H' { s' with heap := g2 } := inv_to (p' := X.pn) (E' := X.xe) (inv_from (A' := X.A) (c' := X.calm) (pins := pins) I2 I.ok.hd rfl sub) (fun z => by cases z) rfl fun _ z => z
    refine ld_glob (X := { X with A := X.A.mark (some (.ref a)), calm := false }) I3 hg hm ?_ hd
    obtain ⟨nm, qn, bs, sn, sb, ab, col, dd, k0, k1, k2, k3, k5, eC⟩ := XC.obj
    have gC := I3.kIn _ _ eC
    obtain ⟨oe, ge, gc, gd, gv⟩ := id p1
    refine wpAny_excMatches_sub_self (h := g2) (g := s'.gens) (d := s'.drawn) (t := s'.toks) (os := s'.os) gC ge gc (by decide) ?_
    refine codeAny_handlers_suite_as ?_
    refine flight_ok (s := { s' with heap := g2 }) p1 p2 fun g3 o1 o2 o3 o4 => ?_
    have I4 := inv_noted (T := some T1) I2 ea (fun t z => by cases z; exact fT) o1 ⟨fun b o _ n2 _ e => o3 b o (fun z => n2 (by rw [z])) e, fun b o _ n2 e => ⟨o.slots, o3 b o (fun z => n2 (by rw [z])) e⟩⟩
    have I5 : Inv X pins σ' H' { s' with heap := g3 } := inv_from (A' := X.A) (c' := X.calm) (pins := pins) I4 I.ok.hd rfl sub
    refine store_ok (v := .ref a) I5 hN hi (.inl hlo) rfl (fun s6 I6 => ?_) (.inr hlo)
    have hlt : i < σ'.length := by rw [I'.len]; exact (List.getElem?_eq_some_iff.mp hi).1
    refine thn (hh a _ pins s6 _ H' _ (inv_to (p' := X.pn) I6 (fun z => by cases z) rfl fun _ z => z) (h2 σ' H' a d hlt ea hE)) fun f s7 q => ?_
    have bk : ∀ {σ7 : L2.St} {H7 : Hp} {E7 : Value → Shared → Prop}, Inv { X with A := X.A.mark (some (.ref a)), calm := false, xe := E7 } pins σ7 H7 s7 → Inv X pins σ7 H7 s7 := fun J => inv_from (p' := X.pn) J I.ok.hd rfl fun _ z => z
    cases f with
    | next =>
      obtain ⟨σ7, H7, I7, q7⟩ := q
      exact unb (bk I7) hN hi hlo fun s9 I9 => ⟨_, H7, I9, q7⟩
    | brk =>
      obtain ⟨σ7, H7, I7, q7⟩ := q
      exact unb (bk I7) hN hi hlo fun s9 I9 => ⟨_, H7, I9, q7⟩
    | cont =>
      obtain ⟨σ7, H7, I7, q7⟩ := q
      exact unb (bk I7) hN hi hlo fun s9 I9 => ⟨_, H7, I9, q7⟩
    | ret u =>
      obtain ⟨v, σ7, H7, I7, rv, q7⟩ := q
      exact unb (bk I7) hN hi hlo fun s9 I9 => ⟨v, _, H7, I9, rv, q7⟩
  have I0 : Inv { X with pn := X.pn ++ pins, xe := fun e s1 => wpAny (model X.prog X.w) X.A (noteFrame e X.env) (fun _ s2 => wpAny (model X.prog X.w) X.A (setFlight e none) (fun _ s3 => wpAny (model X.prog X.w) X.A (handleBy e X.env [.ExceptHandler (some (.Name x np)) (some n) (b0 :: suite) hpos]) (SP X pins D) X.xe s3) X.xe s2) X.xe s1 } [] σ H s :=
    inv_to (A' := X.A) (c' := X.calm) I I.ok.hd rfl fun p z => by simpa using z
  refine wpAny_mono (hb _ _ xeb [] s σ H D I0 h1) (fun f s1 q => ?_) fun e s1 z => z
  have bk : ∀ {σ7 : L2.St} {H7 : Hp} {E7 : Value → Shared → Prop}, Inv { X with pn := X.pn ++ pins, xe := E7 } [] σ7 H7 s1 → Inv X pins σ7 H7 s1 := fun J => inv_from (A' := X.A) (c' := X.calm) J I.ok.hd rfl fun p z => by simpa using z
  cases f with
  | next =>
    obtain ⟨σ7, H7, I7, q7⟩ := q
    exact wpAny_execs_nil ⟨σ7, H7, bk I7, q7⟩
  | brk =>
    obtain ⟨σ7, H7, I7, q7⟩ := q
    exact ⟨σ7, H7, bk I7, q7⟩
  | cont =>
    obtain ⟨σ7, H7, I7, q7⟩ := q
    exact ⟨σ7, H7, bk I7, q7⟩
  | ret u =>
    obtain ⟨v, σ7, H7, I7, rv, q7⟩ := q
    exact ⟨v, σ7, H7, bk I7, rv, q7⟩
end
end Fx
set_option Elab.async false
set_option maxRecDepth 100000
set_option maxHeartbeats 400000
namespace Fx
open PySem PySem.Spec PyProof.Rows L2

section
variable {prog : Program} {w : World} {A : Around} {R : Result → Shared → Prop} {J : Addr} {fp wr : List Addr} {n : Nat} {P : Nat → Value → Prop} {St : Nat → Heap → Prop}
theorem mx_loop (W : Walks prog w A.in1 J fp wr n P St) (val : Nat → Int) (hv : ∀ i v, P i v → ∃ t, v = .int (val i) t) (S : Addr) (hSf : S ∉ fp) (dv : Value) :
    ∀ (k j : Nat) (s : Shared) (m : Int) (tb : Tok) (c : Nat), n = j + 1 + k → St (j + 1) s.heap → (∃ i, i ≤ j ∧ val i = m) → (∀ i, i ≤ j → val i ≤ m) →
    s.heap.get? S = some { cls := .type "list", dict := none, data := .seq #[.int m tb, .int m tb] c, slots := #[] } →
    (∀ M t h' tk, (∃ i, i < n ∧ val i = M) → (∀ i, i < n → val i ≤ M) → (∀ b o, b ∉ wr → b ≠ S → s.heap.get? b = some o → h'.get? b = some o) → R (.ok (.ret (.int M t))) { s with heap := h', toks := tk }) →
    codeAny (model prog w) A (.builtin "max.loop" ⟨[.ref J, .none, .ref S], [("default", dv)]⟩) R s := by
  have nw : S ∉ wr := fun z => hSf (W.sub _ z)
  have nam : (toString "max" ++ toString ".loop" : String) = "max.loop" := by decide
  intro k
  induction k with
  | zero =>
    intro j s m tb c hn hst h1 h2 hS hR
    refine codeAny_builtin PySem.F.entry_max_loop ?_
    rw [Around.under_plainId PySem.F.plain_max_loop _]
    show wpAny _ A.in1 (seqItems? (.ref S) >>= _) _ _ s
    refine wpAny_bind (wpAny_seqItems hS rfl ?_)
    show wpAny _ A.in1 (tryCatch (pyNext (.ref J)) _ >>= _) _ _ s
    refine wpAny_bind (wpAny_tryCatch (W.done s _ _ ((show j + 1 = n by omega) ▸ hst) fun h' tk kp => ?_))
    have hS' := kp S _ nw hS
    show wpAny _ A.in1 (updateSeq S (fun _ => #[]) >>= _) _ _ _
    refine wpAny_bind (wpAny_updateSeq hS' rfl (wpAny_bind (wpAny_letGo (wpAny_pure ?_))))
    obtain ⟨i, hi, e⟩ := h1
    exact hR m tb _ tk ⟨i, by omega, e⟩ (fun i hi => h2 i (by omega)) fun b o hb hbS e => (Heap.get?_update_other _ _ (Ne.symm hbS)).trans (kp b o hb e)
  | succ k ih =>
    intro j s m tb c hn hst h1 h2 hS hR
    refine codeAny_builtin PySem.F.entry_max_loop ?_
    rw [Around.under_plainId PySem.F.plain_max_loop _]
    show wpAny _ A.in1 (seqItems? (.ref S) >>= _) _ _ s
    refine wpAny_bind (wpAny_seqItems hS rfl ?_)
    show wpAny _ A.in1 (tryCatch (pyNext (.ref J)) _ >>= _) _ _ s
    refine wpAny_bind (wpAny_tryCatch (W.item (j + 1) s _ _ (by omega) hst fun v h' tk hP hst' kp => ?_))
    obtain ⟨t, rfl⟩ := hv _ _ hP
    have hS' := kp S _ nw hS
    show wpAny _ A.in1 (tryCatch (holding [_, _] (richCompare .Gt _ _ >>= _)) _ >>= _) _ _ _
    refine wpAny_bind (wpAny_tryCatch (wpAny_holding (wpAny_bind (richCompare_gives (op := .Gt) (typeIs_int _ _ t) (typeIs_int _ _ tb) PySem.F.slot_int_gt PySem.F.entry_int_gt (PySem.F.args_int_gt_2 _ _) (gives_int_gt _ _ t tb) (fun x => nomatch x) ?_))))
    refine wpAny_bind (wpAny_holding (wpAny_truthy_bool ?_))
    refine wpAny_bind (wpAny_letGo (wpAny_pure ?_))
    by_cases hb : val (j + 1) > m
    · rw [if_pos (decide_eq_true hb)]
      refine wpAny_bind (wpAny_updateSeq hS' rfl (wpAny_bind (wpAny_letGo ?_)))
      rw [nam]
      refine wpAny_pure ⟨plainId_quiet PySem.F.plain_max_loop _, ih (j + 1) _ (val (j + 1)) t _ (by omega) (W.frame _ _ _ hst' fun b hf o e => ?_) ⟨j + 1, Nat.le_refl _, rfl⟩ (fun i hi => ?_) (Heap.get?_update_self _ hS' rfl) fun M t' h'' tk' p1 p2 p3 => ?_⟩
      · exact (Heap.get?_update_other _ _ (fun z : S = b => hSf (by rw [z]; exact hf))).trans e
      · by_cases z : i ≤ j
        · have := h2 i z
          omega
        · rw [show i = j + 1 by omega]
          exact Int.le_refl _
      · exact hR M t' h'' tk' p1 p2 fun b o hbw hbS e => p3 b o hbw hbS ((Heap.get?_update_other _ _ (Ne.symm hbS)).trans (kp b o hbw e))
    · rw [if_neg (by rw [decide_eq_false hb]; decide)]
      refine wpAny_bind (wpAny_letGo ?_)
      rw [nam]
      obtain ⟨i0, hi0, e0⟩ := h1
      refine wpAny_pure ⟨plainId_quiet PySem.F.plain_max_loop _, ih (j + 1) _ m tb c (by omega) hst' ⟨i0, by omega, e0⟩ (fun i hi => ?_) hS' fun M t' h'' tk' p1 p2 p3 => ?_⟩
      · by_cases z : i ≤ j
        · exact h2 i z
        · rw [show i = j + 1 by omega]
          omega
      · exact hR M t' h'' tk' p1 p2 fun b o hbw hbS e => p3 b o hbw hbS (kp b o hbw e)
/-- from the start: the list of the best is empty -/
theorem mx_first (W : Walks prog w A.in1 J fp wr n P St) (val : Nat → Int) (hv : ∀ i v, P i v → ∃ t, v = .int (val i) t) (S : Addr) (hSf : S ∉ fp) (dv : Value) {s : Shared} {c : Nat} (hst : St 0 s.heap)
    (hS : s.heap.get? S = some { cls := .type "list", dict := none, data := .seq #[] c, slots := #[] })
    (h0 : ∀ h' tk, n = 0 → (∀ b o, b ∉ wr → b ≠ S → s.heap.get? b = some o → h'.get? b = some o) → R (.ok (.ret dv)) { s with heap := h', toks := tk })
    (hR : ∀ M t h' tk, (∃ i, i < n ∧ val i = M) → (∀ i, i < n → val i ≤ M) → (∀ b o, b ∉ wr → b ≠ S → s.heap.get? b = some o → h'.get? b = some o) → R (.ok (.ret (.int M t))) { s with heap := h', toks := tk }) :
    codeAny (model prog w) A (.builtin "max.loop" ⟨[.ref J, .none, .ref S], [("default", dv)]⟩) R s := by
  have nw : S ∉ wr := fun z => hSf (W.sub _ z)
  have nam : (toString "max" ++ toString ".loop" : String) = "max.loop" := by decide
  refine codeAny_builtin PySem.F.entry_max_loop ?_
  rw [Around.under_plainId PySem.F.plain_max_loop _]
  show wpAny _ A.in1 (seqItems? (.ref S) >>= _) _ _ s
  refine wpAny_bind (wpAny_seqItems hS rfl ?_)
  show wpAny _ A.in1 (tryCatch (pyNext (.ref J)) _ >>= _) _ _ s
  by_cases hn : n = 0
  · refine wpAny_bind (wpAny_tryCatch (W.done s _ _ (hn.symm ▸ hst) fun h' tk kp => ?_))
    refine wpAny_bind (wpAny_rule (wpAny_pure ?_))
    exact h0 h' tk hn fun b o hb _ e => kp b o hb e
  · refine wpAny_bind (wpAny_tryCatch (W.item 0 s _ _ (by omega) hst fun v h' tk hP hst' kp => ?_))
    obtain ⟨t, rfl⟩ := hv _ _ hP
    have hS' := kp S _ nw hS
    show wpAny _ A.in1 (updateSeq S (fun _ => #[_, _]) >>= _) _ _ _
    refine wpAny_bind (wpAny_updateSeq hS' rfl ?_)
    rw [nam]
    refine wpAny_pure ⟨plainId_quiet PySem.F.plain_max_loop _, mx_loop W val hv S hSf dv (n - 1) 0 _ (val 0) t _ (by omega) (W.frame _ _ _ hst' fun b hf o e => ?_) ⟨0, Nat.le_refl _, rfl⟩ (fun i hi => by rw [show i = 0 by omega]; exact Int.le_refl _) (Heap.get?_update_self _ hS' rfl) fun M t' h'' tk' p1 p2 p3 => ?_⟩
    · exact (Heap.get?_update_other _ _ (fun z : S = b => hSf (by rw [z]; exact hf))).trans e
    · exact hR M t' h'' tk' p1 p2 fun b o hbw hbS e => p3 b o hbw hbS ((Heap.get?_update_other _ _ (Ne.symm hbS)).trans (kp b o hbw e))
end
theorem args_maxD (a d : Value) : argsOk "max" ⟨[a], [("default", d)]⟩ := by unfold argsOk; kernel_rfl
theorem bind_maxD (d : Value) : Builtin.Builtins.bindParams "max" ["key", "default"] 0 ⟨[], [("default", d)]⟩ = pure [none, some d] := by kernel_rfl
section
variable {prog : Program} {w : World} {A : Around} {E : Value → Shared → Prop} {s : Shared} {l : Addr} {xs : Array (Int × Tok)}
theorem call_maxD {dv : Value} {Q : Value → Shared → Prop} (hh : A.handled = none) (hl : s.heap.IsList l (intItems xs))
    (h0 : ∀ h' tk, xs.size = 0 → (∀ b o, s.heap.get? b = some o → h'.get? b = some o) → Q dv { s with heap := h', toks := tk })
    (h1 : ∀ M t h' tk, (∃ i, i < xs.size ∧ numAt xs i = M) → (∀ i, i < xs.size → numAt xs i ≤ M) → (∀ b o, s.heap.get? b = some o → h'.get? b = some o) → Q (.int M t) { s with heap := h', toks := tk }) :
    wpAny (model prog w) A (call (.builtin "max") [.ref l] [("default", dv)]) Q E s := by
  have nam : (toString "max" ++ toString ".loop" : String) = "max.loop" := by decide
  refine wpAny_call (codeAny_call_builtin PySem.F.plain_max PySem.F.entry_max ?_)
  have main : wpAny (model prog w) A.in1 (Builtin.«max» ⟨[.ref l], [("default", dv)]⟩) (fun fin s' => match fin with
      | .done f => (match (Except.ok f : Result) with | .ok (.ret v) => Q v s' | .ok _ => False | .error e => E e s')
      | .again c' => c'.quiet = true ∧ codeAny (model prog w) A c' (fun r s' => match r with | .ok (.ret v) => Q v s' | .ok _ => False | .error e => E e s') s') E s := by
    show wpAny _ A.in1 (Builtin.Builtins.bindParams "max" ["key", "default"] 0 ⟨[], [("default", dv)]⟩ >>= _) _ _ s
    rw [bind_maxD]
    refine wpAny_bind (wpAny_pure (wpAny_bind (wpAny_pure (wpAny_bind ?_))))
    refine iter_intList hl fun s2 e st hfp hlI => ?_
    refine wpAny_bind (wpAny_newObj_type ?_)
    have hSf : s2.heap.objs.size ∉ [s.heap.objs.size, l] := fun z => Nat.lt_irrefl _ (hfp _ z)
    rw [nam]
    have W := Walks.list (prog := prog) (w := w) (A := A.in1) hh s.heap.objs.size l hlI (intItems xs)
    have old : ∀ {h' : Heap}, (∀ b o, b ∉ [s.heap.objs.size] → b ≠ s2.heap.objs.size → (s2.heap.push { cls := .type "list", data := .seq #[] }).get? b = some o → h'.get? b = some o) → ∀ b o, s.heap.get? b = some o → h'.get? b = some o := fun {h'} kp b o g => by
      subst e
      refine kp b o (fun z => ?_) (fun z => ?_) (Heap.get?_push_of_some _ (Heap.get?_push_of_some _ g))
      · rw [List.mem_singleton] at z
        exact absurd (z ▸ Heap.lt_size g) (Nat.lt_irrefl _)
      · have lt : (s.heap.push { cls := .type "list_iterator", data := .fields #[.ref l, .int 0 0] }).objs.size < s.heap.objs.size := z ▸ Heap.lt_size g
        rw [Heap.size_push] at lt
        omega
    refine wpAny_pure ⟨plainId_quiet PySem.F.plain_max_loop _, mx_first W (numAt xs) (fun i v z => intItems_at z) s2.heap.objs.size hSf dv (W.frame _ _ _ st fun b _ o g => Heap.get?_push_of_some _ g) (Heap.get?_push_size _ rfl) (fun h' tk hn kp => ?_) fun M t h' tk p1 p2 p3 => ?_⟩
    · subst e
      exact h0 h' tk (by simpa [intItems] using hn) (old kp)
    · subst e
      have sz : (intItems xs).size = xs.size := by simp [intItems]
      rw [sz] at p1 p2
      exact h1 M t h' tk p1 p2 (old p3)
  simp only [checkBuiltinCall, PySem.F.kind_max]
  cases hsig : Manifest.signature? "max" with
  | none => exact wpAny_pure main
  | some sig =>
    have ha := args_maxD (.ref l) dv
    simp only [argsOk, hsig] at ha
    show wpAny _ A.in1 (Bind.checkArgs "max" sig ⟨[.ref l], [("default", dv)]⟩) _ _ s
    rw [show Bind.checkArgs "max" sig ⟨[.ref l], [("default", dv)]⟩ = pure () from ha]
    exact wpAny_pure main
end
/-- max(xs, default = d) of a list of ints -/
def tMaxD (K : PySem.W.Frag) (te td : TE) : TE := fun σ H Q => te σ H fun x H1 => td σ H1 fun y H2 => ∃ (a : Addr) (ns : List Int) (d : Int), x = .ref a ∧ y = .int d ∧ SqL K H2 a (ns.map V.int) ∧ (ns = [] → Q (.int d) H2) ∧ ∀ m, m ∈ ns → (∀ z, z ∈ ns → z ≤ m) → Q (.int m) H2
theorem vals_intItems : ∀ {ns : List Int} {us : List Value}, Vals (ns.map V.int) us → ∃ ps : List (Int × Tok), us = ps.map (fun p => Value.int p.1 p.2) ∧ ps.map (·.1) = ns
  | [], _, .nil => ⟨[], rfl, rfl⟩
  | n :: ns, _, .cons r t => by
    obtain ⟨tk, rfl⟩ := r
    obtain ⟨ps, e1, e2⟩ := vals_intItems t
    exact ⟨(n, tk) :: ps, by rw [e1]; rfl, by rw [← e2]; rfl⟩
theorem pe_maxD {X : Cx} {e dflt : Expr} {te td : TE} {p pos kpos : Pos} (hc : X.calm = true) (hg : Gl X "max") (hm : X.mg "max" = none) (he : PE X e te) (hd : PE X dflt td)
    (h1 : backTo pos (starEach [e] X.env) = (false, eval e X.env) :: backTo pos (starEach [] X.env) := by rfl) (h2 : (backTo pos (starEach [e] X.env)).any (·.1) = false := by rfl) :
    PE X (.Call (.Name "max" p) [e] [⟨some "default", dflt, kpos⟩] pos) (tMaxD X.K te td) := by
  intro pins s σ H Q I h
  refine wpAny_Call_Name_kw (ld_blt I hg hm PyProof.Rows.boot_max ?_)
  refine callWith_kw ?_ h1 h2
  rw [h1]
  refine Calls.spliced_cons (thn (he pins s σ H _ I h) fun u s1 ⟨x, H1, I1, rx, q1⟩ => Calls.spliced_nil ?_)
  refine kws_cons (thn (hd pins s1 σ H1 _ I1 q1) fun w2 s2 ⟨y, H2, I2, ry, a, ns, d, ex, ey, hs, q0, q2⟩ => kws_nil ?_)
  subst ex ey
  obtain rfl : u = Value.ref a := rx
  obtain ⟨t, rfl⟩ := (show ∃ t, w2 = Value.int d t from ry)
  obtain ⟨its, rv, hl, _⟩ := I2.list hs
  obtain ⟨ps, rfl, rfl⟩ := vals_intItems rv
  have hl' : s2.heap.IsList a (intItems ps.toArray) := by
    have z := hl.isList
    simpa [intItems] using z
  show wpAny _ _ (call (.builtin "max") [.ref a] [("default", .int d t)]) _ _ s2
  have num : ∀ i, i < ps.length → ∃ m, (ps.map (·.1))[i]? = some m ∧ numAt ps.toArray i = m := fun i hi => ⟨(ps[i]).1, by simp [hi], by simp [numAt, hi]⟩
  refine call_maxD (I2.ok.hd hc) hl' (fun h' tk hn kp => ?_) fun M t' h' tk p1 p2 kp => ?_
  · refine ⟨.int d, H2, I2.kept kp, ⟨t, rfl⟩, q0 ?_⟩
    have : ps = [] := List.eq_nil_of_length_eq_zero (by simpa using hn)
    rw [this]
    rfl
  · refine ⟨.int M, H2, I2.kept kp, ⟨t', rfl⟩, q2 M ?_ fun z hz => ?_⟩
    · obtain ⟨i, hi, e1⟩ := p1
      obtain ⟨m, g1, g2⟩ := num i (by simpa using hi)
      rw [← e1, g2]
      exact List.mem_of_getElem? g1
    · obtain ⟨i, g⟩ := List.getElem?_of_mem hz
      have hi : i < ps.length := by
        have := (List.getElem?_eq_some_iff.mp g).1
        simpa using this
      obtain ⟨m, g1, g2⟩ := num i hi
      rw [g] at g1
      cases g1
      rw [← g2]
      exact p2 i (by simpa using hi)
end Fx
set_option Elab.async false
set_option maxRecDepth 100000
set_option maxHeartbeats 400000
namespace Fx
open PySem PySem.Spec PyProof.Rows L2

/-! d.values() of a locked dict whose keys are tuples: by its entries -/
section
variable {prog : Program} {w : World} {A : Around} {E : Value → Shared → Prop} {s : Shared} {d it v : Addr} {o : Obj} {es : Array DictEntry} {ep i n : Nat}
theorem vw_make (hs : (d == sysModules) = false) : MeetsIn prog w (Builtin.«dict.values» ⟨[.ref d], []⟩) (fun _ R s => s.TypeIs (.ref d) "dict" ∧ R (.ok (.ret (.ref s.heap.objs.size))) { s with heap := s.heap.push { cls := .type "dict_values", data := .fields #[.ref d] } }) :=
  .of_wp fun A R s ⟨hT, h⟩ => by
  refine wpAny_bind ?_
  unfold Builtin.Dict.noArgs
  refine wpAny_bind (wpAny_notOrdered_dict hT ?_)
  show wpAny _ _ (pure d) _ _ s
  refine wpAny_pure ?_
  show wpAny _ _ (Builtin.Dict.showsAll d >>= _) _ _ s
  unfold Builtin.Dict.showsAll
  rw [if_neg (by rw [hs]; exact Bool.false_ne_true)]
  exact wpAny_bind (wpAny_pure (wpAny_bind (wpAny_newObj_type (wpAny_pure ⟨_, rfl, h⟩))))
theorem vw_iter {Q : Value → Shared → Prop} (hv : s.heap.IsValuesView v d) (ho : s.heap.get? d = some o) (hdat : o.data = .dict es ep)
    (hQ : Q (.ref s.heap.objs.size) { s with heap := s.heap.push { cls := .type "dict_valueiterator", data := .fields #[.ref d, .int 0 0, .int es.size 0, .int ep 0] } }) : wpAny (model prog w) A (pyIter (.ref v)) Q E s := by
  obtain ⟨ov, gv, cv, dv⟩ := id hv
  refine wpAny_pyIter_slot hv.typeIs PySem.F.slot_dict_values_iter (wpAny_call_entry PySem.F.slot_dict_values_iter hv.typeIs PySem.F.entry_dict_values_iter ?_ (PySem.F.args_dict_values_iter_1 _))
  unfold Builtin.«dict_values.__iter__»
  refine wpAny_bind (wpAny_pure (wpAny_bind ?_))
  unfold Builtin.Dict_items.dictOf
  refine wpAny_bind (wpAny_field gv dv (x := .ref d) rfl (wpAny_pure (wpAny_bind ?_)))
  unfold Builtin.Dict_items.newIterator
  refine wpAny_bind (wpAny_dictEntries ho hdat (wpAny_bind (wpAny_dictEpoch ho hdat ?_)))
  have own : Builtin.Dict_items.ownsTuple "dict_valueiterator" = false := by decide
  simp only [own, Bool.false_eq_true, if_false]
  refine wpAny_newObj_type (wpAny_pure ⟨_, rfl, "dict_valueiterator", _, ⟨_, Heap.get?_push_size _ rfl, rfl⟩, PySem.F.slot_dict_valueiterator_next.lookup, ?_⟩)
  simpa [rawInt] using hQ
theorem vw_item {en : DictEntry} {Q : Option Value → Shared → Prop} (hit : s.heap.IsValIter it d i n ep) (ho : s.heap.get? d = some o) (hdat : o.data = .dict es ep) (hsz : es.size = n) (hx : es[i]? = some en)
    (hQ : ∀ h', h'.IsValIter it d (i + 1) n ep → Heap.SameBut it s.heap h' → Q (some en.val) { s with heap := h' }) : wpAny (model prog w) A (pyNext (.ref it)) Q E s := by
  obtain ⟨oi, gi, ci, di⟩ := id hit
  unfold pyNext
  refine wpAny_bind (wpAny_attempt (wpAny_callSpecial?_slot (name := Str.ofString "__next__") hit.typeIs PySem.F.slot_dict_valueiterator_next (wpAny_call_entry PySem.F.slot_dict_valueiterator_next hit.typeIs PySem.F.entry_dict_valueiterator_next ?_ (PySem.F.args_dict_valueiterator_next_1 _))))
  refine wpAny_bind (wpAny_pure (wpAny_bind (wpAny_bind ?_)))
  first | refine wpAny_bind (wpAny_typeNameOfWhole_valiter hit.typeIs (wpAny_pure ?_)) | refine wpAny_bind (wpAny_typeNameOf_valiter hit.typeIs (wpAny_pure ?_))
  refine wpAny_bind (wpAny_fieldsOf gi di ?_)
  have own : Builtin.Dict_items.ownsTuple "dict_valueiterator" = false := by decide
  simp only [own, Bool.false_eq_true, if_false]
  show wpAny _ _ (if (Value.ref d == Value.none) = true then _ else _) _ _ s
  rw [if_neg (show ¬ ((Value.ref d == Value.none) = true) from Bool.false_ne_true)]
  refine wpAny_bind (wpAny_pure (wpAny_bind (wpAny_dictEntries ho hdat ?_)))
  rw [if_neg (by rw [hsz]; simp)]
  refine wpAny_bind (wpAny_pure (wpAny_bind (wpAny_dictEpoch ho hdat ?_)))
  rw [if_neg (by simp)]
  refine wpAny_pure ?_
  obtain ⟨lt, hen⟩ := Array.getElem?_eq_some_iff.mp hx
  simp only [show ¬ ((i : Int) < 0) from by omega, if_false, Int.toNat_natCast, Array.getElem?_eq_getElem lt]
  refine wpAny_bind ?_
  first | refine wpAny_bind (wpAny_typeNameOfWhole_valiter hit.typeIs (wpAny_pure ?_)) | refine wpAny_bind (wpAny_typeNameOf_valiter hit.typeIs (wpAny_pure ?_))
  refine wpAny_bind (wpAny_isOneOf_valiter hit.typeIs ?_)
  show wpAny _ _ (setField (.ref it) 1 (rawInt ((i : Int) + 1)) >>= _) _ _ s
  refine wpAny_bind (wpAny_setField gi di (by simp) ?_)
  have it2 : (s.heap.update it (Obj.mapFields (·.setIfInBounds 1 (rawInt ((i : Int) + 1))))).IsValIter it d (i + 1) n ep := ⟨_, Heap.get?_update_self _ gi (Obj.isFreed_of_fields (Obj.data_mapFields di _)), (Obj.cls_mapFields ..).trans ci, by rw [Obj.data_mapFields di]; simp [rawInt]⟩
  refine wpAny_bind (wpAny_holding ?_)
  refine wpAny_bind (wpAny_isOneOf_valiter (s := { s with heap := s.heap.update it (Obj.mapFields (·.setIfInBounds 1 (rawInt ((i : Int) + 1)))) }) it2.typeIs (wpAny_bind (wpAny_isOneOf_valiter (s := { s with heap := s.heap.update it (Obj.mapFields (·.setIfInBounds 1 (rawInt ((i : Int) + 1)))) }) it2.typeIs ?_)))
  show wpAny _ _ (pure es[i].val) _ _ _
  rw [hen]
  exact wpAny_pure (wpAny_pure ⟨_, rfl, wpAny_pure (hQ _ it2 (Heap.SameBut.update ..))⟩)
theorem vw_end {Q : Option Value → Shared → Prop} (hh : A.handled = none) (hit : s.heap.IsValIter it d i n ep) (ho : s.heap.get? d = some o) (hdat : o.data = .dict es ep) (hsz : es.size = n) (hge : n ≤ i)
    (hQ : ∀ h', Heap.ExtBut it s.heap h' → Q none { s with heap := h' }) : wpAny (model prog w) A (pyNext (.ref it)) Q E s := by
  obtain ⟨oi, gi, ci, di⟩ := id hit
  unfold pyNext
  refine wpAny_bind (wpAny_attempt (wpAny_callSpecial?_slot (name := Str.ofString "__next__") hit.typeIs PySem.F.slot_dict_valueiterator_next (wpAny_call_entry PySem.F.slot_dict_valueiterator_next hit.typeIs PySem.F.entry_dict_valueiterator_next ?_ (PySem.F.args_dict_valueiterator_next_1 _))))
  refine wpAny_bind (wpAny_pure (wpAny_bind (wpAny_bind ?_)))
  first | refine wpAny_bind (wpAny_typeNameOfWhole_valiter hit.typeIs (wpAny_pure ?_)) | refine wpAny_bind (wpAny_typeNameOf_valiter hit.typeIs (wpAny_pure ?_))
  refine wpAny_bind (wpAny_fieldsOf gi di ?_)
  have own : Builtin.Dict_items.ownsTuple "dict_valueiterator" = false := by decide
  simp only [own, Bool.false_eq_true, if_false]
  show wpAny _ _ (if (Value.ref d == Value.none) = true then _ else _) _ _ s
  rw [if_neg (show ¬ ((Value.ref d == Value.none) = true) from Bool.false_ne_true)]
  refine wpAny_bind (wpAny_pure (wpAny_bind (wpAny_dictEntries ho hdat ?_)))
  rw [if_neg (by rw [hsz]; simp)]
  refine wpAny_bind (wpAny_pure (wpAny_bind (wpAny_dictEpoch ho hdat ?_)))
  rw [if_neg (by simp)]
  refine wpAny_pure ?_
  have ge' : es.size ≤ i := by rw [hsz]; exact hge
  simp only [show ¬ ((i : Int) < 0) from by omega, if_false, Int.toNat_natCast, Array.getElem?_eq_none ge']
  refine wpAny_bind ?_
  first | refine wpAny_bind (wpAny_typeNameOfWhole_valiter hit.typeIs (wpAny_pure ?_)) | refine wpAny_bind (wpAny_typeNameOf_valiter hit.typeIs (wpAny_pure ?_))
  show wpAny _ _ (setField (.ref it) 0 .none >>= _) _ _ s
  refine wpAny_bind (wpAny_setField gi di (by simp) ?_)
  show wpAny _ _ (newExc (.type "StopIteration") [] >>= _) _ _ _
  refine wpAny_bind ?_
  simp only [newExc, newTuple]
  refine wpAny_bind (wpAny_newObj_type ?_ (by size_fits))
  refine wpAny_bind (m := firstArgMember _ _) (wpAny_of_eq (a := Value.none) (by first | rfl | (simp only [firstArgMember]; rfl)) ?_)
  refine wpAny_newObj_type ?_ (by size_fits)
  simp only [raiseNew]
  refine wpAny_bind (wpAny_handled ?_)
  rw [show A.in1.handled = none from hh]
  refine wpAny_bind (wpAny_pure (wpAny_throw ?_))
  refine wpAny_bind (wpAny_isInstance (T := "StopIteration") (b := true) ⟨_, Heap.get?_push_size _ rfl, rfl⟩ isSubtype_stop ?_)
  exact wpAny_pure (hQ _ (((Heap.SameBut.update ..).extBut.push _).push _))
end
/-- the values of the locked dict at d -/
def Itdt (d : Addr) (o : Obj) (kvs : List (List Key × V)) : It :=
  ⟨fun i H => H d = some (.frz o (.dT kvs)) ∧ i < kvs.length, fun i H x H' => H' = H ∧ ∃ k, kvs[i]? = some (k, x), fun i H => H d = some (.frz o (.dT kvs)) ∧ kvs.length ≤ i⟩
section
variable {X : Cx} {pins : List (Addr × Obj)} {σ : L2.St} {H : Hp} {s : Shared} {d : Addr} {o : Obj}
theorem frzTv {kvs : List (List Key × V)} (I : Inv X pins σ H s) (h : H d = some (.frz o (.dT kvs))) :
    (d == sysModules) = false ∧ s.heap.get? d = some o ∧ o.ExactDict ∧ ∃ (es : Array DictEntry) (ep : Nat), o.data = .dict es ep ∧ es.size = kvs.length ∧
      ∀ (i : Nat) (k : List Key) (v : V), kvs[i]? = some (k, v) → ∃ en : DictEntry, es[i]? = some en ∧ RelV v en.val := by
  obtain ⟨hd, z, hs, xs, pr, o', es, ep, ho, hx, hdt, he, _⟩ := I.hok d _ h
  rw [hd] at ho
  cases ho
  refine ⟨hs, hd, hx, es, ep, hdt, ?_, fun i k v e => ?_⟩
  · have l1 : es.size = xs.length := size_of_entries he
    have l2 : kvs.length = xs.length := Paired.length pr
    omega
  · obtain ⟨b, hb, e1, e2, e3⟩ := paired_get pr e
    have q := entry_at he i
    rw [hb] at q
    exact ⟨_, q, e3⟩
end
theorem turn_valsT {P : Program} {w : World} {K : PySem.W.Frag} {tg : Expr} {d : Addr} {o : Obj} {es : Array DictEntry} {ep : Nat} {kvs : List (List Key × V)} (it : Addr) (hod : o.data = .dict es ep) : Turn P w K tg (Itdt d o kvs) [it] it (fun i h => h.IsValIter it d i kvs.length ep) where
  mem := by simp
  obj := fun i h st b hb => by
    have e : b = it := by simpa using hb
    subst e
    obtain ⟨oi, e, c, dd⟩ := st
    exact ⟨oi, e, fun v z => by rw [dd] at z; cases z⟩
  keep := fun i h h' st k => st.at fun oi e => k it (by simp) oi e
  item := by
    intro X hP hw hK hc i pins s σ H E I hf st hg
    subst hP hw hK
    obtain ⟨hd, hi⟩ := hg
    obtain ⟨f0, f1, f2, f3, f4, f5⟩ := hf it (by simp)
    obtain ⟨hs, hgd, hx, es', ep', hdt, hsz, ent⟩ := frzTv I hd
    obtain ⟨rfl, rfl⟩ := dict_ep hod hdt
    obtain ⟨⟨k, v⟩, hkv⟩ : ∃ p, kvs[i]? = some p := ⟨kvs[i], List.getElem?_eq_getElem hi⟩
    obtain ⟨en, he, ru⟩ := ent i k v hkv
    refine vw_item st hgd hdt hsz he fun h' st' sb => ?_
    have I1 : Inv X pins σ H { s with heap := h' } := I.turned (t' := s.toks) (fun b ob hb e => (sb.2 b hb).trans e) f0 f1 f3 f4 f5
    obtain ⟨oi, e, c, dd⟩ := id st'
    exact ⟨en.val, rfl, go_of (s := { s with heap := h' }) e c dd (by decide) ⟨v, H, I1, ru, ⟨rfl, k, hkv⟩, st', fun b hb => (hf b hb).1⟩⟩
  done := by
    intro X hP hw hK hc i pins s σ H E I hf st hg
    subst hP hw hK
    obtain ⟨hd, hi⟩ := hg
    obtain ⟨f0, f1, f2, f3, f4, f5⟩ := hf it (by simp)
    obtain ⟨hs, hgd, hx, es', ep', hdt, hsz, ent⟩ := frzTv I hd
    obtain ⟨rfl, rfl⟩ := dict_ep hod hdt
    exact vw_end (I.ok.hd hc) st hgd hdt hsz hi fun h' eb => ⟨rfl, I.turned (t' := s.toks) (fun b ob hb e => eb b ob hb e) f0 f1 f3 f4 f5⟩
  self := fun A i s Q E st h => wpAny_pyIter_valiter st h
def iValsT (td : TE) : TI := fun σ H R => td σ H fun x H1 => ∃ d o kvs, x = .ref d ∧ H1 d = some (.frz o (.dT kvs)) ∧ R (Itdt d o kvs) H1
theorem pi_valuesT {X : Cx} {tg e : Expr} {td : TE} {apos cpos : Pos} (he : PE X e td) (hbase : attributeBase e "values" X.env (eval e X.env) = eval e X.env := by rfl) (hline : (apos.endLine == cpos.line) = true := by rfl) : PI X tg (.Call (.Attribute e "values" apos) [] [] cpos) (iValsT td) := by
  intro pins s σ H R I h
  refine wpAny_Call_method (T := "dict") (id := "dict.values") hbase rfl hline PySem.F.plainAttrs_dict PySem.F.slot_dict_values PySem.F.type_dict_values (thn (he pins s σ H _ I h) fun u s1 ⟨x, H1, I1, rx, d, o, kvs, ex, hd, q⟩ => ?_)
  subst ex
  obtain rfl : u = Value.ref d := rx
  obtain ⟨hs, hgd, hx, es, ep, hdt, hsz, ent⟩ := frzTv I1 hd
  have hT : s1.TypeIs (.ref d) "dict" := ⟨o, hgd, hx.1⟩
  refine ⟨hT, fun b z => (by cases z; exact ⟨o, hgd, hx.2.1⟩), ?_⟩
  have I2 : Inv X pins σ H1 { s1 with heap := s1.heap.push { cls := .type "dict_values", data := .fields #[.ref d] } } := I1.kept (t' := s1.toks) fun b ob q => Heap.get?_push_of_some _ q
  have fin : wpAny (model X.prog X.w) X.A (pyIter (.ref s1.heap.objs.size)) (PIE X pins σ tg R) X.xe { s1 with heap := s1.heap.push { cls := .type "dict_values", data := .fields #[.ref d] } } := by
    refine vw_iter (d := d) ⟨_, Heap.get?_push_size _ rfl, rfl, rfl⟩ (Heap.get?_push_of_some _ hgd) hdt (pi_one (tk := s1.toks) I2 _ (turn_valsT _ hdt) ⟨_, Heap.get?_push_size _ rfl, rfl, ?_⟩ q)
    rw [hsz] <;> rfl
  show wpAny _ _ (callWith cpos (.builtin "dict.values") [.ref d] [] []) _ X.xe s1
  exact method_meetsIn PySem.F.slot_dict_values PySem.F.entry_dict_values rfl (PySem.evalArgs_none ⟨rfl, hT, PySem.F.args_dict_values_1 _, _, vw_make hs, hT, fin⟩)
end Fx
set_option Elab.async false
set_option maxRecDepth 100000
set_option maxHeartbeats 400000
set_option linter.all false
namespace Fx
open PySem PySem.Spec PyProof.Rows L2
/-! len(d) of a dict whose keys are tuples -/
section
variable {prog : Program} {w : World} {A : Around} {E : Value → Shared → Prop} {s : Shared} {d : Addr}
theorem len_raw (hd : (d == sysModules) = false) : MeetsIn prog w (Builtin.«dict.__len__» ⟨[.ref d], []⟩) (fun _ R s => ∃ (o : Obj) (es : Array DictEntry) (ep : Nat), s.heap.get? d = some o ∧ o.data = .dict es ep ∧ R (.ok (.ret (.int es.size s.toks))) { s with toks := s.toks + 1 }) :=
  .of_wp fun A R s ⟨o, es, ep, ho, hdat, h⟩ => by
    show wpAny _ _ (dictSize d >>= _) _ _ s
    unfold dictSize
    refine wpAny_bind (wpAny_bind (wpAny_dictEntries ho hdat (wpAny_pure ?_)))
    show wpAny _ _ (Builtin.Dict.pendingCount d >>= _) _ _ s
    refine wpAny_bind (wpAny_pendingCount_other hd ?_)
    refine wpAny_ret_mkInt ?_
    rw [Nat.add_zero]
    exact h
theorem len_call {o : Obj} {es : Array DictEntry} {ep : Nat} {Q : Value → Shared → Prop} (hd : (d == sysModules) = false) (hT : s.TypeIs (.ref d) "dict") (ho : s.heap.get? d = some o) (hdat : o.data = .dict es ep) (hfit : (es.size : Int) < 2 ^ 63)
    (h : Q (.int es.size (s.toks + 1)) { s with toks := s.toks + 1 + 1 }) : wpAny (model prog w) A (call (.builtin "len") [.ref d]) Q E s := by
  refine Calls.call_function_entry kind_len plain_len entry_len (args_len1 _) ?_
  unfold Builtin.«len»
  refine wpAny_bind (m := oneArg "len" _) (wpAny_pure ?_)
  refine wpAny_bind (m := callSpecial? (.ref d) (Str.ofString "__len__")) (wpAny_callSpecial?_slot (name := Str.ofString "__len__") hT F.slot_dict_len
    (call_meetsIn F.slot_dict_len hT F.entry_dict_len (F.args_dict_len_1 _) (len_raw hd) ⟨o, es, ep, ho, hdat, ?_⟩))
  show wpAny _ _ _ _ _ { s with toks := s.toks + 1 }
  refine wpAny_bind (wpAny_holding (wpAny_pure ?_))
  refine wpAny_bind (wpAny_letGo ?_)
  show wpAny _ _ (if ((es.size : Nat) : Int) < 0 then _ else _) _ _ _
  rw [if_neg (by omega)]
  show wpAny _ _ (if ((es.size : Nat) : Int) ≥ 2 ^ 63 then _ else _) _ _ _
  rw [if_neg (by omega)]
  exact wpAny_bind (wpAny_mkInt (wpAny_pure ⟨_, rfl, h⟩))
end
theorem call_lenT {X : Cx} : CallR X (.builtin "len") (fun xs H Q => ∃ (a : Addr) (kvs : List (List Key × V)), xs = [V.ref a] ∧ H a = some (.dT kvs) ∧ Q (.int kvs.length) H) := by
  intro pins s σ H xs us Q I r h
  obtain ⟨a, kvs, rfl, ha, q⟩ := h
  obtain ⟨u, rfl, ru⟩ := vals1 r
  cases ru
  obtain ⟨hz, hs, ys, pr, o, es, ep, ho, hx, hdt, he, _⟩ := (show ObjOk X.prog X.w H s.heap a (.dT kvs) from I.hok a _ ha)
  have l1 : es.size = ys.length := size_of_entries he
  have l2 : kvs.length = ys.length := Paired.length pr
  have e : es.size = kvs.length := by omega
  rw [sizeLine_eq] at hz
  refine len_call hs ⟨o, ho, hx.1⟩ ho hdt (by omega) ?_
  rw [e]
  exact ⟨.int kvs.length, H, I.tok _, ⟨_, rfl⟩, q⟩
end Fx
set_option Elab.async false
set_option maxRecDepth 100000
set_option maxHeartbeats 400000
set_option linter.all false
namespace Fx
open PySem PySem.Spec PyProof.Rows L2
/-- try: body; except C: suite -/
def sTry0 (C : Addr) (EB : XK) (tb th : TS) : TS := fun D σ H => tb D σ H ∧ ∀ (σ' : L2.St) (H' : Hp) (a : Addr) (d : Option Addr), H' a = some (exO a (.ref C) d) → EB (.ref C) d H' → th D σ' H'
section
variable {X : Cx} {C N fI : Addr} {EB : XK} {tb th : TS} {body suite : List Stmt} {b0 : Stmt} {x : Str} {np hpos pos : Pos}
theorem ps_try0 (hst : X.stack = X.env :: X.outer) (hL : X.env.frame = some X.env.locals) (XC : XCls X.K C N fI) (hg : Gl X x) (hm : X.mg x = some (.ref C))
    (hEB : ∀ c d H, EB c d H → c = .ref C) (hb : ∀ E' p', XE { X with pn := p', xe := E' } EB → PSs { X with pn := p', xe := E' } body tb)
    (hh : ∀ a E', PSs { X with A := X.A.mark (some (.ref a)), calm := false, xe := E' } (b0 :: suite) th) (hd : (x == ("__debug__" : Str)) = false := by decide) :
    PS X (.Try body [.ExceptHandler (some (.Name x np)) none (b0 :: suite) hpos] [] [] pos) (sTry0 C EB tb th) := by
  intro pins s σ H D I ⟨h1, h2⟩
  refine wpAny_Try_except ?_
  have xeb : XE { X with pn := X.pn ++ pins, xe := fun e s1 => wpAny (model X.prog X.w) X.A (noteFrame e X.env) (fun _ s2 => wpAny (model X.prog X.w) X.A (setFlight e none) (fun _ s3 => wpAny (model X.prog X.w) X.A (handleBy e X.env [.ExceptHandler (some (.Name x np)) none (b0 :: suite) hpos]) (SP X pins D) X.xe s3) X.xe s2) X.xe s1 } EB := by
    intro pins' σ' H' s' a d Cv ⟨I', ea, na, vs, T, r1, r2, r3⟩ hE
    have e0 := hEB _ _ _ hE
    subst e0
    show wpAny (model X.prog X.w) X.A (noteFrame (.ref a) X.env) _ _ s'
    have fr : X.A.frames = some (X.env :: X.outer) := by rw [← hst]; exact I'.ok.frames
    have ff : s'.heap.FunFrames X.base (X.env :: X.outer) := by rw [← hst]; exact I'.stack
    refine note_ok (L := X.env.locals) fr ff hL r1 r2 fun g1 vs1 T1 q1 q2 q3 q4 => ?_
    have I1 := inv_noted I' ea r3 q1 (by show Kpt _ _ _ _ (frs X.stack); rw [hst]; exact q4)
    have fT := I'.fpOk q3 (I'.hok.fresh q3)
    refine flight_ok (s := { s' with heap := g1 }) q1 q2 fun g2 p1 p2 p3 p4 => ?_
    have I2 := inv_noted (T := some T1) I1 ea (fun t z => by cases z; exact fT) p1 ⟨fun b o _ n2 _ e => p3 b o (fun z => n2 (by rw [z])) e, fun b o _ n2 e => ⟨o.slots, p3 b o (fun z => n2 (by rw [z])) e⟩⟩
    have sub : ∀ p ∈ X.pn ++ pins, p ∈ (X.pn ++ pins) ++ pins' := fun p hp => List.mem_append_left _ hp
    refine wpAny_handleBy_cons (codeAny_handlers_test ?_) (by intro z; cases z)
    have I3 : Inv { X with A := X.A.mark (some (.ref a)), calm := false } pins σ' H' { s' with heap := g2 } := inv_to (p' := X.pn) (E' := X.xe) (inv_from (A' := X.A) (c' := X.calm) (pins := pins) I2 I.ok.hd rfl sub) (fun z => by cases z) rfl fun _ z => z
    refine ld_glob (X := { X with A := X.A.mark (some (.ref a)), calm := false }) I3 hg hm ?_ hd
    obtain ⟨nm, qn, bs, sn, sb, ab, col, dd, k0, k1, k2, k3, k5, eC⟩ := XC.obj
    have gC := I3.kIn _ _ eC
    obtain ⟨oe, ge, gc, gd, gv⟩ := id p1
    refine wpAny_excMatches_sub_self (h := g2) (g := s'.gens) (d := s'.drawn) (t := s'.toks) (os := s'.os) gC ge gc (by decide) ?_
    refine codeAny_handlers_suite ?_
    refine flight_ok (s := { s' with heap := g2 }) p1 p2 fun g3 o1 o2 o3 o4 => ?_
    have I4 := inv_noted (T := some T1) I2 ea (fun t z => by cases z; exact fT) o1 ⟨fun b o _ n2 _ e => o3 b o (fun z => n2 (by rw [z])) e, fun b o _ n2 e => ⟨o.slots, o3 b o (fun z => n2 (by rw [z])) e⟩⟩
    have I5 : Inv X pins σ' H' { s' with heap := g3 } := inv_from (A' := X.A) (c' := X.calm) (pins := pins) I4 I.ok.hd rfl sub
    refine thn (hh a _ pins _ _ H' _ (inv_to (p' := X.pn) I5 (fun z => by cases z) rfl fun _ z => z) (h2 σ' H' a d ea hE)) fun f s7 q => ?_
    have bk : ∀ {σ7 : L2.St} {H7 : Hp} {E7 : Value → Shared → Prop}, Inv { X with A := X.A.mark (some (.ref a)), calm := false, xe := E7 } pins σ7 H7 s7 → Inv X pins σ7 H7 s7 := fun J => inv_from (p' := X.pn) J I.ok.hd rfl fun _ z => z
    cases f with
    | next =>
      obtain ⟨σ7, H7, I7, q7⟩ := q
      exact ⟨σ7, H7, bk I7, q7⟩
    | brk =>
      obtain ⟨σ7, H7, I7, q7⟩ := q
      exact ⟨σ7, H7, bk I7, q7⟩
    | cont =>
      obtain ⟨σ7, H7, I7, q7⟩ := q
      exact ⟨σ7, H7, bk I7, q7⟩
    | ret u =>
      obtain ⟨v, σ7, H7, I7, rv, q7⟩ := q
      exact ⟨v, σ7, H7, bk I7, rv, q7⟩
  have I0 : Inv { X with pn := X.pn ++ pins, xe := fun e s1 => wpAny (model X.prog X.w) X.A (noteFrame e X.env) (fun _ s2 => wpAny (model X.prog X.w) X.A (setFlight e none) (fun _ s3 => wpAny (model X.prog X.w) X.A (handleBy e X.env [.ExceptHandler (some (.Name x np)) none (b0 :: suite) hpos]) (SP X pins D) X.xe s3) X.xe s2) X.xe s1 } [] σ H s :=
    inv_to (A' := X.A) (c' := X.calm) I I.ok.hd rfl fun p z => by simpa using z
  refine wpAny_mono (hb _ _ xeb [] s σ H D I0 h1) (fun f s1 q => ?_) fun e s1 z => z
  have bk : ∀ {σ7 : L2.St} {H7 : Hp} {E7 : Value → Shared → Prop}, Inv { X with pn := X.pn ++ pins, xe := E7 } [] σ7 H7 s1 → Inv X pins σ7 H7 s1 := fun J => inv_from (A' := X.A) (c' := X.calm) J I.ok.hd rfl fun p z => by simpa using z
  cases f with
  | next =>
    obtain ⟨σ7, H7, I7, q7⟩ := q
    exact wpAny_execs_nil ⟨σ7, H7, bk I7, q7⟩
  | brk =>
    obtain ⟨σ7, H7, I7, q7⟩ := q
    exact ⟨σ7, H7, bk I7, q7⟩
  | cont =>
    obtain ⟨σ7, H7, I7, q7⟩ := q
    exact ⟨σ7, H7, bk I7, q7⟩
  | ret u =>
    obtain ⟨v, σ7, H7, I7, rv, q7⟩ := q
    exact ⟨v, σ7, H7, bk I7, rv, q7⟩
end
/-- f(..) where a name of the def holds the def at f -/
def tCallV (f : Addr) (tf : TE) (sp : Sp) (E : XK) (t : TA) : TE := fun σ H Q => tf σ H fun v H1 => v = .ref f ∧ t σ H1 fun vs H2 => sp vs H2 Q E
theorem pe_callV {X : Cx} {CX : CXT} {k : Nat} {f : Addr} {fd : FuncData} {ps : List Str} {sp : Sp} {E : XK} {x : Str} {p pos : Pos} {e : Expr} {es : List Expr} {tf : TE} {t : TA} (F : FnOk X.prog X.w X.K X.mg X.base CX k f fd ps sp) (hr : Room k X.A) (hk : PySem.W.keepIn X.K (.ref f) = true) (hb : Binds X.K fd ps []) (hx : Passes CX X E) (hf : PE X (.Name x p) tf)
    (ha : PA X (e :: es) t) (he : starEach (e :: es) X.env = (false, eval e X.env) :: starEach es X.env := by rfl) (hpl : (backTo pos (starEach es X.env)).any (·.1) = false := by rfl) : PE X (.Call (.Name x p) (e :: es) [] pos) (tCallV f tf sp E t) := by
  intro pins s σ H Q I h
  refine wpAny_Call_Name_kw (thn (hf pins s σ H _ I h) fun u s1 ⟨v, H1, I1, rv, ev, q⟩ => ?_)
  subst ev
  obtain rfl : u = Value.ref f := rv
  refine PySem.W.callWith_K (h₀ := X.base) I1.ok.mod.kin hk (thn (ha pos pins s1 σ H1 _ I1 q) fun us s2 ⟨vs, H2, I2, r, q2⟩ => ⟨I2.kIn, ?_⟩) he hpl
  exact run_fn F hr hb .nil hx I2 r (by rw [List.append_nil]; exact q2)
end Fx
set_option Elab.async false
set_option maxRecDepth 100000
set_option maxHeartbeats 400000
set_option linter.all false
namespace Fx
open PySem PySem.Spec PyProof.Rows L2
/-! exceptions of a class without an __init__ of its own -/
structure XCls0 (K : PySem.W.Frag) (C N : Addr) : Prop where
  obj : ∃ (nm q : Str) (bs : List Value) (sn : List Str) (sub : List Value) (ab : Bool) (col : Option Bool) (dd : Option Addr) (k0 k1 k2 k3 k5 : Option Value),
    K.lookup C = some (excClassObj nm q C N bs excMro true sn sub ab col dd k0 k1 k2 k3 k5 "Exception.__new__")
  ns : ∃ (oc : Value) (od : Option Addr) (es : Array DictEntry) (ep : Nat) (sl : Array (Option Value)), K.lookup N = some ⟨oc, od, .dict es ep, sl⟩ ∧ StrKeys es ∧ nsFind es "__init__" = none
  kp : PySem.W.keepIn K (.ref C) = true
theorem XCls0.mro {K : PySem.W.Frag} {C N : Addr} (x : XCls0 K C N) (b : Value) (hb : excMro.contains b = true) : PySem.W.mroIn K C b = some true := by
  obtain ⟨nm, q, bs, sn, sub, ab, col, dd, k0, k1, k2, k3, k5, e⟩ := x.obj
  have e1 : PySem.W.clsIn K C = some { name := nm, bases := bs, mro := .ref C :: excMro, ns := N, qualname := q, hasDict := true, slotNames := sn, subclasses := sub, abstract := ab, collection := col, hasDel := false } := by unfold PySem.W.clsIn; rw [e]
  unfold PySem.W.mroIn
  rw [e1, Option.bind_some]
  dsimp only
  rw [if_neg (by simp), List.contains_cons, hb, Bool.or_true]
/-- C(), an exception -/
def tExc0 (C : Addr) (s0 : Shared) : TE := fun _ H Q => ∀ a, H a = none → s0.heap.get? a = none → Q (.ref a) (upd H a (exN a (.ref C) none))
/-- raise e, any dict -/
def sRaise0 (K : PySem.W.Frag) (s0 : Shared) (te : TE) (E : XK) : TS := fun _ σ H => te σ H fun v H1 => ∃ a C N, v = .ref a ∧ H1 a = some (exN a (.ref C) none) ∧ XCls0 K C N ∧ s0.heap.get? a = none ∧ E (.ref C) none (upd H1 a (exO a (.ref C) none))
section
variable {X : Cx} {C N : Addr} {E : XK} {x : Str} {p pos : Pos} {e : Expr} {te : TE}
theorem pe_exc0 (XC : XCls0 X.K C N) (hm : X.mg x = some (.ref C)) (hg : Gl X x := by rfl) (hx0 : X.ex = [] := by rfl) (hdb : (x == ("__debug__" : Str)) = false := by decide) : PE X (.Call (.Name x p) [] [] pos) (tExc0 C X.s_0) := by
  intro pins s σ H Q I h
  refine wpAny_Call_Name_kw (ld_glob I hg hm ?_ hdb)
  refine PySem.W.callWith_K0 I.kIn XC.kp ?_
  obtain ⟨nm, q, bs, sn, sub, ab, col, dd, k0, k1, k2, k3, k5, eC⟩ := XC.obj
  obtain ⟨oc, od, es, ep, sl, eN, sk, ini⟩ := XC.ns
  have nN : s.heap.Ns N (nsFind es) := ⟨_, es, ep, I.kIn _ _ eN, rfl, sk, fun _ => rfl⟩
  obtain ⟨hh, g, d, t, os⟩ := s
  refine PySem.wpAny_call_exc_sub PySem.F.excBase_Exception (I.kIn _ _ eC) nN ini (fun h' a m => ?_)
  obtain ⟨tt, m1, m2, m3⟩ := m.there
  have hn := gone I.hok m.new
  have I2 : Inv X pins σ (upd H a (exN a (.ref C) none)) ⟨h', g, d, t, os⟩ := laidx (t' := t) I m.keeps m.new (okN ⟨_, m1, rfl, rfl, rfl⟩ rfl)
  refine ⟨.ref a, _, I2, rfl, h a hn ?_⟩
  cases q : X.s_0.heap.get? a with
  | none => rfl
  | some o =>
    obtain ⟨o', z⟩ := I.base.there a o q (by rw [hx0]; simp)
    rw [m.new] at z
    cases z
theorem ps_raise0 (hc : X.calm = true) (hE : XE X E) (he : PE X e te) : PS X (.Raise (some e) none pos) (sRaise0 X.K X.s_0 te E) := by
  intro pins s σ H D I h
  show wpAny _ _ (do standAt pos; raiseStmt X.env (some (do let v ← eval e X.env; standAt pos; pure v)) none) _ _ s
  refine wpAny_bind (wpAny_standAt ?_)
  unfold raiseStmt
  dsimp only
  refine wpAny_bind (wpAny_bind (thn (he pins s σ H _ I h) fun v s1 ⟨z, H1, I1, rz, a, C, N, ez, ea, XC, na, q⟩ => wpAny_bind (wpAny_standAt (wpAny_pure ?_))))
  subst ez
  obtain rfl : v = Value.ref a := rz
  obtain ⟨⟨vs, ⟨o, g, hcl, hd, hv⟩, h1⟩, _⟩ := (show ObjOk X.prog X.w H1 s1.heap a (exN a (.ref C) none) from I1.hok a _ ea)
  obtain ⟨nm, qn, bs, sn, sub, ab, col, dd, k0, k1, k2, k3, k5, eC⟩ := XC.obj
  have gC := I1.kIn _ _ eC
  have J : PySem.W.Looks (model X.prog X.w) s1.heap (typeOf (.ref a)) (.ref C) := hcl ▸ (PySem.W.Looks.ld g).andThen .now
  have nt : ∀ {Q' : Bool → Shared → Prop}, Q' false s1 → wpAny (model X.prog X.w) X.A (isType (.ref a)) Q' X.xe s1 := by
    intro Q' hq
    simp only [isType, loadHead]
    refine wpAny_bind (wpAny_loadPart g ?_)
    rw [hv]
    exact wpAny_pure hq
  refine wpAny_bind (wpAny_pure ?_)
  dsimp only
  refine wpAny_bind (wpAny_holding ?_)
  unfold excFromValue isExcClass
  refine wpAny_bind (wpAny_bind (nt ?_))
  simp only [Bool.false_eq_true, if_false]
  refine wpAny_pure ?_
  simp only [Bool.false_eq_true, if_false]
  have inst : PySem.W.Looks (model X.prog X.w) s1.heap (isInstance (.ref a) (.type "BaseException")) true := J.andThen (PySem.W.looks_mroIn I1.kIn (XC.mro _ (by decide)))
  refine wpAny_bind (inst.here ?_)
  simp only [if_true]
  refine wpAny_pure (wpAny_bind (nt ?_))
  simp only [Bool.false_eq_true, if_false]
  unfold raisedInstance
  have tC : PySem.W.Looks (model X.prog X.w) s1.heap (typeOf (.ref C)) (.type "type") := (PySem.W.Looks.ld gC).andThen .now
  refine wpAny_bind (wpAny_bind (J.here (wpAny_bind (tC.here ?_))))
  rw [if_pos (by simp)]
  refine wpAny_pure ?_
  unfold setFlight raiseNew
  refine wpAny_bind (wpAny_bind (wpAny_field g hv h1 ?_))
  rw [if_neg (by decide)]
  refine wpAny_pure (wpAny_bind (wpAny_handled ?_))
  rw [I.ok.hd hc]
  have I2 : Inv X pins σ (upd H1 a (exO a (.ref C) none)) s1 := I1.write (x := a) (e := a) (h' := s1.heap) (t' := s1.toks) (by rw [ea]; exact True.intro) (.inl rfl) (fun _ _ _ z => z) ⟨_, g⟩ (okO ⟨o, g, hcl, hd, hv⟩)
  have fin : X.xe (.ref a) s1 := hE pins σ _ s1 a none _ ⟨I2, upd_same, na, vs, none, ⟨o, g, hcl, hd, hv⟩, h1, fun t z => by cases z⟩ q
  first
    | exact wpAny_throw fin
    | exact wpAny_bind (wpAny_pure (wpAny_throw fin))
end
section
variable {M : Model} {A : Around} {E : Value → Shared → Prop}
variable {nm q : Str} {C N : Addr} {bs bm : List Value} {hdct : Bool} {sn : List Str} {sub : List Value} {ab : Bool} {col : Option Bool} {dd : Option Addr} {k0 k1 k2 k3 k5 : Option Value} {newId : String}
variable {nm' q' : Str} {C' N' : Addr} {bs' bm' : List Value} {hdct' : Bool} {sn' : List Str} {sub' : List Value} {ab' : Bool} {col' : Option Bool} {dd' : Option Addr} {k0' k1' k2' k3' k5' : Option Value} {newId' : String}
theorem excMatches_other {h : Heap} {g : Array GenState} {d : Drawn} {t : Nat} {os : OsState} {e : Addr} {oe : Obj} {Q : Bool → Shared → Prop}
    (hC : h.get? C = some (excClassObj nm q C N bs bm hdct sn sub ab col dd k0 k1 k2 k3 k5 newId)) (hC' : h.get? C' = some (excClassObj nm' q' C' N' bs' bm' hdct' sn' sub' ab' col' dd' k0' k1' k2' k3' k5' newId')) (he : h.get? e = some oe) (hcls : oe.cls = .ref C)
    (hbase : bm'.contains (.type "BaseException") = true) (hno : (Value.ref C :: bm).contains (.ref C') = false)
    (hq : Q false ⟨h, g, d, t, os⟩) : wpAny M A (excMatches (.ref e) (.ref C')) Q E ⟨h, g, d, t, os⟩ := by
  have hcB : (Value.ref C' :: bm').contains (.type "BaseException") = true := by rw [List.contains_cons, hbase, Bool.or_true]
  have f := tc_notTuple
  unfold excMatches
  repeat (first | (with_reducible refine wpAny_loadPart_at he ?_; rw [hcls]) | with_reducible refine wpAny_loadPart_at hC' ?_ | (with_reducible refine wpAny_isSubtype_exc hC' ?_; rw [hcB]) | (with_reducible refine wpAny_isSubtype_exc hC ?_; rw [hno]) | wp_step)
  exact hq
end
end Fx
set_option Elab.async false
set_option maxRecDepth 100000
set_option maxHeartbeats 400000
set_option linter.all false
namespace Fx
open PySem PySem.Spec PyProof.Rows L2
def XObj (K : PySem.W.Frag) (C : Addr) : Prop := ∃ (N : Addr) (nm q : Str) (bs : List Value) (sn : List Str) (sub : List Value) (ab : Bool) (col : Option Bool) (dd : Option Addr) (k0 k1 k2 k3 k5 : Option Value), K.lookup C = some (excClassObj nm q C N bs excMro true sn sub ab col dd k0 k1 k2 k3 k5 "Exception.__new__")
/-- try: body; except C: suite; except C2: suite2 -/
def sTry2 (C C2 : Addr) (EB : XK) (tb th th2 : TS) : TS := fun D σ H => tb D σ H ∧ (∀ (σ' : L2.St) (H' : Hp) (a : Addr) (d : Option Addr), H' a = some (exO a (.ref C) d) → EB (.ref C) d H' → th D σ' H') ∧ ∀ (σ' : L2.St) (H' : Hp) (a : Addr) (d : Option Addr), H' a = some (exO a (.ref C2) d) → EB (.ref C2) d H' → th2 D σ' H'
section
variable {X : Cx} {C C2 : Addr} {EB : XK} {tb th th2 : TS} {body suite suite2 : List Stmt} {b0 b1 : Stmt} {x y : Str} {np np2 hpos hpos2 pos : Pos}
theorem ps_try1 (hst : X.stack = X.env :: X.outer) (hL : X.env.frame = some X.env.locals) (XC : XObj X.K C) (hg : Gl X x) (hm : X.mg x = some (.ref C))
    (hEB : ∀ c d H, EB c d H → c = .ref C) (hb : ∀ E' p', XE { X with pn := p', xe := E' } EB → PSs { X with pn := p', xe := E' } body tb)
    (hh : ∀ a E', PSs { X with A := X.A.mark (some (.ref a)), calm := false, xe := E' } (b0 :: suite) th) (hd : (x == ("__debug__" : Str)) = false := by decide) :
    PS X (.Try body [.ExceptHandler (some (.Name x np)) none (b0 :: suite) hpos] [] [] pos) (sTry0 C EB tb th) := by
  intro pins s σ H D I ⟨h1, h2⟩
  refine wpAny_Try_except ?_
  have xeb : XE { X with pn := X.pn ++ pins, xe := fun e s1 => wpAny (model X.prog X.w) X.A (noteFrame e X.env) (fun _ s2 => wpAny (model X.prog X.w) X.A (setFlight e none) (fun _ s3 => wpAny (model X.prog X.w) X.A (handleBy e X.env [.ExceptHandler (some (.Name x np)) none (b0 :: suite) hpos]) (SP X pins D) X.xe s3) X.xe s2) X.xe s1 } EB := by
    intro pins' σ' H' s' a d Cv ⟨I', ea, na, vs, T, r1, r2, r3⟩ hE
    have e0 := hEB _ _ _ hE
    subst e0
    show wpAny (model X.prog X.w) X.A (noteFrame (.ref a) X.env) _ _ s'
    have fr : X.A.frames = some (X.env :: X.outer) := by rw [← hst]; exact I'.ok.frames
    have ff : s'.heap.FunFrames X.base (X.env :: X.outer) := by rw [← hst]; exact I'.stack
    refine note_ok (L := X.env.locals) fr ff hL r1 r2 fun g1 vs1 T1 q1 q2 q3 q4 => ?_
    have I1 := inv_noted I' ea r3 q1 (by show Kpt _ _ _ _ (frs X.stack); rw [hst]; exact q4)
    have fT := I'.fpOk q3 (I'.hok.fresh q3)
    refine flight_ok (s := { s' with heap := g1 }) q1 q2 fun g2 p1 p2 p3 p4 => ?_
    have I2 := inv_noted (T := some T1) I1 ea (fun t z => by cases z; exact fT) p1 ⟨fun b o _ n2 _ e => p3 b o (fun z => n2 (by rw [z])) e, fun b o _ n2 e => ⟨o.slots, p3 b o (fun z => n2 (by rw [z])) e⟩⟩
    have sub : ∀ p ∈ X.pn ++ pins, p ∈ (X.pn ++ pins) ++ pins' := fun p hp => List.mem_append_left _ hp
    refine wpAny_handleBy_cons (codeAny_handlers_test ?_) (by intro z; cases z)
    have I3 : Inv { X with A := X.A.mark (some (.ref a)), calm := false } pins σ' H' { s' with heap := g2 } := inv_to (p' := X.pn) (E' := X.xe) (inv_from (A' := X.A) (c' := X.calm) (pins := pins) I2 I.ok.hd rfl sub) (fun z => by cases z) rfl fun _ z => z
    refine ld_glob (X := { X with A := X.A.mark (some (.ref a)), calm := false }) I3 hg hm ?_ hd
    obtain ⟨N, nm, qn, bs, sn, sb, ab, col, dd, k0, k1, k2, k3, k5, eC⟩ := XC
    have gC := I3.kIn _ _ eC
    obtain ⟨oe, ge, gc, gd, gv⟩ := id p1
    refine wpAny_excMatches_sub_self (h := g2) (g := s'.gens) (d := s'.drawn) (t := s'.toks) (os := s'.os) gC ge gc (by decide) ?_
    refine codeAny_handlers_suite ?_
    refine flight_ok (s := { s' with heap := g2 }) p1 p2 fun g3 o1 o2 o3 o4 => ?_
    have I4 := inv_noted (T := some T1) I2 ea (fun t z => by cases z; exact fT) o1 ⟨fun b o _ n2 _ e => o3 b o (fun z => n2 (by rw [z])) e, fun b o _ n2 e => ⟨o.slots, o3 b o (fun z => n2 (by rw [z])) e⟩⟩
    have I5 : Inv X pins σ' H' { s' with heap := g3 } := inv_from (A' := X.A) (c' := X.calm) (pins := pins) I4 I.ok.hd rfl sub
    refine thn (hh a _ pins _ _ H' _ (inv_to (p' := X.pn) I5 (fun z => by cases z) rfl fun _ z => z) (h2 σ' H' a d ea hE)) fun f s7 q => ?_
    have bk : ∀ {σ7 : L2.St} {H7 : Hp} {E7 : Value → Shared → Prop}, Inv { X with A := X.A.mark (some (.ref a)), calm := false, xe := E7 } pins σ7 H7 s7 → Inv X pins σ7 H7 s7 := fun J => inv_from (p' := X.pn) J I.ok.hd rfl fun _ z => z
    cases f with
    | next =>
      obtain ⟨σ7, H7, I7, q7⟩ := q
      exact ⟨σ7, H7, bk I7, q7⟩
    | brk =>
      obtain ⟨σ7, H7, I7, q7⟩ := q
      exact ⟨σ7, H7, bk I7, q7⟩
    | cont =>
      obtain ⟨σ7, H7, I7, q7⟩ := q
      exact ⟨σ7, H7, bk I7, q7⟩
    | ret u =>
      obtain ⟨v, σ7, H7, I7, rv, q7⟩ := q
      exact ⟨v, σ7, H7, bk I7, rv, q7⟩
  have I0 : Inv { X with pn := X.pn ++ pins, xe := fun e s1 => wpAny (model X.prog X.w) X.A (noteFrame e X.env) (fun _ s2 => wpAny (model X.prog X.w) X.A (setFlight e none) (fun _ s3 => wpAny (model X.prog X.w) X.A (handleBy e X.env [.ExceptHandler (some (.Name x np)) none (b0 :: suite) hpos]) (SP X pins D) X.xe s3) X.xe s2) X.xe s1 } [] σ H s :=
    inv_to (A' := X.A) (c' := X.calm) I I.ok.hd rfl fun p z => by simpa using z
  refine wpAny_mono (hb _ _ xeb [] s σ H D I0 h1) (fun f s1 q => ?_) fun e s1 z => z
  have bk : ∀ {σ7 : L2.St} {H7 : Hp} {E7 : Value → Shared → Prop}, Inv { X with pn := X.pn ++ pins, xe := E7 } [] σ7 H7 s1 → Inv X pins σ7 H7 s1 := fun J => inv_from (A' := X.A) (c' := X.calm) J I.ok.hd rfl fun p z => by simpa using z
  cases f with
  | next =>
    obtain ⟨σ7, H7, I7, q7⟩ := q
    exact wpAny_execs_nil ⟨σ7, H7, bk I7, q7⟩
  | brk =>
    obtain ⟨σ7, H7, I7, q7⟩ := q
    exact ⟨σ7, H7, bk I7, q7⟩
  | cont =>
    obtain ⟨σ7, H7, I7, q7⟩ := q
    exact ⟨σ7, H7, bk I7, q7⟩
  | ret u =>
    obtain ⟨v, σ7, H7, I7, rv, q7⟩ := q
    exact ⟨v, σ7, H7, bk I7, rv, q7⟩
theorem ps_try2 (hst : X.stack = X.env :: X.outer) (hL : X.env.frame = some X.env.locals) (XC : XObj X.K C) (hg : Gl X x) (hm : X.mg x = some (.ref C)) (XC2 : XObj X.K C2) (hg2 : Gl X y) (hm2 : X.mg y = some (.ref C2)) (hne : C ≠ C2)
    (hEB : ∀ c d H, EB c d H → c = .ref C ∨ c = .ref C2) (hb : ∀ E' p', XE { X with pn := p', xe := E' } EB → PSs { X with pn := p', xe := E' } body tb)
    (hh : ∀ a E', PSs { X with A := X.A.mark (some (.ref a)), calm := false, xe := E' } (b0 :: suite) th) (hh2 : ∀ a E', PSs { X with A := X.A.mark (some (.ref a)), calm := false, xe := E' } (b1 :: suite2) th2) (hd : (x == ("__debug__" : Str)) = false := by decide) (hd2 : (y == ("__debug__" : Str)) = false := by decide) :
    PS X (.Try body [.ExceptHandler (some (.Name x np)) none (b0 :: suite) hpos, .ExceptHandler (some (.Name y np2)) none (b1 :: suite2) hpos2] [] [] pos) (sTry2 C C2 EB tb th th2) := by
  intro pins s σ H D I ⟨h1, h2, h3⟩
  refine wpAny_Try_except ?_
  have xeb : XE { X with pn := X.pn ++ pins, xe := fun e s1 => wpAny (model X.prog X.w) X.A (noteFrame e X.env) (fun _ s2 => wpAny (model X.prog X.w) X.A (setFlight e none) (fun _ s3 => wpAny (model X.prog X.w) X.A (handleBy e X.env [.ExceptHandler (some (.Name x np)) none (b0 :: suite) hpos, .ExceptHandler (some (.Name y np2)) none (b1 :: suite2) hpos2]) (SP X pins D) X.xe s3) X.xe s2) X.xe s1 } EB := by
    intro pins' σ' H' s' a d Cv ⟨I', ea, na, vs, T, r1, r2, r3⟩ hE
    show wpAny (model X.prog X.w) X.A (noteFrame (.ref a) X.env) _ _ s'
    have fr : X.A.frames = some (X.env :: X.outer) := by rw [← hst]; exact I'.ok.frames
    have ff : s'.heap.FunFrames X.base (X.env :: X.outer) := by rw [← hst]; exact I'.stack
    refine note_ok (L := X.env.locals) fr ff hL r1 r2 fun g1 vs1 T1 q1 q2 q3 q4 => ?_
    have I1 := inv_noted I' ea r3 q1 (by show Kpt _ _ _ _ (frs X.stack); rw [hst]; exact q4)
    have fT := I'.fpOk q3 (I'.hok.fresh q3)
    refine flight_ok (s := { s' with heap := g1 }) q1 q2 fun g2 p1 p2 p3 p4 => ?_
    have I2 := inv_noted (T := some T1) I1 ea (fun t z => by cases z; exact fT) p1 ⟨fun b o _ n2 _ e => p3 b o (fun z => n2 (by rw [z])) e, fun b o _ n2 e => ⟨o.slots, p3 b o (fun z => n2 (by rw [z])) e⟩⟩
    have sub : ∀ p ∈ X.pn ++ pins, p ∈ (X.pn ++ pins) ++ pins' := fun p hp => List.mem_append_left _ hp
    rcases hEB _ _ _ hE with e0 | e0
    · subst e0
      refine wpAny_handleBy_cons (codeAny_handlers_test ?_) (by intro z; cases z)
      have I3 : Inv { X with A := X.A.mark (some (.ref a)), calm := false } pins σ' H' { s' with heap := g2 } := inv_to (p' := X.pn) (E' := X.xe) (inv_from (A' := X.A) (c' := X.calm) (pins := pins) I2 I.ok.hd rfl sub) (fun z => by cases z) rfl fun _ z => z
      refine ld_glob (X := { X with A := X.A.mark (some (.ref a)), calm := false }) I3 hg hm ?_ hd
      obtain ⟨N, nm, qn, bs, sn, sb, ab, col, dd, k0, k1, k2, k3, k5, eC⟩ := XC
      have gC := I3.kIn _ _ eC
      obtain ⟨oe, ge, gc, gd, gv⟩ := id p1
      refine wpAny_excMatches_sub_self (h := g2) (g := s'.gens) (d := s'.drawn) (t := s'.toks) (os := s'.os) gC ge gc (by decide) ?_
      refine codeAny_handlers_suite ?_
      refine flight_ok (s := { s' with heap := g2 }) p1 p2 fun g3 o1 o2 o3 o4 => ?_
      have I4 := inv_noted (T := some T1) I2 ea (fun t z => by cases z; exact fT) o1 ⟨fun b o _ n2 _ e => o3 b o (fun z => n2 (by rw [z])) e, fun b o _ n2 e => ⟨o.slots, o3 b o (fun z => n2 (by rw [z])) e⟩⟩
      have I5 : Inv X pins σ' H' { s' with heap := g3 } := inv_from (A' := X.A) (c' := X.calm) (pins := pins) I4 I.ok.hd rfl sub
      refine thn (hh a _ pins _ _ H' _ (inv_to (p' := X.pn) I5 (fun z => by cases z) rfl fun _ z => z) (h2 σ' H' a d ea hE)) fun f s7 q => ?_
      have bk : ∀ {σ7 : L2.St} {H7 : Hp} {E7 : Value → Shared → Prop}, Inv { X with A := X.A.mark (some (.ref a)), calm := false, xe := E7 } pins σ7 H7 s7 → Inv X pins σ7 H7 s7 := fun J => inv_from (p' := X.pn) J I.ok.hd rfl fun _ z => z
      cases f with
      | next =>
        obtain ⟨σ7, H7, I7, q7⟩ := q
        exact ⟨σ7, H7, bk I7, q7⟩
      | brk =>
        obtain ⟨σ7, H7, I7, q7⟩ := q
        exact ⟨σ7, H7, bk I7, q7⟩
      | cont =>
        obtain ⟨σ7, H7, I7, q7⟩ := q
        exact ⟨σ7, H7, bk I7, q7⟩
      | ret u =>
        obtain ⟨v, σ7, H7, I7, rv, q7⟩ := q
        exact ⟨v, σ7, H7, bk I7, rv, q7⟩
    · subst e0
      refine wpAny_handleBy_cons (codeAny_handlers_test ?_) (by intro z; cases z)
      have I3 : Inv { X with A := X.A.mark (some (.ref a)), calm := false } pins σ' H' { s' with heap := g2 } := inv_to (p' := X.pn) (E' := X.xe) (inv_from (A' := X.A) (c' := X.calm) (pins := pins) I2 I.ok.hd rfl sub) (fun z => by cases z) rfl fun _ z => z
      refine ld_glob (X := { X with A := X.A.mark (some (.ref a)), calm := false }) I3 hg hm ?_ hd
      obtain ⟨N, nm, qn, bs, sn, sb, ab, col, dd, k0, k1, k2, k3, k5, eC⟩ := XC2
      obtain ⟨N', nm', qn', bs', sn', sb', ab', col', dd', k0', k1', k2', k3', k5', eC'⟩ := XC
      have gC := I3.kIn _ _ eC
      have gC' := I3.kIn _ _ eC'
      obtain ⟨oe, ge, gc, gd, gv⟩ := id p1
      refine excMatches_other (h := g2) (g := s'.gens) (d := s'.drawn) (t := s'.toks) (os := s'.os) gC gC' ge gc (by decide) (by simp [hne.symm, hne, excMro]) ?_
      show wpAny _ _ (handleBy _ _ _) _ _ _
      refine wpAny_handleBy_cons (codeAny_handlers_test ?_) (by intro z; cases z)
      refine ld_glob (X := { X with A := X.A.mark (some (.ref a)), calm := false }) I3 hg2 hm2 ?_ hd2
      refine wpAny_excMatches_sub_self (h := g2) (g := s'.gens) (d := s'.drawn) (t := s'.toks) (os := s'.os) gC ge gc (by decide) ?_
      refine codeAny_handlers_suite ?_
      refine flight_ok (s := { s' with heap := g2 }) p1 p2 fun g3 o1 o2 o3 o4 => ?_
      have I4 := inv_noted (T := some T1) I2 ea (fun t z => by cases z; exact fT) o1 ⟨fun b o _ n2 _ e => o3 b o (fun z => n2 (by rw [z])) e, fun b o _ n2 e => ⟨o.slots, o3 b o (fun z => n2 (by rw [z])) e⟩⟩
      have I5 : Inv X pins σ' H' { s' with heap := g3 } := inv_from (A' := X.A) (c' := X.calm) (pins := pins) I4 I.ok.hd rfl sub
      refine thn (hh2 a _ pins _ _ H' _ (inv_to (p' := X.pn) I5 (fun z => by cases z) rfl fun _ z => z) (h3 σ' H' a d ea hE)) fun f s7 q => ?_
      have bk : ∀ {σ7 : L2.St} {H7 : Hp} {E7 : Value → Shared → Prop}, Inv { X with A := X.A.mark (some (.ref a)), calm := false, xe := E7 } pins σ7 H7 s7 → Inv X pins σ7 H7 s7 := fun J => inv_from (p' := X.pn) J I.ok.hd rfl fun _ z => z
      cases f with
      | next =>
        obtain ⟨σ7, H7, I7, q7⟩ := q
        exact ⟨σ7, H7, bk I7, q7⟩
      | brk =>
        obtain ⟨σ7, H7, I7, q7⟩ := q
        exact ⟨σ7, H7, bk I7, q7⟩
      | cont =>
        obtain ⟨σ7, H7, I7, q7⟩ := q
        exact ⟨σ7, H7, bk I7, q7⟩
      | ret u =>
        obtain ⟨v, σ7, H7, I7, rv, q7⟩ := q
        exact ⟨v, σ7, H7, bk I7, rv, q7⟩
  have I0 : Inv { X with pn := X.pn ++ pins, xe := fun e s1 => wpAny (model X.prog X.w) X.A (noteFrame e X.env) (fun _ s2 => wpAny (model X.prog X.w) X.A (setFlight e none) (fun _ s3 => wpAny (model X.prog X.w) X.A (handleBy e X.env [.ExceptHandler (some (.Name x np)) none (b0 :: suite) hpos, .ExceptHandler (some (.Name y np2)) none (b1 :: suite2) hpos2]) (SP X pins D) X.xe s3) X.xe s2) X.xe s1 } [] σ H s :=
    inv_to (A' := X.A) (c' := X.calm) I I.ok.hd rfl fun p z => by simpa using z
  refine wpAny_mono (hb _ _ xeb [] s σ H D I0 h1) (fun f s1 q => ?_) fun e s1 z => z
  have bk : ∀ {σ7 : L2.St} {H7 : Hp} {E7 : Value → Shared → Prop}, Inv { X with pn := X.pn ++ pins, xe := E7 } [] σ7 H7 s1 → Inv X pins σ7 H7 s1 := fun J => inv_from (A' := X.A) (c' := X.calm) J I.ok.hd rfl fun p z => by simpa using z
  cases f with
  | next =>
    obtain ⟨σ7, H7, I7, q7⟩ := q
    exact wpAny_execs_nil ⟨σ7, H7, bk I7, q7⟩
  | brk =>
    obtain ⟨σ7, H7, I7, q7⟩ := q
    exact ⟨σ7, H7, bk I7, q7⟩
  | cont =>
    obtain ⟨σ7, H7, I7, q7⟩ := q
    exact ⟨σ7, H7, bk I7, q7⟩
  | ret u =>
    obtain ⟨v, σ7, H7, I7, rv, q7⟩ := q
    exact ⟨v, σ7, H7, bk I7, rv, q7⟩
end
end Fx
set_option Elab.async false
set_option maxRecDepth 100000
set_option maxHeartbeats 400000
set_option linter.all false
namespace Fx
open PySem PySem.Spec PyProof.Rows L2
/-! ### the heap without what is tracked and without the frames that run -/
def gro (h : Heap) (H : Hp) (fs : List Addr) : Heap := PySem.W.hideAll h (trk h H ++ fs)
theorem gro_get {h : Heap} {H : Hp} {fs : List Addr} {b : Addr} {o : Obj} (e : h.get? b = some o) (n : H b = none) (nf : b ∉ fs) : (gro h H fs).get? b = some o :=
  PySem.W.hideAll_get _ e fun hm => by
    rcases List.mem_append.mp hm with hm | hm
    · have q : (H b).isSome = true := (List.mem_filter.mp hm).2
      rw [n] at q
      simp at q
    · exact nf hm
theorem gro_fr {h : Heap} {H : Hp} {fs : List Addr} {b : Addr} (hb : b ∈ fs) : (gro h H fs).get? b = none := PySem.W.hideAll_none _ (List.mem_append_right _ hb)
theorem of_gro {h : Heap} {H : Hp} {fs : List Addr} {b : Addr} {o : Obj} (e : (gro h H fs).get? b = some o) : h.get? b = some o ∧ H b = none := by
  have e' : h.get? b = some o := PySem.W.of_hideAll _ e
  refine ⟨e', ?_⟩
  cases q : H b with
  | none => rfl
  | some x =>
    have hm : b ∈ trk h H := List.mem_filter.mpr ⟨List.mem_range.mpr (Heap.lt_size e'), by simp [q]⟩
    have z : (gro h H fs).get? b = none := PySem.W.hideAll_none _ (List.mem_append_left _ hm)
    rw [z] at e
    cases e
theorem gro_size (h : Heap) (H : Hp) (fs : List Addr) : (gro h H fs).objs.size = h.objs.size := PySem.W.hideAll_size _ _
theorem mod_keeps {K : PySem.W.Frag} {mg : Str → Option Value} {b b' : Heap} (m : Mod K mg b) (k : ∀ a o, b.get? a = some o → b'.get? a = some o) : Mod K mg b' :=
  ⟨m.kin.keeps k, m.glob.keeps k, let ⟨mb, h1, h2⟩ := m.blt; ⟨mb, h1.keeps k, h2⟩, m.nolimit.keeps k⟩
section
variable {X : Cx} {pins : List (Addr × Obj)} {σ : L2.St} {H : Hp} {s : Shared}
theorem gro_keep (I : Inv X pins σ H s) : ∀ b o, X.base.get? b = some o → (gro s.heap H (frs X.stack)).get? b = some o := fun b o e =>
  gro_get (I.bs b o e).1 (I.bs b o e).2 fun z => by
    have := (I.stack.mem z).1
    rw [e] at this
    cases this
theorem env0_gro (I : Inv X pins σ H s) : Env0 X.prog X.w X.K X.mg (gro s.heap H (frs X.stack)) X.A X.stack s H := by
  have ff : ∀ l : List Env, (∀ b ∈ frs l, b ∈ frs X.stack) → s.heap.FunFrames X.base l → s.heap.FunFrames (gro s.heap H (frs X.stack)) l := by
    intro l
    induction l with
    | nil => intro _ _; trivial
    | cons env r ih =>
      intro hs hl
      obtain ⟨hk, ⟨L, o, hf, hn, ho, hd⟩, hr⟩ := hl
      have hL : L ∈ frs X.stack := hs L (by unfold frs; rw [List.filterMap_cons, hf]; exact List.mem_cons_self)
      exact ⟨hk, ⟨L, o, hf, gro_fr hL, ho, hd⟩, ih (fun b hb => hs b (by unfold frs; rw [List.filterMap_cons, hf]; exact List.mem_cons_of_mem _ hb)) hr⟩
  exact ⟨I.ok.frames, mod_keeps I.ok.mod (gro_keep I), fun b o e => of_gro e, Nat.le_of_eq (gro_size _ _ _), ff X.stack (fun _ z => z) I.stack, I.stkFree, I.hok, I.bare⟩
end
/-! ### the body of a lambda that closes over names -/
def cxL (CX : CXT) (P : Program) (w : World) (K : PySem.W.Frag) (mg : Str → Option Value) (base : Heap) (N : List Str) (qual : Str) (scope : Scope) (f : Addr) (cd : Value) (cl : List (Str × Addr)) (A : Around) (outer : List Env) (s : Shared) (H : Hp) (E : XK) : Cx where
  prog := P
  w := w
  K := K
  mg := mg
  base := base
  A := A.deeper (PySem.W.envX qual scope s.heap.objs.size f cd cl)
  N := N
  s_0 := s
  H_0 := H
  env := PySem.W.envX qual scope s.heap.objs.size f cd cl
  outer := outer
  stack := PySem.W.envX qual scope s.heap.objs.size f cd cl :: outer
  ex := []
  calm := true
  fn := fun _ => false
  pn := []
  xe := fun e s' => wpAny (model P w) (A.deeper (PySem.W.envX qual scope s.heap.objs.size f cd cl)) (leaving (PySem.W.envX qual scope s.heap.objs.size f cd cl) e) (fun _ s'' => CX outer H s E e s'') (fun e' s'' => CX outer H s E e' s'') s'
structure LamScope (p : Str) (sc : Scope) : Prop where
  kind : sc.kind = .function
  co : sc.isCoroutine = false
  gen : sc.isGenerator = false
  par : sc.names.lookup p = some .local
  nocell : ∀ y ∈ sc.names, y.2 ≠ .cell
/-- what the closed-over names hold -/
structure Clo (base : Heap) (sc : Scope) (cl : List (Str × Addr)) (fr : List Str) (ws : List V) : Prop where
  inj : ∀ x y c, cl.lookup x = some c → cl.lookup y = some c → x = y
  has : ∀ x, sc.names.lookup x = some .free → ∃ c, cl.lookup x = some c
  cell : ∀ x c, cl.lookup x = some c → ∃ v, base.IsCell c v
  val : ∀ (j : Nat) (x : Str) (v : V), fr[j]? = some x → ws[j]? = some v → sc.names.lookup x = some .free ∧ ∃ c u, cl.lookup x = some c ∧ base.IsCell c (some u) ∧ RelV v u
  len : fr.length = ws.length
section
variable {CX : CXT} {P : Program} {w : World} {K : PySem.W.Frag} {mg : Str → Option Value} {base : Heap} {k : Nat} {f c' : Addr} {name qual p : Str} {params : Arguments} {body : Expr} {scope : Scope} {pm ctv : Value} {cl : List (Str × Addr)} {fr : List Str} {ws : List V} {sp : Sp}
theorem lam_inv {A : Around} {outer : List Env} {s : Shared} {H : Hp} {E : XK} {v : V} {u : Value} {h₁ : Heap} {tk : Nat} (S : LamScope p scope) (C : Clo base scope cl fr ws) (hd : A.handled = none) (e0 : Env0 P w K mg base A outer s H) (r : RelV v u)
    (hns : h₁.Ns s.heap.objs.size (fun x => [(p, u)].reverse.lookup x)) (hk : ∀ b o, s.heap.get? b = some o → h₁.get? b = some o) :
    Inv (cxL CX P w K mg base (p :: fr) qual scope f (.ref c') cl A outer s H E) [] (some v :: ws.map some) H { s with heap := h₁, toks := tk } := by
  have noA : ∀ b : Addr, b ∉ (cxL CX P w K mg base (p :: fr) qual scope f (.ref c') cl A outer s H E).ex := fun b z => absurd (show b ∈ ([] : List Addr) from z) (by simp)
  have cellK : ∀ {c : Addr} {v : Option Value}, base.IsCell c v → h₁.IsCell c v ∧ H c = none := fun {c v} ⟨o, ho, hd⟩ => ⟨⟨o, hk _ _ (e0.bs _ _ ho).1, hd⟩, (e0.bs _ _ ho).2⟩
  refine ⟨⟨e0.mod, S.kind, rfl, rfl, Nat.le_refl _, C.inj, fun y hy => ?_, fun y c z _ => (Bool.noConfusion z), fun _ => hd, Around.frames_deeper e0.frames, .inr ⟨rfl, rfl⟩, fun b z => absurd z (noA b), e0.bs, e0.bsz, fun b _ _ => noA b, fun b z => absurd z (noA b), e0.funs, e0.frf⟩,
    rfl, e0.bare, Un.kept hk, ⟨_, hns, fun i y x h1 h2 h3 => ?_⟩, fun y c h => ?_, e0.hok.fresh (Nat.le_refl _), fun y c h => ?_, fun p hp => absurd (show p ∈ ([] : List (Addr × Obj)) from hp) (by simp), e0.hok.kept hk, ?_⟩
  · have hy : scope.names.lookup y = some .cell ∨ scope.names.lookup y = some .free := hy
    rcases hy with hy | hy
    · exact absurd rfl (S.nocell _ (PySem.mem_of_lookup hy))
    · exact C.has y hy
  · cases i with
    | zero =>
      have e1 : p = y := Option.some.inj h1
      have e2 : v = x := Option.some.inj (Option.some.inj h2)
      subst e1
      subst e2
      exact ⟨u, r, .inl ⟨S.par, by simp⟩⟩
    | succ j =>
      have e1 : fr[j]? = some y := by
        have z : (p :: fr)[j + 1]? = some y := h1
        rwa [List.getElem?_cons_succ] at z
      have e2 : ws[j]? = some x := by
        rw [List.getElem?_cons_succ, List.getElem?_map] at h2
        cases e : ws[j]? with
        | none => rw [e] at h2; cases h2
        | some a => rw [e] at h2; cases h2; rfl
      obtain ⟨hf, c, u', l, hc, hr⟩ := C.val j y x e1 e2
      exact ⟨u', hr, .inr ⟨.inr hf, c, l, (cellK hc).1⟩⟩
  · obtain ⟨z, hz⟩ := C.cell y c h
    exact ⟨z, (cellK hz).1⟩
  · obtain ⟨z, hz⟩ := C.cell y c h
    exact (cellK hz).2
  · show (some v :: ws.map some).length = (p :: fr).length
    simp [C.len]
theorem lam_of (gf : base.get? f = some (PySem.W.kla_obj name qual params body scope cl pm c' ctv)) (gc : base.CodeRec (.ref c') qual) (S : LamScope p scope) (C : Clo base scope cl fr ws) (len : ∀ vs H Q E, sp vs H Q E → vs.length = 1)
    (hbody : ∀ (A : Around) (outer : List Env) (s : Shared) (H : Hp) (v : V) (Q : VK) (E : XK), Room k (A.deeper (PySem.W.envX qual scope s.heap.objs.size f (.ref c') cl)) → sp [v] H Q E →
      ∃ t, PE (cxL CX P w K mg base (p :: fr) qual scope f (.ref c') cl A outer s H E) body t ∧ t (some v :: ws.map some) H Q) :
    FnOk P w K mg base CX (k + 1) f (PySem.W.kla_fn name qual params body scope cl pm (.ref c') ctv) [p] sp := by
  refine ⟨len, fun A outer s H args us vs Q E hr e0 hb r hsp => ?_⟩
  have hl := len _ _ _ _ hsp
  have lim : s.heap.NoLimit := e0.mod.nolimit.keeps fun b o e => (e0.bs b o e).1
  cases r with
  | nil => cases hl
  | @cons v u vs' us' r0 r1 =>
  cases r1 with
  | cons _ _ => simp at hl
  | nil =>
  have gc' : s.heap.CodeRec (.ref c') qual := let ⟨c, o, vs, t, h1, h2, h3⟩ := gc; ⟨c, o, vs, t, h1, (e0.bs _ _ h2).1, h3⟩
  refine PySem.W.kla_callFunE hr.depth (e0.bs _ _ gf).1 rfl S.co S.gen rfl gc' (hb _ _ _ _ ?_)
  refine wpAny_newFunctionEnv S.nocell (fun y hy => ?_) (fun h₁ hns hsb => ⟨lim.fresh _ hsb, ?_⟩) S.kind
  · have z : y = (p, u) := by simpa using hy
    subst z
    exact S.par
  obtain ⟨t, ht, hq⟩ := hbody A outer s H v Q E (hr.deeper _) hsp
  have hk₁ : ∀ b o, s.heap.get? b = some o → h₁.get? b = some o := fun b o e => hsb.extBut b o (Nat.ne_of_lt (Heap.lt_size e)) (Heap.get?_push_of_some _ e)
  have I := lam_inv (CX := CX) (E := E) (f := f) (qual := qual) (c' := c') (tk := s.toks + 1) S C hr.hd e0 r0 hns hk₁
  show codeAny _ _ (.expr body (PySem.W.envX qual scope s.heap.objs.size f (.ref c') cl)) _ _
  refine PySem.W.kla_codeExpr (wpAny_mono (ht [] _ _ H Q I hq) (fun u' s' ⟨v', H', J, rv, q⟩ => ?_) fun e s' hs => hs)
  exact ⟨v', H', J.os, J.bare, J.base, J.hok, rv, q⟩
/-- its exceptions leave the frame -/
theorem xe_lam {N : List Str} {cd : Value} {A : Around} {outer : List Env} {s : Shared} {H : Hp} {E : XK} : XE (cxL (CXF P w) P w K mg base N qual scope f cd cl A outer s H E) E := by
  intro pins σ H1 s1 a d C ⟨I, ea, na, vs, T, r1, r2, r3⟩ hE
  refine leave_ok (L := s.heap.objs.size) I.ok.frames I.stack rfl r1 r2 fun h' vs' T' q1 q2 q3 q4 => ?_
  exact left_ok I ea na r3 rfl q1 q2 q3 q4 hE
end
end Fx
set_option Elab.async false
set_option maxRecDepth 100000
set_option maxHeartbeats 400000
set_option linter.all false
namespace Fx
open PySem PySem.Spec PyProof.Rows L2
/-- the module of the built-in names, over the base -/
def BM (mg : Str → Option Value) (base : Heap) : Prop := ∃ bm o, mg "__builtins__" = some (.ref bm) ∧ bm ≠ builtinsNs ∧ bm ≠ mainGlobals ∧ base.get? bm = some o ∧ o.cls = .type "module" ∧ o.dict = some builtinsNs ∧ o.data = .plain
section
variable {X : Cx} {pins : List (Addr × Obj)} {σ : L2.St} {H : Hp} {s : Shared} {c Pt : Addr} {qual : Str} {params : Arguments} {body : Expr} {scope : Scope} {lpos : Pos} {clos : List (Str × Addr)}
/-- a code table grows, all else is kept -/
theorem inv_tab {h' : Heap} {tk : Nat} {ps : Array Value} (I : Inv X pins σ H s) (hT : H Pt = some (.tbl #[])) (hx : Heap.ExtBut Pt s.heap h') (hP : h'.get? Pt = some (PySem.W.tabObj ps)) : Inv X pins σ (upd H Pt (.tbl ps)) { s with heap := h', toks := tk } := by
  have ne : ∀ b, H b = none → b ≠ Pt := fun b n z => by rw [z, hT] at n; cases n
  have neU : ∀ b u, H b = some u → u ≠ .tbl #[] → b ≠ Pt := fun b u e n z => by rw [z, hT] at e; cases e; exact n rfl
  refine I.step (g' := s.gens) (d' := s.drawn) (ch := []) (fun _ z => nomatch z) (fun b o _ _ _ e n => hx b o (ne b n) e) (fun b o _ _ _ e n => ⟨o.slots, hx b o (ne b n) e⟩) (fun b o _ e n => by rw [upd_ne (ne b n)]; exact n) (fun b o _ e => ?_)
    (fun b xs e => by rw [upd_ne (neU b _ e (fun z => nomatch z))]; exact e) (fun b o u e => by rw [upd_ne (neU b _ e (fun z => nomatch z))]; exact e) (fun b ps' e => ?_) (fun m hm => ?_) (fun b u e => ?_) I.bare
  · by_cases hb : b = Pt
    · exact ⟨_, hb ▸ hP⟩
    · exact ⟨o, hx b o hb e⟩
  · by_cases hb : b = Pt
    · subst hb
      rw [hT] at e
      cases e
      exact ⟨ps, by rw [upd_same]; simp⟩
    · exact ⟨#[], by rw [upd_ne hb, e]; simp⟩
  · obtain ⟨o, es, ep, e, r⟩ := hm
    exact ⟨o, es, ep, hx _ o (ne _ I.free) e, r⟩
  · by_cases hb : b = Pt
    · subst hb
      rw [upd_same] at e
      cases e
      exact hP
    · rw [upd_ne hb] at e
      refine (I.hok b u e).stay (fun c v hc q => hx c v ?_ q) (fun c q => by rw [upd_ne (neU c _ q (fun z => nomatch z))]; exact q) fun c xs q => by rw [upd_ne (neU c _ q (fun z => nomatch z))]; exact q
      rcases hc with rfl | hc
      · exact hb
      · exact neU c _ hc (fun z => nomatch z)
/-- the names of this def that a lambda closes over: fr, at the places is of N -/
structure Cap (X : Cx) (scope : Scope) (clos : List (Str × Addr)) (fr : List Str) (is : List Nat) : Prop where
  sub : ∀ x a, clos.lookup x = some a → X.env.cells.lookup x = some a
  has : ∀ x, scope.names.lookup x = some .free → ∃ a, clos.lookup x = some a
  free : ∀ x ∈ fr, scope.names.lookup x = some .free ∧ X.env.kindOf x = some .cell
  at_ : ∀ (j : Nat) (x : Str), fr[j]? = some x → ∃ i, is[j]? = some i ∧ X.N[i]? = some x
  len : fr.length = is.length
  fn : ∀ x, X.fn x = true
def Held (σ : L2.St) (is : List Nat) (ws : List V) : Prop := is.length = ws.length ∧ ∀ (j i : Nat), is[j]? = some i → ∃ v, ws[j]? = some v ∧ σ[i]? = some (some v)
theorem clo_of {fr : List Str} {is : List Nat} {ws : List V} (I : Inv X pins σ H s) (C : Cap X scope clos fr is) (hv : Held σ is ws) : Clo (gro s.heap H (frs X.stack)) scope clos fr ws := by
  have cellG : ∀ x a v, X.env.cells.lookup x = some a → s.heap.IsCell a v → (gro s.heap H (frs X.stack)).IsCell a v := fun x a v e ⟨o, ho, hd⟩ => by
    refine ⟨o, gro_get ho (I.freeC x a e) fun z => ?_, hd⟩
    rcases List.mem_cons.mp (I.stkSub a z) with q | q
    · exact I.cne x a e q
    · obtain ⟨_, o', ho', _⟩ := I.ok.funs.mem q
      exact absurd (Nat.lt_of_lt_of_le (Heap.lt_size ho') (I.ok.cab x a (C.fn x) e)) (Nat.lt_irrefl _)
  refine ⟨fun x y a h1 h2 => I.ok.inj x y a (C.sub x a h1) (C.sub y a h2), C.has, fun x a h => ?_, fun j x v h1 h2 => ?_, C.len.trans hv.1⟩
  · obtain ⟨z, hz⟩ := I.cell x a (C.sub x a h)
    exact ⟨z, cellG x a z (C.sub x a h) hz⟩
  · obtain ⟨hf, hk⟩ := C.free x (List.mem_of_getElem? h1)
    obtain ⟨i, hi, hN⟩ := C.at_ j x h1
    obtain ⟨v', hv1, hv2⟩ := hv.2 j i hi
    rw [h2] at hv1
    cases hv1
    obtain ⟨m, _, hl⟩ := I.loc
    obtain ⟨u, r, l⟩ := hl i x v hN hv2 (.inr (.inl hk))
    obtain ⟨a, ha⟩ := C.has x hf
    refine ⟨hf, a, u, ha, ?_, r⟩
    have hc := C.sub x a ha
    rcases l with ⟨z, _⟩ | ⟨_, a', ea, hcell⟩
    · rw [hk] at z
      cases z
    · rw [hc] at ea
      cases ea
      exact cellG x a _ hc hcell
/-- f(e, lambda p: body), f a def of the module, the lambda closing over names of this def -/
def tLam (Pt : Addr) (is : List Nat) (sp : Addr → List V → Sp) (E : XK) (te : TE) : TE := fun σ H Q => te σ H fun x H1 => H1 Pt = some (.tbl #[]) ∧ ∃ ws, Held σ is ws ∧ ∀ (f : Addr) (ps : Array Value), H1 f = none → sp f ws [x, .ref f] (upd H1 Pt (.tbl ps)) Q E
theorem pe_lam {CX : CXT} {k : Nat} {fa : Addr} {fd : FuncData} {ps fr : List Str} {is : List Nat} {sp : Addr → List V → Sp} {E : XK} {x : Str} {p pos : Pos} {e : Expr} {te : TE} (hr : Room k X.A) (hg : Gl X x) (hm : X.mg x = some (.ref fa)) (hk : PySem.W.keepIn X.K (.ref fa) = true) (hb : Binds X.K fd ps []) (hx : Passes CX X E)
    (hC : PySem.W.CodeHd X.base c Pt) (hcd : X.env.code = .ref c) (hB : BM X.mg X.base) (hdef : defaultsOf params X.env = ([], [])) (hcl : closureFor scope X.env = pure clos) (C : Cap X scope clos fr is) (he : PE X e te)
    (F : ∀ (base' : Heap) (f c' : Addr) (ctv : Value) (ws : List V), (∀ b o, X.base.get? b = some o → base'.get? b = some o) → base'.get? f = some (PySem.W.kla_obj "<lambda>" (X.env.qual ++ "<lambda>") params body scope clos ((X.mg "__name__").getD .none) c' ctv) →
      base'.CodeRec (.ref c') (X.env.qual ++ "<lambda>") → Clo base' scope clos fr ws → FnOk X.prog X.w X.K X.mg base' CX k fa fd ps (sp f ws))
    (hdb : (x == ("__debug__" : Str)) = false := by decide) (hst : starEach [e, .Lambda params body scope lpos] X.env = (false, eval e X.env) :: starEach [.Lambda params body scope lpos] X.env := by rfl) (hpl : (backTo pos (starEach [.Lambda params body scope lpos] X.env)).any (·.1) = false := by rfl) :
    PE X (.Call (.Name x p) [e, .Lambda params body scope lpos] [] pos) (tLam Pt is sp E te) := by
  intro pins s σ H Q I h
  refine wpAny_Call_Name_kw (ld_glob I hg hm ?_ hdb)
  refine PySem.W.callWith_K (h₀ := X.base) I.ok.mod.kin hk ?_ hst hpl
  rw [hst]
  show wpAny _ _ (spliced ((false, eval e X.env) :: backTo pos (starEach [.Lambda params body scope lpos] X.env))) _ _ s
  refine Calls.spliced_cons (thn (he pins s σ H _ I h) fun u1 s1 ⟨x1, H1, I1, r1, hT, ws, hv, q⟩ => ?_)
  show wpAny _ _ (spliced ((false, eval (.Lambda params body scope lpos) X.env) :: backTo pos (starEach [] X.env))) _ _ s1
  refine Calls.spliced_cons (PySem.W.kla_eval hdef ?_)
  obtain ⟨bm, ob, b1, b2, b3, b4, b5, b6, b7⟩ := hB
  have ne : ∀ b, H1 b = none → b ≠ Pt := fun b n z => by rw [z, hT] at n; cases n
  have hP : s1.heap.get? Pt = some (PySem.W.tabObj #[]) := I1.hok Pt _ hT
  have hgl : ∃ o, X.base.get? mainGlobals = some o := let ⟨o, _, _, e, _⟩ := I1.mod.glob; ⟨o, e⟩
  obtain ⟨og, eg⟩ := hgl
  refine PySem.W.kla_makeFunction (mg := X.mg) hcl I1.ok.glob (I1.mod.glob.keeps I1.bk) hcd (hC.keeps I1.bk) hP trivial rfl (ne _ (I1.bs _ _ eg).2) ⟨bm, ob, b1, b2, b3, ne _ (I1.bs _ _ b4).2, I1.bk _ _ b4, b5, b6, b7⟩ fun c' ctv h' tk hx' hge hlt hrec htb => ?_
  refine Calls.spliced_nil ?_
  have hsz : s1.heap.objs.size ≤ h'.objs.size := Nat.le_of_lt (Nat.lt_of_le_of_lt hge hlt)
  have hx2 : Heap.ExtBut Pt s1.heap (h'.push (PySem.W.kla_obj "<lambda>" (X.env.qual ++ "<lambda>") params body scope clos ((X.mg "__name__").getD .none) c' ctv)) := fun b o hb eb => Heap.get?_push_of_some _ (hx' b o hb eb)
  have I2 := inv_tab (tk := tk) I1 hT hx2 (Heap.get?_push_of_some _ htb)
  have nP : ∀ b, s1.heap.objs.size ≤ b → b ≠ Pt := fun b hb z => absurd (Nat.lt_of_lt_of_le (Heap.lt_size hP) (z ▸ hb)) (Nat.lt_irrefl _)
  have fresh : ∀ b, s1.heap.objs.size ≤ b → upd H1 Pt (.tbl (#[] ++ #[rawInt lpos.line, rawInt lpos.col, .ref c'])) b = none := fun b hb => by
    rw [upd_ne (nP b hb)]
    exact I1.hok.fresh hb
  have nfr : ∀ b, s1.heap.objs.size ≤ b → b ∉ frs X.stack := fun b hb z => by
    obtain ⟨_, o, ho, _⟩ := I1.stack.mem z
    exact absurd (Nat.lt_of_lt_of_le (Heap.lt_size ho) hb) (Nat.lt_irrefl _)
  obtain ⟨c2, oc, vc, tc, ec, gc, gd⟩ := hrec
  cases ec
  have Fn := F _ h'.objs.size c' ctv ws (gro_keep I2) (gro_get (Heap.get?_push_size _ rfl) (fresh _ hsz) (nfr _ hsz)) ⟨c', oc, vc, tc, rfl, gro_get (Heap.get?_push_of_some _ gc) (fresh _ hge) (nfr _ hge), gd⟩ (clo_of I2 C hv)
  refine ⟨I2.kIn, ?_⟩
  have q2 := q h'.objs.size (#[] ++ #[rawInt lpos.line, rawInt lpos.col, .ref c']) (I1.hok.fresh hsz)
  have r2 : Vals [x1, V.ref h'.objs.size] [u1, Value.ref h'.objs.size] := .cons r1 (.cons rfl .nil)
  have hl : ([u1, Value.ref h'.objs.size] ++ []).length = ps.length := by
    have := Fn.len _ _ _ _ q2
    simpa using this
  refine wpAny_call (codeAny_mono (Fn.run X.A X.stack _ _ ⟨[u1, .ref h'.objs.size], []⟩ [u1, .ref h'.objs.size] _ Q E hr (env0_gro I2) (by simpa using hb _ [u1, .ref h'.objs.size] I2.kIn hl) r2 q2) fun r s' hq => ?_)
  cases r with
  | error ev => exact hx pins σ _ _ ev s' I2 hq
  | ok fl =>
    cases fl with
    | ret u => exact I2.after hq
    | next => exact False.elim hq
    | brk => exact False.elim hq
    | cont => exact False.elim hq
end
end Fx
set_option Elab.async false
set_option maxRecDepth 100000
set_option maxHeartbeats 2000000
set_option linter.all false
namespace L2
open PySem PySem.Spec PyProof.Rows Fx
open PySem.W (WData Codec OpenSpec Well WellAll ReadsW ReadsAllW)
/-- at the entry: the code table of the def, and what was handed in -/
def OnlyT (Pt : Addr) (H : Hp) : Prop := H Pt = some (.tbl #[]) ∧ ∀ b, b ≠ Pt → H b = none ∨ ∃ o u, H b = some (.frz o u)
section
variable {K : PySem.W.Frag} {H H' : Hp}
mutual
theorem Dw.more (h : ∀ b u, H b = some u → H' b = some u) : ∀ (d : WData) (v : V), Dw K H v d → Dw K H' v d
  | .none, _, x => by cases x; exact .non
  | .bool b, _, x => by cases x; exact .bl b
  | .int i, _, x => by cases x; exact .int i
  | .str y, _, x => by cases x; exact .str y
  | .bytes b, _, x => by cases x; exact .byt _
  | .list ds, _, x => by
    cases x with
    | lst q y => exact .lst (q.elim (fun z => .inl (z.elim (fun z => .inl (h _ _ z)) fun ⟨o, z⟩ => .inr ⟨o, h _ _ z⟩)) .inr) (DwAll.more h ds _ y)
  | .tuple ds, _, x => by
    cases x with
    | tup q y => exact .tup (q.elim (fun z => .inl (z.elim (fun z => .inl (h _ _ z)) fun ⟨o, z⟩ => .inr ⟨o, h _ _ z⟩)) .inr) (DwAll.more h ds _ y)
  | .dict _, _, x => by cases x
  | .set _, _, x => by cases x
  | .float _, _, x => by cases x
  | .bytearray _, _, x => by cases x
  | .frozenset _, _, x => by cases x
  | .obj _ _, _, x => by cases x
theorem DwAll.more (h : ∀ b u, H b = some u → H' b = some u) : ∀ (ds : List WData) (vs : List V), DwAll K H vs ds → DwAll K H' vs ds
  | [], _, x => by cases x; exact .nil
  | d :: ds, _, x => by
    cases x with
    | cons y z => exact .cons (Dw.more h d _ y) (DwAll.more h ds _ z)
end
end
theorem spec_callT {P : Program} {w : World} {K : PySem.W.Frag} {mg mb : Str → Option Value} {CX : CXT} {k : Nat} {fa : Addr} {fd : FuncData} {ps : List Str} {sp : Sp} {s₁ : Shared} {vals : List Value} {ds : List WData} {R : PySem.W.WRecords} {cl : Str → Option Addr} {d0 : WData} {c Pt : Addr}
    (KX : K.In s₁.heap) (hns : s₁.heap.Ns mainGlobals mg) (hb : s₁.heap.Ns builtinsNs mb) (hbb : ∀ x : Str, x ≠ "__name__" → mb x = bootBuiltins x) (hlim : s₁.heap.NoLimit) (hg : s₁.gens = #[])
    (hC : PySem.W.CodeHd s₁.heap c Pt) (hPt : s₁.heap.get? Pt = some (PySem.W.tabObj #[])) (hnt : PySem.W.noTabs K = true) (hB : BM mg s₁.heap)
    (hwl : WellAll w.params s₁.heap vals ds) (hpl : plWs ds = true) (hwt : ∀ d ∈ ds, d.weight ≤ 1048576) (hr : Room k callerA)
    (F : ∀ base : Heap, K.In base → base.Ns mainGlobals mg → PySem.W.CodeHd base c Pt → BM mg base → FnOk P w K mg base CX k fa fd ps sp) (hbind : ∀ (s : Shared) (us : List Value), us.length = ps.length → BindsTo s fd ⟨us, []⟩ (ps.zip us)) (hlen : ds.length = ps.length)
    (hsp : ∀ (H : Hp) (xs : List V), OnlyT Pt H → DwAll K H xs ds → sp xs H (fun v H' => Dw K H' v d0) fun _ _ _ => False)
    (hCX : ∀ H e s', CX [] H s₁ (fun _ _ _ => False) e s' → False) :
    codeAny (model P w) callerA (.call (.ref fa) ⟨vals, []⟩) (fun r s' => ∃ u as, r = .ok (.ret u) ∧ ReadsW R cl s'.heap u d0 as ∧ OldK s₁.heap s'.heap ∧ s'.os = s₁.os ∧ AllBare s'.gens) s₁ := by
  obtain ⟨A, ho, ar⟩ := area_all ds vals hwl hpl hwt
  have hO : OnlyF (argH K s₁.heap A) := argH_only ar
  have hok : HOk P w (argH K s₁.heap A) s₁.heap := argH_ok ar
  have hS := dw_all KX ar ds vals hwl hpl ho
  have hV := vals_toV ho
  have hK : ∀ b u, argH K s₁.heap A b = some u → K.lookup b = none := fun b u q => (argH_is ar q).1
  have noS : ∀ {b : Addr} {o : Obj}, s₁.heap.get? b = some o → (∀ vs n, o.data ≠ .seq vs n) → argH K s₁.heap A b = none := fun {b o} e d => by
    cases q : argH K s₁.heap A b with
    | none => rfl
    | some u =>
      obtain ⟨_, vs, _, _, ⟨e2, _⟩ | ⟨e2, _⟩⟩ := argH_is ar q
      · rw [e2] at e
        cases e
        exact absurd rfl (d _ _)
      · rw [e2] at e
        cases e
        exact absurd rfl (d _ _)
  generalize argH K s₁.heap A = H0 at hO hok hS hK noS
  have nPt : H0 Pt = none := noS hPt (fun _ _ z => by cases z)
  have hO' : OnlyT Pt (upd H0 Pt (.tbl #[])) := ⟨upd_same, fun b hb => by rw [upd_ne hb]; exact hO b⟩
  have hS' : DwAll K (upd H0 Pt (.tbl #[])) (vals.map toV) ds := DwAll.more (fun b u e => by rw [upd_ne (ne_of_none e nPt)]; exact e) _ _ hS
  have hok1 : HOk P w (upd H0 Pt (.tbl #[])) s₁.heap := fun b u e => by
    by_cases hb : b = Pt
    · subst hb
      rw [upd_same] at e
      cases e
      exact hPt
    · rw [upd_ne hb] at e
      exact (hok b u e).stay (fun _ _ _ q => q) (fun c q => by rw [upd_ne (ne_of_none q nPt)]; exact q) fun c xs q => by rw [upd_ne (ne_of_none q nPt)]; exact q
  have noA : ∀ {b : Addr} {o : Obj}, s₁.heap.get? b = some o → (∀ vs n, o.data ≠ .seq vs n) → o ≠ PySem.W.tabObj #[] → upd H0 Pt (.tbl #[]) b = none := fun {b o} e d n => by
    rw [upd_ne (fun z => by rw [z, hPt] at e; cases e; exact n rfl)]
    exact noS e d
  have nK : ∀ b o, K.lookup b = some o → b ≠ Pt := fun b o e z => by
    have e2 := KX b o e
    rw [z, hPt] at e2
    cases e2
    have h2 := List.all_eq_true.mp hnt (b, _) (PySem.W.mem_of_lookupK e)
    exact absurd (show false = true from h2) Bool.false_ne_true
  have hKH : ∀ b o, K.lookup b = some o → upd H0 Pt (.tbl #[]) b = none := fun b o e => by
    rw [upd_ne (nK b o e)]
    cases q : H0 b with
    | none => rfl
    | some u =>
      rw [hK b u q] at e
      cases e
  generalize upd H0 Pt (.tbl #[]) = H at hO' hS' hok1 noA hKH
  have nsK : ∀ {b : Addr} {m : Str → Option Value}, s₁.heap.Ns b m → (hidT s₁.heap H).Ns b m := fun {b m} ⟨o, es, ep, e, d, r⟩ => ⟨o, es, ep, hidT_get e (noA e (fun _ _ z => by rw [d] at z; cases z) (fun z => by rw [z] at d; cases d)), d, r⟩
  have hKb : K.In (hidT s₁.heap H) := fun b o e => hidT_get (KX b o e) (hKH b o e)
  have hM : Mod K mg (hidT s₁.heap H) := ⟨hKb, nsK hns, ⟨mb, nsK hb, hbb⟩, let ⟨mc, h1, h2⟩ := hlim; ⟨mc, nsK h1, h2⟩⟩
  have hCb : PySem.W.CodeHd (hidT s₁.heap H) c Pt := by
    obtain ⟨o, vs, file, tf, flags, tg, inF, text, tt, e1, e2, e3, r⟩ := hC
    exact ⟨o, vs, file, tf, flags, tg, inF, text, tt, hidT_get e1 (noA e1 (fun _ _ z => by rw [e3] at z; cases z) (fun z => by rw [z] at e2; cases e2)), e2, e3, r⟩
  have hBb : BM mg (hidT s₁.heap H) := by
    obtain ⟨bm, o, b1, b2, b3, b4, b5, b6, b7⟩ := hB
    exact ⟨bm, o, b1, b2, b3, hidT_get b4 (noA b4 (fun _ _ z => by rw [b7] at z; cases z) (fun z => by rw [z] at b5; cases b5)), b5, b6, b7⟩
  have e0 : Env0 P w K mg (hidT s₁.heap H) callerA [] s₁ H := ⟨rfl, hM, fun b o e => of_hidT e, Nat.le_of_eq (hidT_size _ _), trivial, fun b hb => absurd (show b ∈ ([] : List Addr) from hb) (by simp), hok1, .of_eq hg⟩
  have hl : vals.length = ps.length := by rw [wellAll_len hwl]; exact hlen
  refine codeAny_mono ((F _ hKb (nsK hns) hCb hBb).run callerA [] s₁ H ⟨vals, []⟩ vals (vals.map toV) _ _ hr e0 (hbind s₁ vals hl) hV (hsp H _ hO' hS')) fun r s' x => ?_
  cases r with
  | error e => exact (hCX H e s' x).elim
  | ok fl =>
    cases fl with
    | next => exact False.elim x
    | brk => exact False.elim x
    | cont => exact False.elim x
    | ret u =>
      obtain ⟨v, H', os, bare, un, hok', r', q⟩ := x
      have kept : ∀ b o, b ≠ Pt → s₁.heap.get? b = some o → s'.heap.get? b = some o := fun b o hb e => by
        cases q2 : H b with
        | none => exact un.keep b o e q2 (by intro z; exact absurd (show b ∈ ([] : List Addr) from z) (by simp)) (by simp)
        | some u2 =>
          rcases hO'.2 b hb with z | ⟨ob, u3, z⟩
          · rw [q2] at z
            cases z
          · have z2 := un.frzs b ob _ z
            obtain ⟨e1, _⟩ := hok1 b _ z
            obtain ⟨e2, _⟩ := hok' b _ z2
            rw [e] at e1
            cases e1
            exact e2
      obtain ⟨more, hm⟩ := un.tbls Pt _ hO'.1
      have gP : s'.heap.get? Pt = some (PySem.W.tabObj (#[] ++ more)) := hok' Pt _ hm
      have KX' : K.In s'.heap := fun b o e => kept b o (nK b o e) (KX b o e)
      obtain ⟨as, hrd⟩ := Dw.reads (R := R) (cl := cl) hok' KX' d0 v u q r'
      refine ⟨u, as, rfl, hrd, ⟨fun b o e => ?_, fun b o e => ?_⟩, os, bare⟩
      · by_cases hb : b = Pt
        · subst hb
          rw [hPt] at e
          cases e
          exact .inr (.inl ⟨(hC.tab hPt).isCodeTable, rfl, #[], more, rfl, gP⟩)
        · exact .inl (kept b o hb e)
      · by_cases hb : b = Pt
        · exact ⟨_, hb ▸ gP⟩
        · exact ⟨o, kept b o hb e⟩
/-- the goal that k_headS leaves, where the def makes a function (its code table grows) -/
theorem walk_specT {r : OpenSpec} {k : Nat} {q : Program} {loose : List Str} {XP : (Str → Option Value) → Heap → Prop} {YP : World → Heap → Prop} {d : DefRec} {K : Params → PySem.W.Frag} {CX : World → CXT} {ps : List Str} {sp : PySem.W.Frag → Addr → Sp}
    (hwell : r.wellSaid = true) (hdf : d.params.defaults = []) (hlen : r.args.length = ps.length) (hr : Room k callerA) (hrec : d ∈ recsOf q) (hnt : ∀ w : World, PySem.W.noTabs (K w.params) = true)
    (hY : ∀ (w : World) (h : Heap), YP w h → (K w.params).In h)
    (F : ∀ (w : World) (mg : Str → Option Value) (fa : Addr) (h : Heap), YP w h → (K w.params).In h → h.Ns mainGlobals mg → mg d.name = some (.ref fa) →
      ∃ fd : FuncData, (∀ (s : Shared) (us : List Value), us.length = ps.length → BindsTo s fd ⟨us, []⟩ (ps.zip us)) ∧
        ∀ (c Pt : Addr) (base : Heap), (∃ o fd', h.get? fa = some o ∧ o.data = .func fd' ∧ fd'.code = .ref c) → (K w.params).In base → base.Ns mainGlobals mg → PySem.W.CodeHd base c Pt → BM mg base → FnOk r.prog w (K w.params) mg base (CX w) k fa fd ps (sp (K w.params) Pt))
    (hsp : ∀ (K : PySem.W.Frag) (Pt : Addr) (H : Hp) (xs : List V) (a : Codec.denoteAll r.args), OnlyT Pt H → Codec.withinAll r.args a = true → Codec.app r.args r.asked a = true → DwAll K H xs (Codec.encAll r.args a) →
      sp K Pt xs H (fun v H' => Dw K H' v (r.ret.enc (Codec.app r.args r.f a))) fun _ _ _ => False)
    (hCX : ∀ (w : World) (H : Hp) (s : Shared) (e : Value) (s' : Shared), CX w [] H s (fun _ _ _ => False) e s' → False) :
    PySem.W.WalkOS q loose XP YP r d [] (fun f vs => PySem.call f vs) := by
  intro w s_0 s₁ mg mb G Y fa o pm cd doc dV kV ho hd hcd hD hmg hg args vals as hpre hlay hrd hwl hlo
  obtain ⟨a, e1, e2⟩ := PySem.W.os_pre_some hpre
  obtain ⟨e3, hwi⟩ := Codec.encAll_of_decAll r.args args a e1
  subst e3
  have KX := hY w _ Y
  obtain ⟨fd, hb, hF⟩ := F w mg fa _ Y KX G.T.g hmg
  obtain ⟨a', o', fd', c, Pt, t1, t2, t3, t4, t5, t6⟩ := G.T.tab d hrec
  have ea := hmg.symm.trans t1
  cases ea
  have hB : BM mg s₁.heap := by
    obtain ⟨bm, ob, b1, b2, b3, b4, b5, b6⟩ := G.T.bmain
    refine ⟨bm, ob, b1, b2, fun z => ?_, b3, b4, b5, b6⟩
    obtain ⟨og, es, ep, eg, hdg, _⟩ := G.T.g
    rw [z, eg] at b3
    cases b3
    rw [hdg] at b6
    cases b6
  refine PySem.W.enter_call (codeAny_mono (spec_callT (R := []) (cl := classAt s_0.heap) (d0 := r.ret.enc (Codec.app r.args r.f a)) KX G.T.g G.T.b G.T.builtins G.T.nolimit hg (PySem.W.CodeHd.of t5 t6) t6.2 (hnt w) hB hwl (pl_encAll _ _) (layable_weight hlay) hr
    (fun base h1 h2 h3 h4 => hF c Pt base ⟨o', fd', t2, t3, t4⟩ h1 h2 h3 h4) hb (by rw [encAll_len]; exact hlen)
    (fun H xs hO hS => hsp (K w.params) Pt H xs a hO hwi e2 hS) fun H e s' => hCX w H s₁ e s') fun r' s' hq => ?_)
  obtain ⟨u, as', rfl, h1, h2, h3, h4⟩ := hq
  exact ⟨.inl ⟨u, _, as', rfl, fun _ => rfl, h1, (OpenSpec.post_iff hwell hwi _ _).mpr rfl, fun z => Bool.noConfusion (show false = true from z)⟩, h2, h3, h4⟩
end L2
set_option Elab.async false
set_option maxRecDepth 100000
set_option maxHeartbeats 400000
set_option linter.all false
namespace Fx
open PySem PySem.Spec PyProof.Rows L2
theorem vals_of : ∀ {xs : List V} {us : List Value}, xs.length = us.length → (∀ (i : Nat) (x : V) (u : Value), xs[i]? = some x → us[i]? = some u → RelV x u) → Vals xs us
  | [], [], _, _ => .nil
  | x :: xs, u :: us, h, r => .cons (r 0 x u rfl rfl) (vals_of (by simpa using h) fun i y v h1 h2 => r (i + 1) y v (by simpa using h1) (by simpa using h2))
  | [], _ :: _, h, _ => by simp at h
  | _ :: _, [], h, _ => by simp at h
section
variable {prog : Program} {w : World} {r d : Addr} {o : Obj} {es : Array DictEntry} {ep : Nat}
theorem src_vals (hdt : o.data = .dict es ep) : PySem.W.KdlSrc prog w "dict_values" r d es.size (fun i v => ∃ en : DictEntry, es[i]? = some en ∧ v = en.val) (fun h => h.IsValuesView r d ∧ h.get? d = some o) where
  type := fun _ hm => hm.1.typeIs
  there := fun _ hm => ⟨let ⟨_, ho, _⟩ := hm.1; Heap.lt_size ho, Heap.lt_size hm.2⟩
  keep := fun _ _ hm hk => ⟨let ⟨o, ho, x⟩ := hm.1; ⟨o, hk r (.inl rfl) o ho, x⟩, hk d (.inr rfl) o hm.2⟩
  notList := by decide
  notTuple := by decide
  hint := fun _ _ _ _ hm hq => PySem.W.kdl_hint_values hm.1.typeIs hq
  iter := fun A s hh hm => ⟨{ cls := .type "dict_valueiterator", data := .fields #[.ref d, .int 0 0, .int es.size 0, .int ep 0] }, fun i h => h.IsValIter s.heap.objs.size d i es.size ep ∧ h.get? d = some o, (fun _ _ hq => vw_iter hm.1 hm.2 hdt hq),
    { sub := fun b hb => by simp at hb; simp [hb]
      frame := fun _ _ _ st hk => ⟨st.1.at fun o e => hk _ (by simp) o e, hk d (by simp) _ st.2⟩
      item := fun i s' Q E hi st hQ => by
        obtain ⟨en, hx⟩ : ∃ p, es[i]? = some p := ⟨es[i], by simp [hi]⟩
        refine vw_item st.1 st.2 hdt rfl hx fun h' hit' hs' => ?_
        exact hQ en.val h' s'.toks ⟨en, hx, rfl⟩ ⟨hit', hs'.extBut d o (Nat.ne_of_lt (Heap.lt_size hm.2)) st.2⟩ fun b o hb e => hs'.extBut b o (fun h => hb (by simp [h])) e
      done := fun s' Q E st hQ => vw_end hh st.1 st.2 hdt rfl (Nat.le_refl _) fun h' he' => hQ h' s'.toks fun b o hb e => he' b o (fun h => hb (by simp [h])) e
      self := fun _ _ _ _ st hQ => wpAny_pyIter_valiter st.1 hQ },
    ⟨⟨_, Heap.get?_push_size _ rfl, rfl, rfl⟩, Heap.get?_push_of_some _ hm.2⟩⟩
end
section
variable {X : Cx} {pins : List (Addr × Obj)} {σ : L2.St} {H : Hp} {s : Shared} {d : Addr}
theorem dT_at {kvs : List (List Key × V)} (I : Inv X pins σ H s) (h : H d = some (.dT kvs)) :
    (d == sysModules) = false ∧ kvs.length ≤ sizeLine ∧ ∃ o, s.heap.get? d = some o ∧ o.ExactDict ∧ ∃ (es : Array DictEntry) (ep : Nat), o.data = .dict es ep ∧ es.size = kvs.length ∧
      ∀ (i : Nat) (k : List Key) (v : V), kvs[i]? = some (k, v) → ∃ (en : DictEntry) (q : Addr), es[i]? = some en ∧ RelV v en.val ∧ en.key = .ref q ∧ H q = some (.tup (k.map kV)) := by
  obtain ⟨z, hs, xs, pr, o', es, ep, ho, hx, hdt, he, _⟩ := I.hok d _ h
  refine ⟨hs, z, o', ho, hx, es, ep, hdt, ?_, fun i k v e => ?_⟩
  · have l1 : es.size = xs.length := size_of_entries he
    have l2 : kvs.length = xs.length := Paired.length pr
    omega
  · obtain ⟨b, hb, e1, e2, e3⟩ := paired_get pr e
    have q := entry_at he i
    rw [hb] at q
    exact ⟨_, b.2.1, q, e3, rfl, e2⟩
end
/-- list(e.values()), e a dict whose keys are tuples -/
def tLVals (td : TE) : TE := fun σ H Q => td σ H fun x H1 => ∃ d kvs, x = .ref d ∧ H1 d = some (.dT kvs) ∧ ∀ l, H1 l = none → Q (.ref l) (upd H1 l (.lst (kvs.map (·.2))))
theorem pe_lvals {X : Cx} {e : Expr} {td : TE} {p apos cpos pos : Pos} (hc : X.calm = true) (hm : X.mg "list" = none) (he : PE X e td) (hg : Gl X "list" := by rfl) (hbase : attributeBase e "values" X.env (eval e X.env) = eval e X.env := by rfl) (hline : (apos.endLine == cpos.line) = true := by rfl)
    (hst : starEach [.Call (.Attribute e "values" apos) [] [] cpos] X.env = (false, eval (.Call (.Attribute e "values" apos) [] [] cpos) X.env) :: starEach [] X.env := by rfl) (hpl : (backTo pos (starEach [] X.env)).any (·.1) = false := by rfl) :
    PE X (.Call (.Name "list" p) [.Call (.Attribute e "values" apos) [] [] cpos] [] pos) (tLVals td) := by
  intro pins s σ H Q I h
  refine wpAny_Call_Name_kw (ld_blt I hg hm (u := .type "list") (by decide +kernel) ?_ (by decide) (by decide))
  refine PyProof.Rows.callWith_type1 ?_ hst hpl
  rw [hst]
  show wpAny _ _ (spliced ((false, eval (.Call (.Attribute e "values" apos) [] [] cpos) X.env) :: backTo pos (starEach [] X.env))) _ _ s
  refine Calls.spliced_cons ?_
  refine wpAny_Call_method (T := "dict") (id := "dict.values") hbase rfl hline PySem.F.plainAttrs_dict PySem.F.slot_dict_values PySem.F.type_dict_values (thn (he pins s σ H _ I h) fun u s1 ⟨x, H1, I1, rx, d, kvs, ex, hd, q⟩ => ?_)
  subst ex
  obtain rfl : u = Value.ref d := rx
  obtain ⟨hs, hz, o, hgd, hx, es, ep, hdt, hsz, ent⟩ := dT_at I1 hd
  have hT : s1.TypeIs (.ref d) "dict" := ⟨o, hgd, hx.1⟩
  refine ⟨hT, fun b z => (by cases z; exact ⟨o, hgd, hx.2.1⟩), ?_⟩
  have I2 : Inv X pins σ H1 { s1 with heap := s1.heap.push { cls := .type "dict_values", data := .fields #[.ref d] } } := I1.kept (t' := s1.toks) fun b ob q => Heap.get?_push_of_some _ q
  show wpAny _ _ (callWith cpos (.builtin "dict.values") [.ref d] [] []) _ X.xe s1
  refine method_meetsIn PySem.F.slot_dict_values PySem.F.entry_dict_values rfl (PySem.evalArgs_none ⟨rfl, hT, PySem.F.args_dict_values_1 _, _, vw_make hs, hT, ?_⟩)
  refine Calls.spliced_nil ?_
  refine PySem.W.kdl_call (s := { s1 with heap := s1.heap.push { cls := .type "dict_values", data := .fields #[.ref d] } }) (src_vals hdt) (I1.ok.hd hc) ⟨⟨_, Heap.get?_push_size _ rfl, rfl, rfl⟩, Heap.get?_push_of_some _ hgd⟩ (by rw [hsz]; exact hz) fun h' tk acc' c' kp hD hacc => ?_
  have rv : Vals (kvs.map (·.2)) acc'.toList := by
    refine vals_of (by have h1 := hacc.1; have h2 : acc'.toList.length = acc'.size := Array.length_toList; rw [List.length_map, h2, h1, hsz]) fun i x u h1 h2 => ?_
    rw [List.getElem?_map] at h1
    cases e1 : kvs[i]? with
    | none => rw [e1] at h1; cases h1
    | some kv =>
      rw [e1] at h1
      cases h1
      obtain ⟨en, q', g1, g2, _⟩ := ent i kv.1 kv.2 e1
      obtain ⟨en', g1', rfl⟩ := hacc.2 i u (by rw [← Array.getElem?_toList]; exact h2)
      rw [g1] at g1'
      cases g1'
      exact g2
  exact ⟨.ref _, _, I2.laid (t' := tk) kp (Nat.le_refl _) (show ObjOk X.prog X.w _ h' _ (.lst (kvs.map (·.2))) from ⟨by rw [List.length_map]; exact hz, acc'.toList, c', rv, by rw [Array.toArray_toList]; exact hD⟩), rfl, q _ (I2.hok.fresh (Nat.le_refl _))⟩
end Fx
set_option Elab.async false
set_option maxRecDepth 100000
set_option maxHeartbeats 400000
namespace Fb
open PySem PySem.Spec PyProof.Rows L2 Fx
def top (i : Nat) : Stmt := PySem.Challenge.pw_flipboards_s09_places.main.body.getD i (.Pass ⟨0, 0, 0, 0⟩)
abbrev s_chosen_parts : Stmt := top 9
abbrev s_tell_places : Stmt := top 10
abbrev m_Fault_init : Stmt := inClass (top 20) 0
abbrev m_Switch_init : Stmt := inClass (top 22) 0
abbrev m_Lamp_init : Stmt := inClass (top 23) 0
abbrev m_Coil_init : Stmt := inClass (top 24) 0
abbrev m_Device_init : Stmt := inClass (top 25) 0
abbrev m_Kick_init : Stmt := inClass (top 26) 0
abbrev m_Board_init : Stmt := inClass (top 27) 0
abbrev s_spelled : Stmt := top 34
abbrev s_is_letter : Stmt := top 35
abbrev s_is_digit : Stmt := top 36
abbrev s_is_name : Stmt := top 37
abbrev s_number_of : Stmt := top 38
abbrev m_Line_init : Stmt := inClass (top 39) 0
abbrev m_Line_has_more : Stmt := inClass (top 39) 1
abbrev m_Line_comes : Stmt := inClass (top 39) 2
abbrev m_Line_take : Stmt := inClass (top 39) 3
abbrev m_Line_take_keyword : Stmt := inClass (top 39) 4
abbrev m_Line_take_ending : Stmt := inClass (top 39) 5
abbrev m_Line_take_name : Stmt := inClass (top 39) 6
abbrev m_Line_take_number : Stmt := inClass (top 39) 7
abbrev m_Line_finish : Stmt := inClass (top 39) 8
abbrev s_find_end : Stmt := top 40
abbrev s_check_bytes : Stmt := top 41
abbrev s_split_words : Stmt := top 42
abbrev s_read_line : Stmt := top 43
abbrev s_take_new_name : Stmt := top 60
abbrev s_take_new_name_but : Stmt := top 61
abbrev s_take_known : Stmt := top 62
abbrev s_take_place : Stmt := top 63
abbrev s_take_named_number : Stmt := top 64
abbrev s_take_serving_coil : Stmt := top 65
abbrev s_take_held_switch : Stmt := top 66
abbrev s_take_held_switches : Stmt := top 67
abbrev s_take_kick_switch : Stmt := top 68
abbrev s_take_ticks : Stmt := top 69
abbrev s_take_till : Stmt := top 70
abbrev s_read_table_line : Stmt := top 71
abbrev s_read_switch : Stmt := top 72
abbrev s_read_lamp : Stmt := top 73
abbrev s_read_coil : Stmt := top 74
abbrev s_read_device : Stmt := top 75
abbrev s_read_kick : Stmt := top 76
abbrev s_take_sort : Stmt := top 77
abbrev s_read_part : Stmt := top 78
abbrev s_check_drains : Stmt := top 79
abbrev s_read_board : Stmt := top 80
abbrev s_answer : Stmt := top 86
abbrev s_places : Stmt := top 87
end Fb
set_option Elab.async false
set_option maxRecDepth 100000
set_option maxHeartbeats 400000
set_option linter.all false
namespace Fb
open PySem PySem.Spec PyProof.Rows L2 Fx

/-! bytes as values and as keys -/
def bV (w : Tilt.Bytes) : List V := w.map fun c => V.int (c.toNat : Int)
def bK (w : Tilt.Bytes) : List Key := w.map fun c => Sum.inl (c.toNat : Int)
theorem bK_kV (w : Tilt.Bytes) : (bK w).map kV = bV w := by
  unfold bK bV
  rw [List.map_map]
  rfl
theorem bV_len (w : Tilt.Bytes) : (bV w).length = w.length := by unfold bV; rw [List.length_map]
theorem bV_get {w : Tilt.Bytes} {i : Nat} {c : UInt8} (h : w[i]? = some c) : (bV w)[i]? = some (V.int (c.toNat : Int)) := by
  unfold bV
  rw [List.getElem?_map, h]
  rfl
theorem bK_inj {a b : Tilt.Bytes} (h : bK a = bK b) : a = b := by
  unfold bK at h
  refine List.map_inj_right ?_ |>.mp h
  intro x y e
  have e1 : ((x.toNat : Nat) : Int) = (y.toNat : Nat) := Sum.inl.inj e
  exact UInt8.toNat_inj.mp (by omega)
/-! what the text holds -/
def DefAt (K : PySem.W.Frag) (mg : Str → Option Value) (x : Str) (st : Stmt) : Prop := ∃ f fd, Fun K x x st f fd ∧ mg x = some (.ref f)
def MethAt (K : PySem.W.Frag) (C : Addr) (m qual : Str) (st : Stmt) : Prop := ∃ f fd, Fun K m qual st f fd ∧ Meth K C m f
def InitAt (K : PySem.W.Frag) (mg : Str → Option Value) (C : Addr) (x qual : Str) (st : Stmt) : Prop := ∃ f fd, Fun K "__init__" qual st f fd ∧ Mk K C f ∧ mg x = some (.ref C)
def GI (mg : Str → Option Value) (x : Str) (i : Int) : Prop := ∃ t, mg x = some (.int i t)
/-- a class and the attributes that none of its classes has -/
structure ClsN (K : PySem.W.Frag) (C : Addr) (ns : List Str) : Prop where
  cl : Cls K C
  no : ∀ f ∈ ns, NoAttr K C f
def Has (P : Program) (w : World) (K : PySem.W.Frag) (mg : Str → Option Value) (base : Heap) (CX : CXT) (k : Nat) (x : Str) (ps : List Str) (sp : Sp) : Prop :=
  ∃ f fd, FnOk P w K mg base CX k f fd ps sp ∧ mg x = some (.ref f) ∧ PySem.W.keepIn K (.ref f) = true ∧ Binds K fd ps []
def HasM (P : Program) (w : World) (K : PySem.W.Frag) (mg : Str → Option Value) (base : Heap) (CX : CXT) (k : Nat) (C : Addr) (m : Str) (ps : List Str) (sp : Sp) : Prop :=
  ∃ f fd, FnOk P w K mg base CX k f fd ps sp ∧ Meth K C m f ∧ Cls K C ∧ Binds K fd ps []
def HasI (P : Program) (w : World) (K : PySem.W.Frag) (mg : Str → Option Value) (base : Heap) (CX : CXT) (k : Nat) (C : Addr) (x : Str) (ps : List Str) (sp : Sp) : Prop :=
  ∃ f fd, FnOk P w K mg base CX k f fd ps sp ∧ Mk K C f ∧ mg x = some (.ref C) ∧ Binds K fd ps []
section
variable {X : Cx} {CX : CXT} {k : Nat} {C : Addr} {ps : List Str} {sp : Sp} {E : XK} {x m : Str} {p pos apos : Pos} {e o : Expr} {es : List Expr} {ta : TE} {t : TA}
theorem pe_gi {i : Int} (h : GI X.mg x i) (hg : Gl X x := by rfl) (hd : (x == ("__debug__" : Str)) = false := by decide) : PE X (.Name x pos) (tC (.int i)) := by
  obtain ⟨t, h⟩ := h
  exact pe_glob hg h (v := .int i) ⟨t, rfl⟩ hd
theorem pe_fn (h : Has X.prog X.w X.K X.mg X.base CX k x ps sp) (hr : Room k X.A) (hx : Passes CX X E) (ha : PA X (e :: es) t) (hg : Gl X x := by rfl) (hdb : (x == ("__debug__" : Str)) = false := by decide)
    (he : starEach (e :: es) X.env = (false, eval e X.env) :: starEach es X.env := by rfl) (hpl : (backTo pos (starEach es X.env)).any (·.1) = false := by rfl) : PE X (.Call (.Name x p) (e :: es) [] pos) (tCall sp [] E t) := by
  obtain ⟨f, fd, F, hm, hk, hb⟩ := h
  exact pe_call F hr hg hm hk hb .nil hx ha hdb he hpl
theorem pe_mk (h : HasI X.prog X.w X.K X.mg X.base CX k C x ps sp) (hr : Room (k + 1) X.A) (hx : Passes CX X E) (ha : PA X (e :: es) t) (hg : Gl X x := by rfl) (hdb : (x == ("__debug__" : Str)) = false := by decide)
    (he : starEach (e :: es) X.env = (false, eval e X.env) :: starEach es X.env := by rfl) (hpl : (backTo pos (starEach es X.env)).any (·.1) = false := by rfl) : PE X (.Call (.Name x p) (e :: es) [] pos) (tMake C sp [] E t) := by
  obtain ⟨f, fd, F, M, hm, hb⟩ := h
  exact pe_make M F hr hg hm hb .nil hx ha hdb he hpl
theorem pe_mt {pl : Sem Bool} (h : HasM X.prog X.w X.K X.mg X.base CX k C m ps sp) (he : PE X o ta) (hr : Room k X.A) (hx : Passes CX X E) (ha : PA X (e :: es) t)
    (hst : starEach (e :: es) X.env = (false, eval e X.env) :: starEach es X.env := by rfl) (hpl : (backTo pos (starEach es X.env)).any (·.1) = false := by rfl)
    (ht : eval (.Call (.Attribute o m apos) (e :: es) [] pos) X.env = (do
      let ov ← eval o X.env
      standAt apos.atName
      let (f, first) ← holding [ov] (getMethod ov m pl)
      callWith pos f first (backTo pos (starEach (e :: es) X.env)) (backToKw pos (keywordEach [] X.env))) := by rfl) : PE X (.Call (.Attribute o m apos) (e :: es) [] pos) (tMeth C m sp [] E ta t) := by
  obtain ⟨f, fd, F, M, c, hb⟩ := h
  exact pe_meth (pl := pl) he c M F hr hb .nil hx ha hst hpl ht
theorem pe_mt0 {pl : Sem Bool} (h : HasM X.prog X.w X.K X.mg X.base CX k C m ps sp) (he : PE X o ta) (hr : Room k X.A) (hx : Passes CX X E)
    (ht : eval (.Call (.Attribute o m apos) [] [] pos) X.env = (do
      let ov ← eval o X.env
      standAt apos.atName
      let (f, first) ← holding [ov] (getMethod ov m pl)
      callWith pos f first (backTo pos (starEach [] X.env)) (backToKw pos (keywordEach [] X.env))) := by rfl) : PE X (.Call (.Attribute o m apos) [] [] pos) (tMeth C m sp [] E ta tNil) := by
  obtain ⟨f, fd, F, M, c, hb⟩ := h
  exact pe_meth0 (pl := pl) he c M F hr hb .nil hx ht
end
section
variable {P : Program} {w : World} {K : PySem.W.Frag} {mg : Str → Option Value} {base : Heap} {C : Addr} {x qual m : Str} {st : Stmt} {N ps : List Str} {k : Nat} {sp : Sp}
abbrev BindsL (x qual : Str) (st : Stmt) (ps : List Str) : Prop := ∀ (kV doc pm : Value) (an : Option Addr) (cdv ct : Value) (us : List Value), us.length = ps.length → bindArgs (PySem.W.fnOf x qual (defArgs st) (defBody st) (defScope st) .none kV doc pm an cdv ct) ⟨us, []⟩ = pure (ps.zip us)
abbrev Body0 (P : Program) (w : World) (K : PySem.W.Frag) (mg : Str → Option Value) (base : Heap) (qual : Str) (st : Stmt) (N : List Str) (k : Nat) (sp : Sp) : Prop := ∀ (f : Addr) (cdv : Value) (A : Around) (outer : List Env) (s : Shared) (H : Hp) (vs : List V) (Q : VK) (E : XK), Room k (A.deeper (envOfC qual (defScope st) s.heap.objs.size f cdv)) → sp vs H Q E →
      ∃ t, PSs (cxOf CX0 P w K mg base N qual (defScope st) f cdv A outer s H E).nox (defBody st) t ∧ t { nx := fun _ H' => Q .non H', rt := Q } (start N vs) H
abbrev BodyX (P : Program) (w : World) (K : PySem.W.Frag) (mg : Str → Option Value) (base : Heap) (qual : Str) (st : Stmt) (N : List Str) (k : Nat) (sp : Sp) : Prop := ∀ (f : Addr) (cdv : Value) (A : Around) (outer : List Env) (s : Shared) (H : Hp) (vs : List V) (Q : VK) (E : XK), Room k (A.deeper (envOfC qual (defScope st) s.heap.objs.size f cdv)) → sp vs H Q E →
      ∃ t, PSs (cxOf (CXF P w) P w K mg base N qual (defScope st) f cdv A outer s H E) (defBody st) t ∧ t { nx := fun _ H' => Q .non H', rt := Q } (start N vs) H
theorem mk0 (D : DefAt K mg x st) (S : FnScope N ps (defScope st)) (b : BindsL x x st ps) (len : ∀ vs H Q E, sp vs H Q E → vs.length = ps.length) (h : Body0 P w K mg base x st N k sp) : Has P w K mg base CX0 (k + 1) x ps sp := by
  obtain ⟨f, fd, F, m⟩ := D
  exact ⟨f, fd, F.ok S len (h f), m, F.kp, F.binds b⟩
theorem mkX (D : DefAt K mg x st) (S : FnScope N ps (defScope st)) (b : BindsL x x st ps) (len : ∀ vs H Q E, sp vs H Q E → vs.length = ps.length) (h : BodyX P w K mg base x st N k sp) : Has P w K mg base (CXF P w) (k + 1) x ps sp := by
  obtain ⟨f, fd, F, m⟩ := D
  exact ⟨f, fd, okX F S len (h f), m, F.kp, F.binds b⟩
theorem mkM0 (D : MethAt K C m qual st) (c : Cls K C) (S : FnScope N ps (defScope st)) (b : BindsL m qual st ps) (len : ∀ vs H Q E, sp vs H Q E → vs.length = ps.length) (h : Body0 P w K mg base qual st N k sp) : HasM P w K mg base CX0 (k + 1) C m ps sp := by
  obtain ⟨f, fd, F, m⟩ := D
  exact ⟨f, fd, F.ok S len (h f), m, c, F.binds b⟩
theorem mkMX (D : MethAt K C m qual st) (c : Cls K C) (S : FnScope N ps (defScope st)) (b : BindsL m qual st ps) (len : ∀ vs H Q E, sp vs H Q E → vs.length = ps.length) (h : BodyX P w K mg base qual st N k sp) : HasM P w K mg base (CXF P w) (k + 1) C m ps sp := by
  obtain ⟨f, fd, F, m⟩ := D
  exact ⟨f, fd, okX F S len (h f), m, c, F.binds b⟩
theorem mkI (D : InitAt K mg C x qual st) (S : FnScope N ps (defScope st)) (b : BindsL "__init__" qual st ps) (len : ∀ vs H Q E, sp vs H Q E → vs.length = ps.length) (h : Body0 P w K mg base qual st N k sp) : HasI P w K mg base CX0 (k + 1) C x ps sp := by
  obtain ⟨f, fd, F, M, m⟩ := D
  exact ⟨f, fd, F.ok S len (h f), M, m, F.binds b⟩
end
/-! attributes -/
theorem rdF {K : PySem.W.Frag} {H : Hp} {a C dx : Addr} {ns : List Str} {fs : List (Str × V)} {f : Str} {v : V} {Q : V → Prop} (c : ClsN K C ns) (h : H a = some (.ins C dx fs)) (hn : f ∈ ns) (hl : fs.lookup f = some v) (q : Q v) :
    ∃ a' C' dx' fs' v', V.ref a = .ref a' ∧ H a' = some (.ins C' dx' fs') ∧ Cls K C' ∧ NoAttr K C' f ∧ fs'.lookup f = some v' ∧ Q v' := ⟨a, C, dx, fs, v, rfl, h, c.cl, c.no f hn, hl, q⟩
theorem wrF {K : PySem.W.Frag} {H : Hp} {a C dx : Addr} {ns : List Str} {fs : List (Str × V)} {f : Str} {y : V} {Q : Hp → Prop} (c : ClsN K C ns) (h : H a = some (.ins C dx fs)) (hn : f ∈ ns) (hz : fs.length < 1000) (q : Q (upd H a (.ins C dx (putF f y fs)))) :
    ∃ a' C' dx' fs', V.ref a = .ref a' ∧ H a' = some (.ins C' dx' fs') ∧ Cls K C' ∧ NoAttr K C' f ∧ fs'.length < 1000 ∧ Q (upd H a' (.ins C' dx' (putF f y fs'))) := ⟨a, C, dx, fs, rfl, h, c.cl, c.no f hn, hz, q⟩
/-! faults -/
def Flt (C : Addr) (E : XK) (k p : Int) : Prop := ∀ (H : Hp) (dx : Addr), H dx = some (exD dx [("kind", .int k), ("place", .int p)]) → E (.ref C) (some dx) H
def Out {α : Type} (C : Addr) (E : XK) (r : Except Tilt.Fault α) (k : α → Prop) : Prop := match r with
  | .error e => Flt C E e.kind e.place
  | .ok x => k x
theorem Out.bind {α β : Type} {C : Addr} {E : XK} {r : Except Tilt.Fault α} {f : α → Except Tilt.Fault β} {k : β → Prop} (h : Out C E (r >>= f) k) : Out C E r fun x => Out C E (f x) k := by
  cases r with
  | error e => exact h
  | ok x => exact h
theorem Out.mono {α : Type} {C : Addr} {E : XK} {r : Except Tilt.Fault α} {k k' : α → Prop} (h : Out C E r k) (i : ∀ x, k x → k' x) : Out C E r k' := by
  cases r with
  | error e => exact h
  | ok x => exact i x h
def sFault (C : Addr) (E : XK) (ta tb : TE) : TS := fun _ σ H => ta σ H fun x H1 => tb σ H1 fun y H2 => ∃ k p : Int, x = .int k ∧ y = .int p ∧ Flt C E k p
end Fb
set_option Elab.async false
set_option maxRecDepth 100000
set_option maxHeartbeats 400000
set_option linter.all false
namespace Fb
open PySem PySem.Spec PyProof.Rows L2 Fx
structure Cn where
  F : Addr
  N : Addr
  fI : Addr
  S : Addr
  L : Addr
  C : Addr
  D : Addr
  Ki : Addr
  B : Addr
  Li : Addr
  SO : Addr
abbrev fsS : List Str := ["name", "place", "to_close", "to_open", "turned"]
abbrev fsL : List Str := ["name", "place"]
abbrev fsC : List Str := ["name", "place", "most", "rest", "hold"]
abbrev fsD : List Str := ["name", "coil", "switches", "drain"]
abbrev fsKi : List Str := ["switch", "coil", "ticks", "till"]
abbrev fsB : List Str := ["name", "balls", "switches", "lamps", "coils", "devices", "kicks", "held", "serving"]
abbrev fsLi : List Str := ["words", "end", "taken", "at"]
def sorts : List V := [.str "switch", .str "lamp", .str "coil", .str "device", .str "kick"]
structure Txt (K : PySem.W.Frag) (mg : Str → Option Value) (c : Cn) : Prop where
  xF : XCls K c.F c.N c.fI
  iF : ∃ fd, Fun K "__init__" "Fault.__init__" m_Fault_init c.fI fd
  mF : mg "Fault" = some (.ref c.F)
  nK : NoAttr K c.F "kind"
  nP : NoAttr K c.F "place"
  g_NOT_ENDED : GI mg "NOT_ENDED" 1
  g_WRONG_BYTE : GI mg "WRONG_BYTE" 2
  g_WRONG_WORD : GI mg "WRONG_WORD" 3
  g_WRONG_FORM : GI mg "WRONG_FORM" 4
  g_NOT_NEW : GI mg "NOT_NEW" 5
  g_NOT_THERE : GI mg "NOT_THERE" 6
  g_CLASH : GI mg "CLASH" 7
  g_TOO_FEW_HELD : GI mg "TOO_FEW_HELD" 8
  cS : ClsN K c.S fsS
  iS : InitAt K mg c.S "Switch" "Switch.__init__" m_Switch_init
  cL : ClsN K c.L fsL
  iL : InitAt K mg c.L "Lamp" "Lamp.__init__" m_Lamp_init
  cC : ClsN K c.C fsC
  iC : InitAt K mg c.C "Coil" "Coil.__init__" m_Coil_init
  cD : ClsN K c.D fsD
  iD : InitAt K mg c.D "Device" "Device.__init__" m_Device_init
  cKi : ClsN K c.Ki fsKi
  iKi : InitAt K mg c.Ki "Kick" "Kick.__init__" m_Kick_init
  cB : ClsN K c.B fsB
  iB : InitAt K mg c.B "Board" "Board.__init__" m_Board_init
  g_NL : GI mg "NL" 10
  g_BLANK : GI mg "BLANK" 32
  g_LAST_SIGN : GI mg "LAST_SIGN" 126
  g_MOST_NAME_BYTES : GI mg "MOST_NAME_BYTES" 12
  g_NO_NUMBER : GI mg "NO_NUMBER" (-1)
  d_spelled : DefAt K mg "spelled" s_spelled
  d_is_letter : DefAt K mg "is_letter" s_is_letter
  d_is_digit : DefAt K mg "is_digit" s_is_digit
  d_is_name : DefAt K mg "is_name" s_is_name
  d_number_of : DefAt K mg "number_of" s_number_of
  cLi : ClsN K c.Li fsLi
  iLi : InitAt K mg c.Li "Line" "Line.__init__" m_Line_init
  m_has_more : MethAt K c.Li "has_more" "Line.has_more" m_Line_has_more
  m_comes : MethAt K c.Li "comes" "Line.comes" m_Line_comes
  m_take : MethAt K c.Li "take" "Line.take" m_Line_take
  m_take_keyword : MethAt K c.Li "take_keyword" "Line.take_keyword" m_Line_take_keyword
  m_take_ending : MethAt K c.Li "take_ending" "Line.take_ending" m_Line_take_ending
  m_take_name : MethAt K c.Li "take_name" "Line.take_name" m_Line_take_name
  m_take_number : MethAt K c.Li "take_number" "Line.take_number" m_Line_take_number
  m_finish : MethAt K c.Li "finish" "Line.finish" m_Line_finish
  d_find_end : DefAt K mg "find_end" s_find_end
  d_check_bytes : DefAt K mg "check_bytes" s_check_bytes
  d_split_words : DefAt K mg "split_words" s_split_words
  d_read_line : DefAt K mg "read_line" s_read_line
  g_MOST_BALLS : GI mg "MOST_BALLS" 8
  g_MOST_SWITCH_PLACE : GI mg "MOST_SWITCH_PLACE" 63
  g_MOST_LAMP_PLACE : GI mg "MOST_LAMP_PLACE" 63
  g_MOST_COIL_PLACE : GI mg "MOST_COIL_PLACE" 31
  g_MOST_TO_CLOSE : GI mg "MOST_TO_CLOSE" 31
  g_MOST_TO_OPEN : GI mg "MOST_TO_OPEN" 31
  g_MOST_COIL_MOST : GI mg "MOST_COIL_MOST" 1023
  g_MOST_COIL_REST : GI mg "MOST_COIL_REST" 4095
  g_MOST_COIL_HOLD : GI mg "MOST_COIL_HOLD" 15
  g_MOST_KICK_TICKS : GI mg "MOST_KICK_TICKS" 255
  g_MOST_DEVICES : GI mg "MOST_DEVICES" 8
  g_MOST_KICKS : GI mg "MOST_KICKS" 8
  g_MOST_HELD : GI mg "MOST_HELD" 8
  g_NO_PLACE : GI mg "NO_PLACE" (-1)
  d_take_new_name : DefAt K mg "take_new_name" s_take_new_name
  d_take_new_name_but : DefAt K mg "take_new_name_but" s_take_new_name_but
  d_take_known : DefAt K mg "take_known" s_take_known
  d_take_place : DefAt K mg "take_place" s_take_place
  d_take_named_number : DefAt K mg "take_named_number" s_take_named_number
  d_take_serving_coil : DefAt K mg "take_serving_coil" s_take_serving_coil
  d_take_held_switch : DefAt K mg "take_held_switch" s_take_held_switch
  d_take_held_switches : DefAt K mg "take_held_switches" s_take_held_switches
  d_take_kick_switch : DefAt K mg "take_kick_switch" s_take_kick_switch
  d_take_ticks : DefAt K mg "take_ticks" s_take_ticks
  d_take_till : DefAt K mg "take_till" s_take_till
  d_read_table_line : DefAt K mg "read_table_line" s_read_table_line
  d_read_switch : DefAt K mg "read_switch" s_read_switch
  d_read_lamp : DefAt K mg "read_lamp" s_read_lamp
  d_read_coil : DefAt K mg "read_coil" s_read_coil
  d_read_device : DefAt K mg "read_device" s_read_device
  d_read_kick : DefAt K mg "read_kick" s_read_kick
  d_take_sort : DefAt K mg "take_sort" s_take_sort
  d_read_part : DefAt K mg "read_part" s_read_part
  d_check_drains : DefAt K mg "check_drains" s_check_drains
  d_read_board : DefAt K mg "read_board" s_read_board
  mSO : mg "SORTS" = some (.ref c.SO)
  kSO : ∃ (o : Obj) (its : Array Value) (n : Nat), K.lookup c.SO = some o ∧ o.cls = .type "tuple" ∧ o.data = .seq its n ∧ its.size ≤ sizeLine ∧ Vals sorts its.toList
  b_ord : mg "ord" = none
  b_tuple : mg "tuple" = none
  b_len : mg "len" = none
  b_range : mg "range" = none
  b_max : mg "max" = none
  b_sum : mg "sum" = none
end Fb
set_option Elab.async false
set_option maxRecDepth 100000
set_option maxHeartbeats 400000
set_option linter.all false
namespace Fb
open PySem PySem.Spec PyProof.Rows L2 Fx
section
variable {P : Program} {w : World} {K : PySem.W.Frag} {mg : Str → Option Value} {base : Heap} {c : Cn}
/-! Fault(kind, place) -/
theorem sc_Fault : FnScope ["self", "kind", "place"] ["self", "kind", "place"] (defScope m_Fault_init) := ⟨rfl, rfl, rfl, by decide +kernel, rfl, by decide +kernel, by decide +kernel⟩
def spFault (C : Addr) : Sp := fun vs H Q _ => ∃ (x : Addr) (k p : Int), vs = [.ref x, .int k, .int p] ∧ H x = some (exN x (.ref C) none) ∧ ∀ (H' : Hp) (dx : Addr), dx ≠ x → H' x = some (exN x (.ref C) (some dx)) → H' dx = some (exD dx [("kind", .int k), ("place", .int p)]) → Q .non H'
theorem ok_Fault (T : Txt K mg c) {fd : FuncData} (F : Fun K "__init__" "Fault.__init__" m_Fault_init c.fI fd) : FnOk P w K mg base CX0 1 c.fI fd ["self", "kind", "place"] (spFault c.F) := by
  refine F.ok sc_Fault (fun vs H Q E h => ?_) (fun cdv A outer s H vs Q E hr h => ?_)
  · obtain ⟨x, k, p, rfl, _⟩ := h
    rfl
  · obtain ⟨x, k, p, rfl, hx, q⟩ := h
    refine ⟨_, pss_cons (ps_x0 (pv 0) (pv 1) rfl) (pss_one (ps_x1 (pv 0) (pv 2) rfl)), ?_⟩
    refine ⟨_, rfl, _, rfl, x, c.F, c.N, c.fI, rfl, hx, T.xF, T.nK, fun dx hd ne => ?_⟩
    have hx1 : upd (upd H x (exN x (.ref c.F) (some dx))) dx (exD dx [("kind", V.int k)]) x = some (exN x (.ref c.F) (some dx)) := by rw [upd_ne (Ne.symm ne), upd_same]
    refine ⟨_, rfl, _, rfl, x, c.F, c.N, c.fI, dx, _, rfl, hx1, upd_same, T.xF, T.nP, (by show 1 < 1000; decide), ?_⟩
    refine q _ dx ne ?_ upd_same
    rw [upd_ne (Ne.symm ne)]
    exact hx1
theorem ps_fault {X : Cx} {E : XK} {e1 e2 : Expr} {t : TA} {p pos pos' : Pos} (T : Txt X.K X.mg c) (hr : Room 2 X.A) (hE : XE X E) (ha : PA X [e1, e2] t) (hc : X.calm = true := by rfl) (hx0 : X.ex = [] := by rfl) (hg : Gl X "Fault" := by rfl)
    (he : starEach [e1, e2] X.env = (false, eval e1 X.env) :: starEach [e2] X.env := by rfl) (hpl : (backTo pos (starEach [e2] X.env)).any (·.1) = false := by rfl) :
    PS X (.Raise (some (.Call (.Name "Fault" p) [e1, e2] [] pos)) none pos') (sRaise X.K X.s_0 (tExc c.F X.s_0 (spFault c.F) E0 t) E) := by
  obtain ⟨fd, F⟩ := T.iF
  exact ps_raise (E := E) hc hE (pe_exc (E := E0) T.xF (ok_Fault T F) hr hg T.mF (F.binds fun _ _ _ _ _ _ us hl => match us, hl with | [_, _, _], _ => rfl) pass0 hx0 ha (by decide) he hpl)
/-- the reading of a raise, behind its two arguments -/
theorem flt_rd (T : Txt K mg c) {s0 : Shared} {H1 : Hp} {E : XK} {k p : Int} (h : Flt c.F E k p) :
    ([V.int k, V.int p] : List V).length ≤ sizeLine ∧ ∀ x, H1 x = none → s0.heap.get? x = none → spFault c.F (.ref x :: [V.int k, V.int p]) (upd H1 x (exN x (.ref c.F) none)) (fun v H2 => v = .non ∧ (fun v H1 => ∃ a C N fI dx, v = V.ref a ∧ H1 a = some (exN a (.ref C) (some dx)) ∧ XCls K C N fI ∧ s0.heap.get? a = none ∧ E (.ref C) (some dx) (upd H1 a (exO a (.ref C) (some dx)))) (.ref x) H2) E0 := by
  refine ⟨by show 2 ≤ sizeLine; decide, fun x hx h0 => ⟨x, k, p, rfl, upd_same, fun H' dx ne e1 e2 => ⟨rfl, x, c.F, c.N, c.fI, dx, rfl, e1, T.xF, h0, h _ dx ?_⟩⟩⟩
  rw [upd_ne ne]
  exact e2
/-! letters, digits -/
theorem le8 (a : Nat) (h : a < 256) (x : UInt8) : decide ((x.toNat : Int) ≥ (a : Int)) = decide (UInt8.ofNat a ≤ x) := by
  have e : (UInt8.ofNat a).toNat = a := by simp; omega
  rw [Bool.eq_iff_iff, decide_eq_true_iff, decide_eq_true_iff, UInt8.le_iff_toNat_le, e]
  omega
theorem ge8 (a : Nat) (h : a < 256) (x : UInt8) : decide ((x.toNat : Int) ≤ (a : Int)) = decide (x ≤ UInt8.ofNat a) := by
  have e : (UInt8.ofNat a).toNat = a := by simp; omega
  rw [Bool.eq_iff_iff, decide_eq_true_iff, decide_eq_true_iff, UInt8.le_iff_toNat_le, e]
  omega
def spB (f : UInt8 → Bool) : Sp := fun vs H Q _ => ∃ b : UInt8, vs = [.int (b.toNat : Int)] ∧ Q (.bl (f b)) H
theorem sc_is_letter : FnScope ["byte"] ["byte"] (defScope s_is_letter) := ⟨rfl, rfl, rfl, by decide +kernel, rfl, by decide +kernel, by decide +kernel⟩
theorem ok_is_letter (T : Txt K mg c) : Has P w K mg base CX0 1 "is_letter" ["byte"] (spB Tilt.isSmall) := by
  refine mk0 T.d_is_letter sc_is_letter (fun _ _ _ _ _ _ us hl => match us, hl with | [_], _ => rfl) (fun vs H Q E h => ?_) (fun f cdv A outer s H vs Q E hr h => ?_)
  · obtain ⟨b, rfl, _⟩ := h
    rfl
  · obtain ⟨b, rfl, q⟩ := h
    refine ⟨_, pss_one (ps_ret (pe_and (pe_cmpR op_ge (pv 0) (pe_callB call_ord rfl T.b_ord PyProof.Rows.boot_ord (pa_cons pe_str pa_nil)) (nomark _)) (pe_one (pe_cmpR op_le (pv 0) (pe_callB call_ord rfl T.b_ord PyProof.Rows.boot_ord (pa_cons pe_str pa_nil)) (nomark _))))), ?_⟩
    refine ⟨_, rfl, _, rfl, rfl, _, _, rfl, rfl, _, rfl, ite2 (fun h => ⟨_, rfl, _, rfl, rfl, _, _, rfl, rfl, ?_⟩) fun h => ?_⟩
    · have e1 := of_decide_eq_true h
      have e : Tilt.isSmall b = decide ((b.toNat : Int) ≤ ((122 : Nat) : Int)) := by
        unfold Tilt.isSmall
        rw [ge8 122 (by decide), show decide ((97 : UInt8) ≤ b) = true from (le8 97 (by decide) b).symm.trans h]
        rfl
      rw [e] at q
      exact q
    · have e : Tilt.isSmall b = false := by
        unfold Tilt.isSmall
        rw [show decide ((97 : UInt8) ≤ b) = false from (le8 97 (by decide) b).symm.trans (Bool.eq_false_iff.mpr h)]
        rfl
      rw [e] at q
      exact q
theorem sc_is_digit : FnScope ["byte"] ["byte"] (defScope s_is_digit) := ⟨rfl, rfl, rfl, by decide +kernel, rfl, by decide +kernel, by decide +kernel⟩
theorem ok_is_digit (T : Txt K mg c) : Has P w K mg base CX0 1 "is_digit" ["byte"] (spB Tilt.isDigit) := by
  refine mk0 T.d_is_digit sc_is_digit (fun _ _ _ _ _ _ us hl => match us, hl with | [_], _ => rfl) (fun vs H Q E h => ?_) (fun f cdv A outer s H vs Q E hr h => ?_)
  · obtain ⟨b, rfl, _⟩ := h
    rfl
  · obtain ⟨b, rfl, q⟩ := h
    refine ⟨_, pss_one (ps_ret (pe_and (pe_cmpR op_ge (pv 0) (pe_callB call_ord rfl T.b_ord PyProof.Rows.boot_ord (pa_cons pe_str pa_nil)) (nomark _)) (pe_one (pe_cmpR op_le (pv 0) (pe_callB call_ord rfl T.b_ord PyProof.Rows.boot_ord (pa_cons pe_str pa_nil)) (nomark _))))), ?_⟩
    refine ⟨_, rfl, _, rfl, rfl, _, _, rfl, rfl, _, rfl, ite2 (fun h => ⟨_, rfl, _, rfl, rfl, _, _, rfl, rfl, ?_⟩) fun h => ?_⟩
    · have e : Tilt.isDigit b = decide ((b.toNat : Int) ≤ ((57 : Nat) : Int)) := by
        unfold Tilt.isDigit
        rw [ge8 57 (by decide), show decide ((48 : UInt8) ≤ b) = true from (le8 48 (by decide) b).symm.trans h]
        rfl
      rw [e] at q
      exact q
    · have e : Tilt.isDigit b = false := by
        unfold Tilt.isDigit
        rw [show decide ((48 : UInt8) ≤ b) = false from (le8 48 (by decide) b).symm.trans (Bool.eq_false_iff.mpr h)]
        rfl
      rw [e] at q
      exact q
end
end Fb
set_option Elab.async false
set_option maxRecDepth 100000
set_option maxHeartbeats 400000
set_option linter.all false
namespace Fb
open PySem PySem.Spec PyProof.Rows L2 Fx
theorem take_snoc {α : Type} {l : List α} {i : Nat} {x : α} (h : l[i]? = some x) : l.take (i + 1) = l.take i ++ [x] := by
  rw [List.take_add_one, h]
  rfl
theorem bV_get' {w : Tilt.Bytes} {i : Nat} {v : V} (h : (bV w)[i]? = some v) : ∃ b, w[i]? = some b ∧ v = .int (b.toNat : Int) := by
  unfold bV at h
  rw [List.getElem?_map] at h
  cases e : w[i]? with
  | none => rw [e] at h; cases h
  | some b => rw [e] at h; exact ⟨b, rfl, (Option.some.inj h).symm⟩
def okSign (b : UInt8) : Bool := Tilt.isSmall b || (Tilt.isDigit b || b == 95)
theorem eq8 (a : Nat) (h : a < 256) (x : UInt8) : decide (V.int (x.toNat : Int) = V.int (a : Int)) = (x == UInt8.ofNat a) := by
  have e : (UInt8.ofNat a).toNat = a := by simp; omega
  rw [Bool.eq_iff_iff, decide_eq_true_iff, beq_iff_eq]
  constructor
  · intro z
    have z' : (x.toNat : Int) = (a : Int) := V.int.inj z
    exact UInt8.toNat_inj.mp (by omega)
  · intro z
    rw [z, e]
def numI (w : Tilt.Bytes) : Int := match Tilt.numberOf w with
  | none => -1
  | some n => (n : Int)
def val (w : Tilt.Bytes) : Nat := w.foldl (fun (n : Nat) (c : UInt8) => 10 * n + (c.toNat - 48)) 0
theorem val_snoc (w : Tilt.Bytes) (b : UInt8) : val (w ++ [b]) = 10 * val w + (b.toNat - 48) := by
  unfold val
  rw [List.foldl_append]
  rfl
theorem numI_zero {w : Tilt.Bytes} (h : w.head? = some 48) (h1 : 1 < w.length) : numI w = -1 := by
  unfold numI Tilt.numberOf
  rw [if_pos (.inr (.inr ⟨h, fun z => by rw [z] at h1; exact absurd h1 (by decide)⟩))]
theorem numI_no {w : Tilt.Bytes} (h : w.all Tilt.isDigit = false) : numI w = -1 := by
  unfold numI Tilt.numberOf
  rw [if_pos (.inr (.inl h))]
theorem numI_yes {w : Tilt.Bytes} (h0 : w ≠ []) (h : w.all Tilt.isDigit = true) (h1 : ¬ (w.head? = some 48 ∧ 1 < w.length)) : numI w = (val w : Int) := by
  unfold numI Tilt.numberOf
  rw [if_neg]
  · rfl
  · rintro (z | z | ⟨z1, z2⟩)
    · exact h0 (List.isEmpty_iff.mp z)
    · rw [h] at z; cases z
    · refine h1 ⟨z1, ?_⟩
      match w, h0, z1, z2 with
      | [a], _, z1, z2 => exact absurd (congrArg (fun x => [x]) (Option.some.inj z1)) z2
      | _ :: _ :: _, _, _, _ => simp
theorem digit_toNat {b : UInt8} (h : Tilt.isDigit b = true) : 48 ≤ b.toNat ∧ b.toNat ≤ 57 := by
  unfold Tilt.isDigit at h
  rw [Bool.and_eq_true, decide_eq_true_iff, decide_eq_true_iff, UInt8.le_iff_toNat_le, UInt8.le_iff_toNat_le] at h
  exact h
theorem isName_long {w : Tilt.Bytes} (h : 12 < w.length) : Tilt.isName w = false := by
  unfold Tilt.isName
  rw [show decide (w.length ≤ Tilt.NAME) = false from decide_eq_false (by show ¬ w.length ≤ 12; omega)]
  simp
theorem isName_at {w : Tilt.Bytes} {b : UInt8} (h0 : w.head? = some b) (h : w.length ≤ 12) : Tilt.isName w = (w.all okSign && Tilt.isSmall b) := by
  have h1 : 1 ≤ w.length := by
    match w, h0 with
    | _ :: _, _ => simp
  unfold Tilt.isName
  rw [decide_eq_true h1, show decide (w.length ≤ Tilt.NAME) = true from decide_eq_true h, h0]
  rfl
theorem all_take_false {α : Type} {f : α → Bool} {l : List α} {i : Nat} {x : α} (h : l[i]? = some x) (hf : f x = false) : l.all f = false := by
  rw [Bool.eq_false_iff]
  intro z
  rw [List.all_eq_true.mp z x (List.mem_of_getElem? h)] at hf
  cases hf
theorem all_snoc {α : Type} {f : α → Bool} {l : List α} {x : α} (h : l.all f = true) (hf : f x = true) : (l ++ [x]).all f = true := by
  rw [List.all_append, h]
  simp [hf]
section
variable {P : Program} {w : World} {K : PySem.W.Frag} {mg : Str → Option Value} {base : Heap} {c : Cn}
theorem sc_is_name : FnScope ["word", "byte"] ["word"] (defScope s_is_name) := ⟨rfl, rfl, rfl, by decide +kernel, rfl, by decide +kernel, by decide +kernel⟩
def spIsName : Sp := fun vs H Q _ => ∃ (a : Addr) (b : Tilt.Bytes), vs = [.ref a] ∧ H a = some (.tup (bV b)) ∧ b ≠ [] ∧ Q (.bl (Tilt.isName b)) H
theorem ok_is_name (T : Txt K mg c) : Has P w K mg base CX0 2 "is_name" ["word"] spIsName := by
  refine mk0 T.d_is_name sc_is_name (fun _ _ _ _ _ _ us hl => match us, hl with | [_], _ => rfl) (fun vs H Q E h => ?_) (fun f cdv A outer s H vs Q E hr h => ?_)
  · obtain ⟨a, b, rfl, _⟩ := h
    rfl
  · obtain ⟨a, b, rfl, ha, hb, q⟩ := h
    refine ⟨_, pss_cons (ps_if (PW.pt (pw_or (pt_cmpR op_gt (pe_callB call_len_seq rfl T.b_len PySem.boot_len (pa_cons (pv 0) pa_nil)) (pe_gi T.g_MOST_NAME_BYTES) (nomark _)) (pw_or1 (pt_not (pt_val (pe_fn (ok_is_letter T) hr pass0 (pa_cons (pe_ix ix_tup (pv 0) pe_int (fun _ _ => rfl)) pa_nil))))))) (pss_one (ps_ret pe_bl)) pss_nil)
      (pss_cons (ps_for PassesOwn.never rfl (pi_tup (pv 0)) (pg_name (i := 1) sc_is_name.nd rfl (Or.inl rfl))
        (pss_one (ps_if (pt_not (PW.pt (pw_or (pt_val (pe_fn (ok_is_letter T) hr pass0 (pa_cons (pv 1) pa_nil))) (pw_or (pt_val (pe_fn (ok_is_digit T) hr pass0 (pa_cons (pv 1) pa_nil))) (pw_or1 (pt_cmpR op_eq (pv 1) (pe_callB call_ord rfl T.b_ord PyProof.Rows.boot_ord (pa_cons pe_str pa_nil)) (nomark _))))))) (pss_one (ps_ret pe_bl)) pss_nil)))
      (pss_one (ps_ret pe_bl))), ?_⟩
    obtain ⟨b0, hb0⟩ : ∃ b0, b[0]? = some b0 := by
      cases b with
      | nil => exact absurd rfl hb
      | cons x _ => exact ⟨x, rfl⟩
    have hh : b.head? = some b0 := by rw [List.head?_eq_getElem?]; exact hb0
    refine ⟨_, rfl, a, _, rfl, .inr (SqT.of ha), _, _, rfl, rfl, _, rfl, ite2 (fun h => ?_) fun h => ?_⟩
    · have h' : 12 < b.length := by
        have := of_decide_eq_true h
        rw [bV_len] at this
        omega
      rw [isName_long h'] at q
      exact iteT q
    · have h' : b.length ≤ 12 := by
        have := of_decide_eq_false (Bool.eq_false_iff.mpr h)
        rw [bV_len] at this
        omega
      rw [isName_at hh h'] at q
      refine ⟨_, rfl, a, _, _, _, rfl, rfl, SqT.of ha, atI_nat (bV_get hb0), b0, rfl, _, rfl, ?_⟩
      cases hs : Tilt.isSmall b0 with
      | false =>
        rw [hs, Bool.and_false] at q
        exact iteT q
      | true =>
        rw [hs, Bool.and_true] at q
        refine iteF ⟨_, rfl, a, rfl, ⟨_, SqT.of ha⟩, for_tup (K := K) (a := a) (xs := bV b) (fun i σ H' => H = H' ∧ (b.take i).all okSign = true ∧ ∃ x, σ = [some (.ref a), x]) ⟨rfl, rfl, none, rfl⟩ (fun i σ H' _ ⟨e, _⟩ => e ▸ SqT.of ha) ?_ ?_⟩
        · rintro i y σ H' hi ⟨rfl, hall, x, rfl⟩
          obtain ⟨d, hd, rfl⟩ := bV_get' hi
          have fin : ∀ z : Bool, okSign d = z → (if (!z) = true then Q (.bl false) H else H = H ∧ (b.take (i + 1)).all okSign = true ∧ ∃ x, ([some (.ref a), some (.int (d.toNat : Int))] : L2.St) = [some (.ref a), x]) := by
            intro z hz
            cases z with
            | false => 
              rw [all_take_false hd hz] at q
              exact iteT q
            | true => exact iteF ⟨rfl, by rw [take_snoc hd]; exact all_snoc hall hz, _, rfl⟩
          refine ⟨_, rfl, d, rfl, _, rfl, ite2 (fun h1 => fin true (by unfold okSign; rw [h1]; rfl)) fun h1 => ⟨_, rfl, d, rfl, _, rfl, ite2 (fun h2 => fin true (by unfold okSign; rw [h2]; simp)) fun h2 => ⟨_, rfl, _, rfl, rfl, rfl, _, rfl, fin _ ?_⟩⟩⟩
          unfold okSign
          rw [Bool.eq_false_iff.mpr h1, Bool.eq_false_iff.mpr h2, Bool.false_or, Bool.false_or]
          exact (eq8 95 (by decide) d).symm
        · rintro σ H' ⟨rfl, hall, x, rfl⟩
          rw [bV_len, List.take_length] at hall
          rw [hall] at q
          exact q
theorem sc_number_of : FnScope ["word", "number", "byte"] ["word"] (defScope s_number_of) := ⟨rfl, rfl, rfl, by decide +kernel, rfl, by decide +kernel, by decide +kernel⟩
def spNum : Sp := fun vs H Q _ => ∃ (a : Addr) (b : Tilt.Bytes), vs = [.ref a] ∧ H a = some (.tup (bV b)) ∧ b ≠ [] ∧ Q (.int (numI b)) H
theorem ok_number_of (T : Txt K mg c) : Has P w K mg base CX0 2 "number_of" ["word"] spNum := by
  refine mk0 T.d_number_of sc_number_of (fun _ _ _ _ _ _ us hl => match us, hl with | [_], _ => rfl) (fun vs H Q E h => ?_) (fun f cdv A outer s H vs Q E hr h => ?_)
  · obtain ⟨a, b, rfl, _⟩ := h
    rfl
  · obtain ⟨a, b, rfl, ha, hb, q⟩ := h
    refine ⟨_, pss_cons (ps_if (PW.pt (pw_and (pt_cmpR op_eq (pe_ix ix_tup (pv 0) pe_int (fun _ _ => rfl)) (pe_callB call_ord rfl T.b_ord PyProof.Rows.boot_ord (pa_cons pe_str pa_nil)) (nomark _)) (pw_and1 (pt_cmpR op_gt (pe_callB call_len_seq rfl T.b_len PySem.boot_len (pa_cons (pv 0) pa_nil)) pe_int (nomark _))))) (pss_one (ps_ret (pe_gi T.g_NO_NUMBER))) pss_nil)
      (pss_cons (ps_set (i := 1) sc_number_of.nd rfl (Or.inl rfl) pe_int)
      (pss_cons (ps_for PassesOwn.never rfl (pi_tup (pv 0)) (pg_name (i := 2) sc_number_of.nd rfl (Or.inl rfl))
        (pss_cons (ps_if (pt_not (pt_val (pe_fn (ok_is_digit T) hr pass0 (pa_cons (pv 2) pa_nil)))) (pss_one (ps_ret (pe_gi T.g_NO_NUMBER))) pss_nil)
        (pss_one (ps_set (i := 1) sc_number_of.nd rfl (Or.inl rfl) (pe_op op_sub (pe_op op_add (pe_op op_mul (pv 1) pe_int) (pv 2)) (pe_callB call_ord rfl T.b_ord PyProof.Rows.boot_ord (pa_cons pe_str pa_nil)))))))
      (pss_one (ps_ret (pv 1))))), ?_⟩
    obtain ⟨b0, hb0⟩ : ∃ b0, b[0]? = some b0 := by
      cases b with
      | nil => exact absurd rfl hb
      | cons x _ => exact ⟨x, rfl⟩
    have hh : b.head? = some b0 := by rw [List.head?_eq_getElem?]; exact hb0
    refine ⟨_, rfl, a, _, _, _, rfl, rfl, SqT.of ha, atI_nat (bV_get hb0), _, rfl, rfl, rfl, _, rfl, ite2 (fun h => ⟨_, rfl, a, _, rfl, .inr (SqT.of ha), _, _, rfl, rfl, _, rfl, ite2 (fun h2 => ?a) (fun h2 => ?b)⟩) (fun h => iteF ?c)⟩
    case a =>
      have e1 : b0 = 48 := eq_of_beq ((eq8 48 (by decide) b0).symm.trans h)
      have e2 : 1 < b.length := by
        have := of_decide_eq_true h2
        rw [bV_len] at this
        omega
      rw [numI_zero (by rw [hh, e1]) e2] at q
      exact q
    case' b =>
      have hne : ¬ (b.head? = some 48 ∧ 1 < b.length) := fun z => by
        have := of_decide_eq_false (Bool.eq_false_iff.mpr h2)
        rw [bV_len] at this
        omega
    case' c =>
      have hne : ¬ (b.head? = some 48 ∧ 1 < b.length) := fun z => by
        rw [hh] at z
        exact h ((eq8 48 (by decide) b0).trans (beq_iff_eq.mpr (Option.some.inj z.1)))
    case b | c =>
      refine ⟨_, rfl, a, rfl, ⟨_, SqT.of ha⟩, for_tup (K := K) (a := a) (xs := bV b) (fun i σ H' => H = H' ∧ (b.take i).all Tilt.isDigit = true ∧ ∃ x, σ = [some (.ref a), some (.int (val (b.take i) : Int)), x]) ⟨rfl, rfl, none, rfl⟩ (fun i σ H' _ ⟨e, _⟩ => e ▸ SqT.of ha) ?_ ?_⟩
      · rintro i y σ H' hi ⟨rfl, hall, x, rfl⟩
        obtain ⟨d, hd, rfl⟩ := bV_get' hi
        refine ⟨_, rfl, d, rfl, _, rfl, ?_⟩
        cases hz : Tilt.isDigit d with
        | false =>
          rw [numI_no (all_take_false hd hz)] at q
          exact iteT q
        | true =>
          refine iteF ⟨_, rfl, _, _, rfl, rfl, .inr ⟨by decide, by decide⟩, _, rfl, _, _, rfl, rfl, _, rfl, rfl, _, _, rfl, rfl, rfl, ?_, some (.int (d.toNat : Int)), ?_⟩
          · rw [take_snoc hd]
            exact all_snoc hall hz
          · have := digit_toNat hz
            rw [take_snoc hd, val_snoc]
            show [some (V.ref a), some (V.int ((val (b.take i) : Int) * 10 + (d.toNat : Int) - ((48 : Nat) : Int))), some (V.int (d.toNat : Int))] = _
            rw [show (val (b.take i) : Int) * 10 + (d.toNat : Int) - ((48 : Nat) : Int) = ((10 * val (b.take i) + (d.toNat - 48) : Nat) : Int) by omega]
      · rintro σ H' ⟨rfl, hall, x, rfl⟩
        rw [bV_len, List.take_length] at hall
        rw [numI_yes hb hall hne] at q
        refine ⟨_, rfl, ?_⟩
        rw [bV_len, List.take_length]
        exact q
end
end Fb
set_option Elab.async false
set_option maxRecDepth 100000
set_option maxHeartbeats 400000
set_option linter.all false
namespace Fb
open PySem PySem.Spec PyProof.Rows L2 Fx
/-! a written word -/
def sV (x : Str) : List V := x.cps.toList.map fun (c : Nat) => V.int (c : Int)
structure Kw (x : Str) (s : String) : Prop where
  eq : sV x = bV (Tilt.ascii s)
  sz : x.cps.size ≤ 100
theorem same_upd {H : Hp} {a : Addr} {o : HO} (h : H a = none) : Same H (upd H a o) := fun b u e => by
  rw [upd_ne (ne_of_none e h)]
  exact e
theorem lc_any {J : It} {g : TG} {tt : TT} {te : TE} {vs : List Nat} {σ : L2.St} {H1 : Hp} {D : Addr} {Qd : Hp → Prop} (n : Nat) (Pv : Nat → Hp → Prop) (h0 : Pv 0 (upd H1 D (.lst []))) (hgo : ∀ i H, i < n → Pv i H → J.go i H) (hst : ∀ H, Pv n H → J.stop n H)
    (hs : ∀ i x H H', i < n → Pv i H → J.yld i H x H' → g x (wipe σ vs) H' fun σ2 H2 => wipe σ2 vs = wipe σ vs ∧ tt σ2 H2 fun b H3 =>
      if b = true then te σ2 H3 fun y H4 => ∃ acc, H4 D = some (.lst acc) ∧ acc.length < sizeLine ∧ Pv (i + 1) (upd H4 D (.lst (acc ++ [y]))) else Pv (i + 1) H3) (hd : ∀ H, Pv n H → Qd H) :
    ∃ W : Nat → Nat → Hp → Prop, (∃ m, W 0 m (upd H1 D (.lst []))) ∧ ∀ i m H, W i m H →
      (J.stop i H ∧ Qd H) ∨ (J.go i H ∧ ∃ Nx : Hp → Prop, (∀ H', Nx H' → ∃ m', m' < m ∧ W (i + 1) m' H') ∧ ∀ x H', J.yld i H x H' → g x (wipe σ vs) H' fun σ2 H2 => wipe σ2 vs = wipe σ vs ∧ tt σ2 H2 fun b H3 =>
        if b = true then te σ2 H3 fun y H4 => ∃ acc, H4 D = some (.lst acc) ∧ acc.length < sizeLine ∧ Nx (upd H4 D (.lst (acc ++ [y]))) else Nx H3) := by
  refine ⟨fun i m H => m = n - i ∧ i ≤ n ∧ Pv i H, ⟨n, by simp, Nat.zero_le _, h0⟩, ?_⟩
  rintro i m H ⟨rfl, hi, p⟩
  by_cases lt : i < n
  · exact .inr ⟨hgo i H lt p, Pv (i + 1), fun H' p' => ⟨n - (i + 1), by omega, rfl, lt, p'⟩, fun x H' y => hs i x H H' lt p y⟩
  · have e : i = n := by omega
    subst e
    exact .inl ⟨hst H p, hd H p⟩
theorem yesT {σ : L2.St} {H : Hp} {A B : Hp → Prop} (h : A H) : tYes σ H (fun b H3 => if b = true then A H3 else B H3) := by
  unfold tYes
  dsimp only
  rw [if_pos rfl]
  exact h
section
variable {P : Program} {w : World} {K : PySem.W.Frag} {mg : Str → Option Value} {base : Heap} {c : Cn}
theorem sc_spelled : FnScope ["word", "sign"] ["word"] (defScope s_spelled) := ⟨rfl, rfl, rfl, by decide +kernel, rfl, by decide +kernel, by decide +kernel⟩
def spSpelled : Sp := fun vs H Q _ => ∃ (x : Str) (s : String), vs = [.str x] ∧ Kw x s ∧ ∀ (p : Addr) (H' : Hp), Same H H' → H p = none → H' p = some (.tup (bV (Tilt.ascii s))) → Q (.ref p) H'
theorem ok_spelled (T : Txt K mg c) : Has P w K mg base CX0 1 "spelled" ["word"] spSpelled := by
  refine mk0 T.d_spelled sc_spelled (fun _ _ _ _ _ _ us hl => match us, hl with | [_], _ => rfl) (fun vs H Q E h => ?_) (fun f cdv A outer s H vs Q E hr h => ?_)
  · obtain ⟨x, s, rfl, _⟩ := h
    rfl
  · obtain ⟨x, sx, rfl, ⟨hk, hz⟩, k⟩ := h
    refine ⟨_, pss_one (ps_ret (pe_callTy call_tuple_of rfl T.b_tuple PyProof.Rows.boot_tuple (pa_cons (pe_lc rfl sc_spelled.nd (pi_str (pv 0)) (blkOk_by (own := [("sign", 1)]) (by rfl))
      (fun s H C cl fp => pg_name (i := 1) sc_spelled.nd rfl (Or.inl rfl)) (fun _ _ _ _ _ => pts_nil) (fun _ _ _ _ _ => pe_callB call_ord rfl T.b_ord PyProof.Rows.boot_ord (pa_cons (pv 1) pa_nil))) pa_nil))), ?_⟩
    refine ⟨_, rfl, x, rfl, fun D hD => lc_any x.cps.size (fun i H' => H' D = some (.lst ((sV x).take i)) ∧ Same H H') ⟨upd_same, same_upd hD⟩ (fun i _ lt _ => lt) (fun _ _ => Nat.le_refl _) ?_ ?_⟩
    · rintro i v H1 H2 lt ⟨p1, p2⟩ ⟨rfl, c, hc, rfl⟩
      refine ⟨rfl, yesT ?_⟩
      have hx : (sV x)[i]? = some (V.int (c : Int)) := by
        unfold sV
        rw [List.getElem?_map, Array.getElem?_toList, hc]
        rfl
      refine ⟨_, rfl, _, rfl, rfl, _, p1, ?_, ?_, ?_⟩
      · rw [List.length_take, sizeLine_eq]
        omega
      · rw [upd_same, take_snoc hx]
        rfl
      · intro b o e
        rw [upd_ne (ne_of_none e hD)]
        exact p2 b o e
    · rintro H1 ⟨p1, p2⟩
      refine ⟨D, _, rfl, .inl ⟨SqL.of p1, fun l hl => ?_⟩⟩
      have e : (sV x).take x.cps.size = sV x := List.take_of_length_le (by unfold sV; rw [List.length_map, Array.length_toList]; exact Nat.le_refl _)
      refine k l _ (p2.trans (same_upd hl)) (p2.free hl) ?_
      rw [upd_same, e, hk]
end
/-! a line -/
/-- the list of a line's words -/
def Wl (H : Hp) (l wl : Addr) : Prop := ∃ (C dx : Addr) (fs : List (Str × V)), H l = some (.ins C dx fs) ∧ fs.lookup ("words" : Str) = some (V.ref wl)
structure Bar (l : Addr) (H H' : Hp) : Prop where
  keep : ∀ b o, H b = some o → b ≠ l → H' b = some o
  wl : ∀ wl, Wl H l wl → Wl H' l wl
instance {l : Addr} {H H' : Hp} : CoeFun (Bar l H H') (fun _ => ∀ b o, H b = some o → b ≠ l → H' b = some o) := ⟨Bar.keep⟩
theorem Bar.refl {l : Addr} {H : Hp} : Bar l H H := ⟨fun _ _ e _ => e, fun _ h => h⟩
theorem Bar.trans {l : Addr} {H H1 H2 : Hp} (a : Bar l H H1) (b : Bar l H1 H2) : Bar l H H2 := ⟨fun x o e n => b x o (a x o e n) n, fun w h => b.wl w (a.wl w h)⟩
theorem Bar.of {l : Addr} {H H' : Hp} (s : Same H H') : Bar l H H' := ⟨fun b o e _ => s b o e, fun _ ⟨C, dx, fs, h1, h2⟩ => ⟨C, dx, fs, s _ _ h1, h2⟩⟩
theorem Bar.upd {l C dx : Addr} {H : Hp} {fs fs' : List (Str × V)} (h : H l = some (.ins C dx fs)) (hw : ∀ w, fs.lookup ("words" : Str) = some (V.ref w) → fs'.lookup ("words" : Str) = some (V.ref w)) : Bar l H (upd H l (.ins C dx fs')) := ⟨fun b u e n => by rw [upd_ne n]; exact e, fun w ⟨C', dx', f, h1, h2⟩ => by
  rw [h] at h1
  cases h1
  exact ⟨C, dx, fs', upd_same, hw w h2⟩⟩
def lf (wl : Addr) (e t p : Nat) : List (Str × V) := [("words", .ref wl), ("end", .int (e : Int)), ("taken", .int (t : Int)), ("at", .int (p : Int))]
structure LnW (H : Hp) (wl : Addr) (as : List Addr) (ws : List Tilt.Word) : Prop where
  lst : H wl = some (.lst (as.map V.ref))
  len : as.length = ws.length
  wd : ∀ (j : Nat) (a : Addr) (x : Tilt.Word), as[j]? = some a → ws[j]? = some x → ∃ ta, H a = some (.tup [.int (x.at_ : Int), .ref ta]) ∧ H ta = some (.tup (bV x.w))
  ne : ∀ x ∈ ws, x.w ≠ []
theorem LnW.keep {H H' : Hp} {wl l : Addr} {as : List Addr} {ws : List Tilt.Word} {C dx : Addr} {fs : List (Str × V)} (W : LnW H wl as ws) (hl : H l = some (.ins C dx fs)) (b : Bar l H H') : LnW H' wl as ws := by
  refine ⟨b _ _ W.lst (ne_of W.lst hl (by intro z; cases z)), W.len, fun j a x h1 h2 => ?_, W.ne⟩
  obtain ⟨ta, e1, e2⟩ := W.wd j a x h1 h2
  exact ⟨ta, b _ _ e1 (ne_of e1 hl (by intro z; cases z)), b _ _ e2 (ne_of e2 hl (by intro z; cases z))⟩
theorem LnW.same {H H' : Hp} {wl : Addr} {as : List Addr} {ws : List Tilt.Word} (W : LnW H wl as ws) (b : Same H H') : LnW H' wl as ws := by
  refine ⟨b _ _ W.lst, W.len, fun j a x h1 h2 => ?_, W.ne⟩
  obtain ⟨ta, e1, e2⟩ := W.wd j a x h1 h2
  exact ⟨ta, b _ _ e1, b _ _ e2⟩
def LnAt (C : Addr) (H : Hp) (l : Addr) (e p : Nat) (rest : List Tilt.Word) : Prop := ∃ (dx wl : Addr) (as : List Addr) (ws : List Tilt.Word) (t : Nat), H l = some (.ins C dx (lf wl e t p)) ∧ LnW H wl as ws ∧ t ≤ ws.length ∧ rest = ws.drop t
def LnA (C : Addr) (H : Hp) (l : Addr) (e : Nat) (rest : List Tilt.Word) : Prop := ∃ p, LnAt C H l e p rest
theorem LnAt.same {C : Addr} {H H' : Hp} {l : Addr} {e p : Nat} {rest : List Tilt.Word} (L : LnAt C H l e p rest) (s : Same H H') : LnAt C H' l e p rest := by
  obtain ⟨dx, wl, as, ws, t, h1, h2, h3, h4⟩ := L
  exact ⟨dx, wl, as, ws, t, s _ _ h1, h2.same s, h3, h4⟩
theorem LnAt.ins {C : Addr} {H : Hp} {l : Addr} {e p : Nat} {rest : List Tilt.Word} (L : LnAt C H l e p rest) : ∃ dx fs, H l = some (.ins C dx fs) := by
  obtain ⟨dx, wl, as, ws, t, h1, _⟩ := L
  exact ⟨dx, _, h1⟩
/-- a tuple stays where a line alone changes -/
theorem LnAt.tup {C : Addr} {H H' : Hp} {l a : Addr} {e p : Nat} {rest : List Tilt.Word} {xs : List V} (L : LnAt C H l e p rest) (b : Bar l H H') (h : H a = some (.tup xs)) : H' a = some (.tup xs) := by
  obtain ⟨dx, fs, hl⟩ := L.ins
  exact b _ _ h (ne_of h hl (by intro z; cases z))
theorem drop_cons {α : Type} {l : List α} {t : Nat} {x : α} {r : List α} (h : x :: r = l.drop t) : l[t]? = some x ∧ r = l.drop (t + 1) ∧ t < l.length := by
  have h1 : l[t]? = some x := by rw [← List.head?_drop, ← h]; rfl
  refine ⟨h1, ?_, (List.getElem?_eq_some_iff.mp h1).1⟩
  rw [← List.tail_drop, ← h]
  rfl
section
variable {P : Program} {w : World} {K : PySem.W.Frag} {mg : Str → Option Value} {base : Heap} {c : Cn}
theorem sc_Line : FnScope ["self", "words", "end"] ["self", "words", "end"] (defScope m_Line_init) := ⟨rfl, rfl, rfl, by decide +kernel, rfl, by decide +kernel, by decide +kernel⟩
def spLine (C : Addr) : Sp := fun vs H Q _ => ∃ (l dx wl : Addr) (as : List Addr) (ws : List Tilt.Word) (e : Nat), vs = [.ref l, .ref wl, .int (e : Int)] ∧ H l = some (.ins C dx []) ∧ LnW H wl as ws ∧ ∀ H' : Hp, Bar l H H' → LnAt C H' l e e ws → Wl H' l wl → Q .non H'
theorem ok_Line (T : Txt K mg c) : HasI P w K mg base CX0 1 c.Li "Line" ["self", "words", "end"] (spLine c.Li) := by
  refine mkI T.iLi sc_Line (fun _ _ _ _ _ _ us hl => match us, hl with | [_, _, _], _ => rfl) (fun vs H Q E h => ?_) (fun f cdv A outer s H vs Q E hr h => ?_)
  · obtain ⟨l, dx, wl, as, ws, e, rfl, _⟩ := h
    rfl
  · obtain ⟨l, dx, wl, as, ws, e, rfl, hl, W, k⟩ := h
    refine ⟨_, pss_cons (ps_fld (pv 0) (pv 1) rfl) (pss_cons (ps_fld (pv 0) (pv 2) rfl) (pss_cons (ps_fld (pv 0) pe_int rfl) (pss_one (ps_fld (pv 0) (pv 2) rfl)))), ?_⟩
    refine ⟨_, rfl, _, rfl, wrF T.cLi hl (by decide +kernel) (by decide) ⟨_, rfl, _, rfl, wrF T.cLi upd_same (by decide +kernel) (of_decide_eq_true rfl) ⟨_, rfl, wrF T.cLi upd_same (by decide +kernel) (of_decide_eq_true rfl) ⟨_, rfl, _, rfl, wrF T.cLi upd_same (by decide +kernel) (of_decide_eq_true rfl) ?_⟩⟩⟩⟩
    rw [upd_upd, upd_upd, upd_upd]
    have br : ∀ fs' : List (Str × V), Bar l H (upd H l (.ins c.Li dx fs')) := fun fs' => Bar.upd hl (fun w z => by cases z)
    refine k _ (br _) ⟨dx, wl, as, ws, 0, ?_, W.keep hl (br _), Nat.zero_le _, rfl⟩ ⟨c.Li, dx, _, upd_same, rfl⟩
    rw [upd_same]
    rfl
theorem sc_has_more : FnScope ["self"] ["self"] (defScope m_Line_has_more) := ⟨rfl, rfl, rfl, by decide +kernel, rfl, by decide +kernel, by decide +kernel⟩
def spHas (C : Addr) : Sp := fun vs H Q _ => ∃ (l : Addr) (e p : Nat) (rest : List Tilt.Word), vs = [.ref l] ∧ LnAt C H l e p rest ∧ Q (.bl (!rest.isEmpty)) H
theorem ok_has_more (T : Txt K mg c) : HasM P w K mg base CX0 1 c.Li "has_more" ["self"] (spHas c.Li) := by
  refine mkM0 T.m_has_more T.cLi.cl sc_has_more (fun _ _ _ _ _ _ us hl => match us, hl with | [_], _ => rfl) (fun vs H Q E h => ?_) (fun f cdv A outer s H vs Q E hr h => ?_)
  · obtain ⟨l, e, p, rest, rfl, _⟩ := h
    rfl
  · obtain ⟨l, e, p, rest, rfl, ⟨dx, wl, as, ws, t, hl, W, ht, rfl⟩, k⟩ := h
    refine ⟨_, pss_one (ps_ret (pe_cmpR op_lt (pe_fld (pv 0) rfl) (pe_callB call_len_seq rfl T.b_len PySem.boot_len (pa_cons (pe_fld (pv 0) rfl) pa_nil)) (nomark _))), ?_⟩
    refine ⟨_, rfl, rdF T.cLi hl (by decide +kernel) rfl ⟨_, rfl, rdF T.cLi hl (by decide +kernel) rfl ⟨wl, _, rfl, .inl (SqL.of W.lst), _, _, rfl, rfl, ?_⟩⟩⟩
    have e : (!(ws.drop t).isEmpty) = decide ((t : Int) < ((as.map V.ref).length : Nat)) := by
      rw [List.length_map, W.len, Bool.eq_iff_iff, Bool.not_eq_true', decide_eq_true_iff, ← Bool.not_eq_true, List.isEmpty_iff, List.drop_eq_nil_iff]
      omega
    rw [e] at k
    exact k
theorem sc_take : FnScope ["self", "word"] ["self"] (defScope m_Line_take) := ⟨rfl, rfl, rfl, by decide +kernel, rfl, by decide +kernel, by decide +kernel⟩
def spTake (c : Cn) : Sp := fun vs H Q E => ∃ (l : Addr) (e p : Nat) (rest : List Tilt.Word), vs = [.ref l] ∧ LnAt c.Li H l e p rest ∧ Out c.F E (Tilt.next e rest) fun x => ∀ (H' : Hp) (ta : Addr), Bar l H H' → LnAt c.Li H' l e x.1.at_ x.2 → H' ta = some (.tup (bV x.1.w)) → x.1.w ≠ [] → Q (.ref ta) H'
theorem ok_take (T : Txt K mg c) : HasM P w K mg base (CXF P w) 3 c.Li "take" ["self"] (spTake c) := by
  refine mkMX T.m_take T.cLi.cl sc_take (fun _ _ _ _ _ _ us hl => match us, hl with | [_], _ => rfl) (fun vs H Q E h => ?_) (fun f cdv A outer s H vs Q E hr h => ?_)
  · obtain ⟨l, e, p, rest, rfl, _⟩ := h
    rfl
  · obtain ⟨l, e, p, rest, rfl, L, k⟩ := h
    refine ⟨_, pss_cons (ps_if (pt_not (pt_val (pe_mt0 (ok_has_more T) (pv 0) (hr.mono (by decide)) pass0))) (pss_one (ps_fault T hr xe_def (pa_cons (pe_gi T.g_WRONG_WORD) (pa_cons (pe_fld (pv 0) rfl) pa_nil)))) pss_nil)
      (pss_cons (ps_set (i := 1) sc_take.nd rfl (Or.inl rfl) (pe_ix ix_list (pe_fld (pv 0) rfl) (pe_fld (pv 0) rfl) (fun _ _ => rfl)))
      (pss_cons (ps_fldaug (pv 0) pe_int in_add)
      (pss_cons (ps_fld (pv 0) (pe_ix ix_tup (pv 1) pe_int (fun _ _ => rfl)) rfl)
      (pss_one (ps_ret (pe_ix ix_tup (pv 1) pe_int (fun _ _ => rfl))))))), ?_⟩
    obtain ⟨dx, wl, as, ws, t, hl, W, ht, er⟩ := id L
    refine ⟨_, rfl, l, dx, _, rfl, hl, rfl, l, e, p, rest, rfl, L, _, rfl, ?_⟩
    cases rest with
    | nil =>
      refine iteT ⟨_, rfl, rdF T.cLi hl (by decide +kernel) rfl (flt_rd T k)⟩
    | cons x r =>
      obtain ⟨g1, g2, g3⟩ := drop_cons er
      obtain ⟨a, ha⟩ : ∃ a, as[t]? = some a := ⟨as[t]'(by rw [W.len]; exact g3), List.getElem?_eq_getElem _⟩
      obtain ⟨ta, h1, h2⟩ := W.wd t a x ha g1
      have n1 : a ≠ l := ne_of h1 hl (by intro z; cases z)
      have n2 : ta ≠ l := ne_of h2 hl (by intro z; cases z)
      refine iteF ⟨_, rfl, rdF T.cLi hl (by decide +kernel) rfl ⟨_, rfl, rdF T.cLi hl (by decide +kernel) rfl ⟨wl, _, _, .ref a, rfl, rfl, SqL.of W.lst, atI_nat (by rw [List.getElem?_map, ha]; rfl), ?_⟩⟩⟩
      refine ⟨_, rfl, l, c.Li, dx, _, _, rfl, hl, T.cLi.cl, T.cLi.no _ (by decide +kernel), rfl, _, _, rfl, rfl, dx, _, hl, of_decide_eq_true rfl, ?_⟩
      refine ⟨_, rfl, a, _, _, _, rfl, rfl, SqT.of (by rw [upd_ne n1]; exact h1), rfl, _, rfl, wrF T.cLi upd_same (by decide +kernel) (of_decide_eq_true rfl) ?_⟩
      rw [upd_upd]
      refine ⟨_, rfl, a, _, _, _, rfl, rfl, SqT.of (by rw [upd_ne n1]; exact h1), rfl, ?_⟩
      have br : ∀ fs' : List (Str × V), fs'.lookup ("words" : Str) = some (V.ref wl) → Bar l H (upd H l (.ins c.Li dx fs')) := fun fs' h' => Bar.upd hl (fun w z => by cases z; exact h')
      refine k _ ta (br _ rfl) ⟨dx, wl, as, ws, t + 1, ?_, W.keep hl (br _ rfl), g3, g2⟩ (by rw [upd_ne n2]; exact h2) (W.ne x (List.mem_of_getElem? g1))
      rw [upd_same]
      rfl
end
end Fb
set_option Elab.async false
set_option maxRecDepth 100000
set_option maxHeartbeats 400000
set_option linter.all false
namespace Fb
open PySem PySem.Spec PyProof.Rows L2 Fx
/-! tuples of bytes compared -/
def bD (w : Tilt.Bytes) : List PyData := w.map fun c => PyData.int (c.toNat : Int)
theorem dp_all (K : PySem.W.Frag) (H : Hp) : ∀ w : Tilt.Bytes, DpAll K H (bV w) (bD w)
  | [] => .nil
  | c :: r => .cons (.int _) (dp_all K H r)
theorem dp_tup {K : PySem.W.Frag} {H : Hp} {a : Addr} {w : Tilt.Bytes} (h : H a = some (.tup (bV w))) : Dp K H (.ref a) (.tuple (bD w)) := .tup (SqT.of h) (dp_all K H w)
theorem depth_bD : ∀ w : Tilt.Bytes, PyData.depthAll (bD w) = 0
  | [] => rfl
  | c :: r => by
    show max _ (PyData.depthAll (bD r)) = 0
    rw [depth_bD r]
    rfl
theorem lay_bD : ∀ w : Tilt.Bytes, PyData.canLay0 (.tuple (bD w)) = true := by
  intro w
  show PyData.canLayAll0 (bD w) = true
  induction w with
  | nil => rfl
  | cons c r ih =>
    show (_ && PyData.canLayAll0 (bD r)) = true
    rw [ih]
    rfl
theorem shaped_bD (w : Tilt.Bytes) : SeqAt.shaped (.tuple (bD w)) = true := by
  unfold SeqAt.shaped
  rw [lay_bD]
  show (true && decide (PyData.depthAll (bD w) + 1 ≤ 64)) = true
  rw [depth_bD]
  rfl
theorem eqv_bD : ∀ a b : Tilt.Bytes, PyData.eqv (.tuple (bD a)) (.tuple (bD b)) = decide (a = b) := by
  have h : ∀ a b : Tilt.Bytes, PyData.eqvAll (bD a) (bD b) = decide (a = b) := by
    intro a
    induction a with
    | nil =>
      intro b
      cases b with
      | nil => rfl
      | cons _ _ => rfl
    | cons x r ih =>
      intro b
      cases b with
      | nil => rfl
      | cons y q =>
        show (((x.toNat : Int) == (y.toNat : Int)) && PyData.eqvAll (bD r) (bD q)) = _
        rw [ih, Bool.eq_iff_iff, Bool.and_eq_true, beq_iff_eq, decide_eq_true_iff, decide_eq_true_iff, List.cons.injEq, ← UInt8.toNat_inj]
        constructor
        · rintro ⟨z1, z2⟩
          exact ⟨by omega, z2⟩
        · rintro ⟨z1, z2⟩
          exact ⟨by omega, z2⟩
  exact h
theorem rd_eq {K : PySem.W.Frag} {H : Hp} {a b : Addr} {x y : Tilt.Bytes} {Q : VK} (ha : H a = some (.tup (bV x))) (hb : H b = some (.tup (bV y))) (q : Q (.bl (decide (x = y))) H) : rEqD K (.ref a) (.ref b) H Q :=
  ⟨_, _, dp_tup ha, dp_tup hb, shaped_bD x, shaped_bD y, by rw [eqv_bD]; exact q⟩
theorem rd_ne {K : PySem.W.Frag} {H : Hp} {a b : Addr} {x y : Tilt.Bytes} {Q : VK} (ha : H a = some (.tup (bV x))) (hb : H b = some (.tup (bV y))) (q : Q (.bl (!decide (x = y))) H) : rNeD K (.ref a) (.ref b) H Q :=
  ⟨_, _, dp_tup ha, dp_tup hb, shaped_bD x, shaped_bD y, by rw [eqv_bD]; exact q⟩
theorem Out.cases {α β : Type} {C : Addr} {E : XK} {r : Except Tilt.Fault α} {f : α → Except Tilt.Fault β} {k : β → Prop} {k' : α → Prop} (h : Out C E (r >>= f) k) (i : ∀ x, Out C E (f x) k → k' x) : Out C E r k' := h.bind.mono i
def takeName (e : Nat) (l : List Tilt.Word) : Except Tilt.Fault (Tilt.Word × List Tilt.Word) := do
  let x ← Tilt.next e l
  if Tilt.isName x.1.w = false then .error ⟨4, x.1.at_⟩ else return x
section
variable {P : Program} {w : World} {K : PySem.W.Frag} {mg : Str → Option Value} {base : Heap} {c : Cn}
theorem sc_take_keyword : FnScope ["self", "keyword"] ["self", "keyword"] (defScope m_Line_take_keyword) := ⟨rfl, rfl, rfl, by decide +kernel, rfl, by decide +kernel, by decide +kernel⟩
def spKey (c : Cn) : Sp := fun vs H Q E => ∃ (l : Addr) (e p : Nat) (rest : List Tilt.Word) (x : Str) (s : String), vs = [.ref l, .str x] ∧ Kw x s ∧ LnAt c.Li H l e p rest ∧ Out c.F E (Tilt.must e s rest) fun r => ∀ H' : Hp, Bar l H H' → LnA c.Li H' l e r → Q .non H'
theorem ok_take_keyword (T : Txt K mg c) : HasM P w K mg base (CXF P w) 4 c.Li "take_keyword" ["self", "keyword"] (spKey c) := by
  refine mkMX T.m_take_keyword T.cLi.cl sc_take_keyword (fun _ _ _ _ _ _ us hl => match us, hl with | [_, _], _ => rfl) (fun vs H Q E h => ?_) (fun f cdv A outer s H vs Q E hr h => ?_)
  · obtain ⟨l, e, p, rest, x, sx, rfl, _⟩ := h
    rfl
  · obtain ⟨l, e, p, rest, x, sx, rfl, kw, L, k⟩ := h
    refine ⟨_, pss_one (ps_if (pt_cmpR (op_neD hr.units) (pe_mt0 (ok_take T) (pv 0) hr passX) (pe_fn (ok_spelled T) (hr.mono (by decide)) pass0 (pa_cons (pv 1) pa_nil)) (nomark _)) (pss_one (ps_fault T (hr.mono (by decide)) xe_def (pa_cons (pe_gi T.g_WRONG_WORD) (pa_cons (pe_fld (pv 0) rfl) pa_nil)))) pss_nil), ?_⟩
    obtain ⟨dx, fs, hl⟩ := L.ins
    refine ⟨_, rfl, l, dx, fs, rfl, hl, ?_, l, e, p, rest, rfl, L, Out.cases k fun y ky H1 ta b1 L1 hta hne => ⟨_, rfl, x, sx, rfl, kw, fun q H2 s2 hq eq => rd_ne (s2 _ _ hta) eq ⟨_, rfl, ?_⟩⟩⟩
    · obtain ⟨dx, wl, as, ws, t, hl', _⟩ := L
      rw [hl] at hl'
      cases hl'
      rfl
    have L2 := L1.same s2
    by_cases z : y.1.w = Tilt.ascii sx
    · have ky : Out c.F E (if y.1.w = Tilt.ascii sx then (pure y.2 : Except Tilt.Fault (List Tilt.Word)) else .error ⟨3, y.1.at_⟩) _ := ky
      rw [if_pos z] at ky
      rw [decide_eq_true z]
      exact iteF (ky _ (b1.trans (Bar.of s2)) ⟨_, L2⟩)
    · have ky : Out c.F E (if y.1.w = Tilt.ascii sx then (pure y.2 : Except Tilt.Fault (List Tilt.Word)) else .error ⟨3, y.1.at_⟩) _ := ky
      rw [if_neg z] at ky
      rw [decide_eq_false z]
      obtain ⟨dx2, wl2, as2, ws2, t2, hl2, _⟩ := L2
      exact iteT ⟨_, rfl, rdF T.cLi hl2 (by decide +kernel) rfl (flt_rd T ky)⟩
theorem sc_comes : FnScope ["self", "keyword"] ["self", "keyword"] (defScope m_Line_comes) := ⟨rfl, rfl, rfl, by decide +kernel, rfl, by decide +kernel, by decide +kernel⟩
def headIs (s : String) : List Tilt.Word → Bool
  | [] => false
  | x :: _ => decide (x.w = Tilt.ascii s)
def spComes (c : Cn) : Sp := fun vs H Q _ => ∃ (l : Addr) (e p : Nat) (rest : List Tilt.Word) (x : Str) (s : String), vs = [.ref l, .str x] ∧ Kw x s ∧ LnAt c.Li H l e p rest ∧ ∀ H' : Hp, Same H H' → Q (.bl (headIs s rest)) H'
theorem ok_comes (T : Txt K mg c) : HasM P w K mg base CX0 2 c.Li "comes" ["self", "keyword"] (spComes c) := by
  refine mkM0 T.m_comes T.cLi.cl sc_comes (fun _ _ _ _ _ _ us hl => match us, hl with | [_, _], _ => rfl) (fun vs H Q E h => ?_) (fun f cdv A outer s H vs Q E hr h => ?_)
  · obtain ⟨l, e, p, rest, x, sx, rfl, _⟩ := h
    rfl
  · obtain ⟨l, e, p, rest, x, sx, rfl, kw, L, k⟩ := h
    refine ⟨_, pss_one (ps_ret (pe_and (pe_mt0 (ok_has_more T) (pv 0) hr pass0) (pe_one (pe_cmpR (op_eqD hr.units) (pe_ix ix_tup (pe_ix ix_list (pe_fld (pv 0) rfl) (pe_fld (pv 0) rfl) (fun _ _ => rfl)) pe_int (fun _ _ => rfl)) (pe_fn (ok_spelled T) hr pass0 (pa_cons (pv 1) pa_nil)) (nomark _))))), ?_⟩
    obtain ⟨dx, wl, as, ws, t, hl, W, ht, er⟩ := id L
    refine ⟨_, rfl, l, dx, _, rfl, hl, rfl, l, e, p, rest, rfl, L, _, rfl, ?_⟩
    cases rest with
    | nil => exact iteF (k H (Same.refl H))
    | cons y r =>
      obtain ⟨g1, g2, g3⟩ := drop_cons er
      obtain ⟨a, ha⟩ : ∃ a, as[t]? = some a := ⟨as[t]'(by rw [W.len]; exact g3), List.getElem?_eq_getElem _⟩
      obtain ⟨ta, h1, h2⟩ := W.wd t a y ha g1
      refine iteT ⟨_, rfl, rdF T.cLi hl (by decide +kernel) rfl ⟨_, rfl, rdF T.cLi hl (by decide +kernel) rfl ⟨wl, _, _, .ref a, rfl, rfl, SqL.of W.lst, atI_nat (by rw [List.getElem?_map, ha]; rfl), ?_⟩⟩⟩
      refine ⟨a, _, _, _, rfl, rfl, SqT.of h1, rfl, _, rfl, x, sx, rfl, kw, fun q H2 s2 hq eq => rd_eq (s2 _ _ h2) eq ?_⟩
      exact k H2 s2
theorem sc_take_ending : FnScope ["self", "keyword"] ["self", "keyword"] (defScope m_Line_take_ending) := ⟨rfl, rfl, rfl, by decide +kernel, rfl, by decide +kernel, by decide +kernel⟩
def spEnding (c : Cn) : Sp := fun vs H Q E => ∃ (l : Addr) (e p : Nat) (rest : List Tilt.Word) (x : Str) (s : String), vs = [.ref l, .str x] ∧ Kw x s ∧ LnAt c.Li H l e p rest ∧ (rest = [] → Q (.bl false) H) ∧ (rest ≠ [] → Out c.F E (Tilt.must e s rest) fun r => ∀ H' : Hp, Bar l H H' → LnA c.Li H' l e r → Q (.bl true) H')
theorem ok_take_ending (T : Txt K mg c) : HasM P w K mg base (CXF P w) 5 c.Li "take_ending" ["self", "keyword"] (spEnding c) := by
  refine mkMX T.m_take_ending T.cLi.cl sc_take_ending (fun _ _ _ _ _ _ us hl => match us, hl with | [_, _], _ => rfl) (fun vs H Q E h => ?_) (fun f cdv A outer s H vs Q E hr h => ?_)
  · obtain ⟨l, e, p, rest, x, sx, rfl, _⟩ := h
    rfl
  · obtain ⟨l, e, p, rest, x, sx, rfl, kw, L, k1, k2⟩ := h
    refine ⟨_, pss_cons (ps_if (pt_not (pt_val (pe_mt0 (ok_has_more T) (pv 0) (hr.mono (by decide)) pass0))) (pss_one (ps_ret pe_bl)) pss_nil)
      (pss_cons (ps_expr (pe_mt (ok_take_keyword T) (pv 0) hr passX (pa_cons (pv 1) pa_nil))) (pss_one (ps_ret pe_bl))), ?_⟩
    obtain ⟨dx, wl, as, ws, t, hl, W, ht, er⟩ := id L
    refine ⟨_, rfl, l, dx, _, rfl, hl, rfl, l, e, p, rest, rfl, L, _, rfl, ?_⟩
    by_cases hz : rest = []
    · subst hz
      exact iteT (k1 rfl)
    · have e1 : rest.isEmpty = false := by rw [← Bool.not_eq_true, List.isEmpty_iff]; exact hz
      rw [e1]
      refine iteF ⟨_, rfl, l, dx, _, rfl, hl, rfl, _, rfl, l, e, p, rest, x, sx, rfl, kw, L, (k2 hz).mono fun r hr' H' b L' => hr' H' b L'⟩
theorem sc_take_name : FnScope ["self", "word"] ["self"] (defScope m_Line_take_name) := ⟨rfl, rfl, rfl, by decide +kernel, rfl, by decide +kernel, by decide +kernel⟩
def spName (c : Cn) : Sp := fun vs H Q E => ∃ (l : Addr) (e p : Nat) (rest : List Tilt.Word), vs = [.ref l] ∧ LnAt c.Li H l e p rest ∧ Out c.F E (takeName e rest) fun x => ∀ (H' : Hp) (ta : Addr), Bar l H H' → LnAt c.Li H' l e x.1.at_ x.2 → H' ta = some (.tup (bV x.1.w)) → Q (.ref ta) H'
theorem ok_take_name (T : Txt K mg c) : HasM P w K mg base (CXF P w) 4 c.Li "take_name" ["self"] (spName c) := by
  refine mkMX T.m_take_name T.cLi.cl sc_take_name (fun _ _ _ _ _ _ us hl => match us, hl with | [_], _ => rfl) (fun vs H Q E h => ?_) (fun f cdv A outer s H vs Q E hr h => ?_)
  · obtain ⟨l, e, p, rest, rfl, _⟩ := h
    rfl
  · obtain ⟨l, e, p, rest, rfl, L, k⟩ := h
    refine ⟨_, pss_cons (ps_set (i := 1) sc_take_name.nd rfl (Or.inl rfl) (pe_mt0 (ok_take T) (pv 0) hr passX))
      (pss_cons (ps_if (pt_not (pt_val (pe_fn (ok_is_name T) (hr.mono (by decide)) pass0 (pa_cons (pv 1) pa_nil)))) (pss_one (ps_fault T (hr.mono (by decide)) xe_def (pa_cons (pe_gi T.g_WRONG_FORM) (pa_cons (pe_fld (pv 0) rfl) pa_nil)))) pss_nil)
      (pss_one (ps_ret (pv 1)))), ?_⟩
    obtain ⟨dx, wl, as, ws, t, hl, W, ht, er⟩ := id L
    refine ⟨_, rfl, l, dx, _, rfl, hl, rfl, l, e, p, rest, rfl, L, Out.cases k fun y ky H1 ta b1 L1 hta hne => ⟨_, rfl, ta, y.1.w, rfl, hta, hne, _, rfl, ?_⟩⟩
    have ky : Out c.F E (if Tilt.isName y.1.w = false then (.error ⟨4, y.1.at_⟩ : Except Tilt.Fault (Tilt.Word × List Tilt.Word)) else pure y) _ := ky
    cases hn : Tilt.isName y.1.w with
    | false =>
      rw [if_pos hn] at ky
      obtain ⟨dx2, wl2, as2, ws2, t2, hl2, _⟩ := L1
      exact iteT ⟨_, rfl, rdF T.cLi hl2 (by decide +kernel) rfl (flt_rd T ky)⟩
    | true =>
      rw [if_neg (by rw [hn]; decide)] at ky
      exact iteF ⟨_, rfl, ky _ ta b1 L1 hta⟩
theorem sc_take_number : FnScope ["self", "least", "most", "number"] ["self", "least", "most"] (defScope m_Line_take_number) := ⟨rfl, rfl, rfl, by decide +kernel, rfl, by decide +kernel, by decide +kernel⟩
def spNumber (c : Cn) : Sp := fun vs H Q E => ∃ (l : Addr) (e p lo hi : Nat) (rest : List Tilt.Word), vs = [.ref l, .int (lo : Int), .int (hi : Int)] ∧ LnAt c.Li H l e p rest ∧ Out c.F E (Tilt.number e lo hi rest) fun x => ∀ (H' : Hp), Bar l H H' → LnAt c.Li H' l e x.1.2 x.2 → Q (.int (x.1.1 : Int)) H'
theorem ok_take_number (T : Txt K mg c) : HasM P w K mg base (CXF P w) 4 c.Li "take_number" ["self", "least", "most"] (spNumber c) := by
  refine mkMX T.m_take_number T.cLi.cl sc_take_number (fun _ _ _ _ _ _ us hl => match us, hl with | [_, _, _], _ => rfl) (fun vs H Q E h => ?_) (fun f cdv A outer s H vs Q E hr h => ?_)
  · obtain ⟨l, e, p, lo, hi, rest, rfl, _⟩ := h
    rfl
  · obtain ⟨l, e, p, lo, hi, rest, rfl, L, k⟩ := h
    refine ⟨_, pss_cons (ps_set (i := 3) sc_take_number.nd rfl (Or.inl rfl) (pe_fn (ok_number_of T) (hr.mono (by decide)) pass0 (pa_cons (pe_mt0 (ok_take T) (pv 0) hr passX) pa_nil)))
      (pss_cons (ps_if (PW.pt (pw_or (pt_cmpR op_lt (pv 3) (pv 1) (nomark _)) (pw_or1 (pt_cmpR op_gt (pv 3) (pv 2) (nomark _))))) (pss_one (ps_fault T (hr.mono (by decide)) xe_def (pa_cons (pe_gi T.g_WRONG_FORM) (pa_cons (pe_fld (pv 0) rfl) pa_nil)))) pss_nil)
      (pss_one (ps_ret (pv 3)))), ?_⟩
    obtain ⟨dx, wl, as, ws, t, hl, W, ht, er⟩ := id L
    refine ⟨_, rfl, l, dx, _, rfl, hl, rfl, l, e, p, rest, rfl, L, Out.cases k fun y ky H1 ta b1 L1 hta hne => ⟨ta, y.1.w, rfl, hta, hne, _, rfl, _, rfl, _, _, rfl, rfl, _, rfl, ?_⟩⟩
    obtain ⟨dx2, wl2, as2, ws2, t2, hl2, _⟩ := id L1
    have bad : (numI y.1.w < (lo : Int) ∨ (hi : Int) < numI y.1.w) → Flt c.F E 4 (y.1.at_ : Int) := fun z => by
      unfold numI at z
      cases hn : Tilt.numberOf y.1.w with
      | none =>
        rw [hn] at ky
        exact ky
      | some n =>
        rw [hn] at ky z
        dsimp only at ky z
        rw [if_pos (by omega)] at ky
        exact ky
    refine ite2 (fun h => iteT ⟨_, rfl, rdF T.cLi hl2 (by decide +kernel) rfl (flt_rd T (bad (.inl (of_decide_eq_true h))))⟩) fun h => ⟨_, rfl, _, rfl, _, _, rfl, rfl, _, rfl, ite2 (fun h2 => ⟨_, rfl, rdF T.cLi hl2 (by decide +kernel) rfl (flt_rd T (bad (.inr (of_decide_eq_true h2))))⟩) fun h2 => ⟨_, rfl, ?_⟩⟩
    have h := of_decide_eq_false (Bool.eq_false_iff.mpr h)
    have h2 := of_decide_eq_false (Bool.eq_false_iff.mpr h2)
    cases hn : Tilt.numberOf y.1.w with
    | none =>
      unfold numI at h
      rw [hn] at h
      dsimp only at h
      omega
    | some n =>
      have e1 : numI y.1.w = (n : Int) := by
        unfold numI
        rw [hn]
      rw [e1] at h h2 ⊢
      rw [hn] at ky
      dsimp only at ky
      rw [if_neg (by omega)] at ky
      exact ky _ b1 L1
theorem sc_finish : FnScope ["self"] ["self"] (defScope m_Line_finish) := ⟨rfl, rfl, rfl, by decide +kernel, rfl, by decide +kernel, by decide +kernel⟩
def spFinish (c : Cn) : Sp := fun vs H Q E => ∃ (l : Addr) (e p : Nat) (rest : List Tilt.Word), vs = [.ref l] ∧ LnAt c.Li H l e p rest ∧ Out c.F E (Tilt.closed rest) fun _ => Q .non H
theorem ok_finish (T : Txt K mg c) : HasM P w K mg base (CXF P w) 4 c.Li "finish" ["self"] (spFinish c) := by
  refine mkMX T.m_finish T.cLi.cl sc_finish (fun _ _ _ _ _ _ us hl => match us, hl with | [_], _ => rfl) (fun vs H Q E h => ?_) (fun f cdv A outer s H vs Q E hr h => ?_)
  · obtain ⟨l, e, p, rest, rfl, _⟩ := h
    rfl
  · obtain ⟨l, e, p, rest, rfl, L, k⟩ := h
    refine ⟨_, pss_one (ps_if (pt_val (pe_mt0 (ok_has_more T) (pv 0) (hr.mono (by decide)) pass0)) (pss_cons (ps_expr (pe_mt0 (ok_take T) (pv 0) hr passX)) (pss_one (ps_fault T (hr.mono (by decide)) xe_def (pa_cons (pe_gi T.g_WRONG_WORD) (pa_cons (pe_fld (pv 0) rfl) pa_nil))))) pss_nil), ?_⟩
    obtain ⟨dx, wl, as, ws, t, hl, W, ht, er⟩ := id L
    refine ⟨_, rfl, l, dx, _, rfl, hl, rfl, l, e, p, rest, rfl, L, _, rfl, ?_⟩
    cases rest with
    | nil => exact iteF k
    | cons y r =>
      refine iteT ⟨_, rfl, l, dx, _, rfl, hl, rfl, l, e, p, _, rfl, L, fun H1 ta b1 L1 hta hne => ?_⟩
      obtain ⟨dx2, wl2, as2, ws2, t2, hl2, _⟩ := id L1
      exact ⟨_, rfl, rdF T.cLi hl2 (by decide +kernel) rfl (flt_rd T k)⟩
end
end Fb
set_option Elab.async false
set_option maxRecDepth 100000
set_option linter.all false
namespace Fm
open Tilt
def seg (bs : Bytes) (i j : Nat) : Bytes := (bs.drop i).take (j - i)
theorem seg_len {bs : Bytes} {i j : Nat} (h1 : i ≤ j) (h2 : j ≤ bs.length) : (seg bs i j).length = j - i := by
  unfold seg
  rw [List.length_take, List.length_drop]
  omega
theorem seg_self (bs : Bytes) (i : Nat) : seg bs i i = [] := by
  unfold seg
  rw [Nat.sub_self]
  rfl
theorem seg_snoc {bs : Bytes} {i j : Nat} {c : UInt8} (h1 : i ≤ j) (h : bs[j]? = some c) : seg bs i (j + 1) = seg bs i j ++ [c] := by
  unfold seg
  rw [show j + 1 - i = (j - i) + 1 by omega, List.take_add_one, List.getElem?_drop, show i + (j - i) = j by omega, h]
  rfl
theorem drop_at {bs : Bytes} {i : Nat} {c : UInt8} (h : bs[i]? = some c) : bs.drop i = c :: bs.drop (i + 1) := by
  obtain ⟨h1, h2⟩ := List.getElem?_eq_some_iff.mp h
  rw [List.drop_eq_getElem_cons h1, h2]
/-! upTo -/
theorem upTo_nl {bs : Bytes} {i : Nat} (h : bs[i]? = some 10) : upTo (bs.drop i) = some ([], bs.drop (i + 1)) := by
  rw [drop_at h]
  unfold upTo
  rw [if_pos rfl]
theorem upTo_on {bs : Bytes} {i : Nat} {c : UInt8} (h : bs[i]? = some c) (hc : c ≠ 10) : upTo (bs.drop i) = (upTo (bs.drop (i + 1))).map fun x => (c :: x.1, x.2) := by
  rw [drop_at h]
  conv => lhs; unfold upTo
  rw [if_neg hc]
theorem upTo_end {bs : Bytes} {i : Nat} (h : bs.length ≤ i) : upTo (bs.drop i) = none := by
  rw [List.drop_eq_nil_of_le h]
  rfl
/-- what is known behind i bytes that are no NL -/
def UpInv (bs : Bytes) (s i : Nat) : Prop := upTo (bs.drop s) = (upTo (bs.drop (s + i))).map fun x => (seg bs s (s + i) ++ x.1, x.2)
theorem UpInv.zero (bs : Bytes) (s : Nat) : UpInv bs s 0 := by
  unfold UpInv
  rw [Nat.add_zero, seg_self]
  cases upTo (bs.drop s) with
  | none => rfl
  | some x => rfl
theorem UpInv.succ {bs : Bytes} {s i : Nat} {c : UInt8} (I : UpInv bs s i) (h : bs[s + i]? = some c) (hc : c ≠ 10) : UpInv bs s (i + 1) := by
  unfold UpInv at I ⊢
  rw [I, upTo_on h hc, ← Nat.add_assoc, seg_snoc (by omega) h, Option.map_map]
  congr 1
  funext x
  simp
theorem UpInv.nl {bs : Bytes} {s i : Nat} (I : UpInv bs s i) (h : bs[s + i]? = some 10) : upTo (bs.drop s) = some (seg bs s (s + i), bs.drop (s + i + 1)) := by
  unfold UpInv at I
  rw [I, upTo_nl h]
  simp
theorem UpInv.none {bs : Bytes} {s i : Nat} (I : UpInv bs s i) (h : bs.length ≤ s + i) : upTo (bs.drop s) = none := by
  unfold UpInv at I
  rw [I, upTo_end h]
  rfl
theorem upTo_some {bs l r : Bytes} {s : Nat} (hs : s ≤ bs.length) (h : upTo (bs.drop s) = some (l, r)) : l = seg bs s (s + l.length) ∧ r = bs.drop (s + l.length + 1) ∧ s + l.length < bs.length := by
  have key : ∀ (x l r : Bytes), upTo x = some (l, r) → x = l ++ 10 :: r := by
    intro x
    induction x with
    | nil =>
      intro l r h
      unfold upTo at h
      cases h
    | cons c t ih =>
      intro l r h
      unfold upTo at h
      by_cases hc : c = 10
      · rw [if_pos hc] at h
        cases h
        rw [hc]
        rfl
      · rw [if_neg hc] at h
        cases e : upTo t with
        | none =>
          rw [e] at h
          cases h
        | some y =>
          rw [e] at h
          obtain ⟨y1, y2⟩ := y
          cases h
          rw [ih y1 y2 e]
          rfl
  have e := key _ _ _ h
  have el := congrArg List.length e
  rw [List.length_drop, List.length_append, List.length_cons] at el
  refine ⟨?_, ?_, by omega⟩
  · unfold seg
    rw [e, show s + l.length - s = l.length by omega, List.take_left']
    rfl
  · rw [show s + l.length + 1 = s + (l.length + 1) by omega, ← List.drop_drop, e, List.drop_append, List.drop_of_length_le (by omega), show l.length + 1 - l.length = 1 by omega]
    rfl
/-! badByte -/
def gapAt (l : Bytes) (i : Nat) : Bool := decide (i = 0) || (l[i - 1]? == some 32)
structure BbInv (l : Bytes) (i : Nat) : Prop where
  eq : badByte true 0 l = badByte (gapAt l i) i (l.drop i)
  lst : i = l.length → 0 < i → gapAt l i = false
theorem BbInv.zero (l : Bytes) : BbInv l 0 := ⟨rfl, fun _ h => absurd h (by decide)⟩
theorem bb_cons {l : Bytes} {i : Nat} {c : UInt8} (h : l[i]? = some c) (g : Bool) : badByte g i (l.drop i) = if c < 32 ∨ 126 < c then some i else if c = 32 then (if g = true then some i else if i + 1 = l.length then some i else badByte true (i + 1) (l.drop (i + 1))) else badByte false (i + 1) (l.drop (i + 1)) := by
  have h1 : l.drop i = c :: l.drop (i + 1) := drop_at h
  have hl := (List.getElem?_eq_some_iff.mp h).1
  rw [h1]
  conv => lhs; unfold badByte
  have e : ((l.drop (i + 1)).isEmpty = true) = (i + 1 = l.length) := by
    rw [List.isEmpty_iff, List.drop_eq_nil_iff]
    exact propext ⟨fun z => by omega, fun z => by omega⟩
  simp only [e]
theorem BbInv.bad1 {l : Bytes} {i : Nat} {c : UInt8} (I : BbInv l i) (h : l[i]? = some c) (b : c < 32 ∨ 126 < c) : badByte true 0 l = some i := by
  rw [I.eq, bb_cons h, if_pos b]
theorem BbInv.bad2 {l : Bytes} {i : Nat} (I : BbInv l i) (h : l[i]? = some 32) (b : gapAt l i = true ∨ i + 1 = l.length) : badByte true 0 l = some i := by
  rw [I.eq, bb_cons h, if_neg (by decide), if_pos rfl]
  by_cases g : gapAt l i = true
  · rw [if_pos g]
  · rw [if_neg g, if_pos (b.resolve_left g)]
theorem BbInv.step {l : Bytes} {i : Nat} {c : UInt8} (I : BbInv l i) (h : l[i]? = some c) (b1 : ¬ (c < 32 ∨ 126 < c)) (b2 : ¬ (c = 32 ∧ (gapAt l i = true ∨ i + 1 = l.length))) : BbInv l (i + 1) := by
  have hg : gapAt l (i + 1) = (c == 32) := by
    unfold gapAt
    rw [show i + 1 - 1 = i by omega, h]
    simp
  refine ⟨?_, fun e _ => ?_⟩
  · rw [I.eq, bb_cons h, if_neg b1, hg]
    by_cases z : c = 32
    · subst z
      rw [if_pos rfl, if_neg (fun g => b2 ⟨rfl, .inl g⟩), if_neg (fun g => b2 ⟨rfl, .inr g⟩)]
      rfl
    · rw [if_neg z, beq_eq_false_iff_ne.mpr z]
  · rw [hg]
    exact beq_eq_false_iff_ne.mpr fun z => b2 ⟨z, .inr e⟩
theorem BbInv.done {l : Bytes} (I : BbInv l l.length) : badByte true 0 l = none := by
  rw [I.eq, List.drop_length]
  unfold badByte
  by_cases z : l.length = 0
  · simp [z]
  · rw [I.lst rfl (by omega)]
    rfl
/-! wordsFrom -/
theorem wf_blank {l : Bytes} {p i : Nat} {w : Bytes} (h : l[i]? = some 32) : wordsFrom p w (l.drop i) = ⟨w, p - w.length⟩ :: wordsFrom (p + 1) [] (l.drop (i + 1)) := by
  rw [show l.drop i = 32 :: l.drop (i + 1) from drop_at h]
  conv => lhs; unfold wordsFrom
  rw [if_pos rfl]
theorem wf_on {l : Bytes} {p i : Nat} {w : Bytes} {c : UInt8} (h : l[i]? = some c) (hc : c ≠ 32) : wordsFrom p w (l.drop i) = wordsFrom (p + 1) (w ++ [c]) (l.drop (i + 1)) := by
  rw [show l.drop i = c :: l.drop (i + 1) from drop_at h]
  conv => lhs; unfold wordsFrom
  rw [if_neg hc]
theorem wf_ne : ∀ (l : Bytes) (k p : Nat) (w : Bytes), badByte w.isEmpty k l = none → (∀ x ∈ wordsFrom p w l, x.w ≠ [])
  | [], k, p, w, h, x, hx => by
    unfold wordsFrom at hx
    by_cases z : w.isEmpty = true
    · rw [if_pos z] at hx
      cases hx
    · rw [if_neg z, List.mem_singleton] at hx
      rw [hx]
      intro e
      exact z (List.isEmpty_iff.mpr e)
  | c :: r, k, p, w, h, x, hx => by
    unfold badByte at h
    unfold wordsFrom at hx
    by_cases b : c < 32 ∨ 126 < c
    · rw [if_pos b] at h
      cases h
    · rw [if_neg b] at h
      by_cases z : c = 32
      · rw [if_pos z] at h hx
        by_cases g : w.isEmpty = true
        · rw [if_pos g] at h
          cases h
        · rw [if_neg g] at h
          by_cases e : r.isEmpty = true
          · rw [if_pos e] at h
            cases h
          · rw [if_neg e] at h
            rcases List.mem_cons.mp hx with q | q
            · rw [q]
              intro e
              exact g (List.isEmpty_iff.mpr e)
            · exact wf_ne r (k + 1) (p + 1) [] h x q
      · rw [if_neg z] at h hx
        refine wf_ne r (k + 1) (p + 1) (w ++ [c]) ?_ x hx
        rw [show (w ++ [c]).isEmpty = false by cases w <;> rfl]
        exact h
end Fm
set_option Elab.async false
set_option maxRecDepth 100000
set_option maxHeartbeats 400000
set_option linter.all false
namespace Fb
open PySem PySem.Spec PyProof.Rows L2 Fx Fm
/-! the text -/
def TxAt (K : PySem.W.Frag) (H : Hp) (a : Addr) (xs : List V) : Prop := (∃ o, H a = some (.frz o (.lst xs))) ∨ ∃ (o : Obj) (its : Array Value) (n : Nat), K.lookup a = some o ∧ o.cls = .type "list" ∧ o.dict = none ∧ o.data = .seq its n ∧ its.size ≤ sizeLine ∧ Vals xs its.toList
theorem TxAt.sq {K : PySem.W.Frag} {H : Hp} {a : Addr} {xs : List V} (h : TxAt K H a xs) : SqL K H a xs := by
  rcases h with h | h
  · exact .inl (.inr h)
  · exact .inr h
theorem TxAt.same {K : PySem.W.Frag} {H H' : Hp} {a : Addr} {xs : List V} (h : TxAt K H a xs) (s : Same H H') : TxAt K H' a xs := by
  rcases h with ⟨o, h⟩ | h
  · exact .inl ⟨o, s _ _ h⟩
  · exact .inr h
theorem TxAt.keep {K : PySem.W.Frag} {H H' : Hp} {a : Addr} {xs : List V} (h : TxAt K H a xs) (s : ∀ o, H a = some (.frz o (.lst xs)) → H' a = some (.frz o (.lst xs))) : TxAt K H' a xs := by
  rcases h with ⟨o, h⟩ | h
  · exact .inl ⟨o, s _ h⟩
  · exact .inr h
theorem cut_seg {bs : Tilt.Bytes} {i j : Nat} (h1 : i ≤ j) (h2 : j ≤ bs.length) : cutV (bV bs) (some (i : Int)) (some (j : Int)) = bV (seg bs i j) := by
  unfold cutV
  rw [bV_len, HT.sIx_nat, HT.sIx_nat, Nat.min_eq_left h2, Nat.min_eq_left (Nat.le_trans h1 h2)]
  unfold bV seg
  rw [List.map_take, List.map_drop]
section
variable {P : Program} {w : World} {K : PySem.W.Frag} {mg : Str → Option Value} {base : Heap} {c : Cn}
theorem sc_find_end : FnScope ["text", "start", "place"] ["text", "start"] (defScope s_find_end) := ⟨rfl, rfl, rfl, by decide +kernel, rfl, by decide +kernel, by decide +kernel⟩
def spFindEnd (K : PySem.W.Frag) (c : Cn) : Sp := fun vs H Q E => ∃ (a : Addr) (bs : Tilt.Bytes) (st : Nat), vs = [.ref a, .int (st : Int)] ∧ TxAt K H a (bV bs) ∧ st ≤ bs.length ∧ bs.length ≤ 20000 ∧ match Tilt.upTo (bs.drop st) with
  | none => Flt c.F E 1 (bs.length : Int)
  | some x => Q (.int ((st + x.1.length : Nat) : Int)) H
theorem ok_find_end (T : Txt K mg c) : Has P w K mg base (CXF P w) 3 "find_end" ["text", "start"] (spFindEnd K c) := by
  refine mkX T.d_find_end sc_find_end (fun _ _ _ _ _ _ us hl => match us, hl with | [_, _], _ => rfl) (fun vs H Q E h => ?_) (fun f cdv A outer s H vs Q E hr h => ?_)
  · obtain ⟨a, bs, st, rfl, _⟩ := h
    rfl
  · obtain ⟨a, bs, st, rfl, ht, hs, hn, k⟩ := h
    refine ⟨_, pss_cons (ps_for PassesOwn.leaving rfl (pi_range2 rfl T.b_range (pa_cons (pv 1) (pa_cons (pe_callB call_len_seq rfl T.b_len PySem.boot_len (pa_cons (pv 0) pa_nil)) pa_nil))) (pg_name (i := 2) sc_find_end.nd rfl (Or.inl rfl))
        (pss_one (ps_if (pt_cmpR op_eq (pe_ix ix_list (pv 0) (pv 2) (fun _ _ => rfl)) (pe_gi T.g_NL) (nomark _)) (pss_one (ps_ret (pv 2))) pss_nil)))
      (pss_one (ps_fault T hr xe_def (pa_cons (pe_gi T.g_NOT_ENDED) (pa_cons (pe_callB call_len_seq rfl T.b_len PySem.boot_len (pa_cons (pv 0) pa_nil)) pa_nil)))), ?_⟩
    refine ⟨_, rfl, _, rfl, a, _, rfl, .inl ht.sq, (st : Int), ((bV bs).length : Int), rfl, ⟨by omega, by omega, by omega, by rw [bV_len]; omega⟩, for_range (lo := (st : Int)) (fun i σ H' => H = H' ∧ UpInv bs st i ∧ ∃ x, σ = [some (.ref a), some (.int (st : Int)), x]) ⟨rfl, UpInv.zero bs st, none, rfl⟩ ?_ ?_⟩
    · rintro i σ H' hi ⟨rfl, I, x, rfl⟩
      rw [bV_len] at hi
      obtain ⟨b, hb⟩ : ∃ b, bs[st + i]? = some b := ⟨bs[st + i]'(by omega), List.getElem?_eq_getElem _⟩
      refine ⟨_, rfl, _, rfl, a, _, _, _, rfl, rfl, ht.sq, at_of (j := st + i) (by omega) (bV_get hb), rfl, _, rfl, ite2 (fun h => ⟨_, rfl, ?_⟩) fun h => ?_⟩
      · have e : b = 10 := eq_of_beq ((eq8 10 (by decide) b).symm.trans h)
        subst e
        rw [I.nl hb] at k
        have e2 : (st + (seg bs st (st + i)).length : Nat) = st + i := by
          rw [seg_len (by omega) (by omega)]
          omega
        dsimp only at k
        rw [e2] at k
        have e3 : ((st + i : Nat) : Int) = (st : Int) + (i : Int) := by omega
        rw [e3] at k
        exact k
      · exact ⟨rfl, I.succ hb fun e => h (by rw [e]; exact (eq8 10 (by decide) 10).trans rfl), _, rfl⟩
    · rintro σ H' ⟨rfl, I, x, rfl⟩
      rw [bV_len] at I
      rw [I.none (by omega)] at k
      refine ⟨_, rfl, a, _, rfl, .inl ht.sq, flt_rd T ?_⟩
      rw [bV_len]
      exact k
theorem sc_check_bytes : FnScope ["text", "start", "end", "place", "byte"] ["text", "start", "end"] (defScope s_check_bytes) := ⟨rfl, rfl, rfl, by decide +kernel, rfl, by decide +kernel, by decide +kernel⟩
def spCheck (K : PySem.W.Frag) (c : Cn) : Sp := fun vs H Q E => ∃ (a : Addr) (bs : Tilt.Bytes) (st en : Nat), vs = [.ref a, .int (st : Int), .int (en : Int)] ∧ TxAt K H a (bV bs) ∧ st ≤ en ∧ en ≤ bs.length ∧ bs.length ≤ 20000 ∧ match Tilt.badByte true 0 (seg bs st en) with
  | some i => Flt c.F E 2 ((st + i : Nat) : Int)
  | none => Q .non H
theorem seg_get {bs : Tilt.Bytes} {st en i : Nat} (h : st + i < en) : (seg bs st en)[i]? = bs[st + i]? := by
  unfold seg
  rw [List.getElem?_take, if_pos (by omega), List.getElem?_drop]
theorem lt8 (a : Nat) (h : a < 256) (x : UInt8) : decide ((x.toNat : Int) < (a : Int)) = decide (x < UInt8.ofNat a) := by
  have e : (UInt8.ofNat a).toNat = a := by simp; omega
  rw [Bool.eq_iff_iff, decide_eq_true_iff, decide_eq_true_iff, UInt8.lt_iff_toNat_lt, e]
  omega
theorem gt8 (a : Nat) (h : a < 256) (x : UInt8) : decide ((a : Int) < (x.toNat : Int)) = decide (UInt8.ofNat a < x) := by
  have e : (UInt8.ofNat a).toNat = a := by simp; omega
  rw [Bool.eq_iff_iff, decide_eq_true_iff, decide_eq_true_iff, UInt8.lt_iff_toNat_lt, e]
  omega
theorem ok_check_bytes (T : Txt K mg c) : Has P w K mg base (CXF P w) 3 "check_bytes" ["text", "start", "end"] (spCheck K c) := by
  refine mkX T.d_check_bytes sc_check_bytes (fun _ _ _ _ _ _ us hl => match us, hl with | [_, _, _], _ => rfl) (fun vs H Q E h => ?_) (fun f cdv A outer s H vs Q E hr h => ?_)
  · obtain ⟨a, bs, st, en, rfl, _⟩ := h
    rfl
  · obtain ⟨a, bs, st, en, rfl, ht, hs, he, hn, k⟩ := h
    refine ⟨_, pss_one (ps_for PassesOwn.leaving rfl (pi_range2 rfl T.b_range (pa_cons (pv 1) (pa_cons (pv 2) pa_nil))) (pg_name (i := 3) sc_check_bytes.nd rfl (Or.inl rfl))
        (pss_cons (ps_set (i := 4) sc_check_bytes.nd rfl (Or.inl rfl) (pe_ix ix_list (pv 0) (pv 3) (fun _ _ => rfl)))
        (pss_cons (ps_if (PW.pt (pw_or (pt_cmpR op_lt (pv 4) (pe_gi T.g_BLANK) (nomark _)) (pw_or1 (pt_cmpR op_gt (pv 4) (pe_gi T.g_LAST_SIGN) (nomark _))))) (pss_one (ps_fault T hr xe_def (pa_cons (pe_gi T.g_WRONG_BYTE) (pa_cons (pv 3) pa_nil)))) pss_nil)
        (pss_one (ps_if (PW.pt (pw_and (pt_cmpR op_eq (pv 4) (pe_gi T.g_BLANK) (nomark _)) (pw_and1 (PW.pt (pw_or (pt_cmpR op_eq (pv 3) (pv 1) (nomark _)) (pw_or (pt_cmpR op_eq (pe_ix ix_list (pv 0) (pe_op op_sub (pv 3) pe_int) (fun _ _ => rfl)) (pe_gi T.g_BLANK) (nomark _)) (pw_or1 (pt_cmpR op_eq (pe_op op_add (pv 3) pe_int) (pv 2) (nomark _))))))))) (pss_one (ps_fault T hr xe_def (pa_cons (pe_gi T.g_WRONG_BYTE) (pa_cons (pv 3) pa_nil)))) pss_nil))))), ?_⟩
    have hsl : (seg bs st en).length = en - st := seg_len hs he
    refine ⟨_, rfl, _, rfl, (st : Int), (en : Int), rfl, ⟨by omega, by omega, by omega, by omega⟩, for_range (lo := (st : Int)) (fun i σ H' => H = H' ∧ BbInv (seg bs st en) i ∧ ∃ x y, σ = [some (.ref a), some (.int (st : Int)), some (.int (en : Int)), x, y]) ⟨rfl, BbInv.zero _, none, none, rfl⟩ ?_ ?_⟩
    · rintro i σ H' hi ⟨rfl, I, x, y, rfl⟩
      obtain ⟨b, hb⟩ : ∃ b, bs[st + i]? = some b := ⟨bs[st + i]'(by omega), List.getElem?_eq_getElem _⟩
      have hb' : (seg bs st en)[i]? = some b := by rw [seg_get (by omega)]; exact hb
      have e3 : (st : Int) + (i : Int) = ((st + i : Nat) : Int) := by omega
      have flt : Tilt.badByte true 0 (seg bs st en) = some i → Flt c.F E 2 ((st : Int) + (i : Int)) := fun z => by
        rw [z] at k
        rw [e3]
        exact k
      refine ⟨_, rfl, _, rfl, a, _, _, _, rfl, rfl, ht.sq, at_of (j := st + i) e3 (bV_get hb), _, rfl, _, _, rfl, rfl, _, rfl, ite2 (fun h => iteT ⟨_, rfl, flt_rd T (flt (I.bad1 hb' (.inl (of_decide_eq_true ((lt8 32 (by decide) b).symm.trans h)))))⟩) fun h => ⟨_, rfl, _, _, rfl, rfl, _, rfl, ite2 (fun h2 => ⟨_, rfl, flt_rd T (flt (I.bad1 hb' (.inr (of_decide_eq_true ((gt8 126 (by decide) b).symm.trans h2)))))⟩) fun h2 => ?_⟩⟩
      have nb : ¬ (b < 32 ∨ 126 < b) := fun z => z.elim (fun z => h ((lt8 32 (by decide) b).trans (decide_eq_true z))) fun z => h2 ((gt8 126 (by decide) b).trans (decide_eq_true z))
      refine ⟨_, rfl, rfl, _, rfl, ite2 (fun h3 => ?_) fun h3 => iteF ⟨rfl, I.step hb' nb fun z => h3 ((eq8 32 (by decide) b).trans (beq_iff_eq.mpr z.1)), _, _, rfl⟩⟩
      have eb : b = 32 := eq_of_beq ((eq8 32 (by decide) b).symm.trans h3)
      subst eb
      refine ⟨_, rfl, _, rfl, rfl, _, rfl, ite2 (fun h4 => iteT ⟨_, rfl, flt_rd T (flt (I.bad2 hb' (.inl ?_)))⟩) fun h4 => ?_⟩
      · have : (st : Int) + (i : Int) = (st : Int) := V.int.inj (of_decide_eq_true h4)
        have : i = 0 := by omega
        subst this
        rfl
      have h4' : i ≠ 0 := fun z => h4 (decide_eq_true (by rw [z]; simp))
      obtain ⟨b', hb1⟩ : ∃ b', bs[st + i - 1]? = some b' := ⟨bs[st + i - 1]'(by omega), List.getElem?_eq_getElem _⟩
      have hg : gapAt (seg bs st en) i = (b' == 32) := by
        unfold gapAt
        rw [decide_eq_false h4', Bool.false_or, seg_get (by omega), show st + (i - 1) = st + i - 1 by omega, hb1]
        simp
      refine ⟨_, rfl, _, rfl, _, _, rfl, rfl, a, _, _, _, rfl, rfl, ht.sq, at_of (j := st + i - 1) (by omega) (bV_get hb1), rfl, _, rfl, ite2 (fun h5 => iteT ⟨_, rfl, flt_rd T (flt (I.bad2 hb' (.inl (hg.trans ((eq8 32 (by decide) b').symm.trans h5)))))⟩) fun h5 => ?_⟩
      refine ⟨_, rfl, _, _, rfl, rfl, _, rfl, rfl, _, rfl, ite2 (fun h6 => ⟨_, rfl, flt_rd T (flt (I.bad2 hb' (.inr ?_)))⟩) fun h6 => ⟨rfl, I.step hb' nb fun z => ?_, _, _, rfl⟩⟩
      · have : (st : Int) + (i : Int) + 1 = (en : Int) := V.int.inj (of_decide_eq_true h6)
        omega
      · rcases z.2 with z | z
        · exact h5 ((eq8 32 (by decide) b').trans (hg.symm.trans z))
        · exact h6 (decide_eq_true (show V.int ((st : Int) + (i : Int) + 1) = V.int (en : Int) by rw [show (st : Int) + (i : Int) + 1 = (en : Int) by omega]))
    · rintro σ H' ⟨rfl, I, x, y, rfl⟩
      rw [show ((en : Int) - (st : Int)).toNat = (seg bs st en).length by omega] at I
      rw [I.done] at k
      exact k
/-! the words of a line, and the line -/
structure WsAt (H : Hp) (wl : Addr) (as : List Addr) (ws : List Tilt.Word) : Prop where
  lst : H wl = some (.lst (as.map V.ref))
  len : as.length = ws.length
  wd : ∀ (j : Nat) (a : Addr) (x : Tilt.Word), as[j]? = some a → ws[j]? = some x → ∃ ta, H a = some (.tup [.int (x.at_ : Int), .ref ta]) ∧ H ta = some (.tup (bV x.w))
theorem WsAt.same {H H' : Hp} {wl : Addr} {as : List Addr} {ws : List Tilt.Word} (W : WsAt H wl as ws) (b : Same H H') : WsAt H' wl as ws := by
  refine ⟨b _ _ W.lst, W.len, fun j a x h1 h2 => ?_⟩
  obtain ⟨ta, e1, e2⟩ := W.wd j a x h1 h2
  exact ⟨ta, b _ _ e1, b _ _ e2⟩
/-- one more word -/
theorem WsAt.snoc {H : Hp} {wl a ta : Addr} {as : List Addr} {ws : List Tilt.Word} {x : Tilt.Word} (W : WsAt H wl as ws) (h1 : H a = some (.tup [.int (x.at_ : Int), .ref ta])) (h2 : H ta = some (.tup (bV x.w))) :
    WsAt (upd H wl (.lst (as.map V.ref ++ [.ref a]))) wl (as ++ [a]) (ws ++ [x]) := by
  have n1 : a ≠ wl := ne_of h1 W.lst (by intro z; cases z)
  have n2 : ta ≠ wl := ne_of h2 W.lst (by intro z; cases z)
  refine ⟨by rw [upd_same, List.map_append]; rfl, by rw [List.length_append, List.length_append, W.len]; rfl, fun j a' x' e1 e2 => ?_⟩
  by_cases hj : j < as.length
  · rw [List.getElem?_append_left hj] at e1
    rw [List.getElem?_append_left (by rw [← W.len]; exact hj)] at e2
    obtain ⟨ta', q1, q2⟩ := W.wd j a' x' e1 e2
    exact ⟨ta', by rw [upd_ne (ne_of q1 W.lst (by intro z; cases z))]; exact q1, by rw [upd_ne (ne_of q2 W.lst (by intro z; cases z))]; exact q2⟩
  · have hj2 : j = as.length := by
      have := (List.getElem?_eq_some_iff.mp e1).1
      rw [List.length_append, List.length_singleton] at this
      omega
    rw [hj2, List.getElem?_concat_length] at e1
    rw [hj2, W.len, List.getElem?_concat_length] at e2
    cases e1
    cases e2
    exact ⟨ta, by rw [upd_ne n1]; exact h1, by rw [upd_ne n2]; exact h2⟩
theorem same_snoc {H H1 : Hp} {wl : Addr} {o : HO} (s : Same H H1) (h : H wl = none) : Same H (upd H1 wl o) := fun b u e => by
  rw [upd_ne (ne_of_none e h)]
  exact s b u e
theorem sc_split_words : FnScope ["text", "start", "end", "words", "first", "place"] ["text", "start", "end"] (defScope s_split_words) := ⟨rfl, rfl, rfl, by decide +kernel, rfl, by decide +kernel, by decide +kernel⟩
def spSplit (K : PySem.W.Frag) : Sp := fun vs H Q _ => ∃ (a : Addr) (bs : Tilt.Bytes) (st en : Nat), vs = [.ref a, .int (st : Int), .int (en : Int)] ∧ TxAt K H a (bV bs) ∧ st ≤ en ∧ en ≤ bs.length ∧ bs.length ≤ 20000 ∧ ∀ (H' : Hp) (wl : Addr) (as : List Addr), Same H H' → H wl = none → WsAt H' wl as (Tilt.wordsFrom st [] (seg bs st en)) → Q (.ref wl) H'
/-- the words so far, the bytes of the one under way -/
structure SpInv (bs : Tilt.Bytes) (st en i : Nat) (ws : List Tilt.Word) (fi : Nat) : Prop where
  eq : Tilt.wordsFrom st [] (seg bs st en) = ws ++ Tilt.wordsFrom (st + i) (seg bs fi (st + i)) ((seg bs st en).drop i)
  le : fi ≤ st + i
  n : ws.length ≤ i
theorem SpInv.zero (bs : Tilt.Bytes) (st en : Nat) : SpInv bs st en 0 [] st := ⟨by rw [Nat.add_zero, seg_self]; rfl, Nat.le_refl _, Nat.le_refl _⟩
theorem SpInv.blank {bs : Tilt.Bytes} {st en i fi : Nat} {ws : List Tilt.Word} (I : SpInv bs st en i ws fi) (h : bs[st + i]? = some 32) (hi : st + i < en) (he : en ≤ bs.length) : SpInv bs st en (i + 1) (ws ++ [⟨seg bs fi (st + i), fi⟩]) (st + i + 1) := by
  refine ⟨?_, by omega, by rw [List.length_append, List.length_singleton]; have := I.n; omega⟩
  have hl := I.le
  rw [I.eq, wf_blank (by rw [seg_get hi]; exact h), seg_len hl (by omega), show st + i - (st + i - fi) = fi by omega, ← Nat.add_assoc, seg_self, List.append_assoc]
  rfl
theorem SpInv.on {bs : Tilt.Bytes} {st en i fi : Nat} {ws : List Tilt.Word} {b : UInt8} (I : SpInv bs st en i ws fi) (h : bs[st + i]? = some b) (hb : b ≠ 32) (hi : st + i < en) : SpInv bs st en (i + 1) ws fi := by
  refine ⟨?_, by have := I.le; omega, by have := I.n; omega⟩
  rw [I.eq, wf_on (by rw [seg_get hi]; exact h) hb, ← Nat.add_assoc, seg_snoc I.le h]
theorem SpInv.done {bs : Tilt.Bytes} {st en fi : Nat} {ws : List Tilt.Word} (I : SpInv bs st en (en - st) ws fi) (hs : st ≤ en) (he : en ≤ bs.length) : Tilt.wordsFrom st [] (seg bs st en) = if fi < en then ws ++ [⟨seg bs fi en, fi⟩] else ws := by
  have hl := I.le
  rw [I.eq, show st + (en - st) = en by omega, List.drop_of_length_le (by rw [seg_len hs he]; exact Nat.le_refl _)]
  unfold Tilt.wordsFrom
  by_cases z : fi < en
  · have : (seg bs fi en).isEmpty = false := by
      rw [← Bool.not_eq_true, List.isEmpty_iff]
      intro e
      have := congrArg List.length e
      rw [seg_len (by omega) he] at this
      simp at this
      omega
    rw [if_pos z, this, seg_len (by omega) he, show en - (en - fi) = fi by omega]
    rfl
  · have : fi = en := by omega
    rw [if_neg z, this, seg_self]
    simp
theorem ok_split_words (T : Txt K mg c) : Has P w K mg base CX0 1 "split_words" ["text", "start", "end"] (spSplit K) := by
  refine mk0 T.d_split_words sc_split_words (fun _ _ _ _ _ _ us hl => match us, hl with | [_, _, _], _ => rfl) (fun vs H Q E h => ?_) (fun f cdv A outer s H vs Q E hr h => ?_)
  · obtain ⟨a, bs, st, en, rfl, _⟩ := h
    rfl
  · obtain ⟨a, bs, st, en, rfl, ht, hs, he, hn, k⟩ := h
    refine ⟨_, pss_cons (ps_set (i := 3) sc_split_words.nd rfl (Or.inl rfl) (pe_lst pa_nil))
      (pss_cons (ps_set (i := 4) sc_split_words.nd rfl (Or.inl rfl) (pv 1))
      (pss_cons (ps_for PassesOwn.never rfl (pi_range2 rfl T.b_range (pa_cons (pv 1) (pa_cons (pv 2) pa_nil))) (pg_name (i := 5) sc_split_words.nd rfl (Or.inl rfl))
        (pss_one (ps_if (pt_cmpR op_eq (pe_ix ix_list (pv 0) (pv 5) (fun _ _ => rfl)) (pe_gi T.g_BLANK) (nomark _))
          (pss_cons (ps_expr (pe_bm PySem.F.plainAttrs_list PySem.F.slot_list_append PySem.F.type_list_append mt_append (pv 3) (pa_cons (pe_tup (pa_cons (pv 4) (pa_cons (pe_callTy call_tuple_of rfl T.b_tuple PyProof.Rows.boot_tuple (pa_cons (pe_slice sl_list (pv 0) (po_some (pv 4)) (po_some (pv 5))) pa_nil)) pa_nil))) pa_nil)))
            (pss_one (ps_set (i := 4) sc_split_words.nd rfl (Or.inl rfl) (pe_op op_add (pv 5) pe_int)))) pss_nil)))
      (pss_cons (ps_if (pt_cmpR op_lt (pv 4) (pv 2) (nomark _))
          (pss_one (ps_expr (pe_bm PySem.F.plainAttrs_list PySem.F.slot_list_append PySem.F.type_list_append mt_append (pv 3) (pa_cons (pe_tup (pa_cons (pv 4) (pa_cons (pe_callTy call_tuple_of rfl T.b_tuple PyProof.Rows.boot_tuple (pa_cons (pe_slice sl_list (pv 0) (po_some (pv 4)) (po_some (pv 2))) pa_nil)) pa_nil))) pa_nil)))) pss_nil)
      (pss_one (ps_ret (pv 3)))))), ?_⟩
    refine ⟨Nat.zero_le _, fun wl hwl => ⟨_, rfl, _, rfl, _, rfl, (st : Int), (en : Int), rfl, ⟨by omega, by omega, by omega, by omega⟩, for_range (lo := (st : Int)) (fun i σ H' => Same H H' ∧ ∃ as ws fi x, WsAt H' wl as ws ∧ SpInv bs st en i ws fi ∧ σ = [some (.ref a), some (.int (st : Int)), some (.int (en : Int)), some (.ref wl), some (.int (fi : Int)), x])
      ⟨same_upd hwl, [], [], st, none, ⟨upd_same, rfl, fun j a x z => by simp at z⟩, SpInv.zero _ _ _, rfl⟩ ?_ ?_⟩⟩
    · rintro i σ H1 hi ⟨s1, as, ws, fi, x, W, I, rfl⟩
      obtain ⟨b, hb⟩ : ∃ b, bs[st + i]? = some b := ⟨bs[st + i]'(by omega), List.getElem?_eq_getElem _⟩
      have e3 : (st : Int) + (i : Int) = ((st + i : Nat) : Int) := by omega
      have hlen := I.n
      have hle := I.le
      refine ⟨_, rfl, _, rfl, a, _, _, _, rfl, rfl, (ht.same s1).sq, at_of (j := st + i) e3 (bV_get hb), rfl, _, rfl, ite2 (fun h => ?_) fun h => ⟨s1, as, ws, fi, _, W, I.on hb (fun z => h ((eq8 32 (by decide) b).trans (beq_iff_eq.mpr z))) (by omega), rfl⟩⟩
      have eb : b = 32 := eq_of_beq ((eq8 32 (by decide) b).symm.trans h)
      subst eb
      refine ⟨_, rfl, .inl ⟨rfl, _, SqL.of W.lst⟩, _, rfl, _, rfl, _, rfl, _, rfl, _, rfl, _, rfl, a, _, rfl, (ht.same s1).sq, fun p1 hp1 => ⟨p1, _, rfl, .inl ⟨SqL.of upd_same, fun t1 ht1 => ⟨by show 2 ≤ sizeLine; decide, fun t2 ht2 => ?_⟩⟩⟩⟩
      have s2 := same_upd (o := .lst (cutV (bV bs) (some (fi : Int)) (some ((st : Int) + (i : Int))))) hp1
      have s3 := s2.trans (same_upd (o := .tup (cutV (bV bs) (some (fi : Int)) (some ((st : Int) + (i : Int))))) ht1)
      have s4 := s3.trans (same_upd (o := .tup [.int (fi : Int), .ref t1]) ht2)
      have W4 := W.same s4
      have ht1' : t1 ≠ t2 := ne_of_none upd_same ht2
      refine ⟨wl, _, _, rfl, rfl, W4.lst, ?_, ⟨_, rfl, _, _, rfl, rfl, ?_⟩⟩
      · rw [List.length_map, W.len, sizeLine_eq]
        omega
      · refine ⟨fun b u e => ?_, as ++ [t2], _, st + i + 1, some (.int ((st : Int) + (i : Int))), W4.snoc (x := ⟨seg bs fi (st + i), fi⟩) upd_same ?_, I.blank hb (by omega) he, ?_⟩
        · rw [upd_ne (ne_of_none e hwl)]
          exact s4 _ _ (s1 _ _ e)
        · rw [upd_ne ht1', upd_same, e3, cut_seg hle (by omega)]
        · show [some (V.ref a), some (V.int (st : Int)), some (V.int (en : Int)), some (V.ref wl), some (V.int ((st : Int) + (i : Int) + 1)), some (V.int ((st : Int) + (i : Int)))] = _
          rw [show ((st + i + 1 : Nat) : Int) = (st : Int) + (i : Int) + 1 by omega]
    · rintro σ H1 ⟨s1, as, ws, fi, x, W, I, rfl⟩
      rw [show ((en : Int) - (st : Int)).toNat = en - st by omega] at I
      have hlen := I.n
      have hle := I.le
      have hd := I.done hs he
      refine ⟨_, rfl, _, rfl, _, _, rfl, rfl, _, rfl, ite2 (fun h => ?_) fun h => ⟨_, rfl, k H1 wl as s1 hwl ?_⟩⟩
      · have h' : fi < en := by
          have := of_decide_eq_true h
          omega
        rw [if_pos h'] at hd
        refine ⟨_, rfl, .inl ⟨rfl, _, SqL.of W.lst⟩, _, rfl, _, rfl, _, rfl, _, rfl, _, rfl, _, rfl, a, _, rfl, (ht.same s1).sq, fun p1 hp1 => ⟨p1, _, rfl, .inl ⟨SqL.of upd_same, fun t1 ht1 => ⟨by show 2 ≤ sizeLine; decide, fun t2 ht2 => ?_⟩⟩⟩⟩
        have s2 := same_upd (o := .lst (cutV (bV bs) (some (fi : Int)) (some (en : Int)))) hp1
        have s3 := s2.trans (same_upd (o := .tup (cutV (bV bs) (some (fi : Int)) (some (en : Int)))) ht1)
        have s4 := s3.trans (same_upd (o := .tup [.int (fi : Int), .ref t1]) ht2)
        have W4 := W.same s4
        have ht1' : t1 ≠ t2 := ne_of_none upd_same ht2
        refine ⟨wl, _, _, rfl, rfl, W4.lst, ?_, ⟨_, rfl, k _ wl (as ++ [t2]) ?_ hwl ?_⟩⟩
        · rw [List.length_map, W.len, sizeLine_eq]
          omega
        · intro b u e
          rw [upd_ne (ne_of_none e hwl)]
          exact s4 _ _ (s1 _ _ e)
        · rw [hd]
          refine W4.snoc (x := ⟨seg bs fi en, fi⟩) upd_same ?_
          rw [upd_ne ht1', upd_same, cut_seg (by omega) he]
      · have h' : ¬ fi < en := fun z => h (decide_eq_true (by omega))
        rw [if_neg h'] at hd
        rw [hd]
        exact W
def rdLine (bs : Tilt.Bytes) (st : Nat) : Except Tilt.Fault (List Tilt.Word × Nat) := match Tilt.upTo (bs.drop st) with
  | none => .error ⟨1, bs.length⟩
  | some x => match Tilt.badByte true 0 x.1 with
    | some i => .error ⟨2, st + i⟩
    | none => .ok (Tilt.wordsFrom st [] x.1, st + x.1.length)
theorem sc_read_line : FnScope ["text", "start", "end"] ["text", "start"] (defScope s_read_line) := ⟨rfl, rfl, rfl, by decide +kernel, rfl, by decide +kernel, by decide +kernel⟩
def spReadLine (K : PySem.W.Frag) (c : Cn) : Sp := fun vs H Q E => ∃ (a : Addr) (bs : Tilt.Bytes) (st : Nat), vs = [.ref a, .int (st : Int)] ∧ TxAt K H a (bV bs) ∧ st ≤ bs.length ∧ bs.length ≤ 20000 ∧ Out c.F E (rdLine bs st) fun x => ∀ (H' : Hp) (l : Addr), Same H H' → H l = none → LnAt c.Li H' l x.2 x.2 x.1 → (∃ wl, Wl H' l wl ∧ H wl = none) → Q (.ref l) H'
theorem ok_read_line (T : Txt K mg c) : Has P w K mg base (CXF P w) 4 "read_line" ["text", "start"] (spReadLine K c) := by
  refine mkX T.d_read_line sc_read_line (fun _ _ _ _ _ _ us hl => match us, hl with | [_, _], _ => rfl) (fun vs H Q E h => ?_) (fun f cdv A outer s H vs Q E hr h => ?_)
  · obtain ⟨a, bs, st, rfl, _⟩ := h
    rfl
  · obtain ⟨a, bs, st, rfl, ht, hs, hn, k⟩ := h
    refine ⟨_, pss_cons (ps_set (i := 2) sc_read_line.nd rfl (Or.inl rfl) (pe_fn (ok_find_end T) hr passX (pa_cons (pv 0) (pa_cons (pv 1) pa_nil))))
      (pss_cons (ps_expr (pe_fn (ok_check_bytes T) hr passX (pa_cons (pv 0) (pa_cons (pv 1) (pa_cons (pv 2) pa_nil)))))
      (pss_one (ps_ret (pe_mk (ok_Line T) (hr.mono (by decide)) pass0 (pa_cons (pe_fn (ok_split_words T) (hr.mono (by decide)) pass0 (pa_cons (pv 0) (pa_cons (pv 1) (pa_cons (pv 2) pa_nil)))) (pa_cons (pv 2) pa_nil)))))), ?_⟩
    refine ⟨_, rfl, _, rfl, a, bs, st, rfl, ht, hs, hn, ?_⟩
    unfold rdLine at k
    cases e1 : Tilt.upTo (bs.drop st) with
    | none =>
      rw [e1] at k
      exact k
    | some x =>
      obtain ⟨x1, x2⟩ := x
      rw [e1] at k
      dsimp only at k ⊢
      obtain ⟨g1, g2, g3⟩ := upTo_some hs e1
      refine ⟨_, rfl, _, rfl, _, rfl, a, bs, st, st + x1.length, rfl, ht, by omega, by omega, hn, ?_⟩
      rw [← g1]
      cases e2 : Tilt.badByte true 0 x1 with
      | some i =>
        rw [e2] at k
        exact k
      | none =>
        rw [e2] at k
        dsimp only at k ⊢
        refine ⟨_, rfl, _, rfl, _, rfl, a, bs, st, st + x1.length, rfl, ht, by omega, by omega, hn, fun H1 wl as s1 hwl W => ⟨_, rfl, fun l dl nl nd ne => ?_⟩⟩
        rw [← g1] at W
        have s2 : Same H1 (upd (upd H1 dl (.own l)) l (.ins c.Li dl [])) := fun b u e => by
          rw [upd_ne (ne_of_none e nl), upd_ne (ne_of_none e nd)]
          exact e
        have W2 := W.same s2
        refine ⟨l, dl, wl, as, _, st + x1.length, rfl, upd_same, ⟨W2.lst, W2.len, W2.wd, wf_ne x1 0 st [] e2⟩, fun H3 b3 L3 w3 => ⟨rfl, k H3 l ?_ (s1.free nl) L3 ⟨wl, w3, hwl⟩⟩⟩
        intro b u e
        exact b3 b u (s2 _ _ (s1 _ _ e)) (ne_of_none (s1 _ _ e) nl)
end
end Fb
set_option Elab.async false
set_option maxRecDepth 100000
set_option maxHeartbeats 400000
set_option linter.all false
namespace Fb
open PySem PySem.Spec PyProof.Rows L2 Fx Fm
/-! dicts by names -/
theorem valV_cons {κ : Type} [DecidableEq κ] (kv : κ × V) (r : List (κ × V)) (k : κ) : valV (kv :: r) k = if kv.1 = k then some kv.2 else valV r k := by
  unfold valV
  rw [List.find?_cons]
  by_cases h : kv.1 = k
  · rw [if_pos h, decide_eq_true h]
    rfl
  · rw [if_neg h, decide_eq_false h]
theorem valV_names : ∀ (kvs : List (List Key × V)) (had : List Tilt.Bytes) (x : Tilt.Bytes), kvs.map (·.1) = had.map bK → valV kvs (bK x) = (had.findIdx? fun n => n == x).bind fun i => kvs[i]?.map (·.2)
  | [], [], _, _ => rfl
  | [], _ :: _, _, h => by simp at h
  | _ :: _, [], _, h => by simp at h
  | kv :: r, n :: q, x, h => by
    have h1 : kv.1 = bK n := (List.cons.inj h).1
    have ih := valV_names r q x (List.cons.inj h).2
    rw [valV_cons, List.findIdx?_cons, h1]
    by_cases e : n = x
    · rw [if_pos (by rw [e]), beq_iff_eq.mpr e]
      rfl
    · rw [if_neg (fun z => e (bK_inj z)), beq_eq_false_iff_ne.mpr e, ih]
      cases List.findIdx? (fun n => n == x) q with
      | none => rfl
      | some i => rfl
theorem idx_none {had : List Tilt.Bytes} {x : Tilt.Bytes} : (had.findIdx? fun n => n == x) = none ↔ had.contains x = false := by
  rw [List.findIdx?_eq_none_iff, ← Bool.not_eq_true, List.contains_iff_mem]
  constructor
  · intro h m
    have := h x m
    simp at this
  · intro h y hy
    exact beq_eq_false_iff_ne.mpr fun e => h (e ▸ hy)
theorem idx_lt {had : List Tilt.Bytes} {x : Tilt.Bytes} {i : Nat} (h : (had.findIdx? fun n => n == x) = some i) : i < had.length ∧ had[i]? = some x := by
  obtain ⟨hi, e, _⟩ := List.findIdx?_eq_some_iff_getElem.mp h
  exact ⟨hi, by rw [List.getElem?_eq_getElem hi]; exact congrArg some (eq_of_beq e)⟩
/-- a dict whose keys are these names -/
structure DkAt (H : Hp) (d : Addr) (kvs : List (List Key × V)) (had : List Tilt.Bytes) : Prop where
  at_ : H d = some (.dT kvs)
  ks : kvs.map (·.1) = had.map bK
theorem DkAt.len {H : Hp} {d : Addr} {kvs : List (List Key × V)} {had : List Tilt.Bytes} (D : DkAt H d kvs had) : kvs.length = had.length := by
  have := congrArg List.length D.ks
  rwa [List.length_map, List.length_map] at this
theorem DkAt.has {H : Hp} {d : Addr} {kvs : List (List Key × V)} {had : List Tilt.Bytes} (D : DkAt H d kvs had) (x : Tilt.Bytes) : (valV kvs (bK x)).isSome = had.contains x := by
  rw [valV_names kvs had x D.ks]
  cases h : had.findIdx? fun n => n == x with
  | none =>
    rw [idx_none.mp h]
    rfl
  | some i =>
    obtain ⟨hi, hx⟩ := idx_lt h
    obtain ⟨kv, e⟩ : ∃ kv, kvs[i]? = some kv := ⟨kvs[i]'(by rw [D.len]; exact hi), List.getElem?_eq_getElem _⟩
    rw [List.contains_iff_mem.mpr (List.mem_of_getElem? hx)]
    show ((kvs[i]?).map (·.2)).isSome = true
    rw [e]
    rfl
theorem DkAt.get {H : Hp} {d : Addr} {kvs : List (List Key × V)} {had : List Tilt.Bytes} (D : DkAt H d kvs had) {x : Tilt.Bytes} {i : Nat} {kv : List Key × V} (h : (had.findIdx? fun n => n == x) = some i) (e : kvs[i]? = some kv) : valV kvs (bK x) = some kv.2 := by
  rw [valV_names kvs had x D.ks, h]
  show (kvs[i]?).map (·.2) = _
  rw [e]
  rfl
theorem DkAt.dget {H : Hp} {d ta : Addr} {kvs : List (List Key × V)} {had : List Tilt.Bytes} (D : DkAt H d kvs had) {x : Tilt.Bytes} (h : H ta = some (.tup (bV x))) : DGet H d (.ref ta) (valV kvs (bK x)) := DGet.t D.at_ (by rw [bK_kV]; exact h)
theorem DkAt.bar {H H' : Hp} {d l C dx : Addr} {fs : List (Str × V)} {kvs : List (List Key × V)} {had : List Tilt.Bytes} (D : DkAt H d kvs had) (hl : H l = some (.ins C dx fs)) (b : Bar l H H') : DkAt H' d kvs had := ⟨b _ _ D.at_ (ne_of D.at_ hl (by intro z; cases z)), D.ks⟩
def newW (e : Nat) (had : List Tilt.Bytes) (l : List Tilt.Word) : Except Tilt.Fault (Tilt.Word × List Tilt.Word) := do
  let x ← takeName e l
  if had.contains x.1.w = true then .error ⟨5, x.1.at_⟩ else return x
theorem newName_eq (e : Nat) (had : List Tilt.Bytes) (l : List Tilt.Word) : Tilt.newName e had l = (newW e had l >>= fun x => pure (x.1.w, x.2)) := by
  unfold Tilt.newName newW takeName
  cases l with
  | nil => rfl
  | cons x r =>
    show (if Tilt.isName x.w = false then _ else _) = ((((if Tilt.isName x.w = false then _ else _ : Except Tilt.Fault (Tilt.Word × List Tilt.Word))) >>= _) >>= _)
    by_cases h : Tilt.isName x.w = false
    · rw [if_pos h, if_pos h]
      rfl
    · rw [if_neg h, if_neg h]
      show _ = ((if had.contains x.w = true then _ else _ : Except Tilt.Fault (Tilt.Word × List Tilt.Word)) >>= _)
      by_cases h2 : had.contains x.w = true
      · rw [if_pos h2, if_pos h2]
        rfl
      · rw [if_neg h2, if_neg h2]
        rfl
theorem known_eq (e : Nat) (had : List Tilt.Bytes) (l : List Tilt.Word) : Tilt.known e had l = (takeName e l >>= fun x => match had.findIdx? fun n => n == x.1.w with
    | none => .error ⟨6, x.1.at_⟩
    | some i => pure ((i, x.1.at_), x.2)) := by
  unfold Tilt.known takeName
  cases l with
  | nil => rfl
  | cons x r =>
    show (if Tilt.isName x.w = false then _ else _) = (((if Tilt.isName x.w = false then _ else _ : Except Tilt.Fault (Tilt.Word × List Tilt.Word))) >>= _)
    by_cases h : Tilt.isName x.w = false
    · rw [if_pos h, if_pos h]
      rfl
    · rw [if_neg h, if_neg h]
      rfl
theorem kw_at : Kw "at" "at" := ⟨by decide +kernel, by decide +kernel⟩
section
variable {P : Program} {w : World} {K : PySem.W.Frag} {mg : Str → Option Value} {base : Heap} {c : Cn}
theorem sc_take_new_name : FnScope ["line", "known", "name"] ["line", "known"] (defScope s_take_new_name) := ⟨rfl, rfl, rfl, by decide +kernel, rfl, by decide +kernel, by decide +kernel⟩
def spNew (c : Cn) : Sp := fun vs H Q E => ∃ (l d : Addr) (e p : Nat) (rest : List Tilt.Word) (kvs : List (List Key × V)) (had : List Tilt.Bytes), vs = [.ref l, .ref d] ∧ LnAt c.Li H l e p rest ∧ DkAt H d kvs had ∧ Out c.F E (newW e had rest) fun x => ∀ (H' : Hp) (ta : Addr), Bar l H H' → LnAt c.Li H' l e x.1.at_ x.2 → H' ta = some (.tup (bV x.1.w)) → Q (.ref ta) H'
theorem ok_take_new_name (T : Txt K mg c) : Has P w K mg base (CXF P w) 5 "take_new_name" ["line", "known"] (spNew c) := by
  refine mkX T.d_take_new_name sc_take_new_name (fun _ _ _ _ _ _ us hl => match us, hl with | [_, _], _ => rfl) (fun vs H Q E h => ?_) (fun f cdv A outer s H vs Q E hr h => ?_)
  · obtain ⟨l, d, e, p, rest, kvs, had, rfl, _⟩ := h
    rfl
  · obtain ⟨l, d, e, p, rest, kvs, had, rfl, L, D, k⟩ := h
    refine ⟨_, pss_cons (ps_set (i := 2) sc_take_new_name.nd rfl (Or.inl rfl) (pe_mt0 (ok_take_name T) (pv 0) hr passX))
      (pss_cons (ps_if (pt_cmp (pc_din (hu_of hr) (pv 2) (pv 1))) (pss_one (ps_fault T (hr.mono (by decide)) xe_def (pa_cons (pe_gi T.g_NOT_NEW) (pa_cons (pe_fld (pv 0) rfl) pa_nil)))) pss_nil)
      (pss_one (ps_ret (pv 2)))), ?_⟩
    obtain ⟨dx, wl, as, ws, t, hl, W, ht, er⟩ := id L
    refine ⟨_, rfl, l, dx, _, rfl, hl, rfl, l, e, p, rest, rfl, L, Out.cases k fun y ky H1 ta b1 L1 hta => ?_⟩
    have D1 := D.bar hl b1
    refine ⟨_, rfl, _, rfl, d, _, rfl, D1.dget hta, _, rfl, ?_⟩
    rw [D1.has]
    have ky : Out c.F E (if had.contains y.1.w = true then (.error ⟨5, y.1.at_⟩ : Except Tilt.Fault (Tilt.Word × List Tilt.Word)) else pure y) _ := ky
    cases hn : had.contains y.1.w with
    | true =>
      rw [if_pos hn] at ky
      obtain ⟨dx2, wl2, as2, ws2, t2, hl2, _⟩ := L1
      exact iteT ⟨_, rfl, rdF T.cLi hl2 (by decide +kernel) rfl (flt_rd T ky)⟩
    | false =>
      rw [if_neg (by rw [hn]; decide)] at ky
      exact iteF ⟨_, rfl, ky _ ta b1 L1 hta⟩
theorem sc_take_new_name_but : FnScope ["line", "known", "forbidden", "name"] ["line", "known", "forbidden"] (defScope s_take_new_name_but) := ⟨rfl, rfl, rfl, by decide +kernel, rfl, by decide +kernel, by decide +kernel⟩
def newBut (e : Nat) (had : List Tilt.Bytes) (s : String) (l : List Tilt.Word) : Except Tilt.Fault (Tilt.Word × List Tilt.Word) := do
  let x ← newW e had l
  if x.1.w = Tilt.ascii s then .error ⟨4, x.1.at_⟩ else return x
theorem newBut_eq {e : Nat} {had : List Tilt.Bytes} {s : String} (l : List Tilt.Word) (hn : Tilt.isName (Tilt.ascii s) = true) (hh : had.contains (Tilt.ascii s) = false) :
    (Tilt.notCalled (Tilt.ascii s) l >>= fun _ => Tilt.newName e had l) = (newBut e had s l >>= fun x => pure (x.1.w, x.2)) := by
  rw [newName_eq]
  unfold newBut
  cases l with
  | nil => rfl
  | cons x r =>
    by_cases z : x.w = Tilt.ascii s
    · have e1 : newW e had (x :: r) = .ok (x, r) := by
        unfold newW takeName
        show (((if Tilt.isName x.w = false then _ else _ : Except Tilt.Fault (Tilt.Word × List Tilt.Word))) >>= _) = _
        rw [if_neg (by rw [z, hn]; decide)]
        show (if had.contains x.w = true then _ else _) = _
        rw [if_neg (by rw [z, hh]; decide)]
        rfl
      have e2 : Tilt.notCalled (Tilt.ascii s) (x :: r) = .error ⟨4, x.at_⟩ := by
        unfold Tilt.notCalled Tilt.holds
        dsimp only
        rw [if_neg (by rw [z]; simp)]
      rw [e1, e2]
      show _ = ((if x.w = Tilt.ascii s then _ else _ : Except Tilt.Fault (Tilt.Word × List Tilt.Word)) >>= _)
      rw [if_pos z]
      rfl
    · have e2 : Tilt.notCalled (Tilt.ascii s) (x :: r) = .ok () := by
        unfold Tilt.notCalled Tilt.holds
        dsimp only
        rw [if_pos (bne_iff_ne.mpr z)]
      rw [e2]
      show (newW e had (x :: r) >>= _) = ((newW e had (x :: r) >>= _) >>= _)
      cases h : newW e had (x :: r) with
      | error f => rfl
      | ok y =>
        have hy : y.1 = x := by
          unfold newW takeName at h
          by_cases q : Tilt.isName x.w = false
          · rw [show Tilt.next e (x :: r) = .ok (x, r) from rfl] at h
            simp [q, bind, Except.bind] at h
          · rw [show Tilt.next e (x :: r) = .ok (x, r) from rfl] at h
            by_cases q2 : had.contains x.w = true
            · simp [q, q2, bind, Except.bind, pure, Except.pure] at h
              simp at q2
              simp [q2] at h
            · simp [q, bind, Except.bind, pure, Except.pure] at h
              simp at q2
              simp [q2] at h
              rw [← h]
        show _ = ((if y.1.w = Tilt.ascii s then _ else _ : Except Tilt.Fault (Tilt.Word × List Tilt.Word)) >>= _)
        rw [if_neg (by rw [hy]; exact z)]
        rfl
def spBut (c : Cn) : Sp := fun vs H Q E => ∃ (l d : Addr) (e p : Nat) (rest : List Tilt.Word) (kvs : List (List Key × V)) (had : List Tilt.Bytes) (x : Str) (s : String), vs = [.ref l, .ref d, .str x] ∧ Kw x s ∧ LnAt c.Li H l e p rest ∧ DkAt H d kvs had ∧ Out c.F E (newBut e had s rest) fun x => ∀ (H' : Hp) (ta : Addr), Bar l H H' → LnA c.Li H' l e x.2 → H' ta = some (.tup (bV x.1.w)) → Q (.ref ta) H'
theorem ok_take_new_name_but (T : Txt K mg c) : Has P w K mg base (CXF P w) 6 "take_new_name_but" ["line", "known", "forbidden"] (spBut c) := by
  refine mkX T.d_take_new_name_but sc_take_new_name_but (fun _ _ _ _ _ _ us hl => match us, hl with | [_, _, _], _ => rfl) (fun vs H Q E h => ?_) (fun f cdv A outer s H vs Q E hr h => ?_)
  · obtain ⟨l, d, e, p, rest, kvs, had, x, sx, rfl, _⟩ := h
    rfl
  · obtain ⟨l, d, e, p, rest, kvs, had, x, sx, rfl, kw, L, D, k⟩ := h
    refine ⟨_, pss_cons (ps_set (i := 3) sc_take_new_name_but.nd rfl (Or.inl rfl) (pe_fn (ok_take_new_name T) hr passX (pa_cons (pv 0) (pa_cons (pv 1) pa_nil))))
      (pss_cons (ps_if (pt_cmpR (op_eqD hr.units) (pv 3) (pe_fn (ok_spelled T) (hr.mono (by decide)) pass0 (pa_cons (pv 2) pa_nil)) (nomark _)) (pss_one (ps_fault T (hr.mono (by decide)) xe_def (pa_cons (pe_gi T.g_WRONG_FORM) (pa_cons (pe_fld (pv 0) rfl) pa_nil)))) pss_nil)
      (pss_one (ps_ret (pv 3)))), ?_⟩
    refine ⟨_, rfl, _, rfl, l, d, e, p, rest, kvs, had, rfl, L, D, Out.cases k fun y ky H1 ta b1 L1 hta => ⟨_, rfl, _, rfl, x, sx, rfl, kw, fun q H2 s2 hq eq => rd_eq (s2 _ _ hta) eq ⟨_, rfl, ?_⟩⟩⟩
    have L2 := L1.same s2
    have ky : Out c.F E (if y.1.w = Tilt.ascii sx then (.error ⟨4, y.1.at_⟩ : Except Tilt.Fault (Tilt.Word × List Tilt.Word)) else pure y) _ := ky
    by_cases z : y.1.w = Tilt.ascii sx
    · rw [if_pos z] at ky
      rw [decide_eq_true z]
      obtain ⟨dx2, wl2, as2, ws2, t2, hl2, _⟩ := L2
      exact iteT ⟨_, rfl, rdF T.cLi hl2 (by decide +kernel) rfl (flt_rd T ky)⟩
    · rw [if_neg z] at ky
      rw [decide_eq_false z]
      exact iteF ⟨_, rfl, ky _ ta (b1.trans (Bar.of s2)) ⟨_, L2⟩ (s2 _ _ hta)⟩
theorem sc_take_known : FnScope ["line", "known", "name"] ["line", "known"] (defScope s_take_known) := ⟨rfl, rfl, rfl, by decide +kernel, rfl, by decide +kernel, by decide +kernel⟩
def spKnown (c : Cn) : Sp := fun vs H Q E => ∃ (l d : Addr) (e p : Nat) (rest : List Tilt.Word) (kvs : List (List Key × V)) (had : List Tilt.Bytes), vs = [.ref l, .ref d] ∧ LnAt c.Li H l e p rest ∧ DkAt H d kvs had ∧ Out c.F E (Tilt.known e had rest) fun x => ∀ (H' : Hp) (kv : List Key × V), Bar l H H' → LnAt c.Li H' l e x.1.2 x.2 → kvs[x.1.1]? = some kv → Q kv.2 H'
theorem ok_take_known (T : Txt K mg c) : Has P w K mg base (CXF P w) 5 "take_known" ["line", "known"] (spKnown c) := by
  refine mkX T.d_take_known sc_take_known (fun _ _ _ _ _ _ us hl => match us, hl with | [_, _], _ => rfl) (fun vs H Q E h => ?_) (fun f cdv A outer s H vs Q E hr h => ?_)
  · obtain ⟨l, d, e, p, rest, kvs, had, rfl, _⟩ := h
    rfl
  · obtain ⟨l, d, e, p, rest, kvs, had, rfl, L, D, k⟩ := h
    refine ⟨_, pss_cons (ps_set (i := 2) sc_take_known.nd rfl (Or.inl rfl) (pe_mt0 (ok_take_name T) (pv 0) hr passX))
      (pss_cons (ps_if (pt_cmp (pc_dnotin (hu_of hr) (pv 2) (pv 1))) (pss_one (ps_fault T (hr.mono (by decide)) xe_def (pa_cons (pe_gi T.g_NOT_THERE) (pa_cons (pe_fld (pv 0) rfl) pa_nil)))) pss_nil)
      (pss_one (ps_ret (pe_dget (hu_of hr) (pv 1) (pv 2) (fun _ _ => rfl))))), ?_⟩
    obtain ⟨dx, wl, as, ws, t, hl, W, ht, er⟩ := id L
    rw [known_eq] at k
    refine ⟨_, rfl, l, dx, _, rfl, hl, rfl, l, e, p, rest, rfl, L, Out.cases k fun y ky H1 ta b1 L1 hta => ?_⟩
    have D1 := D.bar hl b1
    refine ⟨_, rfl, _, rfl, d, _, rfl, D1.dget hta, _, rfl, ?_⟩
    rw [D1.has]
    cases hn : had.findIdx? fun n => n == y.1.w with
    | none =>
      rw [idx_none.mp hn]
      rw [hn] at ky
      obtain ⟨dx2, wl2, as2, ws2, t2, hl2, _⟩ := L1
      exact iteT ⟨_, rfl, rdF T.cLi hl2 (by decide +kernel) rfl (flt_rd T ky)⟩
    | some i =>
      obtain ⟨hi, hx⟩ := idx_lt hn
      obtain ⟨kv, e⟩ : ∃ kv, kvs[i]? = some kv := ⟨kvs[i]'(by rw [D.len]; exact hi), List.getElem?_eq_getElem _⟩
      rw [List.contains_iff_mem.mpr (List.mem_of_getElem? hx)]
      rw [hn] at ky
      have g := D1.dget hta
      rw [D1.get hn e] at g
      exact iteF ⟨_, rfl, _, rfl, d, _, rfl, g, ky H1 kv b1 L1 e⟩
theorem sc_take_named_number : FnScope ["line", "keyword", "most"] ["line", "keyword", "most"] (defScope s_take_named_number) := ⟨rfl, rfl, rfl, by decide +kernel, rfl, by decide +kernel, by decide +kernel⟩
def spNamed (c : Cn) : Sp := fun vs H Q E => ∃ (l : Addr) (e p hi : Nat) (rest : List Tilt.Word) (x : Str) (s : String), vs = [.ref l, .str x, .int (hi : Int)] ∧ Kw x s ∧ LnAt c.Li H l e p rest ∧ Out c.F E (Tilt.must e s rest >>= fun m => Tilt.number e 1 hi m) fun x => ∀ (H' : Hp), Bar l H H' → LnAt c.Li H' l e x.1.2 x.2 → Q (.int (x.1.1 : Int)) H'
theorem ok_take_named_number (T : Txt K mg c) : Has P w K mg base (CXF P w) 5 "take_named_number" ["line", "keyword", "most"] (spNamed c) := by
  refine mkX T.d_take_named_number sc_take_named_number (fun _ _ _ _ _ _ us hl => match us, hl with | [_, _, _], _ => rfl) (fun vs H Q E h => ?_) (fun f cdv A outer s H vs Q E hr h => ?_)
  · obtain ⟨l, e, p, hi, rest, x, sx, rfl, _⟩ := h
    rfl
  · obtain ⟨l, e, p, hi, rest, x, sx, rfl, kw, L, k⟩ := h
    refine ⟨_, pss_cons (ps_expr (pe_mt (ok_take_keyword T) (pv 0) hr passX (pa_cons (pv 1) pa_nil))) (pss_one (ps_ret (pe_mt (ok_take_number T) (pv 0) hr passX (pa_cons pe_int (pa_cons (pv 2) pa_nil))))), ?_⟩
    obtain ⟨dx, wl, as, ws, t, hl, W, ht, er⟩ := id L
    refine ⟨_, rfl, l, dx, _, rfl, hl, rfl, _, rfl, l, e, p, rest, x, sx, rfl, kw, L, Out.cases k fun y ky H1 b1 L1 => ?_⟩
    obtain ⟨p1, L1⟩ := L1
    obtain ⟨dx2, wl2, as2, ws2, t2, hl2, _⟩ := id L1
    refine ⟨_, rfl, l, dx2, _, rfl, hl2, rfl, _, rfl, l, e, p1, 1, hi, y, rfl, L1, ky.mono fun z kz H2 b2 L2 => kz H2 (b1.trans b2) L2⟩
end
end Fb
set_option Elab.async false
set_option maxRecDepth 100000
set_option maxHeartbeats 400000
set_option linter.all false
namespace Fb
open PySem PySem.Spec PyProof.Rows L2 Fx Fm
/-- parts that have places -/
def PlAt (K : PySem.W.Frag) (H : Hp) (kvs : List (List Key × V)) (pl : List Nat) : Prop := pl.length = kvs.length ∧ ∀ (i : Nat) (kv : List Key × V), kvs[i]? = some kv → ∃ (a C dx : Addr) (fs : List (Str × V)) (p : Nat), kv.2 = .ref a ∧ H a = some (.ins C dx fs) ∧ Cls K C ∧ NoAttr K C "place" ∧ fs.lookup ("place" : Str) = some (V.int (p : Int)) ∧ pl[i]? = some p
def nV (l : List Nat) : List V := l.map fun (n : Nat) => V.int (n : Int)
theorem nV_int (l : List Nat) : nV l = (l.map fun (n : Nat) => (n : Int)).map V.int := by
  unfold nV
  rw [List.map_map]
  rfl
theorem nV_snoc {l : List Nat} {i p : Nat} (h : l[i]? = some p) : nV (l.take (i + 1)) = nV (l.take i) ++ [.int (p : Int)] := by
  rw [take_snoc h]
  unfold nV
  rw [List.map_append]
  rfl
/-- a dict is locked, then as it was -/
theorem lock_same {H H' : Hp} {d : Addr} {od : Obj} {u : HO} (hd : H d = some u) (s : ∀ b o, upd H d (.frz od u) b = some o → H' b = some o) : Same H (upd H' d u) := fun b o e => by
  by_cases z : b = d
  · subst z
    rw [hd] at e
    cases e
    exact upd_same
  · rw [upd_ne z]
    exact s b o (by rw [upd_ne z]; exact e)
theorem max_test {pl : List Nat} {n : Nat} {m : Int} (hm : m ∈ pl.map fun (p : Nat) => (p : Int)) (hx : ∀ z, z ∈ (pl.map fun (p : Nat) => (p : Int)) → z ≤ m) : decide ((n : Int) ≤ m) = !(pl.all fun p => decide (p < n)) := by
  rw [Bool.eq_iff_iff, decide_eq_true_iff, Bool.not_eq_true', ← Bool.not_eq_true, List.all_eq_true]
  constructor
  · intro h z
    obtain ⟨p, hp, e⟩ := List.mem_map.mp hm
    have := of_decide_eq_true (z p hp)
    omega
  · intro h
    refine Decidable.byContradiction fun z => h fun p hp => decide_eq_true ?_
    have := hx (p : Int) (List.mem_map.mpr ⟨p, hp, rfl⟩)
    omega
section
variable {P : Program} {w : World} {K : PySem.W.Frag} {mg : Str → Option Value} {base : Heap} {c : Cn}
theorem sc_take_place : FnScope ["line", "most", "known", "place", "part"] ["line", "most", "known"] (defScope s_take_place) := ⟨rfl, rfl, rfl, by decide +kernel, rfl, by decide +kernel, by decide +kernel⟩
def spPlace (K : PySem.W.Frag) (c : Cn) : Sp := fun vs H Q E => ∃ (l d : Addr) (e p hi : Nat) (rest : List Tilt.Word) (kvs : List (List Key × V)) (pl : List Nat), vs = [.ref l, .int (hi : Int), .ref d] ∧ LnAt c.Li H l e p rest ∧ H d = some (.dT kvs) ∧ PlAt K H kvs pl ∧ kvs.length ≤ 1000 ∧ (∀ (i : Nat) (kv : List Key × V), kvs[i]? = some kv → kv.2 ≠ .ref l) ∧ Out c.F E (Tilt.must e "at" rest >>= fun m => Tilt.place e hi pl m) fun x => ∀ (H' : Hp), Bar l H H' → LnA c.Li H' l e x.2 → Q (.int (x.1 : Int)) H'
theorem ok_take_place (T : Txt K mg c) : Has P w K mg base (CXF P w) 5 "take_place" ["line", "most", "known"] (spPlace K c) := by
  refine mkX T.d_take_place sc_take_place (fun _ _ _ _ _ _ us hl => match us, hl with | [_, _, _], _ => rfl) (fun vs H Q E h => ?_) (fun f cdv A outer s H vs Q E hr h => ?_)
  · obtain ⟨l, d, e, p, hi, rest, kvs, pl, rfl, _⟩ := h
    rfl
  · obtain ⟨l, d, e, p, hi, rest, kvs, pl, rfl, L, hd, ⟨hpn, hP⟩, hz, hnl, k⟩ := h
    refine ⟨_, pss_cons (ps_expr (pe_mt (ok_take_keyword T) (pv 0) hr passX (pa_cons pe_str pa_nil)))
      (pss_cons (ps_set (i := 3) sc_take_place.nd rfl (Or.inl rfl) (pe_mt (ok_take_number T) (pv 0) hr passX (pa_cons pe_int (pa_cons (pv 1) pa_nil))))
      (pss_cons (ps_if (pt_cmpR op_le (pv 3) (pe_maxD rfl rfl T.b_max (pe_lock (pe_lc (te := tFld K (tVar 4) "place") rfl sc_take_place.nd (pi_valuesT (pv 2)) (blkOk_by (own := [("part", 4)]) (by rfl)) (fun s H C cl fp => pg_name (i := 4) sc_take_place.nd rfl (Or.inl rfl)) (fun _ _ _ _ _ => pts_nil) (fun _ _ _ _ _ => pe_fld (pv 4) rfl))) (pe_gi T.g_NO_PLACE)) (nomark _)) (pss_one (ps_fault T (hr.mono (by decide)) xe_def (pa_cons (pe_gi T.g_NOT_NEW) (pa_cons (pe_fld (pv 0) rfl) pa_nil)))) pss_nil)
      (pss_one (ps_ret (pv 3))))), ?_⟩
    obtain ⟨dx, wl, as, ws, t, hl, W, ht, er⟩ := id L
    refine ⟨_, rfl, l, dx, _, rfl, hl, rfl, l, e, p, rest, _, "at", rfl, kw_at, L, Out.cases k fun y ky H1 b1 L1 => ?_⟩
    obtain ⟨p1, L1⟩ := L1
    obtain ⟨dx1, wl1, as1, ws1, t1, hl1, _⟩ := id L1
    unfold Tilt.place at ky
    refine ⟨_, rfl, l, dx1, _, rfl, hl1, rfl, _, rfl, l, e, p1, 0, hi, y, rfl, L1, Out.cases ky fun z kz H2 b2 L2 => ?_⟩
    have b12 := b1.trans b2
    have nd : d ≠ l := ne_of hd hl (by intro z; cases z)
    have hd2 : H2 d = some (.dT kvs) := b12 _ _ hd nd
    obtain ⟨dx2, wl2, as2, ws2, t2, hl2, _⟩ := id L2
    refine ⟨_, rfl, d, _, hd2, True.intro, fun od => ⟨_, rfl, d, od, kvs, rfl, upd_same, fun D hD => lc_any kvs.length (fun i H' => H' D = some (.lst (nV (pl.take i))) ∧ ∀ b o, upd H2 d (.frz od (.dT kvs)) b = some o → H' b = some o) ⟨upd_same, same_upd hD⟩ (fun i H' lt q => ⟨q.2 _ _ upd_same, lt⟩) (fun H' q => ⟨q.2 _ _ upd_same, Nat.le_refl _⟩) ?_ ?_⟩⟩
    · rintro i v H3 H4 lt ⟨q1, q2⟩ ⟨rfl, kk, hk⟩
      obtain ⟨a, C, dxa, fs, pp, e1, e2, e3, e4, e5, e6⟩ := hP i _ hk
      dsimp only at e1
      subst e1
      have e2' : H4 a = some (.ins C dxa fs) := q2 _ _ (by
        rw [upd_ne (ne_of e2 hd (by intro z; cases z))]
        exact b12 _ _ e2 fun z => hnl i _ hk (by rw [z]))
      refine ⟨rfl, yesT ⟨_, rfl, a, C, dxa, fs, _, rfl, e2', e3, e4, e5, _, q1, ?_, ?_, ?_⟩⟩
      · unfold nV
        rw [List.length_map, List.length_take, sizeLine_eq]
        omega
      · rw [upd_same, nV_snoc e6]
      · intro b o eb
        rw [upd_ne (ne_of_none eb hD)]
        exact q2 b o eb
    · rintro H3 ⟨q1, q2⟩
      have sm := lock_same hd2 q2
      have nD : D ≠ d := fun z => by rw [z, upd_same] at hD; cases hD
      have hDl : upd H3 d (.dT kvs) D = some (.lst ((pl.map fun (n : Nat) => (n : Int)).map V.int)) := by
        rw [upd_ne nD, q1, ← hpn, List.take_length, nV_int]
      have L3 := L2.same sm
      obtain ⟨dx3, wl3, as3, ws3, t3, hl3, _⟩ := id L3
      refine ⟨q2 _ _ upd_same, D, _, -1, rfl, rfl, SqL.of hDl, fun hnil => ?a, fun m hm hx => ?b⟩
      case' a =>
        have em : decide ((z.1.1 : Int) ≤ -1) = !(pl.all fun p => decide (p < z.1.1)) := by
          have : pl = [] := List.map_eq_nil_iff.mp hnil
          rw [this]
          exact decide_eq_false (by omega)
        have kz' : Out c.F E (Tilt.holds (pl.all fun p => decide (p < z.1.1)) 5 z.1.2 >>= fun _ => (pure (z.1.1, z.2) : Except Tilt.Fault (Nat × List Tilt.Word))) _ := kz
        generalize (-1 : Int) = m at em ⊢
      case' b =>
        have em := max_test (n := z.1.1) hm hx
        have kz' : Out c.F E (Tilt.holds (pl.all fun p => decide (p < z.1.1)) 5 z.1.2 >>= fun _ => (pure (z.1.1, z.2) : Except Tilt.Fault (Nat × List Tilt.Word))) _ := kz
      case a | b =>
        refine ⟨_, _, rfl, rfl, _, rfl, ?_⟩
        rw [em]
        unfold Tilt.holds at kz'
        cases hq : pl.all fun p => decide (p < z.1.1) with
        | true =>
          rw [hq, if_pos rfl] at kz'
          exact iteF ⟨_, rfl, kz' _ (b12.trans (Bar.of sm)) ⟨_, L3⟩⟩
        | false =>
          rw [hq, if_neg (by decide)] at kz'
          exact iteT ⟨_, rfl, rdF T.cLi hl3 (by decide +kernel) rfl (flt_rd T kz')⟩
end
end Fb
set_option Elab.async false
set_option maxRecDepth 100000
set_option maxHeartbeats 400000
set_option linter.all false
namespace Fb
open PySem PySem.Spec PyProof.Rows L2 Fx Fm
/-! what stays -/
def Per (dk : List Addr) (b : Addr) : HO → Prop
  | .tup _ => True
  | .frz _ _ => True
  | .lst _ => b ∉ dk
  | .ins _ _ fs => fs.head?.map (·.1) ≠ some ("words" : Str)
  | _ => False
structure Fr (dk : List Addr) (H H' : Hp) : Prop where
  keep : ∀ b o, H b = some o → Per dk b o → H' b = some o
  wl : ∀ l wl, Wl H l wl → Wl H' l wl
instance {dk : List Addr} {H H' : Hp} : CoeFun (Fr dk H H') (fun _ => ∀ b o, H b = some o → Per dk b o → H' b = some o) := ⟨Fr.keep⟩
theorem Fr.refl {dk : List Addr} {H : Hp} : Fr dk H H := ⟨fun _ _ e _ => e, fun _ _ h => h⟩
theorem Fr.trans {dk : List Addr} {H H1 H2 : Hp} (a : Fr dk H H1) (b : Fr dk H1 H2) : Fr dk H H2 := ⟨fun x o e p => b x o (a x o e p) p, fun l w h => b.wl l w (a.wl l w h)⟩
theorem Fr.of {dk : List Addr} {H H' : Hp} (s : Same H H') : Fr dk H H' := ⟨fun b o e _ => s b o e, fun l w ⟨C, dx, fs, h1, h2⟩ => ⟨C, dx, fs, s _ _ h1, h2⟩⟩
theorem Fr.line {dk : List Addr} {l C : Addr} {H H' : Hp} {e p : Nat} {rest : List Tilt.Word} (b : Bar l H H') (L : LnAt C H l e p rest) : Fr dk H H' := by
  obtain ⟨dx, wl, as, ws, t, hl, _⟩ := L
  refine ⟨fun x o e q => b x o e fun z => ?_, fun l' w h => ?_⟩
  · subst z
    rw [hl] at e
    cases e
    exact q rfl
  · by_cases z : l' = l
    · rw [z] at h ⊢
      exact b.wl w h
    · obtain ⟨C', dx', fs, h1, h2⟩ := h
      exact ⟨C', dx', fs, b _ _ h1 z, h2⟩
theorem Fr.dict {dk : List Addr} {d : Addr} {H : Hp} {kvs : List (List Key × V)} {o : HO} (h : H d = some (.dT kvs)) : Fr dk H (upd H d o) := by
  refine ⟨fun x u e q => ?_, fun l w ⟨C, dx, fs, h1, h2⟩ => ⟨C, dx, fs, ?_, h2⟩⟩
  · rw [upd_ne fun z => ?_]
    · exact e
    · subst z
      rw [h] at e
      cases e
      exact q
  · rw [upd_ne (ne_of h1 h (by intro z; cases z))]
    exact h1
theorem Fr.kicks {M : List Addr} {dk : Addr} {H : Hp} {xs : List V} {o : HO} (h : H dk = some (.lst xs)) (hm : dk ∈ M) : Fr M H (upd H dk o) := by
  refine ⟨fun x u e q => ?_, fun l w ⟨C, dx, fs, h1, h2⟩ => ⟨C, dx, fs, ?_, h2⟩⟩
  · rw [upd_ne fun z => ?_]
    · exact e
    · subst z
      rw [h] at e
      cases e
      exact q hm
  · rw [upd_ne (ne_of h1 h (by intro z; cases z))]
    exact h1
theorem TxAt.fr {K : PySem.W.Frag} {dk : List Addr} {H H' : Hp} {a : Addr} {xs : List V} (h : TxAt K H a xs) (s : Fr dk H H') : TxAt K H' a xs := h.keep fun o e => s _ _ e True.intro
/-! parts -/
def swF (tn : Addr) (s : Tilt.Switch) : List (Str × V) := [("name", .ref tn), ("place", .int (s.place : Int)), ("to_close", .int (s.close : Int)), ("to_open", .int (s.open_ : Int)), ("turned", .bl s.turned)]
def laF (tn : Addr) (s : Tilt.Lamp) : List (Str × V) := [("name", .ref tn), ("place", .int (s.place : Int))]
def coF (tn : Addr) (s : Tilt.Coil) : List (Str × V) := [("name", .ref tn), ("place", .int (s.place : Int)), ("most", .int (s.most : Int)), ("rest", .int (s.rest : Int)), ("hold", .int (s.hold : Int))]
def SwAt (c : Cn) (H : Hp) (a : Addr) (s : Tilt.Switch) : Prop := ∃ dx tn, H a = some (.ins c.S dx (swF tn s)) ∧ H tn = some (.tup (bV s.name))
def LaAt (c : Cn) (H : Hp) (a : Addr) (s : Tilt.Lamp) : Prop := ∃ dx tn, H a = some (.ins c.L dx (laF tn s)) ∧ H tn = some (.tup (bV s.name))
def CoAt (c : Cn) (H : Hp) (a : Addr) (s : Tilt.Coil) : Prop := ∃ dx tn, H a = some (.ins c.C dx (coF tn s)) ∧ H tn = some (.tup (bV s.name))
def DeAt (c : Cn) (dk : List Addr) (H : Hp) (a : Addr) (d : Tilt.Device) : Prop := ∃ (dx tn ca sl : Addr) (sas : List Addr) (co : Tilt.Coil), H a = some (.ins c.D dx [("name", .ref tn), ("coil", .ref ca), ("switches", .ref sl), ("drain", .bl d.drain)]) ∧ H tn = some (.tup (bV d.name)) ∧ CoAt c H ca co ∧ co.place = d.coil ∧ H sl = some (.lst (sas.map V.ref)) ∧ sl ∉ dk ∧ sas.length = d.at_.length ∧
  ∀ (j : Nat) (b : Addr) (p : Nat), sas[j]? = some b → d.at_[j]? = some p → ∃ s, SwAt c H b s ∧ s.place = p
def TiAt (c : Cn) (H : Hp) (v : V) : Option Nat → Prop
  | none => v = .non
  | some p => ∃ a s, v = .ref a ∧ SwAt c H a s ∧ s.place = p
def KiAt (c : Cn) (H : Hp) (a : Addr) (k : Tilt.Kick) : Prop := ∃ (dx sa ca : Addr) (tv : V) (s : Tilt.Switch) (co : Tilt.Coil), H a = some (.ins c.Ki dx [("switch", .ref sa), ("coil", .ref ca), ("ticks", .int (k.ticks : Int)), ("till", tv)]) ∧ SwAt c H sa s ∧ s.place = k.first ∧ CoAt c H ca co ∧ co.place = k.coil ∧ TiAt c H tv k.till
theorem nw {f : Str} {v : V} {r : List (Str × V)} (h : f ≠ "words") : (((f, v) :: r).head?.map (·.1)) ≠ some ("words" : Str) := fun z => h (Option.some.inj z)
section
variable {c : Cn} {dk : List Addr} {a : Addr} {H H' : Hp}
theorem SwAt.fr {s : Tilt.Switch} (h : SwAt c H a s) (f : Fr dk H H') : SwAt c H' a s := by
  obtain ⟨dx, tn, h1, h2⟩ := h
  exact ⟨dx, tn, f _ _ h1 (nw (by decide +kernel)), f _ _ h2 True.intro⟩
theorem LaAt.fr {s : Tilt.Lamp} (h : LaAt c H a s) (f : Fr dk H H') : LaAt c H' a s := by
  obtain ⟨dx, tn, h1, h2⟩ := h
  exact ⟨dx, tn, f _ _ h1 (nw (by decide +kernel)), f _ _ h2 True.intro⟩
theorem CoAt.fr {s : Tilt.Coil} (h : CoAt c H a s) (f : Fr dk H H') : CoAt c H' a s := by
  obtain ⟨dx, tn, h1, h2⟩ := h
  exact ⟨dx, tn, f _ _ h1 (nw (by decide +kernel)), f _ _ h2 True.intro⟩
theorem DeAt.fr {M : List Addr} {s : Tilt.Device} (h : DeAt c M H a s) (hm : ∀ x ∈ dk, x ∈ M) (f : Fr dk H H') : DeAt c M H' a s := by
  obtain ⟨dx, tn, ca, sl, sas, co, h1, h2, h3, h4, h5, h6, h7, h8⟩ := h
  refine ⟨dx, tn, ca, sl, sas, co, f _ _ h1 (nw (by decide +kernel)), f _ _ h2 True.intro, h3.fr f, h4, f _ _ h5 (fun z => h6 (hm _ z)), h6, h7, fun j b p q1 q2 => ?_⟩
  obtain ⟨s, g1, g2⟩ := h8 j b p q1 q2
  exact ⟨s, g1.fr f, g2⟩
theorem TiAt.fr {v : V} {o : Option Nat} (h : TiAt c H v o) (f : Fr dk H H') : TiAt c H' v o := by
  cases o with
  | none => exact h
  | some p =>
    obtain ⟨a, s, h1, h2, h3⟩ := h
    exact ⟨a, s, h1, h2.fr f, h3⟩
theorem KiAt.fr {s : Tilt.Kick} (h : KiAt c H a s) (f : Fr dk H H') : KiAt c H' a s := by
  obtain ⟨dx, sa, ca, tv, s, co, h1, h2, h3, h4, h5, h6⟩ := h
  exact ⟨dx, sa, ca, tv, s, co, f _ _ h1 (nw (by decide +kernel)), h2.fr f, h3, h4.fr f, h5, h6.fr f⟩
end
def spI (C : Addr) (ns : List Str) : Sp := fun vs H Q _ => ∃ (x dx : Addr) (vals : List V), vs = .ref x :: vals ∧ vals.length = ns.length ∧ H x = some (.ins C dx []) ∧ ∀ H' : Hp, Bar x H H' → H' x = some (.ins C dx (ns.zip vals)) → Q .non H'
section
variable {P : Program} {w : World} {K : PySem.W.Frag} {mg : Str → Option Value} {base : Heap} {c : Cn}
theorem sc_Switch : FnScope ["self", "name", "place", "to_close", "to_open", "turned"] ["self", "name", "place", "to_close", "to_open", "turned"] (defScope m_Switch_init) := ⟨rfl, rfl, rfl, by decide +kernel, rfl, by decide +kernel, by decide +kernel⟩
theorem ok_Switch (T : Txt K mg c) : HasI P w K mg base CX0 1 c.S "Switch" ["self", "name", "place", "to_close", "to_open", "turned"] (spI c.S fsS) := by
  refine mkI T.iS sc_Switch (fun _ _ _ _ _ _ us hl => match us, hl with | [_, _, _, _, _, _], _ => rfl) (fun vs H Q E h => ?_) (fun f cdv A outer s H vs Q E hr h => ?_)
  · obtain ⟨x, dx, vals, rfl, hn, _⟩ := h
    rw [List.length_cons, hn]
    rfl
  · obtain ⟨x, dx, vals, rfl, hn, hx, k⟩ := h
    match vals, hn, k with
    | [v1, v2, v3, v4, v5], _, k =>
      refine ⟨_, (pss_cons (ps_fld (pv 0) (pv 1) rfl) (pss_cons (ps_fld (pv 0) (pv 2) rfl) (pss_cons (ps_fld (pv 0) (pv 3) rfl) (pss_cons (ps_fld (pv 0) (pv 4) rfl) (pss_one (ps_fld (pv 0) (pv 5) rfl)))))), ?_⟩
      refine ⟨_, rfl, _, rfl, wrF T.cS hx (by decide +kernel) (of_decide_eq_true rfl) ⟨_, rfl, _, rfl, wrF T.cS upd_same (by decide +kernel) (of_decide_eq_true rfl) ⟨_, rfl, _, rfl, wrF T.cS upd_same (by decide +kernel) (of_decide_eq_true rfl) ⟨_, rfl, _, rfl, wrF T.cS upd_same (by decide +kernel) (of_decide_eq_true rfl) ⟨_, rfl, _, rfl, wrF T.cS upd_same (by decide +kernel) (of_decide_eq_true rfl) ?_⟩⟩⟩⟩⟩
      rw [upd_upd, upd_upd, upd_upd, upd_upd]
      exact k _ (Bar.upd hx fun w z => by cases z) (by rw [upd_same]; rfl)
theorem sc_Lamp : FnScope ["self", "name", "place"] ["self", "name", "place"] (defScope m_Lamp_init) := ⟨rfl, rfl, rfl, by decide +kernel, rfl, by decide +kernel, by decide +kernel⟩
theorem ok_Lamp (T : Txt K mg c) : HasI P w K mg base CX0 1 c.L "Lamp" ["self", "name", "place"] (spI c.L fsL) := by
  refine mkI T.iL sc_Lamp (fun _ _ _ _ _ _ us hl => match us, hl with | [_, _, _], _ => rfl) (fun vs H Q E h => ?_) (fun f cdv A outer s H vs Q E hr h => ?_)
  · obtain ⟨x, dx, vals, rfl, hn, _⟩ := h
    rw [List.length_cons, hn]
    rfl
  · obtain ⟨x, dx, vals, rfl, hn, hx, k⟩ := h
    match vals, hn, k with
    | [v1, v2], _, k =>
      refine ⟨_, (pss_cons (ps_fld (pv 0) (pv 1) rfl) (pss_one (ps_fld (pv 0) (pv 2) rfl))), ?_⟩
      refine ⟨_, rfl, _, rfl, wrF T.cL hx (by decide +kernel) (of_decide_eq_true rfl) ⟨_, rfl, _, rfl, wrF T.cL upd_same (by decide +kernel) (of_decide_eq_true rfl) ?_⟩⟩
      rw [upd_upd]
      exact k _ (Bar.upd hx fun w z => by cases z) (by rw [upd_same]; rfl)
theorem sc_Coil : FnScope ["self", "name", "place", "most", "rest", "hold"] ["self", "name", "place", "most", "rest", "hold"] (defScope m_Coil_init) := ⟨rfl, rfl, rfl, by decide +kernel, rfl, by decide +kernel, by decide +kernel⟩
theorem ok_Coil (T : Txt K mg c) : HasI P w K mg base CX0 1 c.C "Coil" ["self", "name", "place", "most", "rest", "hold"] (spI c.C fsC) := by
  refine mkI T.iC sc_Coil (fun _ _ _ _ _ _ us hl => match us, hl with | [_, _, _, _, _, _], _ => rfl) (fun vs H Q E h => ?_) (fun f cdv A outer s H vs Q E hr h => ?_)
  · obtain ⟨x, dx, vals, rfl, hn, _⟩ := h
    rw [List.length_cons, hn]
    rfl
  · obtain ⟨x, dx, vals, rfl, hn, hx, k⟩ := h
    match vals, hn, k with
    | [v1, v2, v3, v4, v5], _, k =>
      refine ⟨_, (pss_cons (ps_fld (pv 0) (pv 1) rfl) (pss_cons (ps_fld (pv 0) (pv 2) rfl) (pss_cons (ps_fld (pv 0) (pv 3) rfl) (pss_cons (ps_fld (pv 0) (pv 4) rfl) (pss_one (ps_fld (pv 0) (pv 5) rfl)))))), ?_⟩
      refine ⟨_, rfl, _, rfl, wrF T.cC hx (by decide +kernel) (of_decide_eq_true rfl) ⟨_, rfl, _, rfl, wrF T.cC upd_same (by decide +kernel) (of_decide_eq_true rfl) ⟨_, rfl, _, rfl, wrF T.cC upd_same (by decide +kernel) (of_decide_eq_true rfl) ⟨_, rfl, _, rfl, wrF T.cC upd_same (by decide +kernel) (of_decide_eq_true rfl) ⟨_, rfl, _, rfl, wrF T.cC upd_same (by decide +kernel) (of_decide_eq_true rfl) ?_⟩⟩⟩⟩⟩
      rw [upd_upd, upd_upd, upd_upd, upd_upd]
      exact k _ (Bar.upd hx fun w z => by cases z) (by rw [upd_same]; rfl)
theorem sc_Device : FnScope ["self", "name", "coil", "switches", "drain"] ["self", "name", "coil", "switches", "drain"] (defScope m_Device_init) := ⟨rfl, rfl, rfl, by decide +kernel, rfl, by decide +kernel, by decide +kernel⟩
theorem ok_Device (T : Txt K mg c) : HasI P w K mg base CX0 1 c.D "Device" ["self", "name", "coil", "switches", "drain"] (spI c.D fsD) := by
  refine mkI T.iD sc_Device (fun _ _ _ _ _ _ us hl => match us, hl with | [_, _, _, _, _], _ => rfl) (fun vs H Q E h => ?_) (fun f cdv A outer s H vs Q E hr h => ?_)
  · obtain ⟨x, dx, vals, rfl, hn, _⟩ := h
    rw [List.length_cons, hn]
    rfl
  · obtain ⟨x, dx, vals, rfl, hn, hx, k⟩ := h
    match vals, hn, k with
    | [v1, v2, v3, v4], _, k =>
      refine ⟨_, (pss_cons (ps_fld (pv 0) (pv 1) rfl) (pss_cons (ps_fld (pv 0) (pv 2) rfl) (pss_cons (ps_fld (pv 0) (pv 3) rfl) (pss_one (ps_fld (pv 0) (pv 4) rfl))))), ?_⟩
      refine ⟨_, rfl, _, rfl, wrF T.cD hx (by decide +kernel) (of_decide_eq_true rfl) ⟨_, rfl, _, rfl, wrF T.cD upd_same (by decide +kernel) (of_decide_eq_true rfl) ⟨_, rfl, _, rfl, wrF T.cD upd_same (by decide +kernel) (of_decide_eq_true rfl) ⟨_, rfl, _, rfl, wrF T.cD upd_same (by decide +kernel) (of_decide_eq_true rfl) ?_⟩⟩⟩⟩
      rw [upd_upd, upd_upd, upd_upd]
      exact k _ (Bar.upd hx fun w z => by cases z) (by rw [upd_same]; rfl)
theorem sc_Kick : FnScope ["self", "switch", "coil", "ticks", "till"] ["self", "switch", "coil", "ticks", "till"] (defScope m_Kick_init) := ⟨rfl, rfl, rfl, by decide +kernel, rfl, by decide +kernel, by decide +kernel⟩
theorem ok_Kick (T : Txt K mg c) : HasI P w K mg base CX0 1 c.Ki "Kick" ["self", "switch", "coil", "ticks", "till"] (spI c.Ki fsKi) := by
  refine mkI T.iKi sc_Kick (fun _ _ _ _ _ _ us hl => match us, hl with | [_, _, _, _, _], _ => rfl) (fun vs H Q E h => ?_) (fun f cdv A outer s H vs Q E hr h => ?_)
  · obtain ⟨x, dx, vals, rfl, hn, _⟩ := h
    rw [List.length_cons, hn]
    rfl
  · obtain ⟨x, dx, vals, rfl, hn, hx, k⟩ := h
    match vals, hn, k with
    | [v1, v2, v3, v4], _, k =>
      refine ⟨_, (pss_cons (ps_fld (pv 0) (pv 1) rfl) (pss_cons (ps_fld (pv 0) (pv 2) rfl) (pss_cons (ps_fld (pv 0) (pv 3) rfl) (pss_one (ps_fld (pv 0) (pv 4) rfl))))), ?_⟩
      refine ⟨_, rfl, _, rfl, wrF T.cKi hx (by decide +kernel) (of_decide_eq_true rfl) ⟨_, rfl, _, rfl, wrF T.cKi upd_same (by decide +kernel) (of_decide_eq_true rfl) ⟨_, rfl, _, rfl, wrF T.cKi upd_same (by decide +kernel) (of_decide_eq_true rfl) ⟨_, rfl, _, rfl, wrF T.cKi upd_same (by decide +kernel) (of_decide_eq_true rfl) ?_⟩⟩⟩⟩
      rw [upd_upd, upd_upd, upd_upd]
      exact k _ (Bar.upd hx fun w z => by cases z) (by rw [upd_same]; rfl)
end
end Fb
set_option Elab.async false
set_option maxRecDepth 100000
set_option maxHeartbeats 400000
set_option linter.all false
namespace Fb
open PySem PySem.Spec PyProof.Rows L2 Fx Fm
/-! a sort's dict -/
def kvs {α : Type} (nm : α → Tilt.Bytes) (as : List Addr) (xs : List α) : List (List Key × V) := List.zipWith (fun a x => (bK (nm x), V.ref a)) as xs
structure Srt {α : Type} (H : Hp) (d : Addr) (R : Hp → Addr → α → Prop) (nm : α → Tilt.Bytes) (as : List Addr) (xs : List α) : Prop where
  at_ : H d = some (.dT (kvs nm as xs))
  len : as.length = xs.length
  el : ∀ (i : Nat) (a : Addr) (x : α), as[i]? = some a → xs[i]? = some x → R H a x
section
variable {α : Type} {H H' : Hp} {d : Addr} {dk : List Addr} {R : Hp → Addr → α → Prop} {nm : α → Tilt.Bytes} {as : List Addr} {xs : List α}
theorem kvs_keys : ∀ {as : List Addr} {xs : List α}, as.length = xs.length → (kvs nm as xs).map (·.1) = (xs.map nm).map bK
  | [], [], _ => rfl
  | [], _ :: _, h => by simp at h
  | _ :: _, [], h => by simp at h
  | a :: as, x :: xs, h => by
    show bK (nm x) :: (kvs nm as xs).map (·.1) = bK (nm x) :: (xs.map nm).map bK
    rw [kvs_keys (by simpa using h)]
theorem kvs_len (h : as.length = xs.length) : (kvs nm as xs).length = xs.length := by
  unfold kvs
  rw [List.length_zipWith, h, Nat.min_self]
theorem kvs_get {i : Nat} {kv : List Key × V} (h : (kvs nm as xs)[i]? = some kv) : ∃ a x, as[i]? = some a ∧ xs[i]? = some x ∧ kv = (bK (nm x), .ref a) := by
  unfold kvs at h
  rw [List.getElem?_zipWith] at h
  cases e1 : as[i]? with
  | none => rw [e1] at h; cases h
  | some a =>
    cases e2 : xs[i]? with
    | none => rw [e1, e2] at h; cases h
    | some x =>
      rw [e1, e2] at h
      exact ⟨a, x, rfl, rfl, (Option.some.inj h).symm⟩
theorem Srt.dks (S : Srt H d R nm as xs) : DkAt H d (kvs nm as xs) (xs.map nm) := ⟨S.at_, kvs_keys S.len⟩
theorem Srt.keep (S : Srt H d R nm as xs) (f : Fr dk H H') (hR : ∀ a x, R H a x → R H' a x) (e : H' d = H d) : Srt H' d R nm as xs := ⟨e.trans S.at_, S.len, fun i a x h1 h2 => hR a x (S.el i a x h1 h2)⟩
/-- one more -/
theorem Srt.add {a : Addr} {x : α} (S : Srt H d R nm as xs) (hn : (xs.map nm).contains (nm x) = false) (e : H' d = some (.dT (putK (kvs nm as xs) (bK (nm x)) (.ref a)))) (hR : ∀ a x, R H a x → R H' a x) (ha : R H' a x) : Srt H' d R nm (as ++ [a]) (xs ++ [x]) := by
  have hv : valV (kvs nm as xs) (bK (nm x)) = none := by
    have := S.dks.has (nm x)
    rw [hn] at this
    exact Option.isNone_iff_eq_none.mp (by rw [← Option.not_isSome, this]; rfl)
  refine ⟨?_, by rw [List.length_append, List.length_append, S.len]; rfl, fun i b y h1 h2 => ?_⟩
  · rw [e, putK_new _ hv]
    unfold kvs
    rw [List.zipWith_append S.len]
    rfl
  · by_cases hi : i < as.length
    · rw [List.getElem?_append_left hi] at h1
      rw [List.getElem?_append_left (by rw [← S.len]; exact hi)] at h2
      exact hR _ _ (S.el i b y h1 h2)
    · have hi2 : i = as.length := by
        have := (List.getElem?_eq_some_iff.mp h1).1
        rw [List.length_append, List.length_singleton] at this
        omega
      rw [hi2, List.getElem?_concat_length] at h1
      rw [hi2, S.len, List.getElem?_concat_length] at h2
      cases h1
      cases h2
      exact ha
end
/-! the board -/
structure Ad where
  b : Addr
  ds : Addr
  dl : Addr
  dc : Addr
  dd : Addr
  dk : Addr
  dh : Addr
  dv : Addr
  M : List Addr
def bdF (θ : Ad) (tn : Addr) (n : Nat) : List (Str × V) := [("name", .ref tn), ("balls", .int (n : Int)), ("switches", .ref θ.ds), ("lamps", .ref θ.dl), ("coils", .ref θ.dc), ("devices", .ref θ.dd), ("kicks", .ref θ.dk), ("held", .ref θ.dh), ("serving", .ref θ.dv)]
def tV (l : List Tilt.Bytes) : List (List Key × V) := l.map fun n => (bK n, V.bl true)
theorem tV_keys (l : List Tilt.Bytes) : (tV l).map (·.1) = l.map bK := by
  unfold tV
  rw [List.map_map]
  rfl
structure Bd (c : Cn) (H : Hp) (θ : Ad) (T : Tilt.Table) (hn sn : List Tilt.Bytes) : Prop where
  bd : ∃ dx tn, H θ.b = some (.ins c.B dx (bdF θ tn T.balls)) ∧ H tn = some (.tup (bV T.name))
  sw : ∃ as, Srt H θ.ds (SwAt c) (·.name) as T.switches
  la : ∃ as, Srt H θ.dl (LaAt c) (·.name) as T.lamps
  co : ∃ as, Srt H θ.dc (CoAt c) (·.name) as T.coils
  de : ∃ as, Srt H θ.dd (DeAt c θ.M) (·.name) as T.devices
  ki : ∃ as : List Addr, H θ.dk = some (.lst (as.map V.ref)) ∧ as.length = T.kicks.length ∧ ∀ (i : Nat) (a : Addr) (k : Tilt.Kick), as[i]? = some a → T.kicks[i]? = some k → KiAt c H a k
  he : H θ.dh = some (.dT (tV hn))
  se : H θ.dv = some (.dT (tV sn))
  nd : [θ.ds, θ.dl, θ.dc, θ.dd, θ.dh, θ.dv].Nodup
  km : θ.dk ∈ θ.M
theorem Bd.kms {c : Cn} {H : Hp} {θ : Ad} {T : Tilt.Table} {hn sn : List Tilt.Bytes} (B : Bd c H θ T hn sn) : ∀ x ∈ [θ.dk], x ∈ θ.M := fun x hx => by rw [List.mem_singleton.mp hx]; exact B.km
/-- all but some containers is kept -/
theorem Bd.keep {c : Cn} {H H' : Hp} {θ : Ad} {T : Tilt.Table} {hn sn : List Tilt.Bytes} (B : Bd c H θ T hn sn) (f : Fr [θ.dk] H H') (e : ∀ d, d ∈ [θ.ds, θ.dl, θ.dc, θ.dd, θ.dk, θ.dh, θ.dv] → H' d = H d) : Bd c H' θ T hn sn := by
  obtain ⟨dx, tn, h1, h2⟩ := B.bd
  obtain ⟨a1, s1⟩ := B.sw
  obtain ⟨a2, s2⟩ := B.la
  obtain ⟨a3, s3⟩ := B.co
  obtain ⟨a4, s4⟩ := B.de
  obtain ⟨a5, k1, k2, k3⟩ := B.ki
  exact ⟨⟨dx, tn, f _ _ h1 (nw (by decide +kernel)), f _ _ h2 True.intro⟩, ⟨a1, s1.keep f (fun _ _ q => q.fr f) (e _ (by simp))⟩, ⟨a2, s2.keep f (fun _ _ q => q.fr f) (e _ (by simp))⟩, ⟨a3, s3.keep f (fun _ _ q => q.fr f) (e _ (by simp))⟩, ⟨a4, s4.keep f (fun _ _ q => q.fr B.kms f) (e _ (by simp))⟩,
    ⟨a5, (e _ (by simp)).trans k1, k2, fun i a k q1 q2 => (k3 i a k q1 q2).fr f⟩, (e _ (by simp)).trans B.he, (e _ (by simp)).trans B.se, B.nd, B.km⟩
theorem Bd.cont {c : Cn} {H : Hp} {θ : Ad} {T : Tilt.Table} {hn sn : List Tilt.Bytes} (B : Bd c H θ T hn sn) : ∀ d, d ∈ [θ.ds, θ.dl, θ.dc, θ.dd, θ.dk, θ.dh, θ.dv] → (∃ kv, H d = some (.dT kv)) ∨ ∃ xs, H d = some (.lst xs) := by
  intro d hd
  simp only [List.mem_cons, List.not_mem_nil, or_false] at hd
  obtain ⟨a1, s1⟩ := B.sw
  obtain ⟨a2, s2⟩ := B.la
  obtain ⟨a3, s3⟩ := B.co
  obtain ⟨a4, s4⟩ := B.de
  obtain ⟨a5, k1, k2, k3⟩ := B.ki
  rcases hd with rfl | rfl | rfl | rfl | rfl | rfl | rfl
  · exact .inl ⟨_, s1.at_⟩
  · exact .inl ⟨_, s2.at_⟩
  · exact .inl ⟨_, s3.at_⟩
  · exact .inl ⟨_, s4.at_⟩
  · exact .inr ⟨_, k1⟩
  · exact .inl ⟨_, B.he⟩
  · exact .inl ⟨_, B.se⟩
theorem Bd.line {c : Cn} {H H' : Hp} {θ : Ad} {T : Tilt.Table} {hn sn : List Tilt.Bytes} {l : Addr} {e p : Nat} {rest : List Tilt.Word} (B : Bd c H θ T hn sn) (b : Bar l H H') (L : LnAt c.Li H l e p rest) : Bd c H' θ T hn sn := by
  refine B.keep (Fr.line b L) fun d hd => ?_
  obtain ⟨dx, fs, hl⟩ := L.ins
  rcases B.cont d hd with ⟨kv, q⟩ | ⟨xs, q⟩
  · rw [q, b _ _ q (ne_of q hl (by intro z; cases z))]
  · rw [q, b _ _ q (ne_of q hl (by intro z; cases z))]
theorem Bd.same {c : Cn} {H H' : Hp} {θ : Ad} {T : Tilt.Table} {hn sn : List Tilt.Bytes} (B : Bd c H θ T hn sn) (s : Same H H') : Bd c H' θ T hn sn := by
  refine B.keep (Fr.of s) fun d hd => ?_
  rcases B.cont d hd with ⟨kv, q⟩ | ⟨xs, q⟩
  · rw [q, s _ _ q]
  · rw [q, s _ _ q]
/-! names and places go together -/
theorem inj_of {α β : Type} {f : α → β} : ∀ {l : List α} {a b : α}, (l.map f).Nodup → a ∈ l → b ∈ l → f a = f b → a = b
  | [], _, _, _, h, _, _ => by cases h
  | x :: r, a, b, n, ha, hb, e => by
    have n' : (f x :: r.map f).Nodup := n
    obtain ⟨n1, n2⟩ := List.nodup_cons.mp n'
    rcases List.mem_cons.mp ha with ea | ha'
    · rcases List.mem_cons.mp hb with eb | hb'
      · rw [ea, eb]
      · exact absurd (List.mem_map.mpr ⟨b, hb', by rw [← e, ea]⟩) n1
    · rcases List.mem_cons.mp hb with eb | hb'
      · exact absurd (List.mem_map.mpr ⟨a, ha', by rw [e, eb]⟩) n1
      · exact inj_of n2 ha' hb' e
theorem rise_nodup {l : List Nat} (h : l.Pairwise (· < ·)) : l.Nodup := h.imp fun h => Nat.ne_of_lt h
theorem rise_len {N : Nat} : ∀ (l : List Nat) (k : Nat), l.Pairwise (· < ·) → (∀ x ∈ l, k ≤ x) → (∀ x ∈ l, x < N) → l = [] ∨ k + l.length ≤ N
  | [], _, _, _, _ => .inl rfl
  | x :: r, k, h, h1, h2 => by
    obtain ⟨g1, g2⟩ := List.pairwise_cons.mp h
    have a := h1 x (List.mem_cons.mpr (.inl rfl))
    have b := h2 x (List.mem_cons.mpr (.inl rfl))
    rcases rise_len r (x + 1) g2 (fun y hy => g1 y hy) (fun y hy => h2 y (List.mem_cons.mpr (.inr hy))) with q | q
    · rw [q]
      exact .inr (by show k + 1 ≤ N; omega)
    · exact .inr (by rw [List.length_cons]; omega)
theorem rise_le {N : Nat} {l : List Nat} (h : l.Pairwise (· < ·)) (h2 : ∀ x ∈ l, x < N) : l.length ≤ N := by
  rcases rise_len l 0 h (fun _ _ => Nat.zero_le _) h2 with q | q
  · rw [q]
    exact Nat.zero_le _
  · omega
structure TOk (T : Tilt.Table) (hp sp : List Nat) (hn sn : List Tilt.Bytes) : Prop where
  swN : (T.switches.map (·.name)).Nodup
  swP : (T.switches.map (·.place)).Pairwise (· < ·)
  swM : ∀ s ∈ T.switches, s.place < 64 ∧ s.name ≠ Tilt.DRAIN
  laP : (T.lamps.map (·.place)).Pairwise (· < ·)
  laM : ∀ s ∈ T.lamps, s.place < 64 ∧ s.name ≠ Tilt.LOOP
  coN : (T.coils.map (·.name)).Nodup
  coP : (T.coils.map (·.place)).Pairwise (· < ·)
  coM : ∀ s ∈ T.coils, s.place < 64
  he : ∃ hs : List Tilt.Switch, hn = hs.map (·.name) ∧ hp = hs.map (·.place) ∧ ∀ s ∈ hs, s ∈ T.switches
  se : ∃ cs : List Tilt.Coil, sn = cs.map (·.name) ∧ sp = cs.map (·.place) ∧ ∀ s ∈ cs, s ∈ T.coils
  de : T.devices.length ≤ 8
  ki : T.kicks.length ≤ 8
  hl : T.held.length ≤ 8 * T.devices.length
  nmZ : T.name.length ≤ 12
  swZ : ∀ s ∈ T.switches, s.name.length ≤ 12
  laZ : ∀ s ∈ T.lamps, s.name.length ≤ 12
  coZ : ∀ s ∈ T.coils, s.name.length ≤ 12
  deZ : ∀ s ∈ T.devices, s.name.length ≤ 12 ∧ s.at_.length ≤ 8
theorem both {α : Type} {f : α → Tilt.Bytes} {g : α → Nat} {l hs : List α} {s : α} (h1 : (l.map f).Nodup) (h2 : (l.map g).Nodup) (hh : ∀ x ∈ hs, x ∈ l) (hs' : s ∈ l) : (hs.map f).contains (f s) = (hs.map g).contains (g s) := by
  rw [Bool.eq_iff_iff, List.contains_iff_mem, List.contains_iff_mem, List.mem_map, List.mem_map]
  constructor
  · rintro ⟨x, hx, e⟩
    exact ⟨x, hx, by rw [inj_of h1 (hh x hx) hs' e]⟩
  · rintro ⟨x, hx, e⟩
    exact ⟨x, hx, by rw [inj_of h2 (hh x hx) hs' e]⟩
def St (c : Cn) (H : Hp) (θ : Ad) (T : Tilt.Table) (hp sp : List Nat) : Prop := ∃ hn sn, Bd c H θ T hn sn ∧ TOk T hp sp hn sn
theorem St.line {c : Cn} {H H' : Hp} {θ : Ad} {T : Tilt.Table} {hp sp : List Nat} {l : Addr} {e p : Nat} {rest : List Tilt.Word} (S : St c H θ T hp sp) (b : Bar l H H') (L : LnAt c.Li H l e p rest) : St c H' θ T hp sp := by
  obtain ⟨hn, sn, B, O⟩ := S
  exact ⟨hn, sn, B.line b L, O⟩
theorem St.same {c : Cn} {H H' : Hp} {θ : Ad} {T : Tilt.Table} {hp sp : List Nat} (S : St c H θ T hp sp) (s : Same H H') : St c H' θ T hp sp := by
  obtain ⟨hn, sn, B, O⟩ := S
  exact ⟨hn, sn, B.same s, O⟩
theorem tV_new {hn : List Tilt.Bytes} {n : Tilt.Bytes} (h : hn.contains n = false) : putK (tV hn) (bK n) (V.bl true) = tV (hn ++ [n]) := by
  have D : DkAt (fun _ => some (.dT (tV hn))) 0 (tV hn) hn := ⟨rfl, tV_keys hn⟩
  have := D.has n
  rw [h] at this
  rw [putK_new _ (Option.isNone_iff_eq_none.mp (by rw [← Option.not_isSome, this]; rfl))]
  unfold tV
  rw [List.map_append]
  rfl
/-- held grows -/
theorem Bd.hold {c : Cn} {H : Hp} {θ : Ad} {T : Tilt.Table} {hn sn : List Tilt.Bytes} {n : Tilt.Bytes} (B : Bd c H θ T hn sn) : Bd c (upd H θ.dh (.dT (tV (hn ++ [n])))) θ T (hn ++ [n]) sn := by
  have f : Fr [θ.dk] H (upd H θ.dh (.dT (tV (hn ++ [n])))) := Fr.dict B.he
  have nd := B.nd
  simp only [List.nodup_cons, List.mem_cons, List.not_mem_nil, or_false, not_or] at nd
  obtain ⟨⟨n1, n2, n3, n4, n5⟩, ⟨m2, m3, m4, m5⟩, ⟨p3, p4, p5⟩, ⟨q4, q5⟩, r5, _⟩ := nd
  obtain ⟨dx, tn, h1, h2⟩ := B.bd
  obtain ⟨a1, s1⟩ := B.sw
  obtain ⟨a2, s2⟩ := B.la
  obtain ⟨a3, s3⟩ := B.co
  obtain ⟨a4, s4⟩ := B.de
  obtain ⟨a5, k1, k2, k3⟩ := B.ki
  exact ⟨⟨dx, tn, f _ _ h1 (nw (by decide +kernel)), f _ _ h2 True.intro⟩, ⟨a1, s1.keep f (fun _ _ q => q.fr f) (upd_ne n4)⟩, ⟨a2, s2.keep f (fun _ _ q => q.fr f) (upd_ne m4)⟩, ⟨a3, s3.keep f (fun _ _ q => q.fr f) (upd_ne p4)⟩, ⟨a4, s4.keep f (fun _ _ q => q.fr B.kms f) (upd_ne q4)⟩,
    ⟨a5, (upd_ne (ne_of k1 B.he (by intro z; cases z))).trans k1, k2, fun i a k q1 q2 => (k3 i a k q1 q2).fr f⟩, upd_same, (upd_ne (Ne.symm r5)).trans B.se, B.nd, B.km⟩
/-- serving grows -/
theorem Bd.serve {c : Cn} {H : Hp} {θ : Ad} {T : Tilt.Table} {hn sn : List Tilt.Bytes} {n : Tilt.Bytes} (B : Bd c H θ T hn sn) : Bd c (upd H θ.dv (.dT (tV (sn ++ [n])))) θ T hn (sn ++ [n]) := by
  have f : Fr [θ.dk] H (upd H θ.dv (.dT (tV (sn ++ [n])))) := Fr.dict B.se
  have nd := B.nd
  simp only [List.nodup_cons, List.mem_cons, List.not_mem_nil, or_false, not_or] at nd
  obtain ⟨⟨n1, n2, n3, n4, n5⟩, ⟨m2, m3, m4, m5⟩, ⟨p3, p4, p5⟩, ⟨q4, q5⟩, r5, _⟩ := nd
  obtain ⟨dx, tn, h1, h2⟩ := B.bd
  obtain ⟨a1, s1⟩ := B.sw
  obtain ⟨a2, s2⟩ := B.la
  obtain ⟨a3, s3⟩ := B.co
  obtain ⟨a4, s4⟩ := B.de
  obtain ⟨a5, k1, k2, k3⟩ := B.ki
  exact ⟨⟨dx, tn, f _ _ h1 (nw (by decide +kernel)), f _ _ h2 True.intro⟩, ⟨a1, s1.keep f (fun _ _ q => q.fr f) (upd_ne n5)⟩, ⟨a2, s2.keep f (fun _ _ q => q.fr f) (upd_ne m5)⟩, ⟨a3, s3.keep f (fun _ _ q => q.fr f) (upd_ne p5)⟩, ⟨a4, s4.keep f (fun _ _ q => q.fr B.kms f) (upd_ne q5)⟩,
    ⟨a5, (upd_ne (ne_of k1 B.se (by intro z; cases z))).trans k1, k2, fun i a k q1 q2 => (k3 i a k q1 q2).fr f⟩, (upd_ne r5).trans B.he, upd_same, B.nd, B.km⟩
def servCoil (e : Nat) (T : Tilt.Table) (sp : List Nat) (l : List Tilt.Word) : Except Tilt.Fault (Tilt.Coil × List Tilt.Word) := do
  let x ← Tilt.coilNamed e T l
  let _ ← Tilt.holds (!sp.contains x.1.1.place) 7 x.1.2
  return (x.1.1, x.2)
def placeAt (T : Tilt.Table) (i : Nat) : Nat := ((T.switches[i]?).map fun (s : Tilt.Switch) => s.place).getD 0
def heldSw (e : Nat) (T : Tilt.Table) (hp : List Nat) (l : List Tilt.Word) : Except Tilt.Fault (Nat × List Tilt.Word) := do
  let x ← Tilt.known e (T.switches.map fun (s : Tilt.Switch) => s.name) l
  let _ ← Tilt.holds (!hp.contains (placeAt T x.1.1)) 7 x.1.2
  return (placeAt T x.1.1, x.2)
theorem LnA.same {C : Addr} {H H' : Hp} {l : Addr} {e : Nat} {rest : List Tilt.Word} (L : LnA C H l e rest) (s : Same H H') : LnA C H' l e rest := by
  obtain ⟨p, L⟩ := L
  exact ⟨p, L.same s⟩
/-- a line where a dict is written -/
theorem LnAt.dict {C : Addr} {H : Hp} {l d : Addr} {e p : Nat} {rest : List Tilt.Word} {kv : List (List Key × V)} {o : HO} (L : LnAt C H l e p rest) (h : H d = some (.dT kv)) : LnAt C (upd H d o) l e p rest := by
  obtain ⟨dx, wl, as, ws, t, hl, W, ht, er⟩ := L
  have k : ∀ b u, H b = some u → (∀ kv, u ≠ .dT kv) → upd H d o b = some u := fun b u e n => by
    rw [upd_ne fun z => ?_]
    · exact e
    · subst z
      rw [h] at e
      cases e
      exact n _ rfl
  refine ⟨dx, wl, as, ws, t, k _ _ hl (by intro _ z; cases z), ⟨k _ _ W.lst (by intro _ z; cases z), W.len, fun j a x h1 h2 => ?_, W.ne⟩, ht, er⟩
  obtain ⟨ta, e1, e2⟩ := W.wd j a x h1 h2
  exact ⟨ta, k _ _ e1 (by intro _ z; cases z), k _ _ e2 (by intro _ z; cases z)⟩
section
variable {P : Program} {w : World} {K : PySem.W.Frag} {mg : Str → Option Value} {base : Heap} {c : Cn}
theorem sc_take_serving_coil : FnScope ["board", "line", "coil"] ["board", "line"] (defScope s_take_serving_coil) := ⟨rfl, rfl, rfl, by decide +kernel, rfl, by decide +kernel, by decide +kernel⟩
def spServ (c : Cn) : Sp := fun vs H Q E => ∃ (θ : Ad) (l : Addr) (e p : Nat) (rest : List Tilt.Word) (T : Tilt.Table) (hp sp : List Nat), vs = [.ref θ.b, .ref l] ∧ St c H θ T hp sp ∧ LnAt c.Li H l e p rest ∧ sp.length ≤ 900 ∧ Out c.F E (servCoil e T sp rest) fun x => ∀ (H' : Hp) (ca : Addr), Fr [θ.dk] H H' → St c H' θ T hp (sp ++ [x.1.place]) → CoAt c H' ca x.1 → x.1 ∈ T.coils → LnA c.Li H' l e x.2 → Q (.ref ca) H'
theorem ok_take_serving_coil (T : Txt K mg c) : Has P w K mg base (CXF P w) 6 "take_serving_coil" ["board", "line"] (spServ c) := by
  refine mkX T.d_take_serving_coil sc_take_serving_coil (fun _ _ _ _ _ _ us hl => match us, hl with | [_, _], _ => rfl) (fun vs H Q E h => ?_) (fun f cdv A outer s H vs Q E hr h => ?_)
  · obtain ⟨θ, l, e, p, rest, Tb, hp, sp, rfl, _⟩ := h
    rfl
  · obtain ⟨θ, l, e, p, rest, Tb, hp, sp, rfl, ⟨hn, sn, B, O⟩, L, hsz, k⟩ := h
    refine ⟨_, pss_cons (ps_set (i := 2) sc_take_serving_coil.nd rfl (Or.inl rfl) (pe_fn (ok_take_known T) hr passX (pa_cons (pv 1) (pa_cons (pe_fld (pv 0) rfl) pa_nil))))
      (pss_cons (ps_if (pt_cmp (pc_din (hu_of hr) (pe_fld (pv 2) rfl) (pe_fld (pv 0) rfl))) (pss_one (ps_fault T (hr.mono (by decide)) xe_def (pa_cons (pe_gi T.g_CLASH) (pa_cons (pe_fld (pv 1) rfl) pa_nil)))) pss_nil)
      (pss_cons (ps_dput (hu_of hr) (pe_fld (pv 0) rfl) (pe_fld (pv 2) rfl) pe_bl rfl)
      (pss_one (ps_ret (pv 2))))), ?_⟩
    obtain ⟨db, tn, hb, _⟩ := B.bd
    obtain ⟨cas, SC⟩ := B.co
    unfold servCoil Tilt.coilNamed at k
    refine ⟨_, rfl, _, rfl, rdF T.cB hb (by decide +kernel) rfl ⟨l, θ.dc, e, p, rest, _, _, rfl, L, SC.dks, Out.cases k.bind fun y ky H1 kv b1 L1 hkv => ?_⟩⟩
    obtain ⟨ca, co, g1, g2, rfl⟩ := kvs_get hkv
    have B1 := B.line b1 L
    obtain ⟨db1, tn1, hb1, _⟩ := B1.bd
    obtain ⟨dx1, wl1, as1, ws1, t1, hl1, _⟩ := id L1
    obtain ⟨dco, tco, hco, hct⟩ : CoAt c H1 ca co := (SC.el _ _ _ g1 g2).fr (Fr.line (dk := [θ.dk]) b1 L)
    have mem : co ∈ Tb.coils := List.mem_of_getElem? g2
    obtain ⟨cs, ec1, ec2, ec3⟩ := O.se
    have hco' : sn.contains co.name = sp.contains co.place := by
      rw [ec1, ec2]
      exact both O.coN (rise_nodup O.coP) ec3 mem
    have D1 : DkAt H1 θ.dv (tV sn) sn := ⟨B1.se, tV_keys sn⟩
    refine ⟨_, rfl, rdF T.cC hco (by decide +kernel) rfl ⟨_, rfl, rdF T.cB hb1 (by decide +kernel) rfl ⟨θ.dv, _, rfl, D1.dget hct, _, rfl, ?_⟩⟩⟩
    rw [D1.has, hco']
    have ky : Out c.F E (Tilt.holds (!sp.contains ((Tb.coils[y.1.1]?).getD ⟨0, 0, 0, 0, []⟩).place) 7 y.1.2 >>= fun _ => (pure ((Tb.coils[y.1.1]?).getD ⟨0, 0, 0, 0, []⟩, y.2) : Except Tilt.Fault (Tilt.Coil × List Tilt.Word))) _ := ky
    rw [g2] at ky
    unfold Tilt.holds at ky
    cases hq : sp.contains co.place with
    | true =>
      rw [show (!sp.contains (Option.getD (some co) ⟨0, 0, 0, 0, []⟩).place) = false by show (!sp.contains co.place) = false; rw [hq]; rfl] at ky
      exact iteT ⟨_, rfl, rdF T.cLi hl1 (by decide +kernel) rfl (flt_rd T ky)⟩
    | false =>
      rw [show (!sp.contains (Option.getD (some co) ⟨0, 0, 0, 0, []⟩).place) = true by show (!sp.contains co.place) = true; rw [hq]; rfl] at ky
      have hs' : sn.contains co.name = false := hco'.trans hq
      refine iteF ⟨_, rfl, rdF T.cB hb1 (by decide +kernel) rfl ⟨_, rfl, rdF T.cC hco (by decide +kernel) rfl ⟨θ.dv, _, rfl, DPut.t (k := bK co.name) B1.se (by rw [bK_kV]; exact hct) ?_, ⟨_, rfl, ?_⟩⟩⟩⟩
      · unfold tV
        rw [List.length_map, ec1, List.length_map, sizeLine_eq]
        have : sp.length = cs.length := by rw [ec2, List.length_map]
        omega
      · rw [tV_new hs']
        have f2 : Fr [θ.dk] H1 (upd H1 θ.dv (.dT (tV (sn ++ [co.name])))) := Fr.dict B1.se
        refine ky _ ca ((Fr.line b1 L).trans f2) ⟨hn, _, B1.serve, ?_⟩ (CoAt.fr ⟨dco, tco, hco, hct⟩ f2) mem ⟨_, L1.dict B1.se⟩
        exact { O with se := ⟨cs ++ [co], by rw [ec1, List.map_append]; rfl, by rw [ec2, List.map_append]; rfl, fun x hx => (List.mem_append.mp hx).elim (ec3 x) fun z => by rw [List.mem_singleton.mp z]; exact mem⟩ }
theorem sc_take_held_switch : FnScope ["board", "line", "switch"] ["board", "line"] (defScope s_take_held_switch) := ⟨rfl, rfl, rfl, by decide +kernel, rfl, by decide +kernel, by decide +kernel⟩
def spHeld (c : Cn) : Sp := fun vs H Q E => ∃ (θ : Ad) (l : Addr) (e p : Nat) (rest : List Tilt.Word) (T : Tilt.Table) (hp sp : List Nat), vs = [.ref θ.b, .ref l] ∧ St c H θ T hp sp ∧ LnAt c.Li H l e p rest ∧ hp.length ≤ 900 ∧ Out c.F E (heldSw e T hp rest) fun x => ∀ (H' : Hp) (sa : Addr), Fr [θ.dk] H H' → St c H' θ T (hp ++ [x.1]) sp → (∃ s, SwAt c H' sa s ∧ s.place = x.1) → LnA c.Li H' l e x.2 → Q (.ref sa) H'
theorem ok_take_held_switch (T : Txt K mg c) : Has P w K mg base (CXF P w) 6 "take_held_switch" ["board", "line"] (spHeld c) := by
  refine mkX T.d_take_held_switch sc_take_held_switch (fun _ _ _ _ _ _ us hl => match us, hl with | [_, _], _ => rfl) (fun vs H Q E h => ?_) (fun f cdv A outer s H vs Q E hr h => ?_)
  · obtain ⟨θ, l, e, p, rest, Tb, hp, sp, rfl, _⟩ := h
    rfl
  · obtain ⟨θ, l, e, p, rest, Tb, hp, sp, rfl, ⟨hn, sn, B, O⟩, L, hsz, k⟩ := h
    refine ⟨_, pss_cons (ps_set (i := 2) sc_take_held_switch.nd rfl (Or.inl rfl) (pe_fn (ok_take_known T) hr passX (pa_cons (pv 1) (pa_cons (pe_fld (pv 0) rfl) pa_nil))))
      (pss_cons (ps_if (pt_cmp (pc_din (hu_of hr) (pe_fld (pv 2) rfl) (pe_fld (pv 0) rfl))) (pss_one (ps_fault T (hr.mono (by decide)) xe_def (pa_cons (pe_gi T.g_CLASH) (pa_cons (pe_fld (pv 1) rfl) pa_nil)))) pss_nil)
      (pss_cons (ps_dput (hu_of hr) (pe_fld (pv 0) rfl) (pe_fld (pv 2) rfl) pe_bl rfl)
      (pss_one (ps_ret (pv 2))))), ?_⟩
    obtain ⟨db, tn, hb, _⟩ := B.bd
    obtain ⟨cas, SC⟩ := B.sw
    unfold heldSw at k
    refine ⟨_, rfl, _, rfl, rdF T.cB hb (by decide +kernel) rfl ⟨l, θ.ds, e, p, rest, _, _, rfl, L, SC.dks, Out.cases k fun y ky H1 kv b1 L1 hkv => ?_⟩⟩
    obtain ⟨ca, co, g1, g2, rfl⟩ := kvs_get hkv
    have B1 := B.line b1 L
    obtain ⟨db1, tn1, hb1, _⟩ := B1.bd
    obtain ⟨dx1, wl1, as1, ws1, t1, hl1, _⟩ := id L1
    obtain ⟨dco, tco, hco, hct⟩ : SwAt c H1 ca co := (SC.el _ _ _ g1 g2).fr (Fr.line (dk := [θ.dk]) b1 L)
    have mem : co ∈ Tb.switches := List.mem_of_getElem? g2
    obtain ⟨cs, ec1, ec2, ec3⟩ := O.he
    have hco' : hn.contains co.name = hp.contains co.place := by
      rw [ec1, ec2]
      exact both O.swN (rise_nodup O.swP) ec3 mem
    have D1 : DkAt H1 θ.dh (tV hn) hn := ⟨B1.he, tV_keys hn⟩
    have epl : placeAt Tb y.1.1 = co.place := by
      unfold placeAt
      rw [g2]
      rfl
    rw [epl] at ky
    refine ⟨_, rfl, rdF T.cS hco (by decide +kernel) rfl ⟨_, rfl, rdF T.cB hb1 (by decide +kernel) rfl ⟨θ.dh, _, rfl, D1.dget hct, _, rfl, ?_⟩⟩⟩
    rw [D1.has, hco']
    unfold Tilt.holds at ky
    cases hq : hp.contains co.place with
    | true =>
      rw [hq] at ky
      exact iteT ⟨_, rfl, rdF T.cLi hl1 (by decide +kernel) rfl (flt_rd T ky)⟩
    | false =>
      rw [hq] at ky
      have hs' : hn.contains co.name = false := hco'.trans hq
      refine iteF ⟨_, rfl, rdF T.cB hb1 (by decide +kernel) rfl ⟨_, rfl, rdF T.cS hco (by decide +kernel) rfl ⟨θ.dh, _, rfl, DPut.t (k := bK co.name) B1.he (by rw [bK_kV]; exact hct) ?_, ⟨_, rfl, ?_⟩⟩⟩⟩
      · unfold tV
        rw [List.length_map, ec1, List.length_map, sizeLine_eq]
        have : hp.length = cs.length := by rw [ec2, List.length_map]
        omega
      · rw [tV_new hs']
        have f2 : Fr [θ.dk] H1 (upd H1 θ.dh (.dT (tV (hn ++ [co.name])))) := Fr.dict B1.he
        refine ky _ ca ((Fr.line b1 L).trans f2) ⟨_, sn, B1.hold, ?_⟩ ⟨co, SwAt.fr ⟨dco, tco, hco, hct⟩ f2, rfl⟩ ⟨_, L1.dict B1.he⟩
        exact { O with he := ⟨cs ++ [co], by rw [ec1, List.map_append]; rfl, by rw [ec2, List.map_append]; rfl, fun x hx => (List.mem_append.mp hx).elim (ec3 x) fun z => by rw [List.mem_singleton.mp z]; exact mem⟩ }
end
end Fb
set_option Elab.async false
set_option maxRecDepth 100000
set_option maxHeartbeats 400000
set_option linter.all false
namespace Fb
open PySem PySem.Spec PyProof.Rows L2 Fx Fm
theorem kw_drain : Kw "drain" "drain" := ⟨by decide +kernel, by decide +kernel⟩
theorem kw_for : Kw "for" "for" := ⟨by decide +kernel, by decide +kernel⟩
theorem kw_till : Kw "till" "till" := ⟨by decide +kernel, by decide +kernel⟩
def mHeld (e : Nat) (T : Tilt.Table) (hp : List Nat) : Nat → List Nat → List Tilt.Word → Except Tilt.Fault (List Nat × List Tilt.Word)
  | 0, had, l => .ok (had, l)
  | k + 1, had, l => if headIs "drain" l = true ∨ l = [] then .ok (had, l) else do
    let x ← heldSw e T (hp ++ had) l
    mHeld e T hp k (had ++ [x.1]) x.2
def mHeld1 (e : Nat) (T : Tilt.Table) (hp : List Nat) (l : List Tilt.Word) : Except Tilt.Fault (List Nat × List Tilt.Word) := do
  let x ← heldSw e T hp l
  mHeld e T hp 7 [x.1] x.2
/-- the switches of a device under way -/
structure HsAt (c : Cn) (H : Hp) (θ : Ad) (sl : Addr) (had : List Nat) (sas : List Addr) : Prop where
  lst : H sl = some (.lst (sas.map V.ref))
  ne : sl ≠ θ.dk
  len : sas.length = had.length
  el : ∀ (j : Nat) (b : Addr) (p : Nat), sas[j]? = some b → had[j]? = some p → ∃ s, SwAt c H b s ∧ s.place = p
theorem HsAt.fr {c : Cn} {H H' : Hp} {θ : Ad} {sl : Addr} {had : List Nat} {sas : List Addr} (h : HsAt c H θ sl had sas) (f : Fr [θ.dk] H H') : HsAt c H' θ sl had sas := by
  refine ⟨f _ _ h.lst (fun z => h.ne (List.mem_singleton.mp z)), h.ne, h.len, fun j b p h1 h2 => ?_⟩
  obtain ⟨s, g1, g2⟩ := h.el j b p h1 h2
  exact ⟨s, g1.fr f, g2⟩
/-- a list that no other thing knows is written -/
theorem fr_list {H : Hp} {sl dk : Addr} {xs ys : List V} {b : Addr} {o : HO} (h : H sl = some (.lst xs)) (e : H b = some o) (n : ∀ zs, o ≠ .lst zs) : upd H sl (.lst ys) b = some o := by
  rw [upd_ne fun z => ?_]
  · exact e
  · subst z
    rw [h] at e
    cases e
    exact n _ rfl
theorem SwAt.list {c : Cn} {H : Hp} {a sl : Addr} {s : Tilt.Switch} {xs ys : List V} (h : SwAt c H a s) (hs : H sl = some (.lst xs)) : SwAt c (upd H sl (.lst ys)) a s := by
  obtain ⟨dx, tn, h1, h2⟩ := h
  exact ⟨dx, tn, fr_list (dk := 0) hs h1 (by intro _ z; cases z), fr_list (dk := 0) hs h2 (by intro _ z; cases z)⟩
theorem HsAt.add {c : Cn} {H : Hp} {θ : Ad} {sl a : Addr} {had : List Nat} {sas : List Addr} {p : Nat} (h : HsAt c H θ sl had sas) (ha : ∃ s, SwAt c H a s ∧ s.place = p) : HsAt c (upd H sl (.lst (sas.map V.ref ++ [.ref a]))) θ sl (had ++ [p]) (sas ++ [a]) := by
  refine ⟨by rw [upd_same, List.map_append]; rfl, h.ne, by rw [List.length_append, List.length_append, h.len]; rfl, fun j b q h1 h2 => ?_⟩
  by_cases hj : j < sas.length
  · rw [List.getElem?_append_left hj] at h1
    rw [List.getElem?_append_left (by rw [← h.len]; exact hj)] at h2
    obtain ⟨s, g1, g2⟩ := h.el j b q h1 h2
    exact ⟨s, g1.list h.lst, g2⟩
  · have hj2 : j = sas.length := by
      have := (List.getElem?_eq_some_iff.mp h1).1
      rw [List.length_append, List.length_singleton] at this
      omega
    rw [hj2, List.getElem?_concat_length] at h1
    rw [hj2, h.len, List.getElem?_concat_length] at h2
    cases h1
    cases h2
    obtain ⟨s, g1, g2⟩ := ha
    exact ⟨s, g1.list h.lst, g2⟩
theorem St.list {c : Cn} {H : Hp} {θ : Ad} {T : Tilt.Table} {hp sp : List Nat} {sl : Addr} {xs ys : List V} (S : St c H θ T hp sp) (hs : H sl = some (.lst xs)) (hn : sl ≠ θ.dk) (hd : ∀ a d, DeAt c θ.M H a d → DeAt c θ.M (upd H sl (.lst ys)) a d) : St c (upd H sl (.lst ys)) θ T hp sp := by
  obtain ⟨hn', sn, B, O⟩ := S
  refine ⟨hn', sn, ?_, O⟩
  obtain ⟨dx, tn, h1, h2⟩ := B.bd
  obtain ⟨a1, s1⟩ := B.sw
  obtain ⟨a2, s2⟩ := B.la
  obtain ⟨a3, s3⟩ := B.co
  obtain ⟨a4, s4⟩ := B.de
  obtain ⟨a5, k1, k2, k3⟩ := B.ki
  have k : ∀ b o, H b = some o → (∀ zs, o ≠ .lst zs) → upd H sl (.lst ys) b = some o := fun b o e n => fr_list (dk := 0) hs e n
  have ksw : ∀ a s, SwAt c H a s → SwAt c (upd H sl (.lst ys)) a s := fun a s q => q.list hs
  have kco : ∀ a s, CoAt c H a s → CoAt c (upd H sl (.lst ys)) a s := fun a s ⟨dx, tn, q1, q2⟩ => ⟨dx, tn, k _ _ q1 (by intro _ z; cases z), k _ _ q2 (by intro _ z; cases z)⟩
  refine ⟨⟨dx, tn, k _ _ h1 (by intro _ z; cases z), k _ _ h2 (by intro _ z; cases z)⟩, ⟨a1, ?_⟩, ⟨a2, ?_⟩, ⟨a3, ?_⟩, ⟨a4, ?_⟩, ⟨a5, ?_, k2, fun i a kk q1 q2 => ?_⟩, k _ _ B.he (by intro _ z; cases z), k _ _ B.se (by intro _ z; cases z), B.nd, B.km⟩
  · exact ⟨k _ _ s1.at_ (by intro _ z; cases z), s1.len, fun i a x q1 q2 => ksw _ _ (s1.el i a x q1 q2)⟩
  · exact ⟨k _ _ s2.at_ (by intro _ z; cases z), s2.len, fun i a x q1 q2 => by
      obtain ⟨dx, tn, g1, g2⟩ := s2.el i a x q1 q2
      exact ⟨dx, tn, k _ _ g1 (by intro _ z; cases z), k _ _ g2 (by intro _ z; cases z)⟩⟩
  · exact ⟨k _ _ s3.at_ (by intro _ z; cases z), s3.len, fun i a x q1 q2 => kco _ _ (s3.el i a x q1 q2)⟩
  · exact ⟨k _ _ s4.at_ (by intro _ z; cases z), s4.len, fun i a x q1 q2 => hd _ _ (s4.el i a x q1 q2)⟩
  · rw [upd_ne (Ne.symm hn)]
    exact k1
  · obtain ⟨dx, sa, ca, tv, s, co, g1, g2, g3, g4, g5, g6⟩ := k3 i a kk q1 q2
    refine ⟨dx, sa, ca, tv, s, co, k _ _ g1 (by intro _ z; cases z), ksw _ _ g2, g3, kco _ _ g4, g5, ?_⟩
    cases ht : kk.till with
    | none =>
      rw [ht] at g6
      exact g6
    | some p =>
      rw [ht] at g6
      obtain ⟨a', s', e1, e2, e3⟩ := g6
      exact ⟨a', s', e1, ksw _ _ e2, e3⟩
theorem DeAt.list {c : Cn} {H : Hp} {M : List Addr} {a sl : Addr} {d : Tilt.Device} {xs ys : List V} (h : DeAt c (sl :: M) H a d) (hs : H sl = some (.lst xs)) : DeAt c (sl :: M) (upd H sl (.lst ys)) a d := by
  obtain ⟨dx, tn, ca, sl', sas, co, h1, h2, ⟨dc, tc, h3, h3'⟩, h4, h5, h6, h7, h8⟩ := h
  have k : ∀ b o, H b = some o → (∀ zs, o ≠ .lst zs) → upd H sl (.lst ys) b = some o := fun b o e n => fr_list (dk := 0) hs e n
  refine ⟨dx, tn, ca, sl', sas, co, k _ _ h1 (by intro _ z; cases z), k _ _ h2 (by intro _ z; cases z), ⟨dc, tc, k _ _ h3 (by intro _ z; cases z), k _ _ h3' (by intro _ z; cases z)⟩, h4, ?_, h6, h7, fun j b p q1 q2 => ?_⟩
  · rw [upd_ne fun z => h6 (List.mem_cons.mpr (.inl z))]
    exact h5
  · obtain ⟨s, g1, g2⟩ := h8 j b p q1 q2
    exact ⟨s, g1.list hs, g2⟩
theorem DeAt.more {c : Cn} {H : Hp} {M : List Addr} {a sl : Addr} {d : Tilt.Device} (h : DeAt c M H a d) (hs : H sl = none) : DeAt c (sl :: M) H a d := by
  obtain ⟨dx, tn, ca, sl', sas, co, h1, h2, h3, h4, h5, h6, h7, h8⟩ := h
  exact ⟨dx, tn, ca, sl', sas, co, h1, h2, h3, h4, h5, fun z => (List.mem_cons.mp z).elim (ne_of_none h5 hs) h6, h7, h8⟩
theorem DeAt.less {c : Cn} {H : Hp} {M : List Addr} {a sl : Addr} {d : Tilt.Device} (h : DeAt c (sl :: M) H a d) : DeAt c M H a d := by
  obtain ⟨dx, tn, ca, sl', sas, co, h1, h2, h3, h4, h5, h6, h7, h8⟩ := h
  exact ⟨dx, tn, ca, sl', sas, co, h1, h2, h3, h4, h5, fun z => h6 (List.mem_cons.mpr (.inr z)), h7, h8⟩
def Ad.plus (θ : Ad) (sl : Addr) : Ad := { θ with M := sl :: θ.M }
theorem St.more {c : Cn} {H : Hp} {θ : Ad} {T : Tilt.Table} {hp sp : List Nat} {sl : Addr} (S : St c H θ T hp sp) (hs : H sl = none) : St c H (θ.plus sl) T hp sp := by
  obtain ⟨hn', sn, B, O⟩ := S
  obtain ⟨a4, s4⟩ := B.de
  exact ⟨hn', sn, ⟨B.bd, B.sw, B.la, B.co, ⟨a4, s4.at_, s4.len, fun i a x q1 q2 => (s4.el i a x q1 q2).more hs⟩, B.ki, B.he, B.se, B.nd, List.mem_cons.mpr (.inr B.km)⟩, O⟩
theorem St.less {c : Cn} {H : Hp} {θ : Ad} {T : Tilt.Table} {hp sp : List Nat} {sl : Addr} (hk : θ.dk ∈ θ.M) (S : St c H (θ.plus sl) T hp sp) : St c H θ T hp sp := by
  obtain ⟨hn', sn, B, O⟩ := S
  obtain ⟨a4, s4⟩ := B.de
  exact ⟨hn', sn, ⟨B.bd, B.sw, B.la, B.co, ⟨a4, s4.at_, s4.len, fun i a x q1 q2 => DeAt.less (s4.el i a x q1 q2)⟩, B.ki, B.he, B.se, B.nd, hk⟩, O⟩
theorem St.km {c : Cn} {H : Hp} {θ : Ad} {T : Tilt.Table} {hp sp : List Nat} (S : St c H θ T hp sp) : θ.dk ∈ θ.M := by
  obtain ⟨hn', sn, B, O⟩ := S
  exact B.km
theorem St.dkl {c : Cn} {H : Hp} {θ : Ad} {T : Tilt.Table} {hp sp : List Nat} (S : St c H θ T hp sp) : ∃ xs, H θ.dk = some (.lst xs) := by
  obtain ⟨hn', sn, B, O⟩ := S
  obtain ⟨a5, k1, k2, k3⟩ := B.ki
  exact ⟨_, k1⟩
theorem St.lst {c : Cn} {H : Hp} {θ : Ad} {T : Tilt.Table} {hp sp : List Nat} {sl : Addr} {xs ys : List V} (S : St c H (θ.plus sl) T hp sp) (hs : H sl = some (.lst xs)) (hn : sl ≠ θ.dk) : St c (upd H sl (.lst ys)) (θ.plus sl) T hp sp := S.list hs hn fun a d q => DeAt.list q hs
/-- a line where a list that isn't its own is written -/
theorem LnAt.list {C : Addr} {H : Hp} {l sl : Addr} {e p : Nat} {rest : List Tilt.Word} {xs : List V} {o : HO} (L : LnAt C H l e p rest) (h : H sl = some (.lst xs)) {wl0 : Addr} (hw : Wl H l wl0) (hw0 : wl0 ≠ sl) : LnAt C (upd H sl o) l e p rest := by
  obtain ⟨dx, wl, as, ws, t, hl, W, ht, er⟩ := L
  have k : ∀ b u, H b = some u → b ≠ sl → upd H sl o b = some u := fun b u e n => by
    rw [upd_ne n]
    exact e
  have n : ∀ b u, H b = some u → (∀ zs, u ≠ .lst zs) → b ≠ sl := fun b u e n z => by
    subst z
    rw [h] at e
    cases e
    exact n _ rfl
  refine ⟨dx, wl, as, ws, t, k _ _ hl (n _ _ hl (by intro _ z; cases z)), ⟨k _ _ W.lst (fun z => hw0 (by obtain ⟨C', dx', fs, h1, h2⟩ := hw; rw [hl] at h1; cases h1; cases h2; exact z)), W.len, fun j a x h1 h2 => ?_, W.ne⟩, ht, er⟩
  obtain ⟨ta, e1, e2⟩ := W.wd j a x h1 h2
  exact ⟨ta, k _ _ e1 (n _ _ e1 (by intro _ z; cases z)), k _ _ e2 (n _ _ e2 (by intro _ z; cases z))⟩
theorem LnAt.wl {C : Addr} {H : Hp} {l : Addr} {e p : Nat} {rest : List Tilt.Word} (L : LnAt C H l e p rest) : ∃ wl xs, Wl H l wl ∧ H wl = some (.lst xs) := by
  obtain ⟨dx, wl, as, ws, t, hl, W, ht, er⟩ := L
  exact ⟨wl, _, ⟨C, dx, _, hl, rfl⟩, W.lst⟩
end Fb
set_option Elab.async false
set_option maxRecDepth 100000
set_option maxHeartbeats 400000
set_option linter.all false
namespace Fb
open PySem PySem.Spec PyProof.Rows L2 Fx Fm
theorem fr_up {M : List Addr} {H H4 : Hp} {sl : Addr} {xs : List V} {o : HO} (f : Fr M H H4) (hfs : ∀ b o, H b = some o → Per M b o → b ≠ sl) (hs : H4 sl = some (.lst xs)) : Fr M H (upd H4 sl o) := by
  refine ⟨fun b u e q => ?_, fun l w h => ?_⟩
  · rw [upd_ne (hfs b u e q)]
    exact f b u e q
  · obtain ⟨C, dx, fs, h1, h2⟩ := f.wl l w h
    exact ⟨C, dx, fs, by rw [upd_ne (ne_of h1 hs (by intro z; cases z))]; exact h1, h2⟩
section
variable {P : Program} {w : World} {K : PySem.W.Frag} {mg : Str → Option Value} {base : Heap} {c : Cn}
theorem sc_take_held_switches : FnScope ["board", "line", "switches"] ["board", "line"] (defScope s_take_held_switches) := ⟨rfl, rfl, rfl, by decide +kernel, rfl, by decide +kernel, by decide +kernel⟩
def spHelds (c : Cn) : Sp := fun vs H Q E => ∃ (θ : Ad) (l : Addr) (e p : Nat) (rest : List Tilt.Word) (T : Tilt.Table) (hp sp : List Nat), vs = [.ref θ.b, .ref l] ∧ St c H θ T hp sp ∧ LnAt c.Li H l e p rest ∧ hp.length ≤ 800 ∧ Out c.F E (mHeld1 e T hp rest) fun x => ∀ (H' : Hp) (sl : Addr) (sas : List Addr), Fr [θ.dk] H H' → St c H' θ T (hp ++ x.1) sp → HsAt c H' θ sl x.1 sas → x.1.length ≤ 8 → LnA c.Li H' l e x.2 → Q (.ref sl) H'
theorem ok_take_held_switches (T : Txt K mg c) : Has P w K mg base (CXF P w) 7 "take_held_switches" ["board", "line"] (spHelds c) := by
  refine mkX T.d_take_held_switches sc_take_held_switches (fun _ _ _ _ _ _ us hl => match us, hl with | [_, _], _ => rfl) (fun vs H Q E h => ?_) (fun f cdv A outer s H vs Q E hr h => ?_)
  · obtain ⟨θ, l, e, p, rest, Tb, hp, sp, rfl, _⟩ := h
    rfl
  · obtain ⟨θ, l, e, p, rest, Tb, hp, sp, rfl, S, L, hsz, k⟩ := h
    refine ⟨_, pss_cons (ps_set (i := 2) sc_take_held_switches.nd rfl (Or.inl rfl) (pe_lst (pa_cons (pe_fn (ok_take_held_switch T) hr passX (pa_cons (pv 0) (pa_cons (pv 1) pa_nil))) pa_nil)))
      (pss_cons (ps_while PassesOwn.leaving (PW.pt (pw_and (pt_cmpR op_lt (pe_callB call_len_seq rfl T.b_len PySem.boot_len (pa_cons (pv 2) pa_nil)) (pe_gi T.g_MOST_HELD) (nomark _)) (pw_and (pt_val (pe_mt0 (ok_has_more T) (pv 1) (hr.mono (by decide)) pass0)) (pw_and1 (pt_not (pt_val (pe_mt (ok_comes T) (pv 1) (hr.mono (by decide)) pass0 (pa_cons pe_str pa_nil))))))))
        (pss_one (ps_expr (pe_bm PySem.F.plainAttrs_list PySem.F.slot_list_append PySem.F.type_list_append mt_append (pv 2) (pa_cons (pe_fn (ok_take_held_switch T) hr passX (pa_cons (pv 0) (pa_cons (pv 1) pa_nil))) pa_nil)))))
      (pss_one (ps_ret (pv 2)))), ?_⟩
    unfold mHeld1 at k
    refine ⟨_, rfl, _, rfl, θ, l, e, p, rest, Tb, hp, sp, rfl, S, L, by omega, Out.cases k fun x kx H1 sa f1 S1 hsa L1 => ⟨by show 1 ≤ sizeLine; decide, fun sl hsl => ?_⟩⟩
    obtain ⟨wl0, wxs, hw0, hwl⟩ := L1.choose_spec.wl
    obtain ⟨kxs, hdk⟩ := S1.dkl
    have nw : wl0 ≠ sl := ne_of_none hwl hsl
    have nk : sl ≠ θ.dk := Ne.symm (ne_of_none hdk hsl)
    have km := S.km
    have sm : Same H1 (upd H1 sl (.lst [.ref sa])) := same_upd hsl
    have hfs : ∀ b o, H b = some o → Per [θ.dk] b o → b ≠ sl := fun b o e q => ne_of_none (f1 b o e q) hsl
    refine ⟨fun m σ H' => ∃ (had : List Nat) (rest' : List Tilt.Word) (sas : List Addr), had.length + m = 8 ∧ σ = [some (.ref θ.b), some (.ref l), some (.ref sl)] ∧ Fr [θ.dk] H H' ∧ St c H' (θ.plus sl) Tb (hp ++ had) sp ∧ HsAt c H' θ sl had sas ∧ LnA c.Li H' l e rest' ∧ Wl H' l wl0 ∧ Out c.F E (mHeld e Tb hp m had rest') fun x => ∀ (H' : Hp) (sl : Addr) (sas : List Addr), Fr [θ.dk] H H' → St c H' θ Tb (hp ++ x.1) sp → HsAt c H' θ sl x.1 sas → x.1.length ≤ 8 → LnA c.Li H' l e x.2 → Q (.ref sl) H', ⟨7, [x.1], x.2, [sa], rfl, rfl, f1.trans (Fr.of sm), (S1.more hsl).same sm, ?_, L1.same sm, ?_, kx⟩, ?_⟩
    · obtain ⟨s', g1, g2⟩ := hsa
      refine ⟨upd_same, nk, rfl, fun j b q h1 h2 => ?_⟩
      match j, h1, h2 with
      | 0, h1, h2 =>
        cases h1
        cases h2
        obtain ⟨dx, tn, q1, q2⟩ := g1
        exact ⟨s', ⟨dx, tn, sm _ _ q1, sm _ _ q2⟩, g2⟩
      | j + 1, h1, _ => simp at h1
    · obtain ⟨C, dx, fs, h1, h2⟩ := hw0
      exact ⟨C, dx, fs, sm _ _ h1, h2⟩
    · rintro m σ H2 ⟨had, rest', sas, hm, rfl, f2, S2, A2, L2, w2, k2⟩
      obtain ⟨p2, L2⟩ := L2
      obtain ⟨dx2, wl2, as2, ws2, t2, hl2, _⟩ := id L2
      have hlen : (sas.map V.ref).length = had.length := by rw [List.length_map, A2.len]
      refine ⟨_, rfl, sl, _, rfl, .inl (SqL.of A2.lst), _, _, rfl, rfl, _, rfl, ite2 (fun h => ?_) fun h => iteF ⟨_, rfl, ?_⟩⟩
      · have h' : had.length < 8 := by
          have := of_decide_eq_true h
          rw [hlen] at this
          omega
        obtain ⟨m', rfl⟩ : ∃ m', m = m' + 1 := ⟨m - 1, by omega⟩
        unfold mHeld at k2
        refine ⟨_, rfl, l, dx2, _, rfl, hl2, rfl, l, e, p2, rest', rfl, L2, _, rfl, ?_⟩
        by_cases hz : rest' = []
        · rw [if_pos (.inr hz)] at k2
          rw [show (!rest'.isEmpty) = false by rw [hz]; rfl]
          exact iteF (iteF ⟨_, rfl, k2 H2 sl sas f2 (St.less km S2) A2 (by show had.length ≤ 8; omega) ⟨_, L2⟩⟩)
        · have e1 : (!rest'.isEmpty) = true := by
            rw [Bool.not_eq_true', ← Bool.not_eq_true, List.isEmpty_iff]
            exact hz
          rw [e1]
          refine iteT ⟨_, rfl, l, dx2, _, rfl, hl2, rfl, l, e, p2, rest', _, "drain", rfl, kw_drain, L2, fun H3 s3 => ⟨_, rfl, ?_⟩⟩
          have S3 := S2.same s3
          have A3 := A2.fr (Fr.of s3)
          have L3 := L2.same s3
          have f3 := f2.trans (Fr.of s3)
          cases hd : headIs "drain" rest' with
          | true =>
            rw [if_pos (.inl hd)] at k2
            exact iteF ⟨_, rfl, k2 H3 sl sas f3 (St.less km S3) A3 (by show had.length ≤ 8; omega) ⟨_, L3⟩⟩
          | false =>
            rw [if_neg (fun z => z.elim (fun z => by rw [hd] at z; cases z) hz)] at k2
            refine iteT ⟨fun σ' H' => _, fun σ' H' hN => ⟨m', Nat.lt_succ_self _, hN⟩, ⟨_, rfl, .inl ⟨rfl, _, SqL.of A3.lst⟩, _, rfl, _, rfl, θ.plus sl, l, e, p2, rest', Tb, hp ++ had, sp, rfl, S3, L3, by rw [List.length_append]; omega, Out.cases k2 fun y ky H4 sb f4 S4 hsb L4 => ?_⟩⟩
            have A4 := A3.fr f4
            obtain ⟨p4, L4⟩ := L4
            have w4 : Wl H4 l wl0 := f4.wl _ _ ((Fr.of (dk := []) s3).wl _ _ w2)
            refine ⟨sl, _, _, rfl, rfl, A4.lst, by rw [hlen, sizeLine_eq]; omega, had ++ [y.1], y.2, sas ++ [sb], by rw [List.length_append, List.length_singleton]; omega, rfl, fr_up (f3.trans f4) hfs A4.lst, ?_, A4.add hsb, ⟨p4, L4.list A4.lst w4 nw⟩, ?_, ky⟩
            · have := S4.lst (ys := sas.map V.ref ++ [.ref sb]) A4.lst nk
              rw [List.append_assoc] at this
              exact this
            · obtain ⟨C, dx, fs, h1, h2⟩ := w4
              exact ⟨C, dx, fs, by rw [upd_ne (ne_of h1 A4.lst (by intro z; cases z))]; exact h1, h2⟩
      · have h' : m = 0 := by
          have := of_decide_eq_false (Bool.eq_false_iff.mpr h)
          rw [hlen] at this
          omega
        subst h'
        exact k2 H2 sl sas f2 (St.less km S2) A2 (by show had.length ≤ 8; omega) ⟨_, L2⟩
theorem sc_take_kick_switch : FnScope ["board", "line", "switch", "kick"] ["board", "line"] (defScope s_take_kick_switch) := ⟨rfl, rfl, rfl, by decide +kernel, rfl, by decide +kernel, by decide +kernel⟩
def kickSw (e : Nat) (T : Tilt.Table) (hp : List Nat) (l : List Tilt.Word) : Except Tilt.Fault (Nat × List Tilt.Word) := do
  let s ← Tilt.known e (T.switches.map fun (s : Tilt.Switch) => s.name) l
  let _ ← Tilt.holds (T.kicks.all fun (k : Tilt.Kick) => decide (k.first < placeAt T s.1.1)) 5 s.1.2
  let _ ← Tilt.holds (!hp.contains (placeAt T s.1.1)) 7 s.1.2
  return (placeAt T s.1.1, s.2)
def spKickSw (c : Cn) : Sp := fun vs H Q E => ∃ (θ : Ad) (l : Addr) (e p : Nat) (rest : List Tilt.Word) (T : Tilt.Table) (hp sp : List Nat), vs = [.ref θ.b, .ref l] ∧ St c H θ T hp sp ∧ LnAt c.Li H l e p rest ∧ Out c.F E (kickSw e T hp rest) fun x => ∀ (H' : Hp) (sa : Addr) (s : Tilt.Switch), Fr [θ.dk] H H' → St c H' θ T hp sp → SwAt c H' sa s → s.place = x.1 → s ∈ T.switches → LnA c.Li H' l e x.2 → Q (.ref sa) H'
theorem ok_take_kick_switch (T : Txt K mg c) : Has P w K mg base (CXF P w) 6 "take_kick_switch" ["board", "line"] (spKickSw c) := by
  refine mkX T.d_take_kick_switch sc_take_kick_switch (fun _ _ _ _ _ _ us hl => match us, hl with | [_, _], _ => rfl) (fun vs H Q E h => ?_) (fun f cdv A outer s H vs Q E hr h => ?_)
  · obtain ⟨θ, l, e, p, rest, Tb, hp, sp, rfl, _⟩ := h
    rfl
  · obtain ⟨θ, l, e, p, rest, Tb, hp, sp, rfl, ⟨hn, sn, B, O⟩, L, k⟩ := h
    refine ⟨_, pss_cons (ps_set (i := 2) sc_take_kick_switch.nd rfl (Or.inl rfl) (pe_fn (ok_take_known T) hr passX (pa_cons (pv 1) (pa_cons (pe_fld (pv 0) rfl) pa_nil))))
      (pss_cons (ps_if (pt_cmpR op_le (pe_fld (pv 2) rfl) (pe_maxD rfl rfl T.b_max (pe_lc (te := tFld K (tFld K (tVar 3) "switch") "place") rfl sc_take_kick_switch.nd (pi_list (pe_fld (pv 0) rfl)) (blkOk_by (own := [("kick", 3)]) (by rfl)) (fun s H C cl fp => pg_name (i := 3) sc_take_kick_switch.nd rfl (Or.inl rfl)) (fun _ _ _ _ _ => pts_nil) (fun _ _ _ _ _ => pe_fld (pe_fld (pv 3) rfl) rfl)) (pe_gi T.g_NO_PLACE)) (nomark _)) (pss_one (ps_fault T (hr.mono (by decide)) xe_def (pa_cons (pe_gi T.g_NOT_NEW) (pa_cons (pe_fld (pv 1) rfl) pa_nil)))) pss_nil)
      (pss_cons (ps_if (pt_cmp (pc_din (hu_of hr) (pe_fld (pv 2) rfl) (pe_fld (pv 0) rfl))) (pss_one (ps_fault T (hr.mono (by decide)) xe_def (pa_cons (pe_gi T.g_CLASH) (pa_cons (pe_fld (pv 1) rfl) pa_nil)))) pss_nil)
      (pss_one (ps_ret (pv 2))))), ?_⟩
    obtain ⟨db, tn, hb, _⟩ := B.bd
    obtain ⟨cas, SC⟩ := B.sw
    unfold kickSw at k
    refine ⟨_, rfl, _, rfl, rdF T.cB hb (by decide +kernel) rfl ⟨l, θ.ds, e, p, rest, _, _, rfl, L, SC.dks, Out.cases k fun y ky H1 kv b1 L1 hkv => ?_⟩⟩
    obtain ⟨ca, co, g1, g2, rfl⟩ := kvs_get hkv
    have B1 := B.line b1 L
    obtain ⟨db1, tn1, hb1, _⟩ := B1.bd
    obtain ⟨dco, tco, hco, hct⟩ : SwAt c H1 ca co := (SC.el _ _ _ g1 g2).fr (Fr.line (dk := [θ.dk]) b1 L)
    have mem : co ∈ Tb.switches := List.mem_of_getElem? g2
    obtain ⟨cs, ec1, ec2, ec3⟩ := O.he
    have hco' : hn.contains co.name = hp.contains co.place := by
      rw [ec1, ec2]
      exact both O.swN (rise_nodup O.swP) ec3 mem
    have epl : placeAt Tb y.1.1 = co.place := by
      unfold placeAt
      rw [g2]
      rfl
    rw [epl] at ky
    obtain ⟨kas, hk1, hk2, hk3⟩ := B1.ki
    have hkz := O.ki
    refine ⟨_, rfl, rdF T.cS hco (by decide +kernel) rfl ⟨_, rfl, rdF T.cB hb1 (by decide +kernel) rfl ⟨θ.dk, rfl, ⟨_, SqL.of hk1⟩, fun D hD => lc_any kas.length (fun i H' => H' D = some (.lst (nV ((Tb.kicks.map (·.first)).take i))) ∧ Same H1 H') ⟨upd_same, same_upd hD⟩ (fun i H' lt q => ?_) (fun H' q => ?_) ?_ ?_⟩⟩⟩
    · obtain ⟨ka, hka⟩ : ∃ ka, kas[i]? = some ka := ⟨kas[i]'lt, List.getElem?_eq_getElem _⟩
      exact ⟨_, .ref ka, SqL.of (q.2 _ _ hk1), by rw [List.getElem?_map, hka]; rfl⟩
    · exact ⟨_, SqL.of (q.2 _ _ hk1), by rw [List.length_map]; exact Nat.le_refl _⟩
    · rintro i v H3 H4 lt ⟨q1, q2⟩ ⟨rfl, hy⟩
      obtain ⟨ka, hka⟩ : ∃ ka, kas[i]? = some ka := ⟨kas[i]'lt, List.getElem?_eq_getElem _⟩
      obtain ⟨kk, hkk⟩ : ∃ kk, Tb.kicks[i]? = some kk := ⟨Tb.kicks[i]'(by rw [← hk2]; exact lt), List.getElem?_eq_getElem _⟩
      have hv := hy _ (SqL.of (q2 _ _ hk1))
      rw [List.getElem?_map, hka] at hv
      cases hv
      obtain ⟨dxk, sak, cak, tvk, sk, cok, e1, e2, e3, _⟩ := (hk3 i ka kk hka hkk).fr (Fr.of (dk := []) q2)
      obtain ⟨dsk, tsk, e4, _⟩ := e2
      refine ⟨rfl, yesT ⟨_, rfl, rdF T.cKi e1 (by decide +kernel) rfl (rdF T.cS e4 (by decide +kernel) rfl ⟨_, q1, ?_, ?_, ?_⟩)⟩⟩
      · unfold nV
        rw [List.length_map, List.length_take, List.length_map, sizeLine_eq]
        omega
      · rw [upd_same, nV_snoc (p := sk.place) (by rw [List.getElem?_map, hkk, e3]; rfl)]
      · intro b o eb
        rw [upd_ne (ne_of_none eb hD)]
        exact q2 b o eb
    · rintro H3 ⟨q1, q2⟩
      have hDl : H3 D = some (.lst (((Tb.kicks.map (·.first)).map fun (n : Nat) => (n : Int)).map V.int)) := by
        rw [q1, hk2, List.take_of_length_le (by rw [List.length_map]; exact Nat.le_refl _), nV_int]
      have L3 := L1.same q2
      have B3 := B1.same q2
      obtain ⟨dx3, wl3, as3, ws3, t3, hl3, _⟩ := id L3
      obtain ⟨db3, tn3, hb3, _⟩ := B3.bd
      have hco3 := q2 _ _ hco
      have hct3 := q2 _ _ hct
      have D3 : DkAt H3 θ.dh (tV hn) hn := ⟨B3.he, tV_keys hn⟩
      have eall : (Tb.kicks.map (·.first)).all (fun p => decide (p < co.place)) = Tb.kicks.all fun (k : Tilt.Kick) => decide (k.first < co.place) := by
        rw [List.all_map]
        rfl
      refine ⟨D, _, -1, rfl, rfl, SqL.of hDl, fun hnil => ?a, fun m hm hx => ?b⟩
      case' a =>
        have em : decide ((co.place : Int) ≤ -1) = !(Tb.kicks.all fun (k : Tilt.Kick) => decide (k.first < co.place)) := by
          have : Tb.kicks = [] := List.map_eq_nil_iff.mp (List.map_eq_nil_iff.mp hnil)
          rw [this]
          exact decide_eq_false (by omega)
        generalize (-1 : Int) = m at em ⊢
      case' b =>
        have em := (max_test (n := co.place) hm hx).trans (congrArg _ eall)
      case a | b =>
        refine ⟨_, _, rfl, rfl, _, rfl, ?_⟩
        rw [em]
        unfold Tilt.holds at ky
        cases hq : Tb.kicks.all fun (k : Tilt.Kick) => decide (k.first < co.place) with
        | false =>
          rw [hq, if_neg (by decide)] at ky
          exact iteT ⟨_, rfl, rdF T.cLi hl3 (by decide +kernel) rfl (flt_rd T ky)⟩
        | true =>
          rw [hq, if_pos rfl] at ky
          refine iteF ⟨_, rfl, rdF T.cS hco3 (by decide +kernel) rfl ⟨_, rfl, rdF T.cB hb3 (by decide +kernel) rfl ⟨θ.dh, _, rfl, D3.dget hct3, _, rfl, ?_⟩⟩⟩
          rw [D3.has, hco']
          cases hq2 : hp.contains co.place with
          | true =>
            rw [hq2] at ky
            exact iteT ⟨_, rfl, rdF T.cLi hl3 (by decide +kernel) rfl (flt_rd T ky)⟩
          | false =>
            rw [hq2] at ky
            exact iteF ⟨_, rfl, ky H3 ca co ((Fr.line b1 L).trans (Fr.of q2)) ⟨hn, sn, B3, O⟩ ⟨dco, tco, hco3, hct3⟩ rfl mem ⟨_, L3⟩⟩
theorem sc_take_ticks : FnScope ["line", "coil", "ticks"] ["line", "coil"] (defScope s_take_ticks) := ⟨rfl, rfl, rfl, by decide +kernel, rfl, by decide +kernel, by decide +kernel⟩
def mTicks (e : Nat) (co : Tilt.Coil) (l : List Tilt.Word) : Except Tilt.Fault (Nat × List Tilt.Word) := do
  let m ← Tilt.must e "for" l
  let t ← Tilt.number e 1 255 m
  let _ ← Tilt.holds (decide (t.1.1 ≤ co.most)) 7 t.1.2
  return (t.1.1, t.2)
def spTicks (c : Cn) : Sp := fun vs H Q E => ∃ (l ca : Addr) (e p : Nat) (rest : List Tilt.Word) (co : Tilt.Coil), vs = [.ref l, .ref ca] ∧ LnAt c.Li H l e p rest ∧ CoAt c H ca co ∧ Out c.F E (mTicks e co rest) fun x => ∀ (H' : Hp), Bar l H H' → LnA c.Li H' l e x.2 → Q (.int (x.1 : Int)) H'
theorem ok_take_ticks (T : Txt K mg c) : Has P w K mg base (CXF P w) 6 "take_ticks" ["line", "coil"] (spTicks c) := by
  refine mkX T.d_take_ticks sc_take_ticks (fun _ _ _ _ _ _ us hl => match us, hl with | [_, _], _ => rfl) (fun vs H Q E h => ?_) (fun f cdv A outer s H vs Q E hr h => ?_)
  · obtain ⟨l, ca, e, p, rest, co, rfl, _⟩ := h
    rfl
  · obtain ⟨l, ca, e, p, rest, co, rfl, L, C, k⟩ := h
    refine ⟨_, pss_cons (ps_set (i := 2) sc_take_ticks.nd rfl (Or.inl rfl) (pe_fn (ok_take_named_number T) hr passX (pa_cons (pv 0) (pa_cons pe_str (pa_cons (pe_gi T.g_MOST_KICK_TICKS) pa_nil)))))
      (pss_cons (ps_if (pt_cmpR op_gt (pv 2) (pe_fld (pv 1) rfl) (nomark _)) (pss_one (ps_fault T (hr.mono (by decide)) xe_def (pa_cons (pe_gi T.g_CLASH) (pa_cons (pe_fld (pv 0) rfl) pa_nil)))) pss_nil)
      (pss_one (ps_ret (pv 2)))), ?_⟩
    have e0 : mTicks e co rest = ((Tilt.must e "for" rest >>= fun m => Tilt.number e 1 255 m) >>= fun t => Tilt.holds (decide (t.1.1 ≤ co.most)) 7 t.1.2 >>= fun _ => pure (t.1.1, t.2)) := by
      unfold mTicks
      cases Tilt.must e "for" rest <;> rfl
    rw [e0] at k
    refine ⟨_, rfl, l, e, p, 255, rest, _, "for", rfl, kw_for, L, Out.cases k fun y ky H1 b1 L1 => ?_⟩
    obtain ⟨dc, tc, h1, _⟩ := C.fr (Fr.line (dk := []) b1 L)
    obtain ⟨dx1, wl1, as1, ws1, t1, hl1, _⟩ := id L1
    refine ⟨_, rfl, _, rfl, rdF T.cC h1 (by decide +kernel) rfl ⟨_, _, rfl, rfl, _, rfl, ?_⟩⟩
    unfold Tilt.holds at ky
    by_cases z : y.1.1 ≤ co.most
    · rw [decide_eq_true z, if_pos rfl] at ky
      rw [decide_eq_false (show ¬ (co.most : Int) < (y.1.1 : Int) by omega)]
      exact iteF ⟨_, rfl, ky H1 b1 ⟨_, L1⟩⟩
    · rw [decide_eq_false z, if_neg (by decide)] at ky
      rw [decide_eq_true (show (co.most : Int) < (y.1.1 : Int) by omega)]
      exact iteT ⟨_, rfl, rdF T.cLi hl1 (by decide +kernel) rfl (flt_rd T ky)⟩
theorem sc_take_till : FnScope ["board", "line", "switch", "till"] ["board", "line", "switch"] (defScope s_take_till) := ⟨rfl, rfl, rfl, by decide +kernel, rfl, by decide +kernel, by decide +kernel⟩
def mTill (e : Nat) (T : Tilt.Table) (p : Nat) (l : List Tilt.Word) : Except Tilt.Fault (Option Nat × List Tilt.Word) := if l = [] then pure (none, []) else do
  let m ← Tilt.must e "till" l
  let u ← Tilt.known e (T.switches.map fun (s : Tilt.Switch) => s.name) m
  let _ ← Tilt.holds (placeAt T u.1.1 != p) 7 u.1.2
  return (some (placeAt T u.1.1), u.2)
def spTill (c : Cn) : Sp := fun vs H Q E => ∃ (θ : Ad) (l sa : Addr) (e p : Nat) (rest : List Tilt.Word) (T : Tilt.Table) (hp sp : List Nat) (s : Tilt.Switch), vs = [.ref θ.b, .ref l, .ref sa] ∧ St c H θ T hp sp ∧ LnAt c.Li H l e p rest ∧ SwAt c H sa s ∧ s ∈ T.switches ∧ Out c.F E (mTill e T s.place rest) fun x => ∀ (H' : Hp) (v : V), Bar l H H' → St c H' θ T hp sp → TiAt c H' v x.1 → LnA c.Li H' l e x.2 → Q v H'
theorem ok_take_till (T : Txt K mg c) : Has P w K mg base (CXF P w) 6 "take_till" ["board", "line", "switch"] (spTill c) := by
  refine mkX T.d_take_till sc_take_till (fun _ _ _ _ _ _ us hl => match us, hl with | [_, _, _], _ => rfl) (fun vs H Q E h => ?_) (fun f cdv A outer s H vs Q E hr h => ?_)
  · obtain ⟨θ, l, sa, e, p, rest, Tb, hp, sp, sw, rfl, _⟩ := h
    rfl
  · obtain ⟨θ, l, sa, e, p, rest, Tb, hp, sp, sw, rfl, ⟨hn, sn, B, O⟩, L, W0, mem0, k⟩ := h
    refine ⟨_, pss_cons (ps_if (pt_not (pt_val (pe_mt (ok_take_ending T) (pv 1) hr passX (pa_cons pe_str pa_nil)))) (pss_one (ps_ret pe_non)) pss_nil)
      (pss_cons (ps_set (i := 3) sc_take_till.nd rfl (Or.inl rfl) (pe_fn (ok_take_known T) hr passX (pa_cons (pv 1) (pa_cons (pe_fld (pv 0) rfl) pa_nil))))
      (pss_cons (ps_if (pt_cmpR (op_eqD hr.units) (pe_fld (pv 3) rfl) (pe_fld (pv 2) rfl) (nomark _)) (pss_one (ps_fault T (hr.mono (by decide)) xe_def (pa_cons (pe_gi T.g_CLASH) (pa_cons (pe_fld (pv 1) rfl) pa_nil)))) pss_nil)
      (pss_one (ps_ret (pv 3))))), ?_⟩
    obtain ⟨dx, wl, as, ws, t, hl, _⟩ := id L
    unfold mTill at k
    refine ⟨_, rfl, l, dx, _, rfl, hl, rfl, l, e, p, rest, _, "till", rfl, kw_till, L, fun hz => ⟨_, rfl, ?_⟩, fun hz => ?_⟩
    · rw [if_pos hz] at k
      exact iteT (k H .non Bar.refl ⟨hn, sn, B, O⟩ rfl ⟨p, by rw [hz] at L; exact L⟩)
    · rw [if_neg hz] at k
      refine Out.cases k fun m km H1 b1 L1 => ⟨_, rfl, iteF ?_⟩
      obtain ⟨p1, L1⟩ := L1
      have B1 := B.line b1 L
      obtain ⟨db1, tn1, hb1, _⟩ := B1.bd
      obtain ⟨cas, SC⟩ := B1.sw
      refine ⟨_, rfl, _, rfl, rdF T.cB hb1 (by decide +kernel) rfl ⟨l, θ.ds, e, p1, m, _, _, rfl, L1, SC.dks, Out.cases km fun y ky H2 kv b2 L2 hkv => ?_⟩⟩
      obtain ⟨ca, co, g1, g2, rfl⟩ := kvs_get hkv
      have W2 : SwAt c H2 ca co := (SC.el _ _ _ g1 g2).fr (Fr.line (dk := []) b2 L1)
      obtain ⟨dco, tco, hco, hct⟩ := id W2
      obtain ⟨ds0, ts0, hs0, hts0⟩ := (W0.fr (Fr.line (dk := []) b1 L)).fr (Fr.line (dk := []) b2 L1)
      have mem : co ∈ Tb.switches := List.mem_of_getElem? g2
      obtain ⟨dx2, wl2, as2, ws2, t2, hl2, _⟩ := id L2
      have epl : placeAt Tb y.1.1 = co.place := by
        unfold placeAt
        rw [g2]
        rfl
      rw [epl] at ky
      have eqp : (co.name = sw.name) ↔ (co.place = sw.place) := ⟨fun z => by rw [inj_of O.swN mem mem0 z], fun z => by rw [inj_of (rise_nodup O.swP) mem mem0 z]⟩
      refine ⟨_, rfl, rdF T.cS hco (by decide +kernel) rfl ⟨_, rfl, rdF T.cS hs0 (by decide +kernel) rfl (rd_eq hct hts0 ⟨_, rfl, ?_⟩)⟩⟩
      unfold Tilt.holds at ky
      by_cases z : co.place = sw.place
      · rw [decide_eq_true (eqp.mpr z)]
        rw [if_neg (by rw [z]; simp)] at ky
        exact iteT ⟨_, rfl, rdF T.cLi hl2 (by decide +kernel) rfl (flt_rd T ky)⟩
      · rw [decide_eq_false (fun q => z (eqp.mp q))]
        rw [if_pos (bne_iff_ne.mpr z)] at ky
        exact iteF ⟨_, rfl, ky H2 (.ref ca) (b1.trans b2) ⟨hn, sn, B1.line b2 L1, O⟩ ⟨ca, co, rfl, W2, rfl⟩ ⟨_, L2⟩⟩
end
end Fb
set_option Elab.async false
set_option maxRecDepth 100000
set_option maxHeartbeats 400000
set_option linter.all false
namespace Fb
open PySem PySem.Spec PyProof.Rows L2 Fx Fm
theorem Bd.addSw {c : Cn} {H : Hp} {θ : Ad} {T : Tilt.Table} {hn sn : List Tilt.Bytes} {a : Addr} {x : Tilt.Switch} {as : List Addr} (B : Bd c H θ T hn sn) (S : Srt H θ.ds (SwAt c) (·.name) as T.switches) (h : (T.switches.map (·.name)).contains x.name = false) (ha : SwAt c H a x) : Bd c (upd H θ.ds (.dT (putK (kvs (·.name) as T.switches) (bK x.name) (.ref a)))) θ { T with switches := T.switches ++ [x] } hn sn := by
  have f : Fr [θ.dk] H (upd H θ.ds (.dT (putK (kvs (·.name) as T.switches) (bK x.name) (.ref a)))) := Fr.dict S.at_
  have nd := B.nd
  simp only [List.nodup_cons, List.mem_cons, List.not_mem_nil, or_false, not_or] at nd
  obtain ⟨⟨n1, n2, n3, n4, n5⟩, ⟨m2, m3, m4, m5⟩, ⟨p3, p4, p5⟩, ⟨q4, q5⟩, r5, _⟩ := nd
  obtain ⟨dx, tn, h1, h2⟩ := B.bd
  obtain ⟨a2, s2⟩ := B.la
  obtain ⟨a3, s3⟩ := B.co
  obtain ⟨a4, s4⟩ := B.de
  obtain ⟨a5, k1, k2, k3⟩ := B.ki
  exact ⟨⟨dx, tn, f _ _ h1 (nw (by decide +kernel)), f _ _ h2 True.intro⟩, ⟨_, S.add h upd_same (fun _ _ q => q.fr f) (ha.fr f)⟩, ⟨a2, s2.keep f (fun _ _ q => q.fr f) (upd_ne (Ne.symm n1))⟩, ⟨a3, s3.keep f (fun _ _ q => q.fr f) (upd_ne (Ne.symm n2))⟩, ⟨a4, s4.keep f (fun _ _ q => q.fr B.kms f) (upd_ne (Ne.symm n3))⟩, ⟨a5, (upd_ne (ne_of k1 S.at_ (by intro z; cases z))).trans k1, k2, fun i a k q1 q2 => (k3 i a k q1 q2).fr f⟩, (upd_ne (Ne.symm n4)).trans B.he, (upd_ne (Ne.symm n5)).trans B.se, B.nd, B.km⟩
theorem Bd.addLa {c : Cn} {H : Hp} {θ : Ad} {T : Tilt.Table} {hn sn : List Tilt.Bytes} {a : Addr} {x : Tilt.Lamp} {as : List Addr} (B : Bd c H θ T hn sn) (S : Srt H θ.dl (LaAt c) (·.name) as T.lamps) (h : (T.lamps.map (·.name)).contains x.name = false) (ha : LaAt c H a x) : Bd c (upd H θ.dl (.dT (putK (kvs (·.name) as T.lamps) (bK x.name) (.ref a)))) θ { T with lamps := T.lamps ++ [x] } hn sn := by
  have f : Fr [θ.dk] H (upd H θ.dl (.dT (putK (kvs (·.name) as T.lamps) (bK x.name) (.ref a)))) := Fr.dict S.at_
  have nd := B.nd
  simp only [List.nodup_cons, List.mem_cons, List.not_mem_nil, or_false, not_or] at nd
  obtain ⟨⟨n1, n2, n3, n4, n5⟩, ⟨m2, m3, m4, m5⟩, ⟨p3, p4, p5⟩, ⟨q4, q5⟩, r5, _⟩ := nd
  obtain ⟨dx, tn, h1, h2⟩ := B.bd
  obtain ⟨a1, s1⟩ := B.sw
  obtain ⟨a3, s3⟩ := B.co
  obtain ⟨a4, s4⟩ := B.de
  obtain ⟨a5, k1, k2, k3⟩ := B.ki
  exact ⟨⟨dx, tn, f _ _ h1 (nw (by decide +kernel)), f _ _ h2 True.intro⟩, ⟨a1, s1.keep f (fun _ _ q => q.fr f) (upd_ne n1)⟩, ⟨_, S.add h upd_same (fun _ _ q => q.fr f) (ha.fr f)⟩, ⟨a3, s3.keep f (fun _ _ q => q.fr f) (upd_ne (Ne.symm m2))⟩, ⟨a4, s4.keep f (fun _ _ q => q.fr B.kms f) (upd_ne (Ne.symm m3))⟩, ⟨a5, (upd_ne (ne_of k1 S.at_ (by intro z; cases z))).trans k1, k2, fun i a k q1 q2 => (k3 i a k q1 q2).fr f⟩, (upd_ne (Ne.symm m4)).trans B.he, (upd_ne (Ne.symm m5)).trans B.se, B.nd, B.km⟩
theorem Bd.addCo {c : Cn} {H : Hp} {θ : Ad} {T : Tilt.Table} {hn sn : List Tilt.Bytes} {a : Addr} {x : Tilt.Coil} {as : List Addr} (B : Bd c H θ T hn sn) (S : Srt H θ.dc (CoAt c) (·.name) as T.coils) (h : (T.coils.map (·.name)).contains x.name = false) (ha : CoAt c H a x) : Bd c (upd H θ.dc (.dT (putK (kvs (·.name) as T.coils) (bK x.name) (.ref a)))) θ { T with coils := T.coils ++ [x] } hn sn := by
  have f : Fr [θ.dk] H (upd H θ.dc (.dT (putK (kvs (·.name) as T.coils) (bK x.name) (.ref a)))) := Fr.dict S.at_
  have nd := B.nd
  simp only [List.nodup_cons, List.mem_cons, List.not_mem_nil, or_false, not_or] at nd
  obtain ⟨⟨n1, n2, n3, n4, n5⟩, ⟨m2, m3, m4, m5⟩, ⟨p3, p4, p5⟩, ⟨q4, q5⟩, r5, _⟩ := nd
  obtain ⟨dx, tn, h1, h2⟩ := B.bd
  obtain ⟨a1, s1⟩ := B.sw
  obtain ⟨a2, s2⟩ := B.la
  obtain ⟨a4, s4⟩ := B.de
  obtain ⟨a5, k1, k2, k3⟩ := B.ki
  exact ⟨⟨dx, tn, f _ _ h1 (nw (by decide +kernel)), f _ _ h2 True.intro⟩, ⟨a1, s1.keep f (fun _ _ q => q.fr f) (upd_ne n2)⟩, ⟨a2, s2.keep f (fun _ _ q => q.fr f) (upd_ne m2)⟩, ⟨_, S.add h upd_same (fun _ _ q => q.fr f) (ha.fr f)⟩, ⟨a4, s4.keep f (fun _ _ q => q.fr B.kms f) (upd_ne (Ne.symm p3))⟩, ⟨a5, (upd_ne (ne_of k1 S.at_ (by intro z; cases z))).trans k1, k2, fun i a k q1 q2 => (k3 i a k q1 q2).fr f⟩, (upd_ne (Ne.symm p4)).trans B.he, (upd_ne (Ne.symm p5)).trans B.se, B.nd, B.km⟩
theorem Bd.addDe {c : Cn} {H : Hp} {θ : Ad} {T : Tilt.Table} {hn sn : List Tilt.Bytes} {a : Addr} {x : Tilt.Device} {as : List Addr} (B : Bd c H θ T hn sn) (S : Srt H θ.dd (DeAt c θ.M) (·.name) as T.devices) (h : (T.devices.map (·.name)).contains x.name = false) (ha : DeAt c θ.M H a x) : Bd c (upd H θ.dd (.dT (putK (kvs (·.name) as T.devices) (bK x.name) (.ref a)))) θ { T with devices := T.devices ++ [x] } hn sn := by
  have f : Fr [θ.dk] H (upd H θ.dd (.dT (putK (kvs (·.name) as T.devices) (bK x.name) (.ref a)))) := Fr.dict S.at_
  have nd := B.nd
  simp only [List.nodup_cons, List.mem_cons, List.not_mem_nil, or_false, not_or] at nd
  obtain ⟨⟨n1, n2, n3, n4, n5⟩, ⟨m2, m3, m4, m5⟩, ⟨p3, p4, p5⟩, ⟨q4, q5⟩, r5, _⟩ := nd
  obtain ⟨dx, tn, h1, h2⟩ := B.bd
  obtain ⟨a1, s1⟩ := B.sw
  obtain ⟨a2, s2⟩ := B.la
  obtain ⟨a3, s3⟩ := B.co
  obtain ⟨a5, k1, k2, k3⟩ := B.ki
  exact ⟨⟨dx, tn, f _ _ h1 (nw (by decide +kernel)), f _ _ h2 True.intro⟩, ⟨a1, s1.keep f (fun _ _ q => q.fr f) (upd_ne n3)⟩, ⟨a2, s2.keep f (fun _ _ q => q.fr f) (upd_ne m3)⟩, ⟨a3, s3.keep f (fun _ _ q => q.fr f) (upd_ne p3)⟩, ⟨_, S.add h upd_same (fun _ _ q => q.fr B.kms f) (ha.fr B.kms f)⟩, ⟨a5, (upd_ne (ne_of k1 S.at_ (by intro z; cases z))).trans k1, k2, fun i a k q1 q2 => (k3 i a k q1 q2).fr f⟩, (upd_ne (Ne.symm q4)).trans B.he, (upd_ne (Ne.symm q5)).trans B.se, B.nd, B.km⟩

theorem Out.casesE {α β : Type} {C : Addr} {E : XK} {r : Except Tilt.Fault α} {f : α → Except Tilt.Fault β} {k : β → Prop} {k' : α → Prop} (h : Out C E (r >>= f) k) (i : ∀ x, r = .ok x → Out C E (f x) k → k' x) : Out C E r k' := by
  cases r with
  | error e => exact h
  | ok x => exact i x rfl h
/-- the kicks' list grows -/
theorem Bd.addKi {c : Cn} {H : Hp} {θ : Ad} {T : Tilt.Table} {hn sn : List Tilt.Bytes} {a : Addr} {x : Tilt.Kick} {as : List Addr} (B : Bd c H θ T hn sn) (h0 : H θ.dk = some (.lst (as.map V.ref))) (hl : as.length = T.kicks.length) (hk : ∀ (i : Nat) (a : Addr) (k : Tilt.Kick), as[i]? = some a → T.kicks[i]? = some k → KiAt c H a k) (ha : KiAt c H a x) : Bd c (upd H θ.dk (.lst (as.map V.ref ++ [.ref a]))) θ { T with kicks := T.kicks ++ [x] } hn sn := by
  have f : Fr [θ.dk] H (upd H θ.dk (.lst (as.map V.ref ++ [.ref a]))) := Fr.kicks h0 (List.mem_singleton.mpr rfl)
  obtain ⟨dx, tn, h1, h2⟩ := B.bd
  obtain ⟨a1, s1⟩ := B.sw
  obtain ⟨a2, s2⟩ := B.la
  obtain ⟨a3, s3⟩ := B.co
  obtain ⟨a4, s4⟩ := B.de
  refine ⟨⟨dx, tn, f _ _ h1 (nw (by decide +kernel)), f _ _ h2 True.intro⟩, ⟨a1, s1.keep f (fun _ _ q => q.fr f) (upd_ne (ne_of s1.at_ h0 (by intro z; cases z)))⟩, ⟨a2, s2.keep f (fun _ _ q => q.fr f) (upd_ne (ne_of s2.at_ h0 (by intro z; cases z)))⟩, ⟨a3, s3.keep f (fun _ _ q => q.fr f) (upd_ne (ne_of s3.at_ h0 (by intro z; cases z)))⟩, ⟨a4, s4.keep f (fun _ _ q => q.fr B.kms f) (upd_ne (ne_of s4.at_ h0 (by intro z; cases z)))⟩,
    ⟨as ++ [a], by rw [upd_same, List.map_append]; rfl, by rw [List.length_append, hl, List.length_append]; rfl, fun i b k q1 q2 => ?_⟩, (upd_ne (ne_of B.he h0 (by intro z; cases z))).trans B.he, (upd_ne (ne_of B.se h0 (by intro z; cases z))).trans B.se, B.nd, B.km⟩
  by_cases hi : i < as.length
  · rw [List.getElem?_append_left hi] at q1
    have q2 : (T.kicks ++ [x])[i]? = some k := q2
    rw [List.getElem?_append_left (by rw [← hl]; exact hi)] at q2
    exact (hk i b k q1 q2).fr f
  · have hi2 : i = as.length := by
      have := (List.getElem?_eq_some_iff.mp q1).1
      rw [List.length_append, List.length_singleton] at this
      omega
    have q2 : (T.kicks ++ [x])[i]? = some k := q2
    rw [hi2, List.getElem?_concat_length] at q1
    rw [hi2, hl, List.getElem?_concat_length] at q2
    cases q1
    cases q2
    exact ha.fr f
/-! what a read name and place are -/
theorem takeName_ok {e : Nat} {l : List Tilt.Word} {x : Tilt.Word × List Tilt.Word} (h : takeName e l = .ok x) : Tilt.isName x.1.w = true := by
  unfold takeName at h
  cases l with
  | nil => cases h
  | cons y r =>
    have h : (if Tilt.isName y.w = false then (.error ⟨4, y.at_⟩ : Except Tilt.Fault (Tilt.Word × List Tilt.Word)) else .ok (y, r)) = .ok x := h
    by_cases z : Tilt.isName y.w = false
    · rw [if_pos z] at h
      cases h
    · rw [if_neg z] at h
      cases h
      simpa using z
theorem newW_ok {e : Nat} {had : List Tilt.Bytes} {l : List Tilt.Word} {x : Tilt.Word × List Tilt.Word} (h : newW e had l = .ok x) : had.contains x.1.w = false ∧ Tilt.isName x.1.w = true := by
  unfold newW at h
  cases h0 : takeName e l with
  | error f =>
    rw [h0] at h
    cases h
  | ok y =>
    rw [h0] at h
    have h : (if had.contains y.1.w = true then (.error ⟨5, y.1.at_⟩ : Except Tilt.Fault (Tilt.Word × List Tilt.Word)) else .ok y) = .ok x := h
    by_cases z : had.contains y.1.w = true
    · rw [if_pos z] at h
      cases h
    · rw [if_neg z] at h
      cases h
      exact ⟨Bool.eq_false_iff.mpr z, takeName_ok h0⟩
theorem newBut_ok {e : Nat} {had : List Tilt.Bytes} {s : String} {l : List Tilt.Word} {x : Tilt.Word × List Tilt.Word} (h : newBut e had s l = .ok x) : had.contains x.1.w = false ∧ x.1.w ≠ Tilt.ascii s := by
  unfold newBut at h
  cases h0 : newW e had l with
  | error f =>
    rw [h0] at h
    cases h
  | ok y =>
    rw [h0] at h
    have h : (if y.1.w = Tilt.ascii s then (.error ⟨4, y.1.at_⟩ : Except Tilt.Fault (Tilt.Word × List Tilt.Word)) else .ok y) = .ok x := h
    by_cases z : y.1.w = Tilt.ascii s
    · rw [if_pos z] at h
      cases h
    · rw [if_neg z] at h
      cases h
      exact ⟨(newW_ok h0).1, z⟩
theorem isName_len {w : Tilt.Bytes} (h : Tilt.isName w = true) : w.length ≤ 12 := by
  refine Decidable.byContradiction fun z => ?_
  rw [isName_long (by omega)] at h
  cases h
theorem newBut_len {e : Nat} {had : List Tilt.Bytes} {s : String} {l : List Tilt.Word} {x : Tilt.Word × List Tilt.Word} (h : newBut e had s l = .ok x) : x.1.w.length ≤ 12 := by
  unfold newBut at h
  cases h0 : newW e had l with
  | error f =>
    rw [h0] at h
    cases h
  | ok y =>
    rw [h0] at h
    have h : (if y.1.w = Tilt.ascii s then (.error ⟨4, y.1.at_⟩ : Except Tilt.Fault (Tilt.Word × List Tilt.Word)) else .ok y) = .ok x := h
    by_cases z : y.1.w = Tilt.ascii s
    · rw [if_pos z] at h
      cases h
    · rw [if_neg z] at h
      cases h
      exact isName_len (newW_ok h0).2
theorem number_ok {e lo hi : Nat} {l : List Tilt.Word} {x : (Nat × Nat) × List Tilt.Word} (h : Tilt.number e lo hi l = .ok x) : lo ≤ x.1.1 ∧ x.1.1 ≤ hi := by
  unfold Tilt.number at h
  cases l with
  | nil => cases h
  | cons y r =>
    have h : (match Tilt.numberOf y.w with
      | none => (.error ⟨4, y.at_⟩ : Except Tilt.Fault ((Nat × Nat) × List Tilt.Word))
      | some n => if n < lo ∨ hi < n then .error ⟨4, y.at_⟩ else .ok ((n, y.at_), r)) = .ok x := h
    cases hn : Tilt.numberOf y.w with
    | none =>
      rw [hn] at h
      cases h
    | some n =>
      rw [hn] at h
      dsimp only at h
      by_cases z : n < lo ∨ hi < n
      · rw [if_pos z] at h
        cases h
      · rw [if_neg z] at h
        cases h
        show lo ≤ n ∧ n ≤ hi
        omega
theorem place_ok {e hi : Nat} {pl : List Nat} {l : List Tilt.Word} {x : Nat × List Tilt.Word} (h : Tilt.place e hi pl l = .ok x) : x.1 ≤ hi ∧ ∀ p ∈ pl, p < x.1 := by
  unfold Tilt.place at h
  cases h0 : Tilt.number e 0 hi l with
  | error f =>
    rw [h0] at h
    cases h
  | ok y =>
    rw [h0] at h
    have h : (Tilt.holds (pl.all fun (p : Nat) => decide (p < y.1.1)) 5 y.1.2 >>= fun _ => (.ok (y.1.1, y.2) : Except Tilt.Fault (Nat × List Tilt.Word))) = .ok x := h
    unfold Tilt.holds at h
    by_cases z : (pl.all fun (p : Nat) => decide (p < y.1.1)) = true
    · rw [if_pos z] at h
      cases h
      exact ⟨(number_ok h0).2, fun p hp => of_decide_eq_true (List.all_eq_true.mp z p hp)⟩
    · rw [if_neg z] at h
      cases h
theorem rise_snoc {l : List Nat} {x : Nat} (h : l.Pairwise (· < ·)) (hx : ∀ p ∈ l, p < x) : (l ++ [x]).Pairwise (· < ·) := List.pairwise_append.mpr ⟨h, List.pairwise_singleton _ _, fun a ha b hb => by rw [List.mem_singleton.mp hb]; exact hx a ha⟩
theorem nodup_snoc {α : Type} [BEq α] [LawfulBEq α] {l : List α} {x : α} (h : l.Nodup) (hx : l.contains x = false) : (l ++ [x]).Nodup := List.nodup_append.mpr ⟨h, (by simp), fun a ha b hb e => by
  rw [List.mem_singleton.mp hb] at e
  rw [← e, List.contains_iff_mem.mpr ha] at hx
  cases hx⟩
end Fb
set_option Elab.async false
set_option maxRecDepth 100000
set_option maxHeartbeats 400000
set_option linter.all false
namespace Fb
open PySem PySem.Spec PyProof.Rows L2 Fx Fm
theorem kw_close : Kw "close" "close" := ⟨by decide +kernel, by decide +kernel⟩
theorem kw_open : Kw "open" "open" := ⟨by decide +kernel, by decide +kernel⟩
theorem kw_turned : Kw "turned" "turned" := ⟨by decide +kernel, by decide +kernel⟩
theorem kw_loop : Kw "loop" "loop" := ⟨by decide +kernel, by decide +kernel⟩
theorem kw_most : Kw "most" "most" := ⟨by decide +kernel, by decide +kernel⟩
theorem kw_rest : Kw "rest" "rest" := ⟨by decide +kernel, by decide +kernel⟩
theorem kw_hold : Kw "hold" "hold" := ⟨by decide +kernel, by decide +kernel⟩
theorem ne_line {H : Hp} {a l C dx C' dx' wl : Addr} {v : V} {r : List (Str × V)} {e t p : Nat} (h : H a = some (.ins C dx (("name", v) :: r))) (hl : H l = some (.ins C' dx' (lf wl e t p))) : a ≠ l := ne_of h hl fun z => by
  have z1 := (HO.ins.inj z).2.2
  have z2 : ("name" : Str) = "words" := congrArg Prod.fst (List.cons.inj z1).1
  exact absurd z2 (by decide +kernel)
section
variable {K : PySem.W.Frag} {mg : Str → Option Value} {c : Cn} {H : Hp} {θ : Ad} {T : Tilt.Table} {hp sp : List Nat} {hn sn : List Tilt.Bytes} {as : List Addr} {d : Addr}
theorem sw_pl (X : Txt K mg c) (S : Srt H d (SwAt c) (·.name) as T.switches) : PlAt K H (kvs (·.name) as T.switches) (T.switches.map (·.place)) := by
  refine ⟨by rw [List.length_map, kvs_len S.len], fun i kv h => ?_⟩
  obtain ⟨a, x, h1, h2, rfl⟩ := kvs_get h
  obtain ⟨dx, tn, g1, g2⟩ := S.el i a x h1 h2
  exact ⟨a, c.S, dx, _, x.place, rfl, g1, X.cS.cl, X.cS.no _ (by decide +kernel), rfl, by rw [List.getElem?_map, h2]; rfl⟩
theorem la_pl (X : Txt K mg c) (S : Srt H d (LaAt c) (·.name) as T.lamps) : PlAt K H (kvs (·.name) as T.lamps) (T.lamps.map (·.place)) := by
  refine ⟨by rw [List.length_map, kvs_len S.len], fun i kv h => ?_⟩
  obtain ⟨a, x, h1, h2, rfl⟩ := kvs_get h
  obtain ⟨dx, tn, g1, g2⟩ := S.el i a x h1 h2
  exact ⟨a, c.L, dx, _, x.place, rfl, g1, X.cL.cl, X.cL.no _ (by decide +kernel), rfl, by rw [List.getElem?_map, h2]; rfl⟩
theorem co_pl (X : Txt K mg c) (S : Srt H d (CoAt c) (·.name) as T.coils) : PlAt K H (kvs (·.name) as T.coils) (T.coils.map (·.place)) := by
  refine ⟨by rw [List.length_map, kvs_len S.len], fun i kv h => ?_⟩
  obtain ⟨a, x, h1, h2, rfl⟩ := kvs_get h
  obtain ⟨dx, tn, g1, g2⟩ := S.el i a x h1 h2
  exact ⟨a, c.C, dx, _, x.place, rfl, g1, X.cC.cl, X.cC.no _ (by decide +kernel), rfl, by rw [List.getElem?_map, h2]; rfl⟩
theorem TOk.swL (O : TOk T hp sp hn sn) : T.switches.length ≤ 64 := by
  have := rise_le (N := 64) O.swP fun x hx => by
    obtain ⟨s, hs, rfl⟩ := List.mem_map.mp hx
    exact (O.swM s hs).1
  rwa [List.length_map] at this
theorem TOk.laL (O : TOk T hp sp hn sn) : T.lamps.length ≤ 64 := by
  have := rise_le (N := 64) O.laP fun x hx => by
    obtain ⟨s, hs, rfl⟩ := List.mem_map.mp hx
    exact (O.laM s hs).1
  rwa [List.length_map] at this
theorem TOk.coL (O : TOk T hp sp hn sn) : T.coils.length ≤ 64 := by
  have := rise_le (N := 64) O.coP fun x hx => by
    obtain ⟨s, hs, rfl⟩ := List.mem_map.mp hx
    exact O.coM s hs
  rwa [List.length_map] at this
end
def mSwitch (e : Nat) (T : Tilt.Table) (l : List Tilt.Word) : Except Tilt.Fault (Tilt.Table × List Tilt.Word) :=
  newBut e (T.switches.map (·.name)) "drain" l >>= fun n =>
  (Tilt.must e "at" n.2 >>= fun m => Tilt.place e 63 (T.switches.map (·.place)) m) >>= fun p =>
  (Tilt.must e "close" p.2 >>= fun m => Tilt.number e 1 31 m) >>= fun cl =>
  (Tilt.must e "open" cl.2 >>= fun m => Tilt.number e 1 31 m) >>= fun o =>
  if o.2 = [] then pure ({ T with switches := T.switches ++ [⟨p.1, cl.1.1, o.1.1, false, n.1.w⟩] }, []) else
  Tilt.must e "turned" o.2 >>= fun r => pure ({ T with switches := T.switches ++ [⟨p.1, cl.1.1, o.1.1, true, n.1.w⟩] }, r)
section
variable {P : Program} {w : World} {K : PySem.W.Frag} {mg : Str → Option Value} {base : Heap} {c : Cn}
def serve (T : Tilt.Table) : List Nat := T.devices.map (·.coil) ++ T.kicks.map (·.coil)
def spRead (c : Cn) (pre : Tilt.Table → Prop) (f : Nat → Nat → Tilt.Table → List Tilt.Word → Except Tilt.Fault (Tilt.Table × List Tilt.Word)) : Sp := fun vs H Q E => ∃ (θ : Ad) (l : Addr) (e p : Nat) (rest : List Tilt.Word) (T : Tilt.Table), vs = [.ref θ.b, .ref l] ∧ pre T ∧ θ.M = [θ.dk] ∧ St c H θ T T.held (serve T) ∧ LnAt c.Li H l e p rest ∧ (∃ wl0, Wl H l wl0 ∧ wl0 ≠ θ.dk) ∧ Out c.F E (f e p T rest) fun x => ∀ (H' : Hp), Fr [θ.dk] H H' → St c H' θ x.1 x.1.held (serve x.1) → LnA c.Li H' l e x.2 → Q .non H'
theorem sc_read_switch : FnScope ["board", "line", "name", "place", "to_close", "to_open", "turned"] ["board", "line"] (defScope s_read_switch) := ⟨rfl, rfl, rfl, by decide +kernel, rfl, by decide +kernel, by decide +kernel⟩
theorem mem_snoc {α : Type} {l : List α} {x y : α} (h : y ∈ l ++ [x]) : y ∈ l ∨ y = x := (List.mem_append.mp h).imp id List.mem_singleton.mp
theorem map_snoc {α β : Type} (f : α → β) (l : List α) (x : α) : (l ++ [x]).map f = l.map f ++ [f x] := by rw [List.map_append]; rfl
theorem ok_read_switch (T : Txt K mg c) : Has P w K mg base (CXF P w) 7 "read_switch" ["board", "line"] (spRead c (fun _ => True) (fun e _ T l => mSwitch e T l)) := by
  refine mkX T.d_read_switch sc_read_switch (fun _ _ _ _ _ _ us hl => match us, hl with | [_, _], _ => rfl) (fun vs H Q E h => ?_) (fun f cdv A outer s H vs Q E hr h => ?_)
  · obtain ⟨θ, l, e, p, rest, Tb, rfl, _⟩ := h
    rfl
  · obtain ⟨θ, l, e, p, rest, Tb, rfl, _, hM, ⟨hn, sn, B, O⟩, L, hwl, k⟩ := h
    refine ⟨_, pss_cons (ps_set (i := 2) sc_read_switch.nd rfl (Or.inl rfl) (pe_fn (ok_take_new_name_but T) hr passX (pa_cons (pv 1) (pa_cons (pe_fld (pv 0) rfl) (pa_cons pe_str pa_nil)))))
      (pss_cons (ps_set (i := 3) sc_read_switch.nd rfl (Or.inl rfl) (pe_fn (ok_take_place T) (hr.mono (by decide)) passX (pa_cons (pv 1) (pa_cons (pe_gi T.g_MOST_SWITCH_PLACE) (pa_cons (pe_fld (pv 0) rfl) pa_nil)))))
      (pss_cons (ps_set (i := 4) sc_read_switch.nd rfl (Or.inl rfl) (pe_fn (ok_take_named_number T) (hr.mono (by decide)) passX (pa_cons (pv 1) (pa_cons pe_str (pa_cons (pe_gi T.g_MOST_TO_CLOSE) pa_nil)))))
      (pss_cons (ps_set (i := 5) sc_read_switch.nd rfl (Or.inl rfl) (pe_fn (ok_take_named_number T) (hr.mono (by decide)) passX (pa_cons (pv 1) (pa_cons pe_str (pa_cons (pe_gi T.g_MOST_TO_OPEN) pa_nil)))))
      (pss_cons (ps_set (i := 6) sc_read_switch.nd rfl (Or.inl rfl) (pe_mt (ok_take_ending T) (pv 1) (hr.mono (by decide)) passX (pa_cons pe_str pa_nil)))
      (pss_one (ps_dput (hu_of hr) (pe_fld (pv 0) rfl) (pv 2) (pe_mk (ok_Switch T) (hr.mono (by decide)) pass0 (pa_cons (pv 2) (pa_cons (pv 3) (pa_cons (pv 4) (pa_cons (pv 5) (pa_cons (pv 6) pa_nil)))))) rfl)))))), ?_⟩
    obtain ⟨db, tn, hb, _⟩ := B.bd
    obtain ⟨as, SC⟩ := B.sw
    unfold mSwitch at k
    refine ⟨_, rfl, _, rfl, rdF T.cB hb (by decide +kernel) rfl ⟨l, θ.ds, e, p, rest, _, _, _, "drain", rfl, kw_drain, L, SC.dks, Out.casesE k fun n en kn H1 ta b1 L1 hta => ?_⟩⟩
    obtain ⟨p1, L1⟩ := L1
    have B1 := B.line b1 L
    obtain ⟨db1, tn1, hb1, _⟩ := B1.bd
    obtain ⟨as1, SC1⟩ := B1.sw
    obtain ⟨dxl, wll, asl, wsl, tl, hl1, _⟩ := id L1
    refine ⟨_, rfl, _, rfl, rdF T.cB hb1 (by decide +kernel) rfl ⟨l, θ.ds, e, p1, 63, n.2, _, _, rfl, L1, SC1.at_, sw_pl T SC1, by rw [kvs_len SC1.len]; have := O.swL; omega, fun i kv hkv z => ?_, Out.casesE kn fun pp ep kp H2 b2 L2 => ?_⟩⟩
    · obtain ⟨a, x, h1, h2, rfl⟩ := kvs_get hkv
      obtain ⟨dx, tn', g1, g2⟩ := SC1.el i a x h1 h2
      exact ne_line g1 hl1 (V.ref.inj z)
    obtain ⟨p2, L2⟩ := L2
    refine ⟨_, rfl, l, e, p2, 31, pp.2, _, "close", rfl, kw_close, L2, Out.casesE kp fun cl ec kc H3 b3 L3 => ?_⟩
    refine ⟨_, rfl, l, e, _, 31, cl.2, _, "open", rfl, kw_open, L3, Out.casesE kc fun o eo ko H4 b4 L4 => ?_⟩
    have b14 := (b2.trans b3).trans b4
    have B4 := B1.line b14 L1
    have hta4 : H4 ta = some (.tup (bV n.1.w)) := L1.tup b14 hta
    have f4 : Fr [θ.dk] H H4 := (Fr.line b1 L).trans (Fr.line b14 L1)
    obtain ⟨dx4, wl4, as4, ws4, t4, hl4, _⟩ := id L4
    have pok : pp.1 ≤ 63 ∧ ∀ q ∈ Tb.switches.map (·.place), q < pp.1 := by
      cases hm : Tilt.must e "at" n.2 with
      | error z => rw [hm] at ep; cases ep
      | ok m => rw [hm] at ep; exact place_ok ep
    have nok := newBut_ok en
    have OK : ∀ sw : Tilt.Switch, sw.name = n.1.w → sw.place = pp.1 → TOk { Tb with switches := Tb.switches ++ [sw] } Tb.held (serve Tb) hn sn := by
      intro sw e1 e2
      obtain ⟨hs, g1, g2, g3⟩ := O.he
      refine { O with swZ := fun s q => (mem_snoc q).elim (O.swZ s) (fun z => by rw [z, e1]; exact newBut_len en), swN := ?_, swP := ?_, swM := ?_, he := ⟨hs, g1, g2, fun s q => List.mem_append.mpr (.inl (g3 s q))⟩ }
      · show ((Tb.switches ++ [sw]).map (·.name)).Nodup
        rw [map_snoc, e1]
        exact nodup_snoc O.swN nok.1
      · show ((Tb.switches ++ [sw]).map (·.place)).Pairwise (· < ·)
        rw [map_snoc, e2]
        exact rise_snoc O.swP pok.2
      · intro s q
        rcases mem_snoc q with q | q
        · exact O.swM s q
        · rw [q, e1, e2]
          exact ⟨by have := pok.1; omega, nok.2⟩
    refine ⟨_, rfl, l, dx4, _, rfl, hl4, rfl, l, e, _, o.2, _, "turned", rfl, kw_turned, L4, fun hz => ?a, fun hz => ?b⟩
    case' a =>
      rw [if_pos hz] at ko
      obtain ⟨sw, hsw⟩ : ∃ sw : Tilt.Switch, sw = ⟨pp.1, cl.1.1, o.1.1, false, n.1.w⟩ := ⟨_, rfl⟩
      have hz5 : ∀ ta : Addr, fsS.zip [V.ref ta, V.int (pp.1 : Int), V.int (cl.1.1 : Int), V.int (o.1.1 : Int), V.bl false] = swF ta sw := fun ta => by rw [hsw]; rfl
      have hnm : sw.name = n.1.w := by rw [hsw]
      have hpm : sw.place = pp.1 := by rw [hsw]
      have B5 := B4
      have hta5 := hta4
      have f5 := f4
      have L5 : LnA c.Li H4 l e [] := ⟨_, by rw [hz] at L4; exact L4⟩
      rw [← hsw] at ko
    case' b =>
      rw [if_neg hz] at ko
      refine Out.casesE ko fun r er kr H5 b5 L5 => ?_
      obtain ⟨sw, hsw⟩ : ∃ sw : Tilt.Switch, sw = ⟨pp.1, cl.1.1, o.1.1, true, n.1.w⟩ := ⟨_, rfl⟩
      have hz5 : ∀ ta : Addr, fsS.zip [V.ref ta, V.int (pp.1 : Int), V.int (cl.1.1 : Int), V.int (o.1.1 : Int), V.bl true] = swF ta sw := fun ta => by rw [hsw]; rfl
      have hnm : sw.name = n.1.w := by rw [hsw]
      have hpm : sw.place = pp.1 := by rw [hsw]
      have B5 := B4.line b5 L4
      have hta5 := L4.tup b5 hta4
      have f5 := f4.trans (Fr.line b5 L4)
      have ko := kr
      rw [← hsw] at ko
    case a | b =>
      refine ⟨_, rfl, _, rfl, _, rfl, _, rfl, _, rfl, fun x dx nx ndx nex => ⟨x, dx, _, rfl, rfl, upd_same, fun H6 b6 h6 => ⟨rfl, ?_⟩⟩⟩
      have s6 := Same.made nx ndx b6.keep
      have B6 := B5.same s6
      have hta6 := s6 _ _ hta5
      have h6' := h6.trans (congrArg (fun q => some (HO.ins c.S dx q)) (hz5 ta))
      obtain ⟨db6, tn6, hb6, _⟩ := B6.bd
      obtain ⟨as6, SC6⟩ := B6.sw
      have hcn : (Tb.switches.map (·.name)).contains sw.name = false := by rw [hnm]; exact nok.1
      have htk : H6 ta = some (.tup (bV sw.name)) := by rw [hnm]; exact hta6
      refine ⟨_, rfl, rdF T.cB hb6 (by decide +kernel) rfl ⟨_, rfl, θ.ds, _, rfl, DPut.t (k := bK sw.name) SC6.at_ (by rw [bK_kV]; exact htk) ?_, ?_⟩⟩
      · rw [kvs_len SC6.len, sizeLine_eq]
        have := O.swL
        omega
      · obtain ⟨p5, L5⟩ := L5
        exact ko _ ((f5.trans (Fr.of s6)).trans (Fr.dict SC6.at_)) ⟨hn, sn, B6.addSw SC6 hcn ⟨dx, ta, h6', htk⟩, OK sw hnm hpm⟩ ⟨_, (L5.same s6).dict SC6.at_⟩
theorem sc_read_lamp : FnScope ["board", "line", "name", "place"] ["board", "line"] (defScope s_read_lamp) := ⟨rfl, rfl, rfl, by decide +kernel, rfl, by decide +kernel, by decide +kernel⟩
def mLamp (e : Nat) (T : Tilt.Table) (l : List Tilt.Word) : Except Tilt.Fault (Tilt.Table × List Tilt.Word) :=
  newBut e (T.lamps.map (·.name)) "loop" l >>= fun n =>
  (Tilt.must e "at" n.2 >>= fun m => Tilt.place e 63 (T.lamps.map (·.place)) m) >>= fun p =>
  pure ({ T with lamps := T.lamps ++ [⟨p.1, n.1.w⟩] }, p.2)
theorem ok_read_lamp (T : Txt K mg c) : Has P w K mg base (CXF P w) 7 "read_lamp" ["board", "line"] (spRead c (fun _ => True) (fun e _ T l => mLamp e T l)) := by
  refine mkX T.d_read_lamp sc_read_lamp (fun _ _ _ _ _ _ us hl => match us, hl with | [_, _], _ => rfl) (fun vs H Q E h => ?_) (fun f cdv A outer s H vs Q E hr h => ?_)
  · obtain ⟨θ, l, e, p, rest, Tb, rfl, _⟩ := h
    rfl
  · obtain ⟨θ, l, e, p, rest, Tb, rfl, _, hM, ⟨hn, sn, B, O⟩, L, hwl, k⟩ := h
    refine ⟨_, pss_cons (ps_set (i := 2) sc_read_lamp.nd rfl (Or.inl rfl) (pe_fn (ok_take_new_name_but T) hr passX (pa_cons (pv 1) (pa_cons (pe_fld (pv 0) rfl) (pa_cons pe_str pa_nil)))))
      (pss_cons (ps_set (i := 3) sc_read_lamp.nd rfl (Or.inl rfl) (pe_fn (ok_take_place T) (hr.mono (by decide)) passX (pa_cons (pv 1) (pa_cons (pe_gi T.g_MOST_LAMP_PLACE) (pa_cons (pe_fld (pv 0) rfl) pa_nil)))))
      (pss_one (ps_dput (hu_of hr) (pe_fld (pv 0) rfl) (pv 2) (pe_mk (ok_Lamp T) (hr.mono (by decide)) pass0 (pa_cons (pv 2) (pa_cons (pv 3) pa_nil))) rfl))), ?_⟩
    obtain ⟨db, tn, hb, _⟩ := B.bd
    obtain ⟨as, SC⟩ := B.la
    unfold mLamp at k
    refine ⟨_, rfl, _, rfl, rdF T.cB hb (by decide +kernel) rfl ⟨l, θ.dl, e, p, rest, _, _, _, "loop", rfl, kw_loop, L, SC.dks, Out.casesE k fun n en kn H1 ta b1 L1 hta => ?_⟩⟩
    obtain ⟨p1, L1⟩ := L1
    have B1 := B.line b1 L
    obtain ⟨db1, tn1, hb1, _⟩ := B1.bd
    obtain ⟨as1, SC1⟩ := B1.la
    obtain ⟨dxl, wll, asl, wsl, tl, hl1, _⟩ := id L1
    refine ⟨_, rfl, _, rfl, rdF T.cB hb1 (by decide +kernel) rfl ⟨l, θ.dl, e, p1, 63, n.2, _, _, rfl, L1, SC1.at_, la_pl T SC1, by rw [kvs_len SC1.len]; have := O.laL; omega, fun i kv hkv z => ?_, Out.casesE kn fun pp ep ko H2 b2 L2 => ?_⟩⟩
    · obtain ⟨a, x, h1, h2, rfl⟩ := kvs_get hkv
      obtain ⟨dx, tn', g1, g2⟩ := SC1.el i a x h1 h2
      exact ne_line g1 hl1 (V.ref.inj z)
    obtain ⟨p2, L2⟩ := L2
    have B2 := B1.line b2 L1
    have hta2 : H2 ta = some (.tup (bV n.1.w)) := L1.tup b2 hta
    have f2 : Fr [θ.dk] H H2 := (Fr.line b1 L).trans (Fr.line b2 L1)
    have pok : pp.1 ≤ 63 ∧ ∀ q ∈ Tb.lamps.map (·.place), q < pp.1 := by
      cases hm : Tilt.must e "at" n.2 with
      | error z => rw [hm] at ep; cases ep
      | ok m => rw [hm] at ep; exact place_ok ep
    have nok := newBut_ok en
    have OK : TOk { Tb with lamps := Tb.lamps ++ [⟨pp.1, n.1.w⟩] } Tb.held (serve Tb) hn sn := by
      refine { O with laZ := fun s q => (mem_snoc q).elim (O.laZ s) (fun z => by rw [z]; exact newBut_len en), laP := ?_, laM := ?_ }
      · show ((Tb.lamps ++ [(⟨pp.1, n.1.w⟩ : Tilt.Lamp)]).map (·.place)).Pairwise (· < ·)
        rw [map_snoc]
        exact rise_snoc O.laP pok.2
      · intro s q
        rcases mem_snoc q with q | q
        · exact O.laM s q
        · rw [q]
          exact ⟨by show pp.1 < 64; have := pok.1; omega, nok.2⟩
    refine ⟨_, rfl, _, rfl, fun x dx nx ndx nex => ⟨x, dx, _, rfl, rfl, upd_same, fun H6 b6 h6 => ⟨rfl, ?_⟩⟩⟩
    have s6 := Same.made nx ndx b6.keep
    have B6 := B2.same s6
    have hta6 := s6 _ _ hta2
    obtain ⟨db6, tn6, hb6, _⟩ := B6.bd
    obtain ⟨as6, SC6⟩ := B6.la
    refine ⟨_, rfl, rdF T.cB hb6 (by decide +kernel) rfl ⟨_, rfl, θ.dl, _, rfl, DPut.t (k := bK n.1.w) SC6.at_ (by rw [bK_kV]; exact hta6) ?_, ?_⟩⟩
    · rw [kvs_len SC6.len, sizeLine_eq]
      have := O.laL
      omega
    · exact ko _ ((f2.trans (Fr.of s6)).trans (Fr.dict SC6.at_)) ⟨hn, sn, B6.addLa (x := ⟨pp.1, n.1.w⟩) SC6 nok.1 ⟨dx, ta, h6, hta6⟩, OK⟩ ⟨_, (L2.same s6).dict SC6.at_⟩
theorem sc_read_coil : FnScope ["board", "line", "name", "place", "most", "rest", "hold"] ["board", "line"] (defScope s_read_coil) := ⟨rfl, rfl, rfl, by decide +kernel, rfl, by decide +kernel, by decide +kernel⟩
def mCoil (e : Nat) (T : Tilt.Table) (l : List Tilt.Word) : Except Tilt.Fault (Tilt.Table × List Tilt.Word) :=
  newW e (T.coils.map (·.name)) l >>= fun n =>
  (Tilt.must e "at" n.2 >>= fun m => Tilt.place e 31 (T.coils.map (·.place)) m) >>= fun p =>
  (Tilt.must e "most" p.2 >>= fun m => Tilt.number e 1 1023 m) >>= fun mo =>
  (Tilt.must e "rest" mo.2 >>= fun m => Tilt.number e 1 4095 m) >>= fun o =>
  if o.2 = [] then pure ({ T with coils := T.coils ++ [⟨p.1, mo.1.1, o.1.1, 0, n.1.w⟩] }, []) else
  Tilt.must e "hold" o.2 >>= fun m => Tilt.number e 1 15 m >>= fun h => pure ({ T with coils := T.coils ++ [⟨p.1, mo.1.1, o.1.1, h.1.1, n.1.w⟩] }, h.2)
theorem ok_read_coil (T : Txt K mg c) : Has P w K mg base (CXF P w) 7 "read_coil" ["board", "line"] (spRead c (fun _ => True) (fun e _ T l => mCoil e T l)) := by
  refine mkX T.d_read_coil sc_read_coil (fun _ _ _ _ _ _ us hl => match us, hl with | [_, _], _ => rfl) (fun vs H Q E h => ?_) (fun f cdv A outer s H vs Q E hr h => ?_)
  · obtain ⟨θ, l, e, p, rest, Tb, rfl, _⟩ := h
    rfl
  · obtain ⟨θ, l, e, p, rest, Tb, rfl, _, hM, ⟨hn, sn, B, O⟩, L, hwl, k⟩ := h
    refine ⟨_, pss_cons (ps_set (i := 2) sc_read_coil.nd rfl (Or.inl rfl) (pe_fn (ok_take_new_name T) (hr.mono (by decide)) passX (pa_cons (pv 1) (pa_cons (pe_fld (pv 0) rfl) pa_nil))))
      (pss_cons (ps_set (i := 3) sc_read_coil.nd rfl (Or.inl rfl) (pe_fn (ok_take_place T) (hr.mono (by decide)) passX (pa_cons (pv 1) (pa_cons (pe_gi T.g_MOST_COIL_PLACE) (pa_cons (pe_fld (pv 0) rfl) pa_nil)))))
      (pss_cons (ps_set (i := 4) sc_read_coil.nd rfl (Or.inl rfl) (pe_fn (ok_take_named_number T) (hr.mono (by decide)) passX (pa_cons (pv 1) (pa_cons pe_str (pa_cons (pe_gi T.g_MOST_COIL_MOST) pa_nil)))))
      (pss_cons (ps_set (i := 5) sc_read_coil.nd rfl (Or.inl rfl) (pe_fn (ok_take_named_number T) (hr.mono (by decide)) passX (pa_cons (pv 1) (pa_cons pe_str (pa_cons (pe_gi T.g_MOST_COIL_REST) pa_nil)))))
      (pss_cons (ps_set (i := 6) sc_read_coil.nd rfl (Or.inl rfl) pe_int)
      (pss_cons (ps_if (pt_val (pe_mt (ok_take_ending T) (pv 1) (hr.mono (by decide)) passX (pa_cons pe_str pa_nil))) (pss_one (ps_set (i := 6) sc_read_coil.nd rfl (Or.inl rfl) (pe_mt (ok_take_number T) (pv 1) (hr.mono (by decide)) passX (pa_cons pe_int (pa_cons (pe_gi T.g_MOST_COIL_HOLD) pa_nil))))) pss_nil)
      (pss_one (ps_dput (hu_of hr) (pe_fld (pv 0) rfl) (pv 2) (pe_mk (ok_Coil T) (hr.mono (by decide)) pass0 (pa_cons (pv 2) (pa_cons (pv 3) (pa_cons (pv 4) (pa_cons (pv 5) (pa_cons (pv 6) pa_nil)))))) rfl))))))), ?_⟩
    obtain ⟨db, tn, hb, _⟩ := B.bd
    obtain ⟨as, SC⟩ := B.co
    unfold mCoil at k
    refine ⟨_, rfl, _, rfl, rdF T.cB hb (by decide +kernel) rfl ⟨l, θ.dc, e, p, rest, _, _, rfl, L, SC.dks, Out.casesE k fun n en kn H1 ta b1 L1 hta => ?_⟩⟩
    have B1 := B.line b1 L
    obtain ⟨db1, tn1, hb1, _⟩ := B1.bd
    obtain ⟨as1, SC1⟩ := B1.co
    obtain ⟨dxl, wll, asl, wsl, tl, hl1, _⟩ := id L1
    refine ⟨_, rfl, _, rfl, rdF T.cB hb1 (by decide +kernel) rfl ⟨l, θ.dc, e, _, 31, n.2, _, _, rfl, L1, SC1.at_, co_pl T SC1, by rw [kvs_len SC1.len]; have := O.coL; omega, fun i kv hkv z => ?_, Out.casesE kn fun pp ep kp H2 b2 L2 => ?_⟩⟩
    · obtain ⟨a, x, h1, h2, rfl⟩ := kvs_get hkv
      obtain ⟨dx, tn', g1, g2⟩ := SC1.el i a x h1 h2
      exact ne_line g1 hl1 (V.ref.inj z)
    obtain ⟨p2, L2⟩ := L2
    refine ⟨_, rfl, l, e, p2, 1023, pp.2, _, "most", rfl, kw_most, L2, Out.casesE kp fun cl ec kc H3 b3 L3 => ?_⟩
    refine ⟨_, rfl, l, e, _, 4095, cl.2, _, "rest", rfl, kw_rest, L3, Out.casesE kc fun o eo ko H4 b4 L4 => ?_⟩
    have b14 := (b2.trans b3).trans b4
    have B4 := B1.line b14 L1
    have hta4 : H4 ta = some (.tup (bV n.1.w)) := L1.tup b14 hta
    have f4 : Fr [θ.dk] H H4 := (Fr.line b1 L).trans (Fr.line b14 L1)
    obtain ⟨dx4, wl4, as4, ws4, t4, hl4, _⟩ := id L4
    have pok : pp.1 ≤ 31 ∧ ∀ q ∈ Tb.coils.map (·.place), q < pp.1 := by
      cases hm : Tilt.must e "at" n.2 with
      | error z => rw [hm] at ep; cases ep
      | ok m => rw [hm] at ep; exact place_ok ep
    have nok := newW_ok en
    have OK : ∀ sw : Tilt.Coil, sw.name = n.1.w → sw.place = pp.1 → TOk { Tb with coils := Tb.coils ++ [sw] } Tb.held (serve Tb) hn sn := by
      intro sw e1 e2
      obtain ⟨hs, g1, g2, g3⟩ := O.se
      refine { O with coZ := fun s q => (mem_snoc q).elim (O.coZ s) (fun z => by rw [z, e1]; exact isName_len nok.2), coN := ?_, coP := ?_, coM := ?_, se := ⟨hs, g1, g2, fun s q => List.mem_append.mpr (.inl (g3 s q))⟩ }
      · show ((Tb.coils ++ [sw]).map (·.name)).Nodup
        rw [map_snoc, e1]
        exact nodup_snoc O.coN nok.1
      · show ((Tb.coils ++ [sw]).map (·.place)).Pairwise (· < ·)
        rw [map_snoc, e2]
        exact rise_snoc O.coP pok.2
      · intro s q
        rcases mem_snoc q with q | q
        · exact O.coM s q
        · rw [q, e2]
          have := pok.1
          omega
    refine ⟨_, rfl, l, dx4, _, rfl, hl4, rfl, l, e, _, o.2, _, "hold", rfl, kw_hold, L4, fun hz => ⟨_, rfl, iteF ?a⟩, fun hz => ?b⟩
    case' a =>
      rw [if_pos hz] at ko
      obtain ⟨sw, hsw⟩ : ∃ sw : Tilt.Coil, sw = ⟨pp.1, cl.1.1, o.1.1, 0, n.1.w⟩ := ⟨_, rfl⟩
      have hz5 : ∀ ta : Addr, fsC.zip [V.ref ta, V.int (pp.1 : Int), V.int (cl.1.1 : Int), V.int (o.1.1 : Int), V.int 0] = coF ta sw := fun ta => by rw [hsw]; rfl
      have hnm : sw.name = n.1.w := by rw [hsw]
      have hpm : sw.place = pp.1 := by rw [hsw]
      have B5 := B4
      have hta5 := hta4
      have f5 := f4
      have L5 : LnA c.Li H4 l e [] := ⟨_, by rw [hz] at L4; exact L4⟩
      rw [← hsw] at ko
    case' b =>
      rw [if_neg hz] at ko
      refine Out.casesE ko fun r er kr H5 b5 L5 => ⟨_, rfl, iteT ?_⟩
      obtain ⟨p5, L5⟩ := L5
      obtain ⟨dx5, wl5, as5, ws5, t5, hl5, _⟩ := id L5
      refine ⟨_, rfl, l, dx5, _, rfl, hl5, rfl, l, e, p5, 1, 15, r, rfl, L5, Out.casesE kr fun h eh kh H6 b6 L6 => ?_⟩
      obtain ⟨sw, hsw⟩ : ∃ sw : Tilt.Coil, sw = ⟨pp.1, cl.1.1, o.1.1, h.1.1, n.1.w⟩ := ⟨_, rfl⟩
      have hz5 : ∀ ta : Addr, fsC.zip [V.ref ta, V.int (pp.1 : Int), V.int (cl.1.1 : Int), V.int (o.1.1 : Int), V.int (h.1.1 : Int)] = coF ta sw := fun ta => by rw [hsw]; rfl
      have hnm : sw.name = n.1.w := by rw [hsw]
      have hpm : sw.place = pp.1 := by rw [hsw]
      have B5 := (B4.line b5 L4).line b6 L5
      have hta5 := L5.tup b6 (L4.tup b5 hta4)
      have f5 := (f4.trans (Fr.line b5 L4)).trans (Fr.line b6 L5)
      have ko := kh
      have L5 : LnA c.Li H6 l e h.2 := ⟨_, L6⟩
      rw [← hsw] at ko
    case a | b =>
      refine ⟨_, rfl, _, rfl, _, rfl, _, rfl, _, rfl, fun x dx nx ndx nex => ⟨x, dx, _, rfl, rfl, upd_same, fun H6 b6 h6 => ⟨rfl, ?_⟩⟩⟩
      have s6 := Same.made nx ndx b6.keep
      have B6 := B5.same s6
      have hta6 := s6 _ _ hta5
      have h6' := h6.trans (congrArg (fun q => some (HO.ins c.C dx q)) (hz5 ta))
      obtain ⟨db6, tn6, hb6, _⟩ := B6.bd
      obtain ⟨as6, SC6⟩ := B6.co
      have hcn : (Tb.coils.map (·.name)).contains sw.name = false := by rw [hnm]; exact nok.1
      have htk : H6 ta = some (.tup (bV sw.name)) := by rw [hnm]; exact hta6
      refine ⟨_, rfl, rdF T.cB hb6 (by decide +kernel) rfl ⟨_, rfl, θ.dc, _, rfl, DPut.t (k := bK sw.name) SC6.at_ (by rw [bK_kV]; exact htk) ?_, ?_⟩⟩
      · rw [kvs_len SC6.len, sizeLine_eq]
        have := O.coL
        omega
      · obtain ⟨p5, L5⟩ := L5
        exact ko _ ((f5.trans (Fr.of s6)).trans (Fr.dict SC6.at_)) ⟨hn, sn, B6.addCo SC6 hcn ⟨dx, ta, h6', htk⟩, OK sw hnm hpm⟩ ⟨_, (L5.same s6).dict SC6.at_⟩
end
end Fb
set_option Elab.async false
set_option maxRecDepth 100000
set_option maxHeartbeats 400000
set_option linter.all false
namespace Fb
open PySem PySem.Spec PyProof.Rows L2 Fx Fm
theorem kw_by : Kw "by" "by" := ⟨by decide +kernel, by decide +kernel⟩
theorem kw_holds : Kw "holds" "holds" := ⟨by decide +kernel, by decide +kernel⟩
def mDevice (e p : Nat) (T : Tilt.Table) (l : List Tilt.Word) : Except Tilt.Fault (Tilt.Table × List Tilt.Word) :=
  if T.devices.length = 8 then .error ⟨3, p⟩ else
  newW e (T.devices.map (·.name)) l >>= fun n =>
  Tilt.must e "by" n.2 >>= fun m =>
  servCoil e T (serve T) m >>= fun co =>
  Tilt.must e "holds" co.2 >>= fun m2 =>
  mHeld1 e T T.held m2 >>= fun h =>
  if h.2 = [] then pure ({ T with devices := T.devices ++ [⟨co.1.place, h.1, false, n.1.w⟩] }, []) else
  Tilt.must e "drain" h.2 >>= fun r => pure ({ T with devices := T.devices ++ [⟨co.1.place, h.1, true, n.1.w⟩] }, r)
def mKick (e p : Nat) (T : Tilt.Table) (l : List Tilt.Word) : Except Tilt.Fault (Tilt.Table × List Tilt.Word) :=
  if T.kicks.length = 8 then .error ⟨3, p⟩ else
  kickSw e T T.held l >>= fun s =>
  servCoil e T (serve T) s.2 >>= fun co =>
  mTicks e co.1 co.2 >>= fun t =>
  mTill e T s.1 t.2 >>= fun u =>
  pure ({ T with kicks := T.kicks ++ [⟨s.1, co.1.place, t.1, u.1⟩] }, u.2)
section
variable {P : Program} {w : World} {K : PySem.W.Frag} {mg : Str → Option Value} {base : Heap} {c : Cn}
theorem serve_len {T : Tilt.Table} {hp sp : List Nat} {hn sn : List Tilt.Bytes} (O : TOk T hp sp hn sn) : (serve T).length ≤ 16 := by
  unfold serve
  rw [List.length_append, List.length_map, List.length_map]
  have := O.de
  have := O.ki
  omega
theorem sc_read_device : FnScope ["board", "line", "name", "coil", "switches", "drain"] ["board", "line"] (defScope s_read_device) := ⟨rfl, rfl, rfl, by decide +kernel, rfl, by decide +kernel, by decide +kernel⟩
theorem ok_read_device (T : Txt K mg c) : Has P w K mg base (CXF P w) 8 "read_device" ["board", "line"] (spRead c (fun T => T.kicks = []) mDevice) := by
  refine mkX T.d_read_device sc_read_device (fun _ _ _ _ _ _ us hl => match us, hl with | [_, _], _ => rfl) (fun vs H Q E h => ?_) (fun f cdv A outer s H vs Q E hr h => ?_)
  · obtain ⟨θ, l, e, p, rest, Tb, rfl, _⟩ := h
    rfl
  · obtain ⟨θ, l, e, p, rest, Tb, rfl, hk0, hM, S, L, hwl, k⟩ := h
    refine ⟨_, pss_cons (ps_if (pt_cmpR op_eq (pe_callB call_lenT rfl T.b_len PySem.boot_len (pa_cons (pe_fld (pv 0) rfl) pa_nil)) (pe_gi T.g_MOST_DEVICES) (nomark _)) (pss_one (ps_fault T (hr.mono (by decide)) xe_def (pa_cons (pe_gi T.g_WRONG_WORD) (pa_cons (pe_fld (pv 1) rfl) pa_nil)))) pss_nil)
      (pss_cons (ps_set (i := 2) sc_read_device.nd rfl (Or.inl rfl) (pe_fn (ok_take_new_name T) (hr.mono (by decide)) passX (pa_cons (pv 1) (pa_cons (pe_fld (pv 0) rfl) pa_nil))))
      (pss_cons (ps_expr (pe_mt (ok_take_keyword T) (pv 1) (hr.mono (by decide)) passX (pa_cons pe_str pa_nil)))
      (pss_cons (ps_set (i := 3) sc_read_device.nd rfl (Or.inl rfl) (pe_fn (ok_take_serving_coil T) (hr.mono (by decide)) passX (pa_cons (pv 0) (pa_cons (pv 1) pa_nil))))
      (pss_cons (ps_expr (pe_mt (ok_take_keyword T) (pv 1) (hr.mono (by decide)) passX (pa_cons pe_str pa_nil)))
      (pss_cons (ps_set (i := 4) sc_read_device.nd rfl (Or.inl rfl) (pe_fn (ok_take_held_switches T) hr passX (pa_cons (pv 0) (pa_cons (pv 1) pa_nil))))
      (pss_cons (ps_set (i := 5) sc_read_device.nd rfl (Or.inl rfl) (pe_mt (ok_take_ending T) (pv 1) (hr.mono (by decide)) passX (pa_cons pe_str pa_nil)))
      (pss_one (ps_dput (hu_of hr) (pe_fld (pv 0) rfl) (pv 2) (pe_mk (ok_Device T) (hr.mono (by decide)) pass0 (pa_cons (pv 2) (pa_cons (pv 3) (pa_cons (pv 4) (pa_cons (pv 5) pa_nil))))) rfl)))))))), ?_⟩
    obtain ⟨hn, sn, B, O⟩ := id S
    obtain ⟨db, tn, hb, _⟩ := B.bd
    obtain ⟨as, SC⟩ := B.de
    obtain ⟨dx0, wl0, as0, ws0, t0, hl0, _⟩ := id L
    have hde := O.de
    unfold mDevice at k
    refine ⟨_, rfl, rdF T.cB hb (by decide +kernel) rfl ⟨θ.dd, _, rfl, SC.at_, rfl, _, rfl, ?_⟩⟩
    rw [kvs_len SC.len]
    by_cases h8 : Tb.devices.length = 8
    · rw [if_pos h8] at k
      rw [show decide (V.int (Tb.devices.length : Int) = V.int 8) = true from decide_eq_true (by rw [h8]; rfl)]
      exact iteT ⟨_, rfl, rdF T.cLi hl0 (by decide +kernel) rfl (flt_rd T k)⟩
    rw [if_neg h8] at k
    rw [show decide (V.int (Tb.devices.length : Int) = V.int 8) = false from decide_eq_false (fun z => h8 (by have := V.int.inj z; omega))]
    refine iteF ⟨_, rfl, _, rfl, rdF T.cB hb (by decide +kernel) rfl ⟨l, θ.dd, e, p, rest, _, _, rfl, L, SC.dks, Out.casesE k fun n en kn H1 ta b1 L1 hta => ?_⟩⟩
    have S1 := S.line b1 L
    have nok := newW_ok en
    obtain ⟨dx1, wl1, as1, ws1, t1, hl1, _⟩ := id L1
    refine ⟨_, rfl, l, dx1, _, rfl, hl1, rfl, l, e, _, n.2, _, "by", rfl, kw_by, L1, Out.casesE kn fun m em km H2 b2 L2 => ?_⟩
    obtain ⟨p2, L2⟩ := L2
    have S2 := S1.line b2 L1
    have hta2 := L1.tup b2 hta
    refine ⟨_, rfl, _, rfl, θ, l, e, p2, m, Tb, Tb.held, serve Tb, rfl, S2, L2, by have := serve_len O; omega, Out.casesE km fun co ec kc H3 ca f3 S3 hca mca L3 => ?_⟩
    obtain ⟨p3, L3⟩ := L3
    have hta3 := f3 _ _ hta2 True.intro
    obtain ⟨dx3, wl3, as3, ws3, t3, hl3, _⟩ := id L3
    refine ⟨_, rfl, l, dx3, _, rfl, hl3, rfl, l, e, p3, co.2, _, "holds", rfl, kw_holds, L3, Out.casesE kc fun m2 em2 km2 H4 b4 L4 => ?_⟩
    obtain ⟨p4, L4⟩ := L4
    have S4 := S3.line b4 L3
    have hta4 := L3.tup b4 hta3
    have hca4 : CoAt c H4 ca co.1 := hca.fr (Fr.line (dk := []) b4 L3)
    have f4 : Fr [θ.dk] H H4 := (((Fr.line b1 L).trans (Fr.line b2 L1)).trans f3).trans (Fr.line b4 L3)
    refine ⟨_, rfl, _, rfl, θ, l, e, p4, m2, Tb, Tb.held, _, rfl, S4, L4, by have := O.hl; omega, Out.casesE km2 fun h eh kh H5 sl sas f5 S5 A5 h58 L5 => ?_⟩
    obtain ⟨p5, L5⟩ := L5
    have hta5 := f5 _ _ hta4 True.intro
    have hca5 := hca4.fr f5
    have f45 := f4.trans f5
    obtain ⟨dx5, wl5, as5, ws5, t5, hl5, _⟩ := id L5
    have OK : ∀ (dv : Tilt.Device) (hn' sn' : List Tilt.Bytes), dv.coil = co.1.place → dv.at_ = h.1 → dv.name = n.1.w → TOk Tb (Tb.held ++ h.1) (serve Tb ++ [co.1.place]) hn' sn' → TOk { Tb with devices := Tb.devices ++ [dv] } (Tilt.Table.held { Tb with devices := Tb.devices ++ [dv] }) (serve { Tb with devices := Tb.devices ++ [dv] }) hn' sn' := by
      intro dv hn' sn' e1 e2 e3 O'
      have g1 : Tilt.Table.held { Tb with devices := Tb.devices ++ [dv] } = Tb.held ++ h.1 := by
        unfold Tilt.Table.held
        rw [List.flatMap_append, ← e2]
        simp
      have g2 : serve { Tb with devices := Tb.devices ++ [dv] } = serve Tb ++ [co.1.place] := by
        unfold serve
        rw [map_snoc, hk0, e1]
        simp
      have hl' := O'.hl
      rw [g1, g2]
      refine { O' with deZ := fun s q => (mem_snoc q).elim (O'.deZ s) (fun z => by rw [z, e2, e3]; exact ⟨isName_len nok.2, h58⟩), de := ?_, hl := ?_ }
      · show (Tb.devices ++ [dv]).length ≤ 8
        rw [List.length_append, List.length_singleton]
        omega
      · show (Tilt.Table.held { Tb with devices := Tb.devices ++ [dv] }).length ≤ 8 * (Tb.devices ++ [dv]).length
        rw [g1, List.length_append, List.length_append, List.length_singleton]
        omega
    refine ⟨_, rfl, l, dx5, _, rfl, hl5, rfl, l, e, p5, h.2, _, "drain", rfl, kw_drain, L5, fun hz => ?a, fun hz => ?b⟩
    case' a =>
      rw [if_pos hz] at kh
      obtain ⟨dv, hdv⟩ : ∃ dv : Tilt.Device, dv = ⟨co.1.place, h.1, false, n.1.w⟩ := ⟨_, rfl⟩
      have hz5 : ∀ ta ca sl : Addr, fsD.zip [V.ref ta, V.ref ca, V.ref sl, V.bl false] = ([("name", .ref ta), ("coil", .ref ca), ("switches", .ref sl), ("drain", .bl dv.drain)] : List (Str × V)) := fun ta ca sl => by rw [hdv]; rfl
      have hnm : dv.name = n.1.w := by rw [hdv]
      have hcm : dv.coil = co.1.place := by rw [hdv]
      have ham : dv.at_ = h.1 := by rw [hdv]
      have S6 := S5
      have hta6 := hta5
      have hca6 := hca5
      have A6 := A5
      have f6 := f45
      have L6 : LnA c.Li H5 l e [] := ⟨_, by rw [hz] at L5; exact L5⟩
      rw [← hdv] at kh
    case' b =>
      rw [if_neg hz] at kh
      refine Out.casesE kh fun r er kr H6 b6 L6 => ?_
      obtain ⟨dv, hdv⟩ : ∃ dv : Tilt.Device, dv = ⟨co.1.place, h.1, true, n.1.w⟩ := ⟨_, rfl⟩
      have hz5 : ∀ ta ca sl : Addr, fsD.zip [V.ref ta, V.ref ca, V.ref sl, V.bl true] = ([("name", .ref ta), ("coil", .ref ca), ("switches", .ref sl), ("drain", .bl dv.drain)] : List (Str × V)) := fun ta ca sl => by rw [hdv]; rfl
      have hnm : dv.name = n.1.w := by rw [hdv]
      have hcm : dv.coil = co.1.place := by rw [hdv]
      have ham : dv.at_ = h.1 := by rw [hdv]
      have S6 := S5.line b6 L5
      have hta6 := L5.tup b6 hta5
      have hca6 := hca5.fr (Fr.line (dk := []) b6 L5)
      have A6 := A5.fr (Fr.line b6 L5)
      have f6 := f45.trans (Fr.line b6 L5)
      have kh := kr
      rw [← hdv] at kh
    case a | b =>
      refine ⟨_, rfl, _, rfl, _, rfl, _, rfl, fun x dx nx ndx nex => ⟨x, dx, _, rfl, rfl, upd_same, fun H7 b7 h7 => ⟨rfl, ?_⟩⟩⟩
      have s7 := Same.made nx ndx b7.keep
      obtain ⟨hn7, sn7, B7, O7⟩ := S6.same s7
      have hta7 := s7 _ _ hta6
      have hca7 := hca6.fr (Fr.of (dk := []) s7)
      have A7 := A6.fr (Fr.of s7)
      have h7' := h7.trans (congrArg (fun q => some (HO.ins c.D dx q)) (hz5 ta ca sl))
      obtain ⟨db7, tn7, hb7, _⟩ := B7.bd
      obtain ⟨as7, SC7⟩ := B7.de
      have hcn : (Tb.devices.map (·.name)).contains dv.name = false := by rw [hnm]; exact nok.1
      have htk : H7 ta = some (.tup (bV dv.name)) := by rw [hnm]; exact hta7
      have hD : DeAt c θ.M H7 x dv := ⟨dx, ta, ca, sl, sas, co.1, h7', htk, hca7, hcm.symm, A7.lst, by rw [hM]; exact fun z => A7.ne (List.mem_singleton.mp z), by rw [ham]; exact A7.len, by rw [ham]; exact A7.el⟩
      refine ⟨_, rfl, rdF T.cB hb7 (by decide +kernel) rfl ⟨_, rfl, θ.dd, _, rfl, DPut.t (k := bK dv.name) SC7.at_ (by rw [bK_kV]; exact htk) ?_, ?_⟩⟩
      · rw [kvs_len SC7.len, sizeLine_eq]
        omega
      · obtain ⟨p6, L6⟩ := L6
        exact kh _ ((f6.trans (Fr.of s7)).trans (Fr.dict SC7.at_)) ⟨hn7, sn7, B7.addDe SC7 hcn hD, OK dv hn7 sn7 hcm ham hnm O7⟩ ⟨_, (L6.same s7).dict SC7.at_⟩
theorem sc_read_kick : FnScope ["board", "line", "switch", "coil", "ticks", "till"] ["board", "line"] (defScope s_read_kick) := ⟨rfl, rfl, rfl, by decide +kernel, rfl, by decide +kernel, by decide +kernel⟩
theorem ok_read_kick (T : Txt K mg c) : Has P w K mg base (CXF P w) 8 "read_kick" ["board", "line"] (spRead c (fun _ => True) mKick) := by
  refine mkX T.d_read_kick sc_read_kick (fun _ _ _ _ _ _ us hl => match us, hl with | [_, _], _ => rfl) (fun vs H Q E h => ?_) (fun f cdv A outer s H vs Q E hr h => ?_)
  · obtain ⟨θ, l, e, p, rest, Tb, rfl, _⟩ := h
    rfl
  · obtain ⟨θ, l, e, p, rest, Tb, rfl, _, hM, S, L, ⟨wl0, hw0, hwn⟩, k⟩ := h
    refine ⟨_, pss_cons (ps_if (pt_cmpR op_eq (pe_callB call_len_seq rfl T.b_len PySem.boot_len (pa_cons (pe_fld (pv 0) rfl) pa_nil)) (pe_gi T.g_MOST_KICKS) (nomark _)) (pss_one (ps_fault T (hr.mono (by decide)) xe_def (pa_cons (pe_gi T.g_WRONG_WORD) (pa_cons (pe_fld (pv 1) rfl) pa_nil)))) pss_nil)
      (pss_cons (ps_set (i := 2) sc_read_kick.nd rfl (Or.inl rfl) (pe_fn (ok_take_kick_switch T) (hr.mono (by decide)) passX (pa_cons (pv 0) (pa_cons (pv 1) pa_nil))))
      (pss_cons (ps_set (i := 3) sc_read_kick.nd rfl (Or.inl rfl) (pe_fn (ok_take_serving_coil T) (hr.mono (by decide)) passX (pa_cons (pv 0) (pa_cons (pv 1) pa_nil))))
      (pss_cons (ps_set (i := 4) sc_read_kick.nd rfl (Or.inl rfl) (pe_fn (ok_take_ticks T) (hr.mono (by decide)) passX (pa_cons (pv 1) (pa_cons (pv 3) pa_nil))))
      (pss_cons (ps_set (i := 5) sc_read_kick.nd rfl (Or.inl rfl) (pe_fn (ok_take_till T) (hr.mono (by decide)) passX (pa_cons (pv 0) (pa_cons (pv 1) (pa_cons (pv 2) pa_nil)))))
      (pss_one (ps_expr (pe_bm PySem.F.plainAttrs_list PySem.F.slot_list_append PySem.F.type_list_append mt_append (pe_fld (pv 0) rfl) (pa_cons (pe_mk (ok_Kick T) (hr.mono (by decide)) pass0 (pa_cons (pv 2) (pa_cons (pv 3) (pa_cons (pv 4) (pa_cons (pv 5) pa_nil))))) pa_nil)))))))), ?_⟩
    obtain ⟨hn, sn, B, O⟩ := id S
    obtain ⟨db, tn, hb, _⟩ := B.bd
    obtain ⟨kas, hk1, hk2, hk3⟩ := B.ki
    obtain ⟨dx0, wlx, as0, ws0, t0, hl0, _⟩ := id L
    have hki := O.ki
    unfold mKick at k
    refine ⟨_, rfl, rdF T.cB hb (by decide +kernel) rfl ⟨θ.dk, _, rfl, .inl (SqL.of hk1), rfl, _, rfl, ?_⟩⟩
    rw [List.length_map, hk2]
    by_cases h8 : Tb.kicks.length = 8
    · rw [if_pos h8] at k
      rw [show decide (V.int (Tb.kicks.length : Int) = V.int 8) = true from decide_eq_true (by rw [h8]; rfl)]
      exact iteT ⟨_, rfl, rdF T.cLi hl0 (by decide +kernel) rfl (flt_rd T k)⟩
    rw [if_neg h8] at k
    rw [show decide (V.int (Tb.kicks.length : Int) = V.int 8) = false from decide_eq_false (fun z => h8 (by have := V.int.inj z; omega))]
    refine iteF ⟨_, rfl, _, rfl, θ, l, e, p, rest, Tb, Tb.held, serve Tb, rfl, S, L, Out.casesE k fun s es ks H1 sa sw f1 S1 hsa esw msw L1 => ?_⟩
    obtain ⟨p1, L1⟩ := L1
    refine ⟨_, rfl, _, rfl, θ, l, e, p1, s.2, Tb, Tb.held, serve Tb, rfl, S1, L1, by have := serve_len O; omega, Out.casesE ks fun co ec kc H2 ca f2 S2 hca mca L2 => ?_⟩
    obtain ⟨p2, L2⟩ := L2
    have hsa2 := hsa.fr f2
    refine ⟨_, rfl, _, rfl, l, ca, e, p2, co.2, co.1, rfl, L2, hca, Out.casesE kc fun t et kt H3 b3 L3 => ?_⟩
    obtain ⟨p3, L3⟩ := L3
    have S3 := S2.line b3 L2
    have hsa3 := hsa2.fr (Fr.line (dk := []) b3 L2)
    have hca3 := hca.fr (Fr.line (dk := []) b3 L2)
    rw [← esw] at kt
    refine ⟨_, rfl, _, rfl, _, rfl, θ, l, sa, e, p3, t.2, Tb, Tb.held, _, sw, rfl, S3, L3, hsa3, msw, Out.casesE kt fun u eu ku H4 v b4 S4 hv L4 => ?_⟩
    obtain ⟨p4, L4⟩ := L4
    have hsa4 := hsa3.fr (Fr.line (dk := []) b4 L3)
    have hca4 := hca3.fr (Fr.line (dk := []) b4 L3)
    have f4 : Fr [θ.dk] H H4 := ((f1.trans f2).trans (Fr.line b3 L2)).trans (Fr.line b4 L3)
    have w4 := f4.wl _ _ hw0
    obtain ⟨hn4, sn4, B4, O4⟩ := S4
    obtain ⟨db4, tn4, hb4, _⟩ := B4.bd
    obtain ⟨kas4, hk41, hk42, hk43⟩ := B4.ki
    refine ⟨_, rfl, rdF T.cB hb4 (by decide +kernel) rfl ⟨.inl ⟨rfl, _, SqL.of hk41⟩, _, rfl, _, rfl, _, rfl, _, rfl, fun x dx nx ndx nex => ⟨x, dx, _, rfl, rfl, upd_same, fun H7 b7 h7 => ⟨rfl, ?_⟩⟩⟩⟩
    have s7 := Same.made nx ndx b7.keep
    have B7 := B4.same s7
    have k71 := s7 _ _ hk41
    have w7 := (Fr.of (dk := []) s7).wl _ _ w4
    have hK : KiAt c H7 x ⟨sw.place, co.1.place, t.1, u.1⟩ := ⟨dx, sa, ca, v, sw, co.1, h7, hsa4.fr (Fr.of (dk := []) s7), rfl, hca4.fr (Fr.of (dk := []) s7), rfl, hv.fr (Fr.of (dk := []) s7)⟩
    refine ⟨θ.dk, _, _, rfl, rfl, k71, by rw [List.length_map, hk42, sizeLine_eq]; omega, ?_⟩
    refine ku _ ((f4.trans (Fr.of s7)).trans (Fr.kicks k71 (List.mem_singleton.mpr rfl))) ⟨hn4, sn4, B7.addKi k71 hk42 (fun i a kk q1 q2 => (hk43 i a kk q1 q2).fr (Fr.of (dk := []) s7)) hK, ?_⟩ ⟨_, (L4.same s7).list k71 w7 hwn⟩
    have g2 : serve { Tb with kicks := Tb.kicks ++ [⟨sw.place, co.1.place, t.1, u.1⟩] } = serve Tb ++ [co.1.place] := by
      unfold serve
      rw [map_snoc, List.append_assoc]
    show TOk { Tb with kicks := Tb.kicks ++ [⟨sw.place, co.1.place, t.1, u.1⟩] } Tb.held (serve { Tb with kicks := Tb.kicks ++ [⟨sw.place, co.1.place, t.1, u.1⟩] }) hn4 sn4
    rw [g2]
    refine { O4 with ki := ?_ }
    show (Tb.kicks ++ [_]).length ≤ 8
    rw [List.length_append, List.length_singleton]
    omega
end
end Fb
set_option Elab.async false
set_option maxRecDepth 100000
set_option maxHeartbeats 400000
set_option linter.all false
namespace Fb
open PySem PySem.Spec PyProof.Rows L2 Fx Fm
theorem kw_table : Kw "table" "table" := ⟨by decide +kernel, by decide +kernel⟩
theorem kw_balls : Kw "balls" "balls" := ⟨by decide +kernel, by decide +kernel⟩
theorem bstep {G : Hp} {b dx C p : Addr} {F : List (Str × V)} {o : HO} (hb : G b = some (.ins C dx F)) (hp : G p = none) : (upd G p o) b = some (.ins C dx F) ∧ ∀ F' : List (Str × V), (upd (upd G p o) b (.ins C dx F')) p = some o ∧ ∀ x u, G x = some u → x ≠ b → (upd (upd G p o) b (.ins C dx F')) x = some u := by
  have n : p ≠ b := Ne.symm (ne_of_none hb hp)
  refine ⟨by rw [upd_ne (Ne.symm n)]; exact hb, fun F' => ⟨by rw [upd_ne n, upd_same], fun x u e hx => ?_⟩⟩
  rw [upd_ne hx, upd_ne (ne_of_none e hp)]
  exact e
section
variable {P : Program} {w : World} {K : PySem.W.Frag} {mg : Str → Option Value} {base : Heap} {c : Cn}
theorem sc_Board : FnScope ["self", "name", "balls"] ["self", "name", "balls"] (defScope m_Board_init) := ⟨rfl, rfl, rfl, by decide +kernel, rfl, by decide +kernel, by decide +kernel⟩
def spBoard (c : Cn) : Sp := fun vs H Q _ => ∃ (b dx tn : Addr) (n : Nat) (nm : Tilt.Bytes), vs = [.ref b, .ref tn, .int (n : Int)] ∧ H b = some (.ins c.B dx []) ∧ H tn = some (.tup (bV nm)) ∧ nm.length ≤ 12 ∧ ∀ (H' : Hp) (θ : Ad), θ.b = b → θ.M = [θ.dk] → (∀ x o, H x = some o → x ≠ b → H' x = some o) → St c H' θ { Tilt.noTable with name := nm, balls := n } [] [] → Q .non H'
theorem ok_Board (T : Txt K mg c) : HasI P w K mg base CX0 1 c.B "Board" ["self", "name", "balls"] (spBoard c) := by
  refine mkI T.iB sc_Board (fun _ _ _ _ _ _ us hl => match us, hl with | [_, _, _], _ => rfl) (fun vs H Q E h => ?_) (fun f cdv A outer s H vs Q E hr h => ?_)
  · obtain ⟨b, dx, tn, n, nm, rfl, _⟩ := h
    rfl
  · obtain ⟨b, dx, tn, n, nm, rfl, hb, htn, hnz, k⟩ := h
    refine ⟨_, pss_cons (ps_fld (pv 0) (pv 1) rfl) (pss_cons (ps_fld (pv 0) (pv 2) rfl) (pss_cons (ps_fld (pv 0) pe_dnewT rfl) (pss_cons (ps_fld (pv 0) pe_dnewT rfl) (pss_cons (ps_fld (pv 0) pe_dnewT rfl) (pss_cons (ps_fld (pv 0) pe_dnewT rfl) (pss_cons (ps_fld (pv 0) (pe_lst pa_nil) rfl) (pss_cons (ps_fld (pv 0) pe_dnewT rfl) (pss_one (ps_fld (pv 0) pe_dnewT rfl))))))))), ?_⟩
    refine ⟨_, rfl, _, rfl, wrF T.cB hb (by decide +kernel) (of_decide_eq_true rfl) ⟨_, rfl, _, rfl, wrF T.cB upd_same (by decide +kernel) (of_decide_eq_true rfl) ?_⟩⟩
    rw [upd_upd]
    have k0 : ∀ (F : List (Str × V)) x o, H x = some o → x ≠ b → upd H b (.ins c.B dx F) x = some o := fun F x o e hx => by rw [upd_ne hx]; exact e
    intro ds hds
    obtain ⟨e1, g1⟩ := bstep (o := .dT []) (upd_same (H := H) (a := b)) hds
    refine ⟨_, rfl, wrF T.cB e1 (by decide +kernel) (of_decide_eq_true rfl) fun dl hdl => ?_⟩
    obtain ⟨e2, g2⟩ := bstep (o := .dT []) upd_same hdl
    refine ⟨_, rfl, wrF T.cB e2 (by decide +kernel) (of_decide_eq_true rfl) fun dc hdc => ?_⟩
    obtain ⟨e3, g3⟩ := bstep (o := .dT []) upd_same hdc
    refine ⟨_, rfl, wrF T.cB e3 (by decide +kernel) (of_decide_eq_true rfl) fun dd hdd => ?_⟩
    obtain ⟨e4, g4⟩ := bstep (o := .dT []) upd_same hdd
    refine ⟨_, rfl, wrF T.cB e4 (by decide +kernel) (of_decide_eq_true rfl) ⟨Nat.zero_le _, fun dk hdk => ?_⟩⟩
    obtain ⟨e5, g5⟩ := bstep (o := .lst []) upd_same hdk
    refine ⟨_, rfl, wrF T.cB e5 (by decide +kernel) (of_decide_eq_true rfl) fun dh hdh => ?_⟩
    obtain ⟨e6, g6⟩ := bstep (o := .dT []) upd_same hdh
    refine ⟨_, rfl, wrF T.cB e6 (by decide +kernel) (of_decide_eq_true rfl) fun dv hdv => ?_⟩
    obtain ⟨e7, g7⟩ := bstep (o := .dT []) upd_same hdv
    refine ⟨_, rfl, wrF T.cB e7 (by decide +kernel) (of_decide_eq_true rfl) ?_⟩
    have nb : ∀ {G : Hp} {p : Addr} {F : List (Str × V)}, G b = some (.ins c.B dx F) → G p = none → p ≠ b := fun h1 h2 => Ne.symm (ne_of_none h1 h2)
    have n1 := nb upd_same hds
    have n2 := nb upd_same hdl
    have n3 := nb upd_same hdc
    have n4 := nb upd_same hdd
    have n5 := nb upd_same hdk
    have n6 := nb upd_same hdh
    have n7 := nb upd_same hdv
    have ntb : tn ≠ b := ne_of htn hb (by intro z; cases z)
    have s2 := fun F => (g2 F).2 ds _ (g1 _).1 n1
    have s3 := fun F => (g3 F).2 ds _ (s2 _) n1
    have s4 := fun F => (g4 F).2 ds _ (s3 _) n1
    have s5 := fun F => (g5 F).2 ds _ (s4 _) n1
    have s6 := fun F => (g6 F).2 ds _ (s5 _) n1
    have s7 := fun F => (g7 F).2 ds _ (s6 _) n1
    have l3 := fun F => (g3 F).2 dl _ (g2 _).1 n2
    have l4 := fun F => (g4 F).2 dl _ (l3 _) n2
    have l5 := fun F => (g5 F).2 dl _ (l4 _) n2
    have l6 := fun F => (g6 F).2 dl _ (l5 _) n2
    have l7 := fun F => (g7 F).2 dl _ (l6 _) n2
    have c4 := fun F => (g4 F).2 dc _ (g3 _).1 n3
    have c5 := fun F => (g5 F).2 dc _ (c4 _) n3
    have c6 := fun F => (g6 F).2 dc _ (c5 _) n3
    have c7 := fun F => (g7 F).2 dc _ (c6 _) n3
    have d5 := fun F => (g5 F).2 dd _ (g4 _).1 n4
    have d6 := fun F => (g6 F).2 dd _ (d5 _) n4
    have d7 := fun F => (g7 F).2 dd _ (d6 _) n4
    have k6 := fun F => (g6 F).2 dk _ (g5 _).1 n5
    have k7 := fun F => (g7 F).2 dk _ (k6 _) n5
    have h7 := fun F => (g7 F).2 dh _ (g6 _).1 n6
    have v7 := fun F => (g7 F).1
    have all : ∀ x o, H x = some o → x ≠ b → ∀ F, _ = some o := fun x o e hx F => (g7 F).2 x o ((g6 _).2 x o ((g5 _).2 x o ((g4 _).2 x o ((g3 _).2 x o ((g2 _).2 x o ((g1 _).2 x o (k0 _ x o e hx) hx) hx) hx) hx) hx) hx) hx
    refine k _ ⟨b, ds, dl, dc, dd, dk, dh, dv, [dk]⟩ rfl rfl (fun x o e hx => all x o e hx _) ⟨[], [], ⟨⟨dx, tn, upd_same, all _ _ htn ntb _⟩, ⟨[], s7 _, rfl, fun i a x z => by simp at z⟩, ⟨[], l7 _, rfl, fun i a x z => by simp at z⟩, ⟨[], c7 _, rfl, fun i a x z => by simp at z⟩, ⟨[], d7 _, rfl, fun i a x z => by simp at z⟩, ⟨[], k7 _, rfl, fun i a x z => by simp at z⟩, h7 _, v7 _, ?_, List.mem_singleton.mpr rfl⟩, ?_⟩
    · simp only [List.nodup_cons, List.mem_cons, List.not_mem_nil, or_false, not_or, not_false_eq_true, and_true, List.nodup_nil]
      refine ⟨⟨ne_of_none (g1 _).1 hdl, ne_of_none (s2 _) hdc, ne_of_none (s3 _) hdd, ne_of_none (s5 _) hdh, ne_of_none (s6 _) hdv⟩, ⟨ne_of_none (g2 _).1 hdc, ne_of_none (l3 _) hdd, ne_of_none (l5 _) hdh, ne_of_none (l6 _) hdv⟩, ⟨ne_of_none (g3 _).1 hdd, ne_of_none (c5 _) hdh, ne_of_none (c6 _) hdv⟩, ⟨ne_of_none (d5 _) hdh, ne_of_none (d6 _) hdv⟩, ne_of_none (g6 _).1 hdv⟩
    · exact ⟨List.nodup_nil, List.Pairwise.nil, fun s z => (by cases z), List.Pairwise.nil, fun s z => (by cases z), List.nodup_nil, List.Pairwise.nil, fun s z => (by cases z), ⟨[], rfl, rfl, fun s z => by cases z⟩, ⟨[], rfl, rfl, fun s z => by cases z⟩, Nat.zero_le _, Nat.zero_le _, Nat.zero_le _, hnz, fun s z => (by cases z), fun s z => (by cases z), fun s z => (by cases z), fun s z => (by cases z)⟩
theorem sc_read_table_line : FnScope ["line", "name", "balls"] ["line"] (defScope s_read_table_line) := ⟨rfl, rfl, rfl, by decide +kernel, rfl, by decide +kernel, by decide +kernel⟩
def mTable (e : Nat) (l : List Tilt.Word) : Except Tilt.Fault Tilt.Table :=
  Tilt.must e "table" l >>= fun m =>
  takeName e m >>= fun n =>
  (Tilt.must e "balls" n.2 >>= fun m => Tilt.number e 1 8 m) >>= fun b =>
  Tilt.closed b.2 >>= fun _ => pure { Tilt.noTable with name := n.1.w, balls := b.1.1 }
def spTable (c : Cn) : Sp := fun vs H Q E => ∃ (l : Addr) (e p : Nat) (rest : List Tilt.Word), vs = [.ref l] ∧ LnAt c.Li H l e p rest ∧ Out c.F E (mTable e rest) fun T => ∀ (H' : Hp) (θ : Ad), θ.M = [θ.dk] → Fr [] H H' → St c H' θ T [] [] → (∃ r, LnA c.Li H' l e r) → Q (.ref θ.b) H'
theorem ok_read_table_line (T : Txt K mg c) : Has P w K mg base (CXF P w) 6 "read_table_line" ["line"] (spTable c) := by
  refine mkX T.d_read_table_line sc_read_table_line (fun _ _ _ _ _ _ us hl => match us, hl with | [_], _ => rfl) (fun vs H Q E h => ?_) (fun f cdv A outer s H vs Q E hr h => ?_)
  · obtain ⟨l, e, p, rest, rfl, _⟩ := h
    rfl
  · obtain ⟨l, e, p, rest, rfl, L, k⟩ := h
    refine ⟨_, pss_cons (ps_expr (pe_mt (ok_take_keyword T) (pv 0) (hr.mono (by decide)) passX (pa_cons pe_str pa_nil)))
      (pss_cons (ps_set (i := 1) sc_read_table_line.nd rfl (Or.inl rfl) (pe_mt0 (ok_take_name T) (pv 0) (hr.mono (by decide)) passX))
      (pss_cons (ps_set (i := 2) sc_read_table_line.nd rfl (Or.inl rfl) (pe_fn (ok_take_named_number T) hr passX (pa_cons (pv 0) (pa_cons pe_str (pa_cons (pe_gi T.g_MOST_BALLS) pa_nil)))))
      (pss_cons (ps_expr (pe_mt0 (ok_finish T) (pv 0) (hr.mono (by decide)) passX))
      (pss_one (ps_ret (pe_mk (ok_Board T) (hr.mono (by decide)) pass0 (pa_cons (pv 1) (pa_cons (pv 2) pa_nil)))))))), ?_⟩
    obtain ⟨dx0, wl0, as0, ws0, t0, hl0, _⟩ := id L
    unfold mTable at k
    refine ⟨_, rfl, l, dx0, _, rfl, hl0, rfl, l, e, p, rest, _, "table", rfl, kw_table, L, Out.casesE k fun m em km H1 b1 L1 => ?_⟩
    obtain ⟨p1, L1⟩ := L1
    obtain ⟨dx1, wl1, as1, ws1, t1, hl1, _⟩ := id L1
    refine ⟨_, rfl, l, dx1, _, rfl, hl1, rfl, l, e, p1, m, rfl, L1, Out.casesE km fun n en kn H2 ta b2 L2 hta => ?_⟩
    refine ⟨_, rfl, l, e, _, 8, n.2, _, "balls", rfl, kw_balls, L2, Out.casesE kn fun bl ebl kb H3 b3 L3 => ?_⟩
    have hta3 := L2.tup b3 hta
    obtain ⟨dx3, wl3, as3, ws3, t3, hl3, _⟩ := id L3
    refine ⟨_, rfl, l, dx3, _, rfl, hl3, rfl, l, e, _, bl.2, rfl, L3, Out.casesE kb fun u eu ku => ?_⟩
    refine ⟨_, rfl, _, rfl, fun x dx nx ndx nex => ?_⟩
    have s4 : Same H3 (upd (upd H3 dx (.own x)) x (.ins c.B dx [])) := fun b o e => by
      rw [upd_ne (ne_of_none e nx), upd_ne (ne_of_none e ndx)]
      exact e
    refine ⟨x, dx, ta, bl.1.1, n.1.w, rfl, upd_same, s4 _ _ hta3, isName_len (takeName_ok en), fun H5 θ eb eM k5 S5 => ⟨rfl, ?_⟩⟩
    have s5 : Same H3 H5 := fun b o e => k5 b o (s4 _ _ e) (ne_of_none e nx)
    rw [← eb]
    exact ku H5 θ eM ((((Fr.line b1 L).trans (Fr.line b2 L1)).trans (Fr.line b3 L2)).trans (Fr.of s5)) S5 ⟨_, _, L3.same s5⟩
end
end Fb
set_option Elab.async false
set_option maxRecDepth 100000
set_option maxHeartbeats 400000
set_option linter.all false
namespace Fb
open PySem PySem.Spec PyProof.Rows L2 Fx Fm
def kws : List String := ["switch", "lamp", "coil", "device", "kick"]
def sortOf (x : Tilt.Bytes) : Option Nat := kws.findIdx? fun s => Tilt.ascii s == x
theorem kwS : ∀ n, n < 5 → ∃ (x : Str) (s : String), sorts[n]? = some (.str x) ∧ kws[n]? = some s ∧ Kw x s
  | 0, _ => ⟨"switch", "switch", rfl, rfl, by decide +kernel, by decide +kernel⟩
  | 1, _ => ⟨"lamp", "lamp", rfl, rfl, by decide +kernel, by decide +kernel⟩
  | 2, _ => ⟨"coil", "coil", rfl, rfl, by decide +kernel, by decide +kernel⟩
  | 3, _ => ⟨"device", "device", rfl, rfl, by decide +kernel, by decide +kernel⟩
  | 4, _ => ⟨"kick", "kick", rfl, rfl, by decide +kernel, by decide +kernel⟩
  | n + 5, h => absurd h (by omega)
theorem sortOf_kw : ∀ n (s : String), kws[n]? = some s → sortOf (Tilt.ascii s) = some n
  | 0, s, h => by cases h; decide +kernel
  | 1, s, h => by cases h; decide +kernel
  | 2, s, h => by cases h; decide +kernel
  | 3, s, h => by cases h; decide +kernel
  | 4, s, h => by cases h; decide +kernel
  | n + 5, s, h => by simp [kws] at h
theorem sortOf_some {x : Tilt.Bytes} {n : Nat} (h : sortOf x = some n) : n < 5 ∧ ∃ s, kws[n]? = some s ∧ x = Tilt.ascii s := by
  obtain ⟨hi, e, _⟩ := List.findIdx?_eq_some_iff_getElem.mp h
  exact ⟨hi, _, List.getElem?_eq_getElem hi, (eq_of_beq e).symm⟩
def mSort (e sort : Nat) (l : List Tilt.Word) : Except Tilt.Fault ((Nat × Nat) × List Tilt.Word) := Tilt.next e l >>= fun x => match sortOf x.1.w with
  | some n => if sort ≤ n then .ok ((n, x.1.at_), x.2) else .error ⟨3, x.1.at_⟩
  | none => .error ⟨3, x.1.at_⟩
def mPart1 (e n p : Nat) (T : Tilt.Table) (l : List Tilt.Word) : Except Tilt.Fault (Tilt.Table × List Tilt.Word) := match n with
  | 0 => mSwitch e T l
  | 1 => mLamp e T l
  | 2 => mCoil e T l
  | 3 => mDevice e p T l
  | _ => mKick e p T l
def mPart (e sort : Nat) (T : Tilt.Table) (l : List Tilt.Word) : Except Tilt.Fault (Nat × Tilt.Table) := mSort e sort l >>= fun x => mPart1 e x.1.1 x.1.2 T x.2 >>= fun y => Tilt.closed y.2 >>= fun _ => pure (x.1.1, y.1)
section
variable {P : Program} {w : World} {K : PySem.W.Frag} {mg : Str → Option Value} {base : Heap} {c : Cn}
theorem sc_take_sort : FnScope ["line", "sort", "word", "number"] ["line", "sort"] (defScope s_take_sort) := ⟨rfl, rfl, rfl, by decide +kernel, rfl, by decide +kernel, by decide +kernel⟩
def spSort (c : Cn) : Sp := fun vs H Q E => ∃ (l : Addr) (e p sort : Nat) (rest : List Tilt.Word), vs = [.ref l, .int (sort : Int)] ∧ LnAt c.Li H l e p rest ∧ sort ≤ 5 ∧ Out c.F E (mSort e sort rest) fun x => ∀ (H' : Hp), Bar l H H' → LnAt c.Li H' l e x.1.2 x.2 → Q (.int (x.1.1 : Int)) H'
theorem ok_take_sort (T : Txt K mg c) : Has P w K mg base (CXF P w) 4 "take_sort" ["line", "sort"] (spSort c) := by
  refine mkX T.d_take_sort sc_take_sort (fun _ _ _ _ _ _ us hl => match us, hl with | [_, _], _ => rfl) (fun vs H Q E h => ?_) (fun f cdv A outer s H vs Q E hr h => ?_)
  · obtain ⟨l, e, p, sort, rest, rfl, _⟩ := h
    rfl
  · obtain ⟨l, e, p, sort, rest, rfl, L, hs, k⟩ := h
    refine ⟨_, pss_cons (ps_set (i := 2) sc_take_sort.nd rfl (Or.inl rfl) (pe_mt0 (ok_take T) (pv 0) hr passX))
      (pss_cons (ps_for PassesOwn.leaving rfl (pi_range2 rfl T.b_range (pa_cons (pv 1) (pa_cons (pe_callB call_len_seq rfl T.b_len PySem.boot_len (pa_cons (pe_glob rfl T.mSO (v := .ref c.SO) rfl) pa_nil)) pa_nil))) (pg_name (i := 3) sc_take_sort.nd rfl (Or.inl rfl))
        (pss_one (ps_if (pt_cmpR (op_eqD hr.units) (pv 2) (pe_fn (ok_spelled T) (hr.mono (by decide)) pass0 (pa_cons (pe_ix ix_tup (pe_glob rfl T.mSO (v := .ref c.SO) rfl) (pv 3) (fun _ _ => rfl)) pa_nil)) (nomark _)) (pss_one (ps_ret (pv 3))) pss_nil)))
      (pss_one (ps_fault T (hr.mono (by decide)) xe_def (pa_cons (pe_gi T.g_WRONG_WORD) (pa_cons (pe_fld (pv 0) rfl) pa_nil))))), ?_⟩
    obtain ⟨dx, wl, as, ws, t, hl, W, ht, er⟩ := id L
    have hSO : ∀ H : Hp, SqT K H c.SO sorts := fun H => .inr T.kSO
    unfold mSort at k
    refine ⟨_, rfl, l, dx, _, rfl, hl, rfl, l, e, p, rest, rfl, L, Out.cases k fun y ky H1 ta b1 L1 hta hne => ?_⟩
    refine ⟨_, rfl, c.SO, sorts, rfl, .inr (hSO _), (sort : Int), 5, rfl, ⟨by omega, by omega, by omega, by omega⟩, for_range (lo := (sort : Int)) (fun i σ H' => Same H1 H' ∧ (∀ j s, j < i → kws[sort + j]? = some s → y.1.w ≠ Tilt.ascii s) ∧ ∃ x, σ = [some (.ref l), some (.int (sort : Int)), some (.ref ta), x]) ⟨Same.refl _, fun j s z => absurd z (by omega), none, rfl⟩ ?_ ?_⟩
    · rintro i σ H2 hi ⟨s2, hno, x, rfl⟩
      obtain ⟨kx, ks, q1, q2, q3⟩ := kwS (sort + i) (by omega)
      refine ⟨_, rfl, _, rfl, c.SO, sorts, _, _, rfl, rfl, hSO _, at_of (j := sort + i) (by omega) q1, kx, ks, rfl, q3, fun q H3 s3 hq eq => rd_eq (s3 _ _ (s2 _ _ hta)) eq ⟨_, rfl, ?_⟩⟩
      have s13 := s2.trans s3
      by_cases z : y.1.w = Tilt.ascii ks
      · rw [decide_eq_true z]
        have e1 : sortOf y.1.w = some (sort + i) := by rw [z]; exact sortOf_kw _ _ q2
        rw [e1] at ky
        dsimp only at ky
        rw [if_pos (by omega)] at ky
        have := ky H3 (b1.trans (Bar.of s13)) (L1.same s13)
        rw [show ((sort + i : Nat) : Int) = (sort : Int) + (i : Int) by omega] at this
        exact iteT ⟨_, rfl, this⟩
      · rw [decide_eq_false z]
        refine iteF ⟨s13, fun j s hj hs' => ?_, _, rfl⟩
        by_cases hji : j = i
        · subst hji
          rw [q2] at hs'
          cases hs'
          exact z
        · exact hno j s (by omega) hs'
    · rintro σ H2 ⟨s2, hno, x, rfl⟩
      have L2 := L1.same s2
      obtain ⟨dx2, wl2, as2, ws2, t2, hl2, _⟩ := id L2
      refine ⟨_, rfl, rdF T.cLi hl2 (by decide +kernel) rfl (flt_rd T ?_)⟩
      cases e1 : sortOf y.1.w with
      | none =>
        rw [e1] at ky
        exact ky
      | some n =>
        obtain ⟨hn, s', g1, g2⟩ := sortOf_some e1
        rw [e1] at ky
        dsimp only at ky
        rw [if_neg (fun z => hno (n - sort) s' (by omega) (by rw [show sort + (n - sort) = n by omega]; exact g1) g2)] at ky
        exact ky
theorem sc_read_part : FnScope ["board", "line", "sort", "number", "keyword"] ["board", "line", "sort"] (defScope s_read_part) := ⟨rfl, rfl, rfl, by decide +kernel, rfl, by decide +kernel, by decide +kernel⟩
def spPart (c : Cn) : Sp := fun vs H Q E => ∃ (θ : Ad) (l : Addr) (e p sort : Nat) (rest : List Tilt.Word) (T : Tilt.Table), vs = [.ref θ.b, .ref l, .int (sort : Int)] ∧ (sort ≤ 3 → T.kicks = []) ∧ sort ≤ 4 ∧ θ.M = [θ.dk] ∧ St c H θ T T.held (serve T) ∧ LnAt c.Li H l e p rest ∧ (∃ wl0, Wl H l wl0 ∧ wl0 ≠ θ.dk) ∧ Out c.F E (mPart e sort T rest) fun x => ∀ (H' : Hp), Fr [θ.dk] H H' → St c H' θ x.2 x.2.held (serve x.2) → (∃ r, LnA c.Li H' l e r) → Q (.int (x.1 : Int)) H'
theorem ok_read_part (T : Txt K mg c) : Has P w K mg base (CXF P w) 9 "read_part" ["board", "line", "sort"] (spPart c) := by
  refine mkX T.d_read_part sc_read_part (fun _ _ _ _ _ _ us hl => match us, hl with | [_, _, _], _ => rfl) (fun vs H Q E h => ?_) (fun f cdv A outer s H vs Q E hr h => ?_)
  · obtain ⟨θ, l, e, p, sort, rest, Tb, rfl, _⟩ := h
    rfl
  · obtain ⟨θ, l, e, p, sort, rest, Tb, rfl, hk, hs, hM, S, L, ⟨wl0, hw0, hwn⟩, k⟩ := h
    refine ⟨_, pss_cons (ps_set (i := 3) sc_read_part.nd rfl (Or.inl rfl) (pe_fn (ok_take_sort T) (hr.mono (by decide)) passX (pa_cons (pv 1) (pa_cons (pv 2) pa_nil))))
      (pss_cons (ps_set (i := 4) sc_read_part.nd rfl (Or.inl rfl) (pe_ix ix_tup (pe_glob rfl T.mSO (v := .ref c.SO) rfl) (pv 3) (fun _ _ => rfl)))
      (pss_cons (ps_if (pt_cmpR op_eq (pv 4) pe_str (nomark _)) (pss_one (ps_expr (pe_fn (ok_read_switch T) (hr.mono (by decide)) passX (pa_cons (pv 0) (pa_cons (pv 1) pa_nil)))))
        (pss_one (ps_if (pt_cmpR op_eq (pv 4) pe_str (nomark _)) (pss_one (ps_expr (pe_fn (ok_read_lamp T) (hr.mono (by decide)) passX (pa_cons (pv 0) (pa_cons (pv 1) pa_nil)))))
        (pss_one (ps_if (pt_cmpR op_eq (pv 4) pe_str (nomark _)) (pss_one (ps_expr (pe_fn (ok_read_coil T) (hr.mono (by decide)) passX (pa_cons (pv 0) (pa_cons (pv 1) pa_nil)))))
        (pss_one (ps_if (pt_cmpR op_eq (pv 4) pe_str (nomark _)) (pss_one (ps_expr (pe_fn (ok_read_device T) hr passX (pa_cons (pv 0) (pa_cons (pv 1) pa_nil)))))
        (pss_one (ps_expr (pe_fn (ok_read_kick T) hr passX (pa_cons (pv 0) (pa_cons (pv 1) pa_nil))))))))))))
      (pss_cons (ps_expr (pe_mt0 (ok_finish T) (pv 1) (hr.mono (by decide)) passX))
      (pss_one (ps_ret (pv 3)))))), ?_⟩
    have hSO : ∀ H : Hp, SqT K H c.SO sorts := fun H => .inr T.kSO
    unfold mPart at k
    refine ⟨_, rfl, _, rfl, l, e, p, sort, rest, rfl, L, by omega, Out.casesE k fun x ex kx H1 b1 L1 => ?_⟩
    have S1 := S.line b1 L
    have f1 : Fr [θ.dk] H H1 := Fr.line b1 L
    have w1 : ∃ wl0, Wl H1 l wl0 ∧ wl0 ≠ θ.dk := ⟨wl0, b1.wl _ hw0, hwn⟩
    obtain ⟨hn5, hsn⟩ : x.1.1 < 5 ∧ sort ≤ x.1.1 := by
      unfold mSort at ex
      cases hx : Tilt.next e rest with
      | error z => rw [hx] at ex; cases ex
      | ok y =>
        rw [hx] at ex
        have ex : (match sortOf y.1.w with
          | some n => if sort ≤ n then (.ok ((n, y.1.at_), y.2) : Except Tilt.Fault ((Nat × Nat) × List Tilt.Word)) else .error ⟨3, y.1.at_⟩
          | none => .error ⟨3, y.1.at_⟩) = .ok x := ex
        cases hq : sortOf y.1.w with
        | none => rw [hq] at ex; cases ex
        | some n =>
          rw [hq] at ex
          dsimp only at ex
          by_cases z : sort ≤ n
          · rw [if_pos z] at ex
            cases ex
            exact ⟨(sortOf_some hq).1, z⟩
          · rw [if_neg z] at ex
            cases ex
    obtain ⟨⟨n, at_⟩, r⟩ := x
    dsimp only at hn5 hsn kx L1
    have fin : ∀ (H2 : Hp) (y : Tilt.Table × List Tilt.Word), Out c.F E (Tilt.closed y.2 >>= fun _ => (pure (n, y.1) : Except Tilt.Fault (Nat × Tilt.Table))) (fun x => ∀ (H' : Hp), Fr [θ.dk] H H' → St c H' θ x.2 x.2.held (serve x.2) → (∃ r, LnA c.Li H' l e r) → Q (.int (x.1 : Int)) H') → Fr [θ.dk] H1 H2 → St c H2 θ y.1 y.1.held (serve y.1) → LnA c.Li H2 l e y.2 → ∃ (dx : Addr) (fs : List (Str × V)) (p2 : Nat), H2 l = some (.ins c.Li dx fs) ∧ fs.lookup ("finish" : Str) = none ∧ LnAt c.Li H2 l e p2 y.2 ∧ Out c.F E (Tilt.closed y.2) fun _ => Q (.int (n : Int)) H2 := by
      intro H2 y ky f2 S2 L2
      obtain ⟨p2, L2⟩ := L2
      obtain ⟨dx2, wl2, as2, ws2, t2, hl2, _⟩ := id L2
      exact ⟨dx2, _, p2, hl2, rfl, L2, ky.bind.mono fun u ku => ku H2 (f1.trans f2) S2 ⟨_, _, L2⟩⟩
    match n, hn5, hsn, kx, fin with
    | 0, _, hsn, kx, fin =>
      refine ⟨_, rfl, c.SO, sorts, _, _, rfl, rfl, hSO _, at_of (j := 0) rfl rfl, _, rfl, rfl, _, rfl, ?_⟩
      rw [show decide (V.str (Str.ofString "switch") = V.str (Str.ofString "switch")) = true by decide +kernel]
      refine iteT ⟨_, rfl, _, rfl, θ, l, e, at_, r, Tb, rfl, True.intro, hM, S1, L1, w1, Out.cases kx fun y ky H2 f2 S2 L2 => ?_⟩
      obtain ⟨dx2, fs2, p2, g1, g2, g3, g4⟩ := fin H2 y ky f2 S2 L2
      exact ⟨_, rfl, l, dx2, fs2, rfl, g1, g2, l, e, p2, y.2, rfl, g3, g4.mono fun u ku => ⟨_, rfl, ku⟩⟩
    | 1, _, hsn, kx, fin =>
      refine ⟨_, rfl, c.SO, sorts, _, _, rfl, rfl, hSO _, at_of (j := 1) rfl rfl, _, rfl, rfl, _, rfl, ?_⟩
      rw [show decide (V.str (Str.ofString "lamp") = V.str (Str.ofString "switch")) = false by decide +kernel]
      refine iteF ⟨_, rfl, rfl, _, rfl, ?_⟩
      rw [show decide (V.str (Str.ofString "lamp") = V.str (Str.ofString "lamp")) = true by decide +kernel]
      refine iteT ⟨_, rfl, _, rfl, θ, l, e, at_, r, Tb, rfl, True.intro, hM, S1, L1, w1, Out.cases kx fun y ky H2 f2 S2 L2 => ?_⟩
      obtain ⟨dx2, fs2, p2, g1, g2, g3, g4⟩ := fin H2 y ky f2 S2 L2
      exact ⟨_, rfl, l, dx2, fs2, rfl, g1, g2, l, e, p2, y.2, rfl, g3, g4.mono fun u ku => ⟨_, rfl, ku⟩⟩
    | 2, _, hsn, kx, fin =>
      refine ⟨_, rfl, c.SO, sorts, _, _, rfl, rfl, hSO _, at_of (j := 2) rfl rfl, _, rfl, rfl, _, rfl, ?_⟩
      rw [show decide (V.str (Str.ofString "coil") = V.str (Str.ofString "switch")) = false by decide +kernel]
      refine iteF ⟨_, rfl, rfl, _, rfl, ?_⟩
      rw [show decide (V.str (Str.ofString "coil") = V.str (Str.ofString "lamp")) = false by decide +kernel]
      refine iteF ⟨_, rfl, rfl, _, rfl, ?_⟩
      rw [show decide (V.str (Str.ofString "coil") = V.str (Str.ofString "coil")) = true by decide +kernel]
      refine iteT ⟨_, rfl, _, rfl, θ, l, e, at_, r, Tb, rfl, True.intro, hM, S1, L1, w1, Out.cases kx fun y ky H2 f2 S2 L2 => ?_⟩
      obtain ⟨dx2, fs2, p2, g1, g2, g3, g4⟩ := fin H2 y ky f2 S2 L2
      exact ⟨_, rfl, l, dx2, fs2, rfl, g1, g2, l, e, p2, y.2, rfl, g3, g4.mono fun u ku => ⟨_, rfl, ku⟩⟩
    | 3, _, hsn, kx, fin =>
      refine ⟨_, rfl, c.SO, sorts, _, _, rfl, rfl, hSO _, at_of (j := 3) rfl rfl, _, rfl, rfl, _, rfl, ?_⟩
      rw [show decide (V.str (Str.ofString "device") = V.str (Str.ofString "switch")) = false by decide +kernel]
      refine iteF ⟨_, rfl, rfl, _, rfl, ?_⟩
      rw [show decide (V.str (Str.ofString "device") = V.str (Str.ofString "lamp")) = false by decide +kernel]
      refine iteF ⟨_, rfl, rfl, _, rfl, ?_⟩
      rw [show decide (V.str (Str.ofString "device") = V.str (Str.ofString "coil")) = false by decide +kernel]
      refine iteF ⟨_, rfl, rfl, _, rfl, ?_⟩
      rw [show decide (V.str (Str.ofString "device") = V.str (Str.ofString "device")) = true by decide +kernel]
      refine iteT ⟨_, rfl, _, rfl, θ, l, e, at_, r, Tb, rfl, hk (by omega), hM, S1, L1, w1, Out.cases kx fun y ky H2 f2 S2 L2 => ?_⟩
      obtain ⟨dx2, fs2, p2, g1, g2, g3, g4⟩ := fin H2 y ky f2 S2 L2
      exact ⟨_, rfl, l, dx2, fs2, rfl, g1, g2, l, e, p2, y.2, rfl, g3, g4.mono fun u ku => ⟨_, rfl, ku⟩⟩
    | 4, _, hsn, kx, fin =>
      refine ⟨_, rfl, c.SO, sorts, _, _, rfl, rfl, hSO _, at_of (j := 4) rfl rfl, _, rfl, rfl, _, rfl, ?_⟩
      rw [show decide (V.str (Str.ofString "kick") = V.str (Str.ofString "switch")) = false by decide +kernel]
      refine iteF ⟨_, rfl, rfl, _, rfl, ?_⟩
      rw [show decide (V.str (Str.ofString "kick") = V.str (Str.ofString "lamp")) = false by decide +kernel]
      refine iteF ⟨_, rfl, rfl, _, rfl, ?_⟩
      rw [show decide (V.str (Str.ofString "kick") = V.str (Str.ofString "coil")) = false by decide +kernel]
      refine iteF ⟨_, rfl, rfl, _, rfl, ?_⟩
      rw [show decide (V.str (Str.ofString "kick") = V.str (Str.ofString "device")) = false by decide +kernel]
      refine iteF ⟨_, rfl, _, rfl, θ, l, e, at_, r, Tb, rfl, True.intro, hM, S1, L1, w1, Out.cases kx fun y ky H2 f2 S2 L2 => ?_⟩
      obtain ⟨dx2, fs2, p2, g1, g2, g3, g4⟩ := fin H2 y ky f2 S2 L2
      exact ⟨_, rfl, l, dx2, fs2, rfl, g1, g2, l, e, p2, y.2, rfl, g3, g4.mono fun u ku => ⟨_, rfl, ku⟩⟩
    | n + 5, h, _, _, _ => exact absurd h (by omega)
end
end Fb
set_option Elab.async false
set_option maxRecDepth 100000
set_option maxHeartbeats 400000
set_option linter.all false
namespace Fb
open Tilt
theorem ie_iff {α : Type} (l : List α) : (l.isEmpty = true) = (l = []) := propext List.isEmpty_iff
theorem switch_eq {e : Nat} {T : Table} (l : List Word) (hD : (T.switches.map (·.name)).contains DRAIN = false) : switchIn e T l = (mSwitch e T l >>= fun y => closed y.2 >>= fun _ => pure y.1) := by
  have h := newBut_eq (e := e) (had := T.switches.map (·.name)) (s := "drain") l (by decide +kernel) hD
  unfold switchIn mSwitch
  rw [← bind_assoc, show DRAIN = ascii "drain" from rfl, h]
  simp only [bind_assoc, pure_bind, ie_iff]
  congr 1; funext n
  congr 1; funext m
  congr 1; funext p
  congr 1; funext m
  congr 1; funext cl
  congr 1; funext m
  congr 1; funext o
  by_cases z : o.2 = []
  · rw [if_pos z, if_pos z]
    rfl
  · rw [if_neg z, if_neg z]
    simp only [bind_assoc, pure_bind]
theorem lamp_eq {e : Nat} {T : Table} (l : List Word) (hD : (T.lamps.map (·.name)).contains LOOP = false) : lampIn e T l = (mLamp e T l >>= fun y => closed y.2 >>= fun _ => pure y.1) := by
  have h := newBut_eq (e := e) (had := T.lamps.map (·.name)) (s := "loop") l (by decide +kernel) hD
  unfold lampIn mLamp
  rw [← bind_assoc, show LOOP = ascii "loop" from rfl, h]
  simp only [bind_assoc, pure_bind]
theorem coil_eq {e : Nat} {T : Table} (l : List Word) : coilIn e T l = (mCoil e T l >>= fun y => closed y.2 >>= fun _ => pure y.1) := by
  unfold coilIn mCoil
  rw [newName_eq]
  simp only [bind_assoc, pure_bind, ie_iff]
  congr 1; funext n
  congr 1; funext m
  congr 1; funext p
  congr 1; funext m
  congr 1; funext cl
  congr 1; funext m
  congr 1; funext o
  by_cases z : o.2 = []
  · rw [if_pos z, if_pos z]
    rfl
  · rw [if_neg z, if_neg z]
    simp only [bind_assoc, pure_bind]
theorem held_eq {e : Nat} {T : Table} : ∀ (k : Nat) (had : List Nat) (l : List Word), had ≠ [] → heldIn e T k had l = (mHeld e T T.held k had l >>= fun h => if h.2 = [] then pure (h.1, false) else must e "drain" h.2 >>= fun r => closed r >>= fun _ => pure (h.1, true))
  | 0, had, l, _ => by
    unfold heldIn mHeld
    cases l with
    | nil => rfl
    | cons w r =>
      show (if w.w = DRAIN then _ else _) = _
      by_cases z : w.w = DRAIN
      · rw [if_pos z]
        show _ = ((if w.w = ascii "drain" then pure r else _ : Except Fault (List Word)) >>= _)
        rw [if_pos (show w.w = ascii "drain" from z)]
        cases r <;> rfl
      · rw [if_neg z]
        show _ = ((if w.w = ascii "drain" then pure r else _ : Except Fault (List Word)) >>= _)
        rw [if_neg (show ¬ w.w = ascii "drain" from z)]
        rfl
  | k + 1, had, l, h => by
    cases had with
    | nil => exact absurd rfl h
    | cons a q =>
      cases l with
      | nil =>
        unfold heldIn mHeld
        rfl
      | cons w r =>
        unfold heldIn mHeld
        dsimp only
        by_cases z : w.w = DRAIN
        · rw [if_pos ⟨by simp, z⟩, if_pos (.inl (decide_eq_true z))]
          show _ = ((if w.w = ascii "drain" then pure r else _ : Except Fault (List Word)) >>= _)
          rw [if_pos (show w.w = ascii "drain" from z)]
          cases r <;> rfl
        · rw [if_neg (fun y => z y.2), if_neg (fun y => y.elim (fun y => z (of_decide_eq_true y)) (fun y => by cases y))]
          unfold heldSw
          simp only [bind_assoc, pure_bind]
          congr 1; funext x
          congr 1; funext u
          exact held_eq k _ _ (by simp)
theorem held1_eq {e : Nat} {T : Table} (l : List Word) : heldIn e T 8 [] l = (mHeld1 e T T.held l >>= fun h => if h.2 = [] then pure (h.1, false) else must e "drain" h.2 >>= fun r => closed r >>= fun _ => pure (h.1, true)) := by
  unfold mHeld1
  cases l with
  | nil =>
    unfold heldIn
    rfl
  | cons w r =>
    unfold heldIn
    dsimp only
    rw [if_neg (fun y => y.1 rfl)]
    unfold heldSw
    simp only [bind_assoc, pure_bind, List.append_nil]
    congr 1; funext x
    congr 1; funext u
    exact held_eq 7 _ _ (by simp)
theorem any_contains {α : Type} (f : α → Nat) (l : List α) (p : Nat) : (l.any fun d => f d == p) = (l.map f).contains p := by
  rw [Bool.eq_iff_iff, List.any_eq_true, List.contains_iff_mem, List.mem_map]
  constructor
  · rintro ⟨x, hx, e⟩
    exact ⟨x, hx, eq_of_beq e⟩
  · rintro ⟨x, hx, e⟩
    exact ⟨x, hx, beq_iff_eq.mpr e⟩
theorem device_eq {e p : Nat} {T : Table} (l : List Word) (h8 : T.devices.length ≠ 8) (hk : T.kicks = []) : deviceIn e T l = (mDevice e p T l >>= fun y => closed y.2 >>= fun _ => pure y.1) := by
  unfold deviceIn mDevice servCoil
  rw [if_neg h8, newName_eq]
  simp only [bind_assoc, pure_bind, held1_eq]
  congr 1; funext n
  congr 1; funext m
  congr 1; funext co
  have e1 : (T.devices.any fun (d : Device) => d.coil == co.1.1.place) = (serve T).contains co.1.1.place := by
    rw [any_contains (fun (d : Device) => d.coil)]
    unfold serve
    rw [hk, List.map_nil, List.append_nil]
  rw [e1]
  congr 1; funext u
  congr 1; funext m2
  congr 1; funext h
  by_cases z : h.2 = []
  · rw [if_pos z, if_pos z]
    rfl
  · rw [if_neg z, if_neg z]
    simp only [bind_assoc, pure_bind]
theorem kick_eq {e p : Nat} {T : Table} (l : List Word) (h8 : T.kicks.length ≠ 8) : kickIn e T l = (mKick e p T l >>= fun y => closed y.2 >>= fun _ => pure y.1) := by
  unfold kickIn mKick kickSw servCoil mTicks
  rw [if_neg h8]
  simp only [bind_assoc, pure_bind]
  congr 1; funext s
  congr 1; funext u
  congr 1; funext u
  congr 1; funext co
  have e1 : (!(T.devices.any fun (d : Device) => d.coil == co.1.1.place) && !(T.kicks.any fun (k : Kick) => k.coil == co.1.1.place)) = !(serve T).contains co.1.1.place := by
    rw [any_contains (fun (d : Device) => d.coil), any_contains (fun (k : Kick) => k.coil)]
    unfold serve
    rw [← Bool.not_or, List.contains_eq_mem, List.contains_eq_mem, List.contains_eq_mem]
    simp [List.mem_append]
  rw [e1]
  congr 1; funext u
  congr 1; funext m
  congr 1; funext t
  congr 1; funext u
  unfold mTill
  by_cases z : t.2 = []
  · rw [if_pos z, if_pos (by rw [z]; rfl)]
    rfl
  · rw [if_neg z, if_neg (by rw [List.isEmpty_iff]; exact z)]
    simp only [bind_assoc, pure_bind]
    rfl
/-- one line behind the first -/
theorem sorts_eq (w : Bytes) : ((SORTS.findIdx? fun (n : String) => ascii n == w).getD 0) = match sortOf w with
    | some n => n + 1
    | none => 0 := by
  show (List.findIdx? (fun (n : String) => ascii n == w) ("table" :: kws)).getD 0 = _
  rw [List.findIdx?_cons]
  by_cases z : ascii "table" == w
  · have : sortOf w = none := by
      rw [← eq_of_beq z]
      decide +kernel
    rw [if_pos z, this]
    rfl
  · rw [if_neg z]
    show (Option.map (fun i => i + 1) (sortOf w)).getD 0 = _
    cases sortOf w <;> rfl
theorem line_eq {e ss sort : Nat} {T : Table} (ws : List Word) (hs : (ss = 0 ∧ sort = 0) ∨ ss = sort + 1) (hD : (T.switches.map (·.name)).contains DRAIN = false) (hL : (T.lamps.map (·.name)).contains LOOP = false) (hk : sort ≤ 3 → T.kicks = []) (d8 : T.devices.length ≤ 8) (k8 : T.kicks.length ≤ 8) :
    lineIn (some ⟨ss, T⟩) ⟨ws, e⟩ = (mPart e sort T ws >>= fun x => pure (some ⟨x.1 + 1, x.2⟩)) := by
  unfold mPart mSort
  cases ws with
  | nil => rfl
  | cons w r =>
    unfold lineIn
    simp only [bind_assoc, pure_bind]
    show (if ((SORTS.findIdx? fun (n : String) => ascii n == w.w).getD 0) = 0 ∨ _ then _ else _) = (match sortOf w.w with
      | some n => if sort ≤ n then (.ok ((n, w.at_), r) : Except Fault ((Nat × Nat) × List Word)) else .error ⟨3, w.at_⟩
      | none => .error ⟨3, w.at_⟩) >>= _
    rw [sorts_eq]
    cases hq : sortOf w.w with
    | none =>
      dsimp only
      rw [if_pos (.inl rfl)]
      rfl
    | some n =>
      dsimp only
      obtain ⟨hn5, _⟩ := sortOf_some hq
      show (if n + 1 = 0 ∨ n + 1 < ss ∨ (n + 1 = 4 ∧ 8 ≤ T.devices.length) ∨ (n + 1 = 5 ∧ 8 ≤ T.kicks.length) then (.error ⟨3, w.at_⟩ : Except Fault (Option Had)) else _) = _
      clear hq
      by_cases z : sort ≤ n
      · rw [if_pos z]
        match n, hn5, z with
        | 0, _, z =>
          rw [if_neg (by omega)]
          rw [if_pos rfl]
          rw [switch_eq r hD]
          simp only [bind_assoc, pure_bind]
          rfl
        | 1, _, z =>
          rw [if_neg (by omega)]
          rw [if_neg (by decide)]
          rw [if_pos rfl]
          rw [lamp_eq r hL]
          simp only [bind_assoc, pure_bind]
          rfl
        | 2, _, z =>
          rw [if_neg (by omega)]
          rw [if_neg (by decide)]
          rw [if_neg (by decide)]
          rw [if_pos rfl]
          rw [coil_eq r]
          simp only [bind_assoc, pure_bind]
          rfl
        | 3, _, z =>
          by_cases h8 : T.devices.length = 8
          · rw [if_pos (by omega)]
            show _ = (mDevice e w.at_ T r >>= _)
            unfold mDevice
            rw [if_pos h8]
            rfl
          · rw [if_neg (by omega)]
            rw [if_neg (by decide)]
            rw [if_neg (by decide)]
            rw [if_neg (by decide)]
            rw [if_pos rfl]
            rw [device_eq (p := w.at_) r h8 (hk z)]
            simp only [bind_assoc, pure_bind]
            rfl
        | 4, _, z =>
          by_cases h8 : T.kicks.length = 8
          · rw [if_pos (by omega)]
            show _ = (mKick e w.at_ T r >>= _)
            unfold mKick
            rw [if_pos h8]
            rfl
          · rw [if_neg (by omega)]
            rw [if_neg (by decide)]
            rw [if_neg (by decide)]
            rw [if_neg (by decide)]
            rw [if_neg (by decide)]
            rw [kick_eq (p := w.at_) r h8]
            simp only [bind_assoc, pure_bind]
            rfl
        | n + 5, h, _ => exact absurd h (by omega)
      · rw [if_neg z, if_pos (by omega)]
        rfl
theorem first_eq {e : Nat} (ws : List Word) : lineIn none ⟨ws, e⟩ = (mTable e ws >>= fun T => pure (some ⟨0, T⟩)) := by
  have hn : ∀ l, newName e [] l = (takeName e l >>= fun x => pure (x.1.w, x.2)) := by
    intro l
    rw [newName_eq]
    unfold newW
    simp only [bind_assoc]
    congr 1
  unfold lineIn mTable firstIn
  simp only [hn, bind_assoc, pure_bind]
  cases ws with
  | nil => rfl
  | cons w r =>
    have hm : must e "table" (w :: r) = if w.w = ascii "table" then pure r else .error ⟨3, w.at_⟩ := rfl
    rw [hm]
    show (if w.w = ascii "table" then _ else _) = _
    by_cases z : w.w = ascii "table"
    · rw [if_pos z, if_pos z]
      simp only [pure_bind, bind_assoc]
    · rw [if_neg z, if_neg z]
      rfl
end Fb
set_option Elab.async false
set_option maxRecDepth 100000
set_option maxHeartbeats 400000
set_option linter.all false
namespace Fb
open PySem PySem.Spec PyProof.Rows L2 Fx Fm
/-! lines against the specification -/
theorem lines_end {σ : Type} (f : σ → Tilt.Line → Except Tilt.Fault σ) (k st : Nat) (s : σ) (bs : Tilt.Bytes) (h : bs.length ≤ st) : Tilt.linesIn f k st s (bs.drop st) = .ok s := by
  cases k with
  | zero => rfl
  | succ k =>
    rw [List.drop_eq_nil_of_le h]
    rfl
theorem lines_step {σ : Type} (f : σ → Tilt.Line → Except Tilt.Fault σ) (k st : Nat) (s : σ) (bs : Tilt.Bytes) (h : st < bs.length) : Tilt.linesIn f (k + 1) st s (bs.drop st) = (rdLine bs st >>= fun x => f s ⟨x.1, x.2⟩ >>= fun t => Tilt.linesIn f k (x.2 + 1) t (bs.drop (x.2 + 1))) := by
  unfold rdLine
  have he : (bs.drop st).isEmpty = false := by
    rw [← Bool.not_eq_true, List.isEmpty_iff, List.drop_eq_nil_iff]
    omega
  conv => lhs; unfold Tilt.linesIn
  rw [he, if_neg (by decide)]
  cases e1 : Tilt.upTo (bs.drop st) with
  | none =>
    dsimp only
    rw [List.length_drop, show st + (bs.length - st) = bs.length by omega]
    rfl
  | some x =>
    obtain ⟨l, r⟩ := x
    dsimp only
    obtain ⟨g1, g2, g3⟩ := upTo_some (Nat.le_of_lt h) e1
    cases e2 : Tilt.badByte true 0 l with
    | some i => rfl
    | none =>
      dsimp only
      show _ = (f s ⟨Tilt.wordsFrom st [] l, st + l.length⟩ >>= fun t => Tilt.linesIn f k (st + l.length + 1) t (bs.drop (st + l.length + 1)))
      rw [g2]
      cases f s ⟨Tilt.wordsFrom st [] l, st + l.length⟩ <;> rfl
theorem rdLine_ok {bs : Tilt.Bytes} {st : Nat} {x : List Tilt.Word × Nat} (hs : st ≤ bs.length) (h : rdLine bs st = .ok x) : st ≤ x.2 ∧ x.2 < bs.length := by
  unfold rdLine at h
  cases e1 : Tilt.upTo (bs.drop st) with
  | none => rw [e1] at h; cases h
  | some y =>
    obtain ⟨l, r⟩ := y
    rw [e1] at h
    dsimp only at h
    cases e2 : Tilt.badByte true 0 l with
    | some i => rw [e2] at h; cases h
    | none =>
      rw [e2] at h
      cases h
      obtain ⟨g1, g2, g3⟩ := upTo_some hs e1
      exact ⟨Nat.le_add_right _ _, g3⟩
def fin (bs : Tilt.Bytes) : Option Tilt.Had → Except Tilt.Fault Tilt.Table
  | none => .error ⟨1, bs.length⟩
  | some h => if h.T.balls ≤ h.T.room then .ok h.T else .error ⟨8, bs.length⟩
theorem read_eq (bs : Tilt.Bytes) : Tilt.readTable bs = (rdLine bs 0 >>= fun x => mTable x.2 x.1 >>= fun T => Tilt.linesIn Tilt.lineIn bs.length (x.2 + 1) (some ⟨0, T⟩) (bs.drop (x.2 + 1)) >>= fin bs) := by
  have e0 : Tilt.readTable bs = (Tilt.linesIn Tilt.lineIn (bs.length + 1) 0 none bs >>= fin bs) := by
    unfold Tilt.readTable fin
    cases Tilt.linesIn Tilt.lineIn (bs.length + 1) 0 none bs with
    | error e => rfl
    | ok h => cases h <;> rfl
  rw [e0]
  by_cases z : bs = []
  · subst z
    rfl
  · have hz : 0 < bs.length := List.length_pos_iff.mpr z
    have := lines_step Tilt.lineIn bs.length 0 none bs hz
    rw [List.drop_zero] at this
    rw [this]
    simp only [first_eq, bind_assoc, pure_bind]
theorem sum_fold (l : List Nat) : (l.map fun (n : Nat) => (n : Int)).sum = ((l.foldl (fun (a b : Nat) => a + b) 0 : Nat) : Int) := by
  have h : ∀ (l : List Nat) (a : Nat), ((l.foldl (fun (a b : Nat) => a + b) a : Nat) : Int) = (a : Int) + (l.map fun (n : Nat) => (n : Int)).sum := by
    intro l
    induction l with
    | nil => intro a; simp
    | cons x r ih =>
      intro a
      rw [List.foldl_cons, ih, List.map_cons, List.sum_cons]
      omega
  rw [h]
  simp
def lens (ds : List Tilt.Device) : List Nat := (ds.filter fun (d : Tilt.Device) => d.drain).map fun (d : Tilt.Device) => d.at_.length
theorem lens_snoc (ds : List Tilt.Device) (d : Tilt.Device) : lens (ds ++ [d]) = if d.drain = true then lens ds ++ [d.at_.length] else lens ds := by
  unfold lens
  rw [List.filter_append, List.map_append, List.filter_cons]
  by_cases h : d.drain = true
  · rw [if_pos h, if_pos h]
    rfl
  · rw [if_neg h, if_neg h]
    simp
theorem lens_len (ds : List Tilt.Device) : (lens ds).length ≤ ds.length := by
  unfold lens
  rw [List.length_map]
  exact List.length_filter_le _ _
section
variable {P : Program} {w : World} {K : PySem.W.Frag} {mg : Str → Option Value} {base : Heap} {c : Cn}
theorem sc_check_drains : FnScope ["board", "end", "held", "device"] ["board", "end"] (defScope s_check_drains) := ⟨rfl, rfl, rfl, by decide +kernel, rfl, by decide +kernel, by decide +kernel⟩
def spDrains (c : Cn) : Sp := fun vs H Q E => ∃ (θ : Ad) (n : Nat) (T : Tilt.Table) (hp sp : List Nat), vs = [.ref θ.b, .int (n : Int)] ∧ St c H θ T hp sp ∧ Out c.F E (if T.balls ≤ T.room then (.ok () : Except Tilt.Fault Unit) else .error ⟨8, n⟩) fun _ => ∀ H' : Hp, Same H H' → Q .non H'
theorem ok_check_drains (T : Txt K mg c) : Has P w K mg base (CXF P w) 3 "check_drains" ["board", "end"] (spDrains c) := by
  refine mkX T.d_check_drains sc_check_drains (fun _ _ _ _ _ _ us hl => match us, hl with | [_, _], _ => rfl) (fun vs H Q E h => ?_) (fun f cdv A outer s H vs Q E hr h => ?_)
  · obtain ⟨θ, n, Tb, hp, sp, rfl, _⟩ := h
    rfl
  · obtain ⟨θ, n, Tb, hp, sp, rfl, ⟨hn, sn, B, O⟩, k⟩ := h
    refine ⟨_, pss_cons (ps_set (i := 2) sc_check_drains.nd rfl (Or.inl rfl) (pe_callB (cr_sum rfl) rfl T.b_sum PyProof.Rows.boot_sum (pa_cons (pe_lock (pe_lc (tt := tB (tFld K (tVar 3) "drain")) (te := tCB (fun xs H Q => ∃ p ys, xs = [.ref p] ∧ (SqL K H p ys ∨ SqT K H p ys) ∧ Q (.int ys.length) H) (tCons (tFld K (tVar 3) "switches") tNil)) rfl sc_check_drains.nd (pi_valuesT (pe_fld (pv 0) rfl)) (blkOk_by (own := [("device", 3)]) (by rfl)) (fun s H C cl fp => pg_name (i := 3) sc_check_drains.nd rfl (Or.inl rfl)) (fun _ _ _ _ _ => pts_one (pt_val (pe_fld (pv 3) rfl))) (fun _ _ _ _ _ => pe_callB call_len_seq rfl T.b_len PySem.boot_len (pa_cons (pe_fld (pv 3) rfl) pa_nil)))) pa_nil)))
      (pss_one (ps_if (pt_cmpR op_lt (pv 2) (pe_fld (pv 0) rfl) (nomark _)) (pss_one (ps_fault T hr xe_def (pa_cons (pe_gi T.g_TOO_FEW_HELD) (pa_cons (pv 1) pa_nil)))) pss_nil)), ?_⟩
    obtain ⟨db, tn, hb, _⟩ := B.bd
    obtain ⟨as, SC⟩ := B.de
    have hd := SC.at_
    have h8 := O.de
    have nbd : θ.b ≠ θ.dd := ne_of hb hd (by intro z; cases z)
    refine ⟨θ.dd, _, hd, True.intro, fun od => ⟨_, rfl, rdF T.cB (show upd H θ.dd _ θ.b = _ by rw [upd_ne nbd]; exact hb) (by decide +kernel) rfl ⟨θ.dd, od, _, rfl, upd_same, fun D hD => lc_any Tb.devices.length (fun i H' => H' D = some (.lst (nV (lens (Tb.devices.take i)))) ∧ ∀ b o, upd H θ.dd (.frz od (.dT (kvs (·.name) as Tb.devices))) b = some o → H' b = some o) ⟨upd_same, same_upd hD⟩ (fun i H' lt q => ⟨q.2 _ _ upd_same, by rw [kvs_len SC.len]; exact lt⟩) (fun H' q => ⟨q.2 _ _ upd_same, by rw [kvs_len SC.len]; exact Nat.le_refl _⟩) ?_ ?_⟩⟩⟩
    · rintro i v H3 H4 lt ⟨q1, q2⟩ ⟨rfl, kk, hk⟩
      obtain ⟨a, x, g1, g2, g3⟩ := kvs_get hk
      cases g3
      obtain ⟨dx, tn', ca, sl, sas, co, e1, e2, e3, e4, e5, e6, e7, e8⟩ := SC.el i a x g1 g2
      have kp : ∀ b o, H b = some o → (∀ kv, o ≠ .dT kv) → H4 b = some o := fun b o e nk => q2 _ _ (by
        rw [upd_ne fun z => ?_]
        · exact e
        · subst z
          rw [hd] at e
          cases e
          exact nk _ rfl)
      have e1' := kp _ _ e1 (by intro _ z; cases z)
      have e5' := kp _ _ e5 (by intro _ z; cases z)
      refine ⟨rfl, ⟨_, rfl, rdF T.cD e1' (by decide +kernel) rfl ⟨_, rfl, ?_⟩⟩⟩
      cases hdr : x.drain with
      | true =>
        refine iteT ⟨_, rfl, rdF T.cD e1' (by decide +kernel) rfl ⟨sl, _, rfl, .inl (SqL.of e5'), _, q1, ?_, ?_, ?_⟩⟩
        · unfold nV
          rw [List.length_map, sizeLine_eq]
          have := lens_len (Tb.devices.take i)
          rw [List.length_take] at this
          omega
        · rw [upd_same, take_snoc g2, lens_snoc, if_pos hdr, List.length_map, e7]
          unfold nV
          rw [List.map_append]
          rfl
        · intro b o eb
          rw [upd_ne (ne_of_none eb hD)]
          exact q2 b o eb
      | false =>
        refine iteF ⟨?_, q2⟩
        rw [take_snoc g2, lens_snoc, if_neg (by rw [hdr]; decide)]
        exact q1
    · rintro H3 ⟨q1, q2⟩
      have sm := lock_same hd q2
      have nD : D ≠ θ.dd := fun z => by rw [z, upd_same] at hD; cases hD
      have hDl : upd H3 θ.dd (.dT (kvs (·.name) as Tb.devices)) D = some (.lst (((lens Tb.devices).map fun (n : Nat) => (n : Int)).map V.int)) := by
        rw [upd_ne nD, q1, List.take_length, nV_int]
      refine ⟨q2 _ _ upd_same, D, _, rfl, SqL.of hDl, ⟨_, rfl, _, rfl, rdF T.cB (sm _ _ hb) (by decide +kernel) rfl ⟨_, _, rfl, rfl, _, rfl, ?_⟩⟩⟩
      have er : (Tb.room : Int) = ((lens Tb.devices).map fun (n : Nat) => (n : Int)).sum := (sum_fold _).symm
      rw [← er]
      by_cases z : Tb.balls ≤ Tb.room
      · rw [if_pos z] at k
        rw [decide_eq_false (show ¬ (Tb.room : Int) < (Tb.balls : Int) by omega)]
        exact iteF (k _ sm)
      · rw [if_neg z] at k
        rw [decide_eq_true (show (Tb.room : Int) < (Tb.balls : Int) by omega)]
        exact iteT ⟨_, rfl, flt_rd T k⟩
theorem sc_read_board : FnScope ["text", "line", "board", "sort"] ["text"] (defScope s_read_board) := ⟨rfl, rfl, rfl, by decide +kernel, rfl, by decide +kernel, by decide +kernel⟩
def spReadB (K : PySem.W.Frag) (c : Cn) : Sp := fun vs H Q E => ∃ (a : Addr) (bs : Tilt.Bytes), vs = [.ref a] ∧ TxAt K H a (bV bs) ∧ bs.length ≤ 20000 ∧ Out c.F E (Tilt.readTable bs) fun T => ∀ (H' : Hp) (θ : Ad), St c H' θ T T.held (serve T) → Fr [θ.dk] H H' → Q (.ref θ.b) H'
theorem bind_ok {α β : Type} {r : Except Tilt.Fault α} {f : α → Except Tilt.Fault β} {y : β} (h : (r >>= f) = .ok y) : ∃ x, r = .ok x ∧ f x = .ok y := by
  cases r with
  | error e => cases h
  | ok x => exact ⟨x, rfl, h⟩
theorem ite_ok {α β : Type} {p : Prop} [Decidable p] {a b : Except Tilt.Fault α} {y : α} (h : (if p then a else b) = .ok y) : (p ∧ a = .ok y) ∨ (¬ p ∧ b = .ok y) := by
  by_cases z : p
  · rw [if_pos z] at h; exact .inl ⟨z, h⟩
  · rw [if_neg z] at h; exact .inr ⟨z, h⟩
theorem part_kicks {e sort : Nat} {T : Tilt.Table} {l : List Tilt.Word} {y : Nat × Tilt.Table} (h : mPart e sort T l = .ok y) : y.1 ≤ 4 ∧ sort ≤ y.1 ∧ (y.1 ≤ 3 → y.2.kicks = T.kicks) := by
  unfold mPart at h
  obtain ⟨x, hx, h⟩ := bind_ok h
  obtain ⟨z, hz, h⟩ := bind_ok h
  obtain ⟨u, hu, h⟩ := bind_ok h
  cases h
  have hx' : x.1.1 < 5 ∧ sort ≤ x.1.1 := by
    unfold mSort at hx
    obtain ⟨w, hw, hx⟩ := bind_ok hx
    cases hq : sortOf w.1.w with
    | none => rw [hq] at hx; cases hx
    | some n =>
      rw [hq] at hx
      dsimp only at hx
      by_cases q : sort ≤ n
      · rw [if_pos q] at hx
        cases hx
        exact ⟨(sortOf_some hq).1, q⟩
      · rw [if_neg q] at hx
        cases hx
  refine ⟨by show x.1.1 ≤ 4; omega, hx'.2, fun h3 => ?_⟩
  show z.1.kicks = T.kicks
  have h3 : x.1.1 ≤ 3 := h3
  obtain ⟨⟨n, at_⟩, r⟩ := x
  dsimp only at h3 hz hx'
  match n, h3, hz with
  | 0, _, hz =>
    have hz : mSwitch e T r = .ok z := hz
    unfold mSwitch at hz
    obtain ⟨_, _, hz⟩ := bind_ok hz
    obtain ⟨_, _, hz⟩ := bind_ok hz
    obtain ⟨_, _, hz⟩ := bind_ok hz
    obtain ⟨_, _, hz⟩ := bind_ok hz
    rcases ite_ok (β := Unit) hz with ⟨_, hz⟩ | ⟨_, hz⟩
    · cases hz; rfl
    · obtain ⟨_, _, hz⟩ := bind_ok hz
      cases hz; rfl
  | 1, _, hz =>
    have hz : mLamp e T r = .ok z := hz
    unfold mLamp at hz
    obtain ⟨_, _, hz⟩ := bind_ok hz
    obtain ⟨_, _, hz⟩ := bind_ok hz
    cases hz; rfl
  | 2, _, hz =>
    have hz : mCoil e T r = .ok z := hz
    unfold mCoil at hz
    obtain ⟨_, _, hz⟩ := bind_ok hz
    obtain ⟨_, _, hz⟩ := bind_ok hz
    obtain ⟨_, _, hz⟩ := bind_ok hz
    obtain ⟨_, _, hz⟩ := bind_ok hz
    rcases ite_ok (β := Unit) hz with ⟨_, hz⟩ | ⟨_, hz⟩
    · cases hz; rfl
    · obtain ⟨_, _, hz⟩ := bind_ok hz
      obtain ⟨_, _, hz⟩ := bind_ok hz
      cases hz; rfl
  | 3, _, hz =>
    have hz : mDevice e at_ T r = .ok z := hz
    unfold mDevice at hz
    rcases ite_ok (β := Unit) hz with ⟨_, hz⟩ | ⟨_, hz⟩
    · cases hz
    obtain ⟨_, _, hz⟩ := bind_ok hz
    obtain ⟨_, _, hz⟩ := bind_ok hz
    obtain ⟨_, _, hz⟩ := bind_ok hz
    obtain ⟨_, _, hz⟩ := bind_ok hz
    obtain ⟨_, _, hz⟩ := bind_ok hz
    rcases ite_ok (β := Unit) hz with ⟨_, hz⟩ | ⟨_, hz⟩
    · cases hz; rfl
    · obtain ⟨_, _, hz⟩ := bind_ok hz
      cases hz; rfl
end
end Fb
set_option Elab.async false
set_option maxRecDepth 100000
set_option maxHeartbeats 400000
set_option linter.all false
namespace Fb
open PySem PySem.Spec PyProof.Rows L2 Fx Fm
theorem Fr.weak {M : List Addr} {H H' : Hp} (f : Fr [] H H') : Fr M H H' := ⟨fun b o e p => f b o e (by
  cases o with
  | lst xs => exact (fun z => by cases z)
  | _ => exact p), f.wl⟩
section
variable {P : Program} {w : World} {K : PySem.W.Frag} {mg : Str → Option Value} {base : Heap} {c : Cn}
theorem ok_read_board (T : Txt K mg c) : Has P w K mg base (CXF P w) 10 "read_board" ["text"] (spReadB K c) := by
  refine mkX T.d_read_board sc_read_board (fun _ _ _ _ _ _ us hl => match us, hl with | [_], _ => rfl) (fun vs H Q E h => ?_) (fun f cdv A outer s H vs Q E hr h => ?_)
  · obtain ⟨a, bs, rfl, _⟩ := h
    rfl
  · obtain ⟨a, bs, rfl, ht, hz, k⟩ := h
    refine ⟨_, pss_cons (ps_set (i := 1) sc_read_board.nd rfl (Or.inl rfl) (pe_fn (ok_read_line T) (hr.mono (by decide)) passX (pa_cons (pv 0) (pa_cons pe_int pa_nil))))
      (pss_cons (ps_set (i := 2) sc_read_board.nd rfl (Or.inl rfl) (pe_fn (ok_read_table_line T) (hr.mono (by decide)) passX (pa_cons (pv 1) pa_nil)))
      (pss_cons (ps_set (i := 3) sc_read_board.nd rfl (Or.inl rfl) pe_int)
      (pss_cons (ps_while PassesOwn.leaving (pt_cmpR op_lt (pe_op op_add (pe_fld (pv 1) rfl) pe_int) (pe_callB call_len_seq rfl T.b_len PySem.boot_len (pa_cons (pv 0) pa_nil)) (nomark _))
        (pss_cons (ps_set (i := 1) sc_read_board.nd rfl (Or.inl rfl) (pe_fn (ok_read_line T) (hr.mono (by decide)) passX (pa_cons (pv 0) (pa_cons (pe_op op_add (pe_fld (pv 1) rfl) pe_int) pa_nil))))
        (pss_one (ps_set (i := 3) sc_read_board.nd rfl (Or.inl rfl) (pe_fn (ok_read_part T) hr passX (pa_cons (pv 2) (pa_cons (pv 1) (pa_cons (pv 3) pa_nil))))))))
      (pss_cons (ps_expr (pe_fn (ok_check_drains T) (hr.mono (by decide)) passX (pa_cons (pv 2) (pa_cons (pe_callB call_len_seq rfl T.b_len PySem.boot_len (pa_cons (pv 0) pa_nil)) pa_nil))))
      (pss_one (ps_ret (pv 2))))))), ?_⟩
    rw [read_eq] at k
    refine ⟨_, rfl, a, bs, 0, rfl, ht, Nat.zero_le _, hz, Out.casesE k fun x ex kx H1 l s1 hl L1 hw1 => ?_⟩
    refine ⟨_, rfl, l, x.2, x.2, x.1, rfl, L1, Out.casesE kx fun Tb eT kT H2 θ hM f2 S2 L2 => ?_⟩
    obtain ⟨r2, L2⟩ := L2
    have hx := rdLine_ok (Nat.zero_le _) ex
    have e0 : Tb.devices = [] ∧ Tb.kicks = [] := by
      unfold mTable at eT
      obtain ⟨_, _, eT⟩ := bind_ok eT
      obtain ⟨_, _, eT⟩ := bind_ok eT
      obtain ⟨_, _, eT⟩ := bind_ok eT
      obtain ⟨_, _, eT⟩ := bind_ok eT
      cases eT
      exact ⟨rfl, rfl⟩
    have S2' : St c H2 θ Tb Tb.held (serve Tb) := by
      have g1 : Tb.held = [] := by unfold Tilt.Table.held; rw [e0.1]; rfl
      have g2 : serve Tb = [] := by unfold serve; rw [e0.1, e0.2]; rfl
      rw [g1, g2]
      exact S2
    refine ⟨fun m σ H' => ∃ (Tb : Tilt.Table) (sort ss e : Nat) (l : Addr) (r : List Tilt.Word), σ = [some (.ref a), some (.ref l), some (.ref θ.b), some (.int (sort : Int))] ∧ TxAt K H' a (bV bs) ∧ Fr [θ.dk] H H' ∧ St c H' θ Tb Tb.held (serve Tb) ∧ LnA c.Li H' l e r ∧ (sort ≤ 3 → Tb.kicks = []) ∧ sort ≤ 4 ∧ ((ss = 0 ∧ sort = 0) ∨ ss = sort + 1) ∧ bs.length - (e + 1) ≤ m ∧ Out c.F E (Tilt.linesIn Tilt.lineIn m (e + 1) (some ⟨ss, Tb⟩) (bs.drop (e + 1)) >>= fin bs) fun T => ∀ (H' : Hp) (θ : Ad), St c H' θ T T.held (serve T) → Fr [θ.dk] H H' → Q (.ref θ.b) H',
      ⟨bs.length, Tb, 0, 0, x.2, l, r2, rfl, (ht.same s1).fr f2, (Fr.of s1).trans f2.weak, S2', L2, fun _ => e0.2, by omega, .inl ⟨rfl, rfl⟩, by omega, kT⟩, ?_⟩
    rintro m σ H3 ⟨Tb, sort, ss, e, l, r, rfl, ht3, f3, S3, ⟨p3, L3⟩, hk3, hs3, hss, hm3, k3⟩
    obtain ⟨dx3, wl3, as3, ws3, t3, hl3, _⟩ := id L3
    refine ⟨_, rfl, rdF T.cLi hl3 (by decide +kernel) rfl ⟨_, _, rfl, rfl, _, rfl, a, _, rfl, .inl ht3.sq, _, _, rfl, rfl, _, rfl, ?_⟩⟩
    have hlt : decide ((e : Int) + 1 < ((bV bs).length : Int)) = decide (e + 1 < bs.length) := by
      rw [bV_len, Bool.eq_iff_iff, decide_eq_true_iff, decide_eq_true_iff]
      omega
    rw [hlt]
    by_cases h : e + 1 < bs.length
    · rw [decide_eq_true h]
      obtain ⟨m', rfl⟩ : ∃ m', m = m' + 1 := ⟨m - 1, by omega⟩
      rw [lines_step _ _ _ _ _ h] at k3
      obtain ⟨hn, sn, B3, O3⟩ := id S3
      have hD : (Tb.switches.map (·.name)).contains Tilt.DRAIN = false := by
        rw [← Bool.not_eq_true, List.contains_iff_mem]
        intro z
        obtain ⟨s', hs', e'⟩ := List.mem_map.mp z
        exact (O3.swM s' hs').2 e'
      have hL : (Tb.lamps.map (·.name)).contains Tilt.LOOP = false := by
        rw [← Bool.not_eq_true, List.contains_iff_mem]
        intro z
        obtain ⟨s', hs', e'⟩ := List.mem_map.mp z
        exact (O3.laM s' hs').2 e'
      simp only [line_eq _ hss hD hL hk3 O3.de O3.ki, bind_assoc, pure_bind] at k3
      refine iteT ⟨fun σ' H' => _, fun σ' H' hN => ⟨m', Nat.lt_succ_self _, hN⟩, ?_⟩
      refine ⟨_, rfl, _, rfl, rdF T.cLi hl3 (by decide +kernel) rfl ⟨_, _, rfl, rfl, a, bs, e + 1, ?_, ht3, by omega, hz, Out.casesE k3 fun x ex kx H4 l4 s4 hl4 L4 hw4 => ?_⟩⟩
      · rfl
      have S4 := S3.same s4
      obtain ⟨wl4, hw4, hwn⟩ := hw4
      obtain ⟨kxs, hdk⟩ := S3.dkl
      have hx := rdLine_ok (Nat.le_of_lt h) ex
      refine ⟨_, rfl, _, rfl, _, rfl, θ, l4, x.2, x.2, sort, x.1, Tb, rfl, hk3, hs3, hM, S4, L4, ⟨wl4, hw4, Ne.symm (ne_of_none hdk hwn)⟩, Out.casesE kx fun y ey ky H5 f5 S5 L5 => ?_⟩
      obtain ⟨r5, L5⟩ := L5
      obtain ⟨q1, q2, q3⟩ := part_kicks ey
      exact ⟨y.2, y.1, y.1 + 1, x.2, l4, r5, rfl, (ht3.same s4).fr f5, (f3.trans (Fr.of s4)).trans f5, S5, L5, fun z => (q3 z).trans (hk3 (by omega)), q1, .inr rfl, by omega, ky⟩
    · rw [decide_eq_false h]
      rw [lines_end _ _ _ _ _ (by omega)] at k3
      refine iteF ⟨_, rfl, _, rfl, a, _, rfl, .inl ht3.sq, θ, bs.length, Tb, _, _, ?_, S3, ?_⟩
      · rw [bV_len]
        rfl
      · have k3 : Out c.F E (if Tb.balls ≤ Tb.room then (.ok Tb : Except Tilt.Fault Tilt.Table) else .error ⟨8, bs.length⟩) _ := k3
        by_cases z : Tb.balls ≤ Tb.room
        · rw [if_pos z] at k3 ⊢
          exact fun H' s' => ⟨_, rfl, k3 H' θ (S3.same s') (f3.trans (Fr.of s'))⟩
        · rw [if_neg z] at k3 ⊢
          exact k3
end
end Fb
set_option Elab.async false
set_option maxRecDepth 100000
set_option maxHeartbeats 400000
set_option linter.all false
namespace Fb
open PySem PySem.Spec PyProof.Rows L2 Fx Fm
structure TJ (mg : Str → Option Value) : Prop where
  g_MOST_BYTES : GI mg "MOST_BYTES" 16384
  g_TOO_LONG : GI mg "TOO_LONG" (-2)
  g_FAULTY : GI mg "FAULTY" (-6)
/-- what ends with a list of numbers or an exception of a plain class -/
def OutX (E : XK) (r : Except Addr (List Int)) (k : List Int → Prop) : Prop := match r with
  | .ok l => k l
  | .error C => ∀ H' : Hp, E (.ref C) none H'
abbrev GX := Tilt.Table → Except Addr (List Int)
def answeredX (g : GX) (bs : Tilt.Bytes) : Except Addr (List Int) := if 16384 < bs.length then .ok [-2] else match Tilt.readTable bs with
  | .error _ => .ok [-6]
  | .ok T => (g T).map (0 :: ·)
/-- the exceptions of the reading -/
def EB (c : Cn) (bs : Tilt.Bytes) : XK := fun cv d H => cv = .ref c.F ∧ ∃ e, Tilt.readTable bs = .error e
def spTellX (c : Cn) (pre : Hp → Prop) (g : GX) : Sp := fun vs H Q E => ∃ (θ : Ad) (T : Tilt.Table), vs = [.ref θ.b] ∧ St c H θ T T.held (serve T) ∧ (∃ b, Tilt.readTable b = .ok T) ∧ pre H ∧ OutX E (g T) fun l => ∀ (H' : Hp) (p : Addr), Same H H' → H' p = some (.lst (l.map V.int)) → l.length ≤ 100000 → Q (.ref p) H'
def spAnswerX (K : PySem.W.Frag) (f : Addr) (pre : Hp → Prop) (g : GX) : Sp := fun vs H Q E => ∃ (a : Addr) (bs : Tilt.Bytes), vs = [.ref a, .ref f] ∧ TxAt K H a (bV bs) ∧ bs.length ≤ 20000 ∧ pre H ∧ OutX E (answeredX g bs) fun l => ∀ (H' : Hp) (p : Addr), H' p = some (.lst (l.map V.int)) → Q (.ref p) H'
/-- a call of what a name holds, a function that the base knows -/
theorem pe_callF {X : Cx} {CX : CXT} {k : Nat} {f : Addr} {o : Obj} {fd : FuncData} {ps : List Str} {sp : Sp} {E : XK} {x : Str} {p pos : Pos} {e : Expr} {es : List Expr} {tf : TE} {t : TA} (F : FnOk X.prog X.w X.K X.mg X.base CX k f fd ps sp) (hr : Room k X.A) (hf : X.base.get? f = some o) (hd : o.data = .func fd) (hb : Binds X.K fd ps []) (hx : Passes CX X E) (hn : PE X (.Name x p) tf)
    (ha : PA X (e :: es) t) (he : starEach (e :: es) X.env = (false, eval e X.env) :: starEach es X.env := by rfl) (hpl : (backTo pos (starEach es X.env)).any (·.1) = false := by rfl) : PE X (.Call (.Name x p) (e :: es) [] pos) (tCallV f tf sp E t) := by
  intro pins s σ H Q I h
  refine wpAny_Call_Name_kw (thn (hn pins s σ H _ I h) fun u s1 ⟨v, H1, I1, rv, ev, q⟩ => ?_)
  subst ev
  obtain rfl : u = Value.ref f := rv
  obtain ⟨oc, od, odt, osl⟩ := o
  have hd' : odt = .func fd := hd
  subst hd'
  rw [he]
  refine PySem.W.callWith_of (P := fun h => h.get? f = some ⟨oc, od, .func fd, osl⟩) (by show ((false || (backTo pos (starEach es X.env)).any (·.1)) || false) = false; rw [hpl]; rfl) (fun h g => ⟨.frame, .inl rfl, (PySem.W.Looks.ld (part := none) g).andThen .now⟩) (Calls.evalArgs_plain ?_)
  have ha' := ha pos pins s1 σ H1 _ I1 q
  rw [he] at ha'
  exact thn ha' fun us s2 ⟨vs, H2, I2, r, q2⟩ => ⟨I2.bk _ _ hf, run_fn F hr hb .nil hx I2 r (by rw [List.append_nil]; exact q2)⟩
section
variable {P : Program} {w : World} {K : PySem.W.Frag} {mg : Str → Option Value} {base : Heap} {c : Cn}
theorem sc_answer : FnScope ["text", "tell", "board"] ["text", "tell"] (defScope s_answer) := ⟨rfl, rfl, rfl, by decide +kernel, rfl, by decide +kernel, by decide +kernel⟩
theorem len_answerX {f : Addr} {pre : Hp → Prop} {g : GX} : ∀ vs H Q E, spAnswerX K f pre g vs H Q E → vs.length = (["text", "tell"] : List Str).length := fun vs H Q E h => by
  obtain ⟨a, bs, rfl, _⟩ := h
  rfl
theorem body_answerX (T : Txt K mg c) (J : TJ mg) {f0 : Addr} {o : Obj} {fd : FuncData} {pre : Hp → Prop} {g : GX} (hp1 : ∀ H H' dk, Fr dk H H' → pre H → pre H') (F : FnOk P w K mg base (CXF P w) 5 f0 fd ["board"] (spTellX c pre g)) (hf : base.get? f0 = some o) (hd : o.data = .func fd) (hb : Binds K fd ["board"] []) :
    BodyX P w K mg base "answer" s_answer ["text", "tell", "board"] 10 (spAnswerX K f0 pre g) := by
  intro f cdv A outer s H vs Q E hr h
  obtain ⟨a, bs, rfl, ht, hz, hpre, k⟩ := h
  refine ⟨_, pss_cons (ps_if (pt_cmpR op_gt (pe_callB call_len_seq rfl T.b_len PySem.boot_len (pa_cons (pv 0) pa_nil)) (pe_gi J.g_MOST_BYTES) (nomark _)) (pss_one (ps_ret (pe_lst (pa_cons (pe_gi J.g_TOO_LONG) pa_nil)))) pss_nil)
      (pss_cons (ps_try0 (EB := EB c bs) (th := tRet (tLst (tCons (tC (.int (-6))) tNil))) rfl rfl T.xF rfl T.mF (fun _ _ _ z => z.1)
        (fun E' p' hX => pss_one (ps_set (i := 2) sc_answer.nd rfl (Or.inl rfl) (pe_fn (ok_read_board T) hr (passes hX rfl) (pa_cons (pv 0) pa_nil))))
        (fun a E' => pss_one (ps_ret (pe_lst (pa_cons (pe_gi J.g_FAULTY) pa_nil)))))
      (pss_one (ps_ret (pe_op op_cat (pe_lst (pa_cons pe_int pa_nil)) (pe_callF F (hr.mono (by decide)) hf hd hb passX (pv 1) (pa_cons (pv 2) pa_nil)))))), ?_⟩
  unfold answeredX at k
  refine ⟨_, rfl, a, _, rfl, .inl ht.sq, _, _, rfl, rfl, _, rfl, ?_⟩
  rw [bV_len]
  by_cases h : 16384 < bs.length
  · rw [if_pos h] at k
    rw [decide_eq_true (show (16384 : Int) < (bs.length : Int) by omega)]
    exact iteT ⟨by show 1 ≤ sizeLine; decide, fun p hp => k _ p upd_same⟩
  · rw [if_neg h] at k
    rw [decide_eq_false (show ¬ (16384 : Int) < (bs.length : Int) by omega)]
    refine iteF ⟨⟨_, rfl, a, bs, rfl, ht, hz, ?_⟩, fun σ' H' b dx ea ⟨_, e, he⟩ => ?_⟩
    · unfold Out
      cases he : Tilt.readTable bs with
      | error e => exact fun H' dx hx => ⟨rfl, e, he⟩
      | ok Tb =>
        intro H' θ S' f'
        rw [he] at k
        refine ⟨by show 1 ≤ sizeLine; decide, fun l hl => ⟨_, rfl, rfl, _, rfl, θ, Tb, rfl, S'.same (same_upd hl), ⟨bs, he⟩, hp1 _ _ [] (Fr.of (same_upd hl)) (hp1 _ _ _ f' hpre), ?_⟩⟩
        unfold OutX at k ⊢
        dsimp only at k ⊢
        cases hg : g Tb with
        | error C =>
          rw [hg] at k
          exact k
        | ok gl =>
          rw [hg] at k
          intro H2 p s2 hp hgl
          refine ⟨l, p, _, _, rfl, rfl, s2 _ _ upd_same, hp, ?_, fun q hq => k _ q ?_⟩
          · rw [List.length_map, sizeLine_eq]
            show 1 + gl.length ≤ _
            omega
          · rw [upd_same]
            rfl
    · rw [he] at k
      exact ⟨by show 1 ≤ sizeLine; decide, fun p hp => k _ p upd_same⟩
end
end Fb
set_option Elab.async false
set_option maxRecDepth 100000
set_option maxHeartbeats 400000
set_option linter.all false
namespace Fb
/-! ### masks and rising places -/
theorem mask_fold (x : Nat) : ∀ (l : List Nat) (acc : Nat), (l.foldl (fun (n p : Nat) => n ||| 2 ^ p) acc).testBit x = (acc.testBit x || decide (x ∈ l))
  | [], acc => by simp
  | p :: l, acc => by
    rw [List.foldl_cons, mask_fold x l, Nat.testBit_or, Nat.testBit_two_pow, Bool.or_assoc]
    congr 1
    by_cases h : p = x
    · subst h; simp
    · have h' : ¬ x = p := fun z => h z.symm
      simp [h, h']
theorem mask_bit (l : List Nat) (x : Nat) : (Tilt.maskOf l).testBit x = decide (x ∈ l) := by
  unfold Tilt.maskOf
  rw [mask_fold]
  simp
theorem sorted_eq : ∀ {a b : List Nat}, a.Pairwise (· < ·) → b.Pairwise (· < ·) → (∀ x, x ∈ a ↔ x ∈ b) → a = b
  | [], [], _, _, _ => rfl
  | [], y :: b, _, _, h => absurd ((h y).mpr (List.mem_cons_self ..)) (by simp)
  | x :: a, [], _, _, h => absurd ((h x).mp (List.mem_cons_self ..)) (by simp)
  | x :: a, y :: b, h1, h2, h => by
    obtain ⟨p1, q1⟩ := List.pairwise_cons.mp h1
    obtain ⟨p2, q2⟩ := List.pairwise_cons.mp h2
    have e : x = y := by
      rcases List.mem_cons.mp ((h x).mp (List.mem_cons_self ..)) with z | z
      · exact z
      · rcases List.mem_cons.mp ((h y).mpr (List.mem_cons_self ..)) with z' | z'
        · exact z'.symm
        · have := p2 x z
          have := p1 y z'
          omega
    subst e
    rw [sorted_eq q1 q2 fun z => ?_]
    constructor
    · intro hz
      rcases List.mem_cons.mp ((h z).mp (List.mem_cons_of_mem _ hz)) with e | e
      · have := p1 z hz; omega
      · exact e
    · intro hz
      rcases List.mem_cons.mp ((h z).mpr (List.mem_cons_of_mem _ hz)) with e | e
      · have := p2 z hz; omega
      · exact e
theorem range_mask {l : List Nat} {n : Nat} (h : l.Pairwise (· < ·)) (hn : ∀ x ∈ l, x < n) : (List.range n).filter (Tilt.maskOf l).testBit = l := by
  refine sorted_eq (List.Pairwise.filter _ List.pairwise_lt_range) h fun x => ?_
  rw [List.mem_filter, List.mem_range, mask_bit, decide_eq_true_iff]
  exact ⟨fun z => z.2, fun z => ⟨hn x z, z⟩⟩
theorem range_held {l m : List Nat} {n : Nat} (h : l.Pairwise (· < ·)) (hn : ∀ x ∈ l, x < n) (hm : ∀ x ∈ m, x ∈ l) : (List.range n).filter (Tilt.maskOf m).testBit = l.filter (m.contains ·) := by
  refine sorted_eq (List.Pairwise.filter _ List.pairwise_lt_range) (List.Pairwise.filter _ h) fun x => ?_
  rw [List.mem_filter, List.mem_filter, List.mem_range, mask_bit, decide_eq_true_iff, List.contains_iff_mem]
  exact ⟨fun z => ⟨hm x z.2, z.2⟩, fun z => ⟨hn x z.1, z.2⟩⟩
/-! ### first switches of kicks rise -/
theorem ite_okk {α : Type} {p : Prop} [Decidable p] {a b : Except Tilt.Fault α} {y : α} (h : (if p then a else b) = .ok y) : (p ∧ a = .ok y) ∨ (¬ p ∧ b = .ok y) := by
  by_cases z : p
  · rw [if_pos z] at h; exact .inl ⟨z, h⟩
  · rw [if_neg z] at h; exact .inr ⟨z, h⟩
def KUp (T : Tilt.Table) : Prop := (T.kicks.map (·.first)).Pairwise (· < ·) ∧ (∀ k ∈ T.kicks, k.first < 64) ∧ ∀ s ∈ T.switches, s.place < 64
theorem holds_ok {b : Bool} {k p : Nat} {u : Unit} (h : Tilt.holds b k p = .ok u) : b = true := by
  unfold Tilt.holds at h
  split at h
  · assumption
  · cases h
theorem num_le {e lo hi : Nat} {l : List Tilt.Word} {x : (Nat × Nat) × List Tilt.Word} (h : Tilt.number e lo hi l = .ok x) : x.1.1 ≤ hi := by
  unfold Tilt.number at h
  obtain ⟨y, hy, h⟩ := bind_ok h
  cases hm : Tilt.numberOf y.1.w with
  | none => rw [hm] at h; cases h
  | some m =>
    rw [hm] at h
    rcases ite_okk h with ⟨_, h⟩ | ⟨z, h⟩
    · cases h
    · cases h
      show m ≤ hi
      omega
theorem place_le {e hi : Nat} {had : List Nat} {l : List Tilt.Word} {x : Nat × List Tilt.Word} (h : Tilt.place e hi had l = .ok x) : x.1 ≤ hi := by
  unfold Tilt.place at h
  obtain ⟨y, hy, h⟩ := bind_ok h
  obtain ⟨z, hz, h⟩ := bind_ok h
  cases h
  exact num_le hy
theorem kup_switch {e : Nat} {T T' : Tilt.Table} {l : List Tilt.Word} (h : Tilt.switchIn e T l = .ok T') (k : KUp T) : KUp T' := by
  unfold Tilt.switchIn at h
  obtain ⟨_, _, h⟩ := bind_ok h
  obtain ⟨_, _, h⟩ := bind_ok h
  obtain ⟨_, _, h⟩ := bind_ok h
  obtain ⟨p, hp, h⟩ := bind_ok h
  obtain ⟨_, _, h⟩ := bind_ok h
  obtain ⟨_, _, h⟩ := bind_ok h
  obtain ⟨_, _, h⟩ := bind_ok h
  obtain ⟨_, _, h⟩ := bind_ok h
  have hp' := place_le hp
  have fin : ∀ s : Tilt.Switch, s.place = p.1 → KUp { T with switches := T.switches ++ [s] } := fun s es => ⟨k.1, k.2.1, fun x hx => by
    rcases List.mem_append.mp hx with z | z
    · exact k.2.2 x z
    · rw [List.mem_singleton.mp z, es]; omega⟩
  rcases ite_okk h with ⟨_, h⟩ | ⟨_, h⟩
  · cases h
    exact fin _ rfl
  · obtain ⟨_, _, h⟩ := bind_ok h
    obtain ⟨_, _, h⟩ := bind_ok h
    cases h
    exact fin _ rfl
theorem kup_lamp {e : Nat} {T T' : Tilt.Table} {l : List Tilt.Word} (h : Tilt.lampIn e T l = .ok T') (k : KUp T) : KUp T' := by
  unfold Tilt.lampIn at h
  obtain ⟨_, _, h⟩ := bind_ok h
  obtain ⟨_, _, h⟩ := bind_ok h
  obtain ⟨_, _, h⟩ := bind_ok h
  obtain ⟨_, _, h⟩ := bind_ok h
  obtain ⟨_, _, h⟩ := bind_ok h
  cases h
  exact k
theorem kup_coil {e : Nat} {T T' : Tilt.Table} {l : List Tilt.Word} (h : Tilt.coilIn e T l = .ok T') (k : KUp T) : KUp T' := by
  unfold Tilt.coilIn at h
  obtain ⟨_, _, h⟩ := bind_ok h
  obtain ⟨_, _, h⟩ := bind_ok h
  obtain ⟨_, _, h⟩ := bind_ok h
  obtain ⟨_, _, h⟩ := bind_ok h
  obtain ⟨_, _, h⟩ := bind_ok h
  obtain ⟨_, _, h⟩ := bind_ok h
  obtain ⟨_, _, h⟩ := bind_ok h
  rcases ite_okk h with ⟨_, h⟩ | ⟨_, h⟩
  · cases h
    exact k
  · obtain ⟨_, _, h⟩ := bind_ok h
    obtain ⟨_, _, h⟩ := bind_ok h
    obtain ⟨_, _, h⟩ := bind_ok h
    cases h
    exact k
theorem kup_device {e : Nat} {T T' : Tilt.Table} {l : List Tilt.Word} (h : Tilt.deviceIn e T l = .ok T') (k : KUp T) : KUp T' := by
  unfold Tilt.deviceIn at h
  obtain ⟨_, _, h⟩ := bind_ok h
  obtain ⟨_, _, h⟩ := bind_ok h
  obtain ⟨_, _, h⟩ := bind_ok h
  obtain ⟨_, _, h⟩ := bind_ok h
  obtain ⟨_, _, h⟩ := bind_ok h
  obtain ⟨_, _, h⟩ := bind_ok h
  cases h
  exact k
theorem kup_kick {e : Nat} {T T' : Tilt.Table} {l : List Tilt.Word} (h : Tilt.kickIn e T l = .ok T') (k : KUp T) : KUp T' := by
  unfold Tilt.kickIn at h
  obtain ⟨s, _, h⟩ := bind_ok h
  dsimp only at h
  obtain ⟨_, h1, h⟩ := bind_ok h
  obtain ⟨_, _, h⟩ := bind_ok h
  obtain ⟨_, _, h⟩ := bind_ok h
  obtain ⟨_, _, h⟩ := bind_ok h
  obtain ⟨_, _, h⟩ := bind_ok h
  obtain ⟨_, _, h⟩ := bind_ok h
  obtain ⟨_, _, h⟩ := bind_ok h
  have h1 := List.all_eq_true.mp (holds_ok h1)
  have hlt : ((T.switches[s.1.1]?).map fun (s : Tilt.Switch) => s.place).getD 0 < 64 := by
    cases e : T.switches[s.1.1]? with
    | none => show 0 < 64; decide
    | some x => exact k.2.2 x (List.mem_of_getElem? e)
  have fin : ∀ z : Tilt.Kick, z.first = ((T.switches[s.1.1]?).map fun (s : Tilt.Switch) => s.place).getD 0 → KUp { T with kicks := T.kicks ++ [z] } := fun z ez => by
    refine ⟨?_, fun x hx => ?_, k.2.2⟩
    · show ((T.kicks ++ [z]).map (·.first)).Pairwise (· < ·)
      rw [List.map_append]
      refine List.pairwise_append.mpr ⟨k.1, by simp, fun a ha b hb => ?_⟩
      obtain ⟨x, hx, rfl⟩ := List.mem_map.mp ha
      have eb : b = z.first := by simpa using hb
      rw [eb, ez]
      exact of_decide_eq_true (h1 x hx)
    · rcases List.mem_append.mp hx with z' | z'
      · exact k.2.1 x z'
      · rw [List.mem_singleton.mp z', ez]; exact hlt
  rcases ite_okk h with ⟨_, h⟩ | ⟨_, h⟩
  · cases h
    exact fin _ rfl
  · obtain ⟨_, _, h⟩ := bind_ok h
    obtain ⟨_, _, h⟩ := bind_ok h
    obtain ⟨_, _, h⟩ := bind_ok h
    obtain ⟨_, _, h⟩ := bind_ok h
    cases h
    exact fin _ rfl
def KO (h : Option Tilt.Had) : Prop := ∀ y, h = some y → KUp y.T
theorem kup_line {h h' : Option Tilt.Had} {x : Tilt.Line} (e : Tilt.lineIn h x = .ok h') (k : KO h) : KO h' := by
  unfold Tilt.lineIn at e
  obtain ⟨w, _, e⟩ := bind_ok e
  cases h with
  | none =>
    dsimp only at e
    rcases ite_okk e with ⟨_, e⟩ | ⟨_, e⟩
    · obtain ⟨T, hT, e⟩ := bind_ok e
      cases e
      intro y ey
      cases ey
      unfold Tilt.firstIn at hT
      obtain ⟨_, _, hT⟩ := bind_ok hT
      obtain ⟨_, _, hT⟩ := bind_ok hT
      obtain ⟨_, _, hT⟩ := bind_ok hT
      obtain ⟨_, _, hT⟩ := bind_ok hT
      cases hT
      exact ⟨by simp [Tilt.noTable], by simp [Tilt.noTable], by simp [Tilt.noTable]⟩
    · cases e
  | some y =>
    dsimp only at e
    rcases ite_okk e with ⟨_, e⟩ | ⟨_, e⟩
    · cases e
    · have ky := k y rfl
      have fin : ∀ {n : Nat} {r : Except Tilt.Fault Tilt.Table}, (do let T ← r; pure (some (⟨n, T⟩ : Tilt.Had))) = .ok h' → (∀ T, r = .ok T → KUp T) → KO h' := fun {n r} e f => by
        obtain ⟨T, hT, e⟩ := bind_ok e
        cases e
        intro z ez
        cases ez
        exact f T hT
      rcases ite_okk e with ⟨_, e⟩ | ⟨_, e⟩
      · exact fin e fun T hT => kup_switch hT ky
      rcases ite_okk e with ⟨_, e⟩ | ⟨_, e⟩
      · exact fin e fun T hT => kup_lamp hT ky
      rcases ite_okk e with ⟨_, e⟩ | ⟨_, e⟩
      · exact fin e fun T hT => kup_coil hT ky
      rcases ite_okk e with ⟨_, e⟩ | ⟨_, e⟩
      · exact fin e fun T hT => kup_device hT ky
      · exact fin e fun T hT => kup_kick hT ky
theorem kup_lines : ∀ (n at_ : Nat) (h h' : Option Tilt.Had) (b : Tilt.Bytes), Tilt.linesIn Tilt.lineIn n at_ h b = .ok h' → KO h → KO h'
  | 0, at_, h, h', b, e, k => by
    unfold Tilt.linesIn at e
    first | (cases e; exact k) | (split at e <;> first | (cases e; exact k) | cases e)
  | n + 1, at_, h, h', b, e, k => by
    unfold Tilt.linesIn at e
    rcases ite_okk e with ⟨_, e⟩ | ⟨_, e⟩
    · cases e
      exact k
    · split at e
      · cases e
      · split at e
        · cases e
        · split at e
          · cases e
          · rename_i t ht
            exact kup_lines n _ _ _ _ e (kup_line ht k)
theorem kup_read {bs : Tilt.Bytes} {T : Tilt.Table} (h : Tilt.readTable bs = .ok T) : KUp T := by
  unfold Tilt.readTable at h
  split at h
  · cases h
  · cases h
  · rename_i y hy
    split at h
    · cases h
      exact kup_lines _ _ _ _ _ hy (fun y z => by cases z) y rfl
    · cases h
end Fb
set_option Elab.async false
set_option maxRecDepth 100000
set_option maxHeartbeats 400000
set_option linter.all false
namespace Fb
open PySem PySem.Spec PyProof.Rows L2 Fx Fm
/-- what choosing asks of the text -/
structure TP (K : PySem.W.Frag) (mg : Str → Option Value) (NC NN : Addr) : Prop where
  xc : XCls0 K NC NN
  mc : mg "NoSuchChoice" = some (.ref NC)
  g0 : GI mg "ALL_SWITCHES" 0
  g1 : GI mg "TURNED_SWITCHES" 1
  g2 : GI mg "ALL_LAMPS" 2
  g3 : GI mg "ALL_COILS" 3
  g4 : GI mg "HELD_SWITCHES" 4
  g5 : GI mg "KICKING_SWITCHES" 5
  g6 : GI mg "HOLDING_COILS" 6
  bl : mg "list" = none
def PtAt (K : PySem.W.Frag) (H : Hp) (a : Addr) (p : Nat) : Prop := ∃ (C dx : Addr) (fs : List (Str × V)), H a = some (.ins C dx fs) ∧ Cls K C ∧ NoAttr K C "place" ∧ fs.lookup ("place" : Str) = some (V.int (p : Int))
def PsAt (K : PySem.W.Frag) (H : Hp) (as : List Addr) (ps : List Nat) : Prop := as.length = ps.length ∧ ∀ (i : Nat) (a : Addr) (p : Nat), as[i]? = some a → ps[i]? = some p → PtAt K H a p
def placesL (T : Tilt.Table) (what : Nat) : List Nat := match what with
  | 0 => T.switches.map (·.place)
  | 1 => (T.switches.filter (·.turned)).map (·.place)
  | 2 => T.lamps.map (·.place)
  | 3 => T.coils.map (·.place)
  | 4 => (T.switches.filter fun s => T.held.contains s.place).map (·.place)
  | 5 => T.kicks.map (·.first)
  | _ => (T.coils.filter fun s => s.hold != 0).map (·.place)
def spChosen (K : PySem.W.Frag) (c : Cn) (NC : Addr) : Sp := fun vs H Q E => ∃ (θ : Ad) (T : Tilt.Table) (wh : Nat), vs = [.ref θ.b, .int (wh : Int)] ∧ St c H θ T T.held (serve T) ∧
  if 6 < wh then ∀ H' : Hp, E (.ref NC) none H' else ∀ (H' : Hp) (l : Addr) (as : List Addr), Same H H' → H' l = some (.lst (as.map V.ref)) → PsAt K H' as (placesL T wh) → Q (.ref l) H'
theorem vne {a b : Int} (h : a ≠ b) : ¬ V.int a = V.int b := fun z => h (V.int.inj z)
theorem in_lockZ {H H' : Hp} {d a : Addr} {od : Obj} {kv : List (List Key × V)} {o : HO} (hd : H d = some (.dT kv)) (kp : ∀ b o, upd H d (.frz od (.dT kv)) b = some o → H' b = some o) (h : H a = some o) (n : ∀ kv, o ≠ .dT kv) : H' a = some o := kp _ _ (by
  rw [upd_ne fun z => ?_]
  · exact h
  · subst z
    rw [hd] at h
    cases h
    exact n _ rfl)
theorem PtAt.same {K : PySem.W.Frag} {H H' : Hp} {a : Addr} {p : Nat} (h : PtAt K H a p) (s : Same H H') : PtAt K H' a p := let ⟨C, dx, fs, e, r⟩ := h; ⟨C, dx, fs, s _ _ e, r⟩
theorem PsAt.same {K : PySem.W.Frag} {H H' : Hp} {as : List Addr} {ps : List Nat} (h : PsAt K H as ps) (s : Same H H') : PsAt K H' as ps := ⟨h.1, fun i a p h1 h2 => (h.2 i a p h1 h2).same s⟩
theorem PsAt.nil {K : PySem.W.Frag} {H : Hp} : PsAt K H [] [] := ⟨rfl, fun i a p h _ => by simp at h⟩
theorem PsAt.snoc {K : PySem.W.Frag} {H : Hp} {as : List Addr} {ps : List Nat} {a : Addr} {p : Nat} (h : PsAt K H as ps) (h1 : PtAt K H a p) : PsAt K H (as ++ [a]) (ps ++ [p]) := by
  refine ⟨by rw [List.length_append, List.length_append, h.1]; rfl, fun i b q e1 e2 => ?_⟩
  by_cases z : i < as.length
  · rw [List.getElem?_append_left z] at e1
    rw [List.getElem?_append_left (by rw [← h.1]; exact z)] at e2
    exact h.2 i b q e1 e2
  · rw [List.getElem?_append_right (by omega)] at e1
    rw [List.getElem?_append_right (by rw [← h.1]; omega)] at e2
    rw [← h.1] at e2
    have i0 : i - as.length = 0 := by
      cases hi : i - as.length with
      | zero => rfl
      | succ n => rw [hi] at e1; simp at e1
    rw [i0] at e1 e2
    cases e1
    cases e2
    exact h1
theorem kvs_snd {α : Type} {nm : α → Tilt.Bytes} : ∀ {as : List Addr} {xs : List α}, as.length = xs.length → (kvs nm as xs).map (·.2) = as.map V.ref
  | [], [], _ => rfl
  | [], _ :: _, h => by simp at h
  | _ :: _, [], h => by simp at h
  | a :: as, x :: xs, h => by
    show V.ref a :: (kvs nm as xs).map (·.2) = V.ref a :: as.map V.ref
    rw [kvs_snd (by simpa using h)]
theorem PsAt.of {K : PySem.W.Frag} {H : Hp} {α : Type} {f : α → Nat} {R : Addr → α → Prop} {as : List Addr} {xs : List α} (hl : as.length = xs.length) (el : ∀ (i : Nat) (a : Addr) (x : α), as[i]? = some a → xs[i]? = some x → R a x) (hp : ∀ a x, R a x → PtAt K H a (f x)) : PsAt K H as (xs.map f) := by
  refine ⟨by rw [List.length_map]; exact hl, fun i a p h1 h2 => ?_⟩
  rw [List.getElem?_map] at h2
  cases e : xs[i]? with
  | none => rw [e] at h2; cases h2
  | some x =>
    rw [e] at h2
    cases h2
    exact hp a x (el i a x h1 e)
theorem filt_snoc {α : Type} {p : α → Bool} {f : α → Nat} {xs : List α} {i : Nat} {x : α} (h : xs[i]? = some x) : ((xs.take (i + 1)).filter p).map f = if p x = true then ((xs.take i).filter p).map f ++ [f x] else ((xs.take i).filter p).map f := by
  rw [take_snoc h, List.filter_append, List.map_append]
  by_cases z : p x = true
  · rw [if_pos z]; simp [List.filter_cons, z]
  · rw [if_neg z]; simp [List.filter_cons, z]
section
variable {P : Program} {w : World} {K : PySem.W.Frag} {mg : Str → Option Value} {base : Heap} {c : Cn} {NC NN : Addr}
theorem sw_pt (T : Txt K mg c) {H : Hp} {a : Addr} {s : Tilt.Switch} (h : SwAt c H a s) : PtAt K H a s.place := let ⟨dx, _, e, _⟩ := h; ⟨c.S, dx, _, e, T.cS.cl, T.cS.no _ (by decide +kernel), rfl⟩
theorem la_pt (T : Txt K mg c) {H : Hp} {a : Addr} {s : Tilt.Lamp} (h : LaAt c H a s) : PtAt K H a s.place := let ⟨dx, _, e, _⟩ := h; ⟨c.L, dx, _, e, T.cL.cl, T.cL.no _ (by decide +kernel), rfl⟩
theorem co_pt (T : Txt K mg c) {H : Hp} {a : Addr} {s : Tilt.Coil} (h : CoAt c H a s) : PtAt K H a s.place := let ⟨dx, _, e, _⟩ := h; ⟨c.C, dx, _, e, T.cC.cl, T.cC.no _ (by decide +kernel), rfl⟩
theorem sc_chosen : FnScope ["board", "what", "switch", "kick", "coil"] ["board", "what"] (defScope s_chosen_parts) := ⟨rfl, rfl, rfl, by decide +kernel, rfl, by decide +kernel, by decide +kernel⟩
theorem ok_chosen (T : Txt K mg c) (TC : TP K mg NC NN) (D : DefAt K mg "chosen_parts" s_chosen_parts) : Has P w K mg base (CXF P w) 2 "chosen_parts" ["board", "what"] (spChosen K c NC) := by
  refine mkX D sc_chosen (fun _ _ _ _ _ _ us hl => match us, hl with | [_, _], _ => rfl) (fun vs H Q E h => ?_) (fun f cdv A outer s H vs Q E hr h => ?_)
  · obtain ⟨θ, Tb, wh, rfl, _⟩ := h
    rfl
  · obtain ⟨θ, Tb, wh, rfl, ⟨hn, sn, B, O⟩, k⟩ := h
    refine ⟨_, pss_cons (ps_if (pt_cmpR op_eq (pv 1) (pe_gi TC.g0) (nomark _)) (pss_one (ps_ret (pe_lvals rfl TC.bl (pe_fld (pv 0) rfl)))) pss_nil)
      (pss_cons (ps_if (pt_cmpR op_eq (pv 1) (pe_gi TC.g1) (nomark _)) (pss_one (ps_ret (pe_lock (pe_lc (tt := tB (tFld K (tVar 2) "turned")) (te := tVar 2) rfl sc_chosen.nd (pi_valuesT (pe_fld (pv 0) rfl)) (blkOk_by (own := [("switch", 2)]) (by rfl)) (fun s H C cl fp => pg_name (i := 2) sc_chosen.nd rfl (Or.inl rfl)) (fun _ _ _ _ _ => pts_one (pt_val (pe_fld (pv 2) rfl))) (fun _ _ _ _ _ => pv 2))))) pss_nil)
      (pss_cons (ps_if (pt_cmpR op_eq (pv 1) (pe_gi TC.g2) (nomark _)) (pss_one (ps_ret (pe_lvals rfl TC.bl (pe_fld (pv 0) rfl)))) pss_nil)
      (pss_cons (ps_if (pt_cmpR op_eq (pv 1) (pe_gi TC.g3) (nomark _)) (pss_one (ps_ret (pe_lvals rfl TC.bl (pe_fld (pv 0) rfl)))) pss_nil)
      (pss_cons (ps_if (pt_cmpR op_eq (pv 1) (pe_gi TC.g4) (nomark _)) (pss_one (ps_ret (pe_lock (pe_lc (tt := tB (tDIn (tFld K (tVar 2) "name") (tFld K (tVar 0) "held"))) (te := tVar 2) rfl sc_chosen.nd (pi_valuesT (pe_fld (pv 0) rfl)) (blkOk_by (own := [("switch", 2)]) (by rfl)) (fun s H C cl fp => pg_name (i := 2) sc_chosen.nd rfl (Or.inl rfl)) (fun _ _ _ _ _ => pts_one (pt_cmp (pc_din (hu_of hr) (pe_fld (pv 2) rfl) (pe_fld (pv 0) rfl)))) (fun _ _ _ _ _ => pv 2))))) pss_nil)
      (pss_cons (ps_if (pt_cmpR op_eq (pv 1) (pe_gi TC.g5) (nomark _)) (pss_one (ps_ret (pe_lc (te := tFld K (tVar 3) "switch") rfl sc_chosen.nd (pi_list (pe_fld (pv 0) rfl)) (blkOk_by (own := [("kick", 3)]) (by rfl)) (fun s H C cl fp => pg_name (i := 3) sc_chosen.nd rfl (Or.inl rfl)) (fun _ _ _ _ _ => pts_nil) (fun _ _ _ _ _ => pe_fld (pv 3) rfl)))) pss_nil)
      (pss_cons (ps_if (pt_cmpR op_eq (pv 1) (pe_gi TC.g6) (nomark _)) (pss_one (ps_ret (pe_lock (pe_lc (tt := tTest (tOp (rI0 fun i j => .bl (decide (j < i))) (tFld K (tVar 4) "hold") (tC (.int 0)))) (te := tVar 4) rfl sc_chosen.nd (pi_valuesT (pe_fld (pv 0) rfl)) (blkOk_by (own := [("coil", 4)]) (by rfl)) (fun s H C cl fp => pg_name (i := 4) sc_chosen.nd rfl (Or.inl rfl)) (fun _ _ _ _ _ => pts_one (pt_cmpR op_gt (pe_fld (pv 4) rfl) pe_int (nomark _))) (fun _ _ _ _ _ => pv 4))))) pss_nil)
      (pss_one (ps_raise0 rfl xe_def (pe_exc0 TC.xc TC.mc))))))))), ?_⟩
    obtain ⟨db, tn, hb, _⟩ := B.bd
    obtain ⟨as, SC⟩ := B.sw
    obtain ⟨la, LC⟩ := B.la
    obtain ⟨ca, CC⟩ := B.co
    have nbs : θ.b ≠ θ.ds := ne_of hb SC.at_ (by intro z; cases z)
    have nbc : θ.b ≠ θ.dc := ne_of hb CC.at_ (by intro z; cases z)
    refine ⟨_, rfl, rfl, _, rfl, ?_⟩
    by_cases h0 : wh = 0
    · subst h0
      rw [if_neg (by decide)] at k
      rw [decide_eq_true (by rfl)]
      refine iteT ⟨_, rfl, rdF T.cB hb (by decide +kernel) rfl ⟨θ.ds, _, rfl, SC.at_, fun l hl => ?_⟩⟩
      rw [kvs_snd SC.len]
      exact k _ l as (same_upd hl) upd_same ((PsAt.of SC.len SC.el fun a x r => sw_pt T r).same (same_upd hl))
    rw [decide_eq_false (vne (by omega))]
    refine iteF ⟨_, rfl, rfl, _, rfl, ?_⟩
    by_cases h1 : wh = 1
    · subst h1
      rw [if_neg (by decide)] at k
      rw [decide_eq_true (by rfl)]
      refine iteT ⟨θ.ds, _, SC.at_, True.intro, fun od => ⟨_, rfl, rdF T.cB (show upd H θ.ds _ θ.b = _ by rw [upd_ne nbs]; exact hb) (by decide +kernel) rfl ⟨θ.ds, od, _, rfl, upd_same, fun D hD => lc_any Tb.switches.length (fun i H' => (∃ bs, H' D = some (.lst (bs.map V.ref)) ∧ bs.length ≤ i ∧ PsAt K H bs (((Tb.switches.take i).filter (·.turned)).map (·.place))) ∧ ∀ b o, upd H θ.ds (.frz od (.dT (kvs (·.name) as Tb.switches))) b = some o → H' b = some o) ⟨⟨[], upd_same, Nat.le_refl _, PsAt.nil⟩, same_upd hD⟩ (fun i H' lt q => ⟨q.2 _ _ upd_same, by rw [kvs_len SC.len]; exact lt⟩) (fun H' q => ⟨q.2 _ _ upd_same, by rw [kvs_len SC.len]; exact Nat.le_refl _⟩) ?_ ?_⟩⟩⟩
      · rintro i v H3 H4 lt ⟨⟨bs, q1, ql, qp⟩, q2⟩ ⟨rfl, kk, hk⟩
        obtain ⟨a, x, g1, g2, g3⟩ := kvs_get hk
        cases g3
        obtain ⟨dx, tn', e1, e2⟩ := id (SC.el i a x g1 g2)
        have e1' := in_lockZ SC.at_ q2 e1 (by intro _ z; cases z)
        refine ⟨rfl, ⟨_, rfl, rdF T.cS e1' (by decide +kernel) rfl ⟨_, rfl, ?_⟩⟩⟩
        cases hdr : x.turned with
        | true =>
          refine iteT ⟨_, rfl, _, q1, ?_, ⟨bs ++ [a], ?_, ?_, ?_⟩, ?_⟩
          · rw [List.length_map, sizeLine_eq]
            have := O.swL
            omega
          · rw [upd_same, List.map_append]
            rfl
          · rw [List.length_append]
            show _ + 1 ≤ _
            omega
          · rw [filt_snoc g2, if_pos hdr]
            exact qp.snoc (sw_pt T (SC.el i a x g1 g2))
          · intro b o eb
            rw [upd_ne (ne_of_none eb hD)]
            exact q2 b o eb
        | false =>
          refine iteF ⟨⟨bs, q1, by omega, ?_⟩, q2⟩
          rw [filt_snoc g2, if_neg (by rw [hdr]; decide)]
          exact qp
      · rintro H3 ⟨⟨bs, q1, ql, qp⟩, q2⟩
        have sm := lock_same SC.at_ q2
        have nD : D ≠ θ.ds := fun z => by rw [z, upd_same] at hD; cases hD
        rw [List.take_length] at qp
        exact ⟨q2 _ _ upd_same, k _ D bs sm (by rw [upd_ne nD]; exact q1) (qp.same sm)⟩
    rw [decide_eq_false (vne (by omega))]
    refine iteF ⟨_, rfl, rfl, _, rfl, ?_⟩
    by_cases h2 : wh = 2
    · subst h2
      rw [if_neg (by decide)] at k
      rw [decide_eq_true (by rfl)]
      refine iteT ⟨_, rfl, rdF T.cB hb (by decide +kernel) rfl ⟨θ.dl, _, rfl, LC.at_, fun l hl => ?_⟩⟩
      rw [kvs_snd LC.len]
      exact k _ l la (same_upd hl) upd_same ((PsAt.of LC.len LC.el fun a x r => la_pt T r).same (same_upd hl))
    rw [decide_eq_false (vne (by omega))]
    refine iteF ⟨_, rfl, rfl, _, rfl, ?_⟩
    by_cases h3 : wh = 3
    · subst h3
      rw [if_neg (by decide)] at k
      rw [decide_eq_true (by rfl)]
      refine iteT ⟨_, rfl, rdF T.cB hb (by decide +kernel) rfl ⟨θ.dc, _, rfl, CC.at_, fun l hl => ?_⟩⟩
      rw [kvs_snd CC.len]
      exact k _ l ca (same_upd hl) upd_same ((PsAt.of CC.len CC.el fun a x r => co_pt T r).same (same_upd hl))
    rw [decide_eq_false (vne (by omega))]
    refine iteF ⟨_, rfl, rfl, _, rfl, ?_⟩
    by_cases h4 : wh = 4
    · subst h4
      rw [if_neg (by decide)] at k
      rw [decide_eq_true (by rfl)]
      have nsh : θ.dh ≠ θ.ds := fun z => by
        have := B.nd
        simp [z] at this
      obtain ⟨cs, ec1, ec2, ec3⟩ := O.he
      refine iteT ⟨θ.ds, _, SC.at_, True.intro, fun od => ⟨_, rfl, rdF T.cB (show upd H θ.ds _ θ.b = _ by rw [upd_ne nbs]; exact hb) (by decide +kernel) rfl ⟨θ.ds, od, _, rfl, upd_same, fun D hD => lc_any Tb.switches.length (fun i H' => (∃ bs, H' D = some (.lst (bs.map V.ref)) ∧ bs.length ≤ i ∧ PsAt K H bs (((Tb.switches.take i).filter fun s => Tb.held.contains s.place).map (·.place))) ∧ ∀ b o, upd H θ.ds (.frz od (.dT (kvs (·.name) as Tb.switches))) b = some o → H' b = some o) ⟨⟨[], upd_same, Nat.le_refl _, PsAt.nil⟩, same_upd hD⟩ (fun i H' lt q => ⟨q.2 _ _ upd_same, by rw [kvs_len SC.len]; exact lt⟩) (fun H' q => ⟨q.2 _ _ upd_same, by rw [kvs_len SC.len]; exact Nat.le_refl _⟩) ?_ ?_⟩⟩⟩
      · rintro i v H3 H4 lt ⟨⟨bs, q1, ql, qp⟩, q2⟩ ⟨rfl, kk, hk⟩
        obtain ⟨a, x, g1, g2, g3⟩ := kvs_get hk
        cases g3
        obtain ⟨dx, tn', e1, e2⟩ := id (SC.el i a x g1 g2)
        have e1' := in_lockZ SC.at_ q2 e1 (by intro _ z; cases z)
        have e2' := in_lockZ SC.at_ q2 e2 (by intro _ z; cases z)
        have hb' := in_lockZ SC.at_ q2 hb (by intro _ z; cases z)
        have hh' : H4 θ.dh = some (.dT (tV hn)) := q2 _ _ (by rw [upd_ne nsh]; exact B.he)
        have D1 : DkAt H4 θ.dh (tV hn) hn := ⟨hh', tV_keys hn⟩
        have hco : hn.contains x.name = Tb.held.contains x.place := by
          rw [ec1, ec2]
          exact both O.swN (rise_nodup O.swP) ec3 (List.mem_of_getElem? g2)
        refine ⟨rfl, ⟨_, rfl, rdF T.cS e1' (by decide +kernel) rfl ⟨_, rfl, rdF T.cB hb' (by decide +kernel) rfl ⟨θ.dh, _, rfl, D1.dget e2', _, rfl, ?_⟩⟩⟩⟩
        rw [D1.has, hco]
        cases hdr : Tb.held.contains x.place with
        | true =>
          refine iteT ⟨_, rfl, _, q1, ?_, ⟨bs ++ [a], ?_, ?_, ?_⟩, ?_⟩
          · rw [List.length_map, sizeLine_eq]
            have := O.swL
            omega
          · rw [upd_same, List.map_append]
            rfl
          · rw [List.length_append]
            show _ + 1 ≤ _
            omega
          · rw [filt_snoc g2, if_pos hdr]
            exact qp.snoc (sw_pt T (SC.el i a x g1 g2))
          · intro b o eb
            rw [upd_ne (ne_of_none eb hD)]
            exact q2 b o eb
        | false =>
          refine iteF ⟨⟨bs, q1, by omega, ?_⟩, q2⟩
          rw [filt_snoc g2, if_neg (by rw [hdr]; decide)]
          exact qp
      · rintro H3 ⟨⟨bs, q1, ql, qp⟩, q2⟩
        have sm := lock_same SC.at_ q2
        have nD : D ≠ θ.ds := fun z => by rw [z, upd_same] at hD; cases hD
        rw [List.take_length] at qp
        exact ⟨q2 _ _ upd_same, k _ D bs sm (by rw [upd_ne nD]; exact q1) (qp.same sm)⟩
    rw [decide_eq_false (vne (by omega))]
    refine iteF ⟨_, rfl, rfl, _, rfl, ?_⟩
    by_cases h5 : wh = 5
    · subst h5
      rw [if_neg (by decide)] at k
      rw [decide_eq_true (by rfl)]
      obtain ⟨ka, hka, hkl, hke⟩ := B.ki
      have k8 := O.ki
      refine iteT ⟨_, rfl, rdF T.cB hb (by decide +kernel) rfl ⟨θ.dk, rfl, ⟨_, SqL.of hka⟩, fun D hD => lc_any ka.length (fun i H' => (∃ bs, H' D = some (.lst (bs.map V.ref)) ∧ bs.length ≤ i ∧ PsAt K H bs ((Tb.kicks.take i).map (·.first))) ∧ Same H H') ⟨⟨[], upd_same, Nat.le_refl _, PsAt.nil⟩, same_upd hD⟩ (fun j H' lt q => ?_) (fun H' q => ?_) ?_ ?_⟩⟩
      · obtain ⟨b, hb'⟩ : ∃ b, ka[j]? = some b := ⟨ka[j]'lt, List.getElem?_eq_getElem _⟩
        exact ⟨_, .ref b, SqL.of (q.2 _ _ hka), by rw [List.getElem?_map, hb']; rfl⟩
      · exact ⟨_, SqL.of (q.2 _ _ hka), by rw [List.length_map]; exact Nat.le_refl _⟩
      · rintro j v H6 H7 lt ⟨⟨bs, q1, ql, qp⟩, p2⟩ ⟨rfl, hy⟩
        obtain ⟨b, hb'⟩ : ∃ b, ka[j]? = some b := ⟨ka[j]'lt, List.getElem?_eq_getElem _⟩
        obtain ⟨kk, hkk⟩ : ∃ x, Tb.kicks[j]? = some x := ⟨Tb.kicks[j]'(by rw [← hkl]; exact lt), List.getElem?_eq_getElem _⟩
        have hv := hy _ (SqL.of (p2 _ _ hka))
        rw [List.getElem?_map, hb'] at hv
        cases hv
        obtain ⟨dx, sa, cc, tv, sw, co, w1, w2, w3, _⟩ := hke j b kk hb' hkk
        refine ⟨rfl, yesT ⟨_, rfl, rdF T.cKi (p2 _ _ w1) (by decide +kernel) rfl ⟨_, q1, ?_, ⟨bs ++ [sa], ?_, ?_, ?_⟩, ?_⟩⟩⟩
        · rw [List.length_map, sizeLine_eq]
          omega
        · rw [upd_same, List.map_append]
          rfl
        · rw [List.length_append]
          show _ + 1 ≤ _
          omega
        · rw [take_snoc hkk, List.map_append]
          have := qp.snoc (sw_pt T w2)
          rw [w3] at this
          exact this
        · intro b o eb
          rw [upd_ne (ne_of_none eb hD)]
          exact p2 b o eb
      · rintro H6 ⟨⟨bs, q1, ql, qp⟩, p2⟩
        rw [hkl, List.take_length] at qp
        exact k _ D bs p2 q1 (qp.same p2)
    rw [decide_eq_false (vne (by omega))]
    refine iteF ⟨_, rfl, rfl, _, rfl, ?_⟩
    by_cases h6 : wh = 6
    · subst h6
      rw [if_neg (by decide)] at k
      rw [decide_eq_true (by rfl)]
      refine iteT ⟨θ.dc, _, CC.at_, True.intro, fun od => ⟨_, rfl, rdF T.cB (show upd H θ.dc _ θ.b = _ by rw [upd_ne nbc]; exact hb) (by decide +kernel) rfl ⟨θ.dc, od, _, rfl, upd_same, fun D hD => lc_any Tb.coils.length (fun i H' => (∃ bs, H' D = some (.lst (bs.map V.ref)) ∧ bs.length ≤ i ∧ PsAt K H bs (((Tb.coils.take i).filter fun s => s.hold != 0).map (·.place))) ∧ ∀ b o, upd H θ.dc (.frz od (.dT (kvs (·.name) ca Tb.coils))) b = some o → H' b = some o) ⟨⟨[], upd_same, Nat.le_refl _, PsAt.nil⟩, same_upd hD⟩ (fun i H' lt q => ⟨q.2 _ _ upd_same, by rw [kvs_len CC.len]; exact lt⟩) (fun H' q => ⟨q.2 _ _ upd_same, by rw [kvs_len CC.len]; exact Nat.le_refl _⟩) ?_ ?_⟩⟩⟩
      · rintro i v H3 H4 lt ⟨⟨bs, q1, ql, qp⟩, q2⟩ ⟨rfl, kk, hk⟩
        obtain ⟨a, x, g1, g2, g3⟩ := kvs_get hk
        cases g3
        obtain ⟨dx, tn', e1, e2⟩ := id (CC.el i a x g1 g2)
        have e1' := in_lockZ CC.at_ q2 e1 (by intro _ z; cases z)
        refine ⟨rfl, ⟨_, rfl, rdF T.cC e1' (by decide +kernel) rfl ⟨_, _, rfl, rfl, _, rfl, ?_⟩⟩⟩
        have eh : decide ((0 : Int) < (x.hold : Int)) = (x.hold != 0) := by
          by_cases z : x.hold = 0
          · rw [z]; rfl
          · rw [decide_eq_true (show (0 : Int) < (x.hold : Int) by omega)]
            simp [z]
        rw [eh]
        cases hdr : (x.hold != 0) with
        | true =>
          refine iteT ⟨_, rfl, _, q1, ?_, ⟨bs ++ [a], ?_, ?_, ?_⟩, ?_⟩
          · rw [List.length_map, sizeLine_eq]
            have := O.coL
            omega
          · rw [upd_same, List.map_append]
            rfl
          · rw [List.length_append]
            show _ + 1 ≤ _
            omega
          · rw [filt_snoc g2, if_pos hdr]
            exact qp.snoc (co_pt T (CC.el i a x g1 g2))
          · intro b o eb
            rw [upd_ne (ne_of_none eb hD)]
            exact q2 b o eb
        | false =>
          refine iteF ⟨⟨bs, q1, by omega, ?_⟩, q2⟩
          rw [filt_snoc g2, if_neg (by rw [hdr]; decide)]
          exact qp
      · rintro H3 ⟨⟨bs, q1, ql, qp⟩, q2⟩
        have sm := lock_same CC.at_ q2
        have nD : D ≠ θ.dc := fun z => by rw [z, upd_same] at hD; cases hD
        rw [List.take_length] at qp
        exact ⟨q2 _ _ upd_same, k _ D bs sm (by rw [upd_ne nD]; exact q1) (qp.same sm)⟩
    rw [decide_eq_false (vne (by omega))]
    rw [if_pos (by omega)] at k
    refine iteF fun a ha hs => ⟨a, NC, NN, rfl, upd_same, TC.xc, hs, k _⟩
end
end Fb
set_option Elab.async false
set_option maxRecDepth 100000
set_option maxHeartbeats 400000
set_option linter.all false
namespace Fb
open PySem PySem.Spec PyProof.Rows L2 Fx Fm
def nI (l : List Nat) : List Int := l.map fun (n : Nat) => (n : Int)
theorem nI_V (l : List Nat) : (nI l).map V.int = nV l := by unfold nI nV; rw [List.map_map]; rfl
def spPl (K : PySem.W.Frag) (c : Cn) (NC : Addr) : Sp := fun vs H Q E => ∃ (θ : Ad) (T : Tilt.Table) (wh : Nat), vs = [.ref θ.b, .int (wh : Int)] ∧ St c H θ T T.held (serve T) ∧
  if 6 < wh then ∀ H' : Hp, E (.ref NC) none H' else ∀ (H' : Hp) (p : Addr), Same H H' → H' p = some (.lst (nV (placesL T wh))) → (placesL T wh).length ≤ 64 → Q (.ref p) H'
theorem placesL_len {T : Tilt.Table} {hp sp : List Nat} {hn sn : List Tilt.Bytes} (O : TOk T hp sp hn sn) (wh : Nat) : (placesL T wh).length ≤ 64 := by
  have h1 := O.swL
  have h2 := O.laL
  have h3 := O.coL
  have h4 := O.ki
  have f1 := List.length_filter_le (fun s : Tilt.Switch => s.turned) T.switches
  have f2 := List.length_filter_le (fun s : Tilt.Switch => T.held.contains s.place) T.switches
  have f3 := List.length_filter_le (fun s : Tilt.Coil => s.hold != 0) T.coils
  unfold placesL
  split <;> rw [List.length_map] <;> omega
theorem rise_filter {α : Type} {f : α → Nat} {p : α → Bool} {l : List α} (h : (l.map f).Pairwise (· < ·)) : ((l.filter p).map f).Pairwise (· < ·) := List.pairwise_map.mpr ((List.pairwise_map.mp h).filter _)
theorem placesOf_eq {T : Tilt.Table} {sp : List Nat} {hn sn : List Tilt.Bytes} (O : TOk T T.held sp hn sn) (k : KUp T) {n : Nat} (h : n ≤ 6) : TiltTableCalls.placesOf T n = placesL T n := by
  have b1 : ∀ x ∈ T.switches.map (·.place), x < 64 := fun x hx => by
    obtain ⟨s, hs, rfl⟩ := List.mem_map.mp hx
    exact (O.swM s hs).1
  have b2 : ∀ x ∈ T.lamps.map (·.place), x < 64 := fun x hx => by
    obtain ⟨s, hs, rfl⟩ := List.mem_map.mp hx
    exact (O.laM s hs).1
  have b3 : ∀ x ∈ T.coils.map (·.place), x < 64 := fun x hx => by
    obtain ⟨s, hs, rfl⟩ := List.mem_map.mp hx
    exact O.coM s hs
  have sub : ∀ {α : Type} {f : α → Nat} {p : α → Bool} {l : List α}, (∀ x ∈ l.map f, x < 64) → ∀ x ∈ (l.filter p).map f, x < 64 := fun {α f p l} b x hx => by
    obtain ⟨s, hs, rfl⟩ := List.mem_map.mp hx
    exact b _ (List.mem_map.mpr ⟨s, (List.mem_filter.mp hs).1, rfl⟩)
  unfold TiltTableCalls.placesOf Tilt.Table.mask
  match n, h with
  | 0, _ => exact range_mask O.swP b1
  | 1, _ => exact range_mask (rise_filter O.swP) (sub b1)
  | 2, _ => exact range_mask O.laP b2
  | 3, _ => exact range_mask O.coP b3
  | 4, _ =>
    obtain ⟨hs, _, e2, e3⟩ := O.he
    have := range_held (m := T.held) O.swP b1 fun x hx => by
      rw [e2] at hx
      obtain ⟨s, hs', rfl⟩ := List.mem_map.mp hx
      exact List.mem_map.mpr ⟨s, e3 s hs', rfl⟩
    refine this.trans ?_
    rw [List.filter_map]
    rfl
  | 5, _ =>
    have b5 : ∀ x ∈ T.kicks.map (·.first), x < 64 := fun x hx => by
      obtain ⟨s, hs, rfl⟩ := List.mem_map.mp hx
      exact k.2.1 s hs
    exact range_mask k.1 b5
  | 6, _ => exact range_mask (rise_filter O.coP) (sub b3)
section
variable {P : Program} {w : World} {K : PySem.W.Frag} {mg : Str → Option Value} {base : Heap} {c : Cn} {NC NN : Addr}
theorem sc_tellp : FnScope ["board", "what", "part"] ["board", "what"] (defScope s_tell_places) := ⟨rfl, rfl, rfl, by decide +kernel, rfl, by decide +kernel, by decide +kernel⟩
theorem ok_tellp (T : Txt K mg c) (TC : TP K mg NC NN) (Dc : DefAt K mg "chosen_parts" s_chosen_parts) (D : DefAt K mg "tell_places" s_tell_places) : Has P w K mg base (CXF P w) 3 "tell_places" ["board", "what"] (spPl K c NC) := by
  refine mkX D sc_tellp (fun _ _ _ _ _ _ us hl => match us, hl with | [_, _], _ => rfl) (fun vs H Q E h => ?_) (fun f cdv A outer s H vs Q E hr h => ?_)
  · obtain ⟨θ, Tb, wh, rfl, _⟩ := h
    rfl
  · obtain ⟨θ, Tb, wh, rfl, S, k⟩ := h
    refine ⟨_, pss_one (ps_ret (pe_lc (te := tFld K (tVar 2) "place") rfl sc_tellp.nd (pi_list (pe_fn (ok_chosen T TC Dc) hr passX (pa_cons (pv 0) (pa_cons (pv 1) pa_nil)))) (blkOk_by (own := [("part", 2)]) (by rfl)) (fun s H C cl fp => pg_name (i := 2) sc_tellp.nd rfl (Or.inl rfl)) (fun _ _ _ _ _ => pts_nil) (fun _ _ _ _ _ => pe_fld (pv 2) rfl))), ?_⟩
    refine ⟨_, rfl, _, rfl, θ, Tb, wh, rfl, S, ?_⟩
    by_cases h6 : 6 < wh
    · rw [if_pos h6] at k ⊢
      exact k
    rw [if_neg h6] at k ⊢
    intro H1 l as s1 hl hp
    have hz : (placesL Tb wh).length ≤ 64 := by
      obtain ⟨hn, sn, B, O⟩ := S
      exact placesL_len O wh
    have hlen := hp.1
    refine ⟨l, rfl, ⟨_, SqL.of hl⟩, fun D hD => lc_any as.length (fun j H' => H' D = some (.lst (nV ((placesL Tb wh).take j))) ∧ Same H1 H') ⟨upd_same, same_upd hD⟩ (fun j H' lt q => ?_) (fun H' q => ?_) ?_ ?_⟩
    · obtain ⟨b, hb'⟩ : ∃ b, as[j]? = some b := ⟨as[j]'lt, List.getElem?_eq_getElem _⟩
      exact ⟨_, .ref b, SqL.of (q.2 _ _ hl), by rw [List.getElem?_map, hb']; rfl⟩
    · exact ⟨_, SqL.of (q.2 _ _ hl), by rw [List.length_map]; exact Nat.le_refl _⟩
    · rintro j v H6 H7 lt ⟨p1, p2⟩ ⟨rfl, hy⟩
      obtain ⟨b, hb'⟩ : ∃ b, as[j]? = some b := ⟨as[j]'lt, List.getElem?_eq_getElem _⟩
      obtain ⟨pl, hpl⟩ : ∃ pl, (placesL Tb wh)[j]? = some pl := ⟨(placesL Tb wh)[j]'(by rw [← hlen]; exact lt), List.getElem?_eq_getElem _⟩
      have hv := hy _ (SqL.of (p2 _ _ hl))
      rw [List.getElem?_map, hb'] at hv
      cases hv
      obtain ⟨C, dx, fs, w1, w2, w3, w4⟩ := hp.2 j b pl hb' hpl
      refine ⟨rfl, yesT ⟨_, rfl, b, C, dx, fs, _, rfl, p2 _ _ w1, w2, w3, w4, _, p1, ?_, ?_, ?_⟩⟩
      · unfold nV
        rw [List.length_map, List.length_take, sizeLine_eq]
        omega
      · rw [upd_same, nV_snoc hpl]
      · intro b o eb
        rw [upd_ne (ne_of_none eb hD)]
        exact p2 b o eb
    · rintro H6 ⟨p1, p2⟩
      rw [hlen, List.take_length] at p1
      exact k _ D (fun b o e => p2 _ _ (s1 _ _ e)) p1 hz
/-- a promise that hangs on what is not known beforehand -/
theorem FnOk.some {CX : CXT} {k : Nat} {f : Addr} {fd : FuncData} {ps : List Str} {α : Type} {φ : α → Prop} {sp : α → Sp} (h : ∀ x, φ x → FnOk P w K mg base CX k f fd ps (sp x)) : FnOk P w K mg base CX k f fd ps (fun vs H Q E => ∃ x, φ x ∧ sp x vs H Q E) :=
  ⟨fun vs H Q E ⟨x, p, q⟩ => (h x p).len vs H Q E q, fun A outer s H args us vs Q E r e b v ⟨x, p, q⟩ => (h x p).run A outer s H args us vs Q E r e b v q⟩
/-- the last step, where the def makes a function -/
theorem last_mkT {x : Str} {st : Stmt} {h : Heap} {ps N : List Str} {k : Nat} {sp : Addr → Sp} {fa : Addr} (KX : K.In h) (D : DefAt K mg x st) (hfa : mg x = some (.ref fa)) (S : FnScope N ps (defScope st)) (b : BindsL x x st ps) (len : ∀ Pt vs H Q E, sp Pt vs H Q E → vs.length = ps.length)
    (body : ∀ (base : Heap) (cd Pt : Addr), PySem.W.CodeHd base cd Pt → BM mg base → ∀ (f : Addr) (A : Around) (outer : List Env) (s : Shared) (H : Hp) (vs : List V) (Q : VK) (E : XK), Room k (A.deeper (envOfC x (defScope st) s.heap.objs.size f (.ref cd))) → sp Pt vs H Q E →
      ∃ t, PSs (cxOf (CXF P w) P w K mg base N x (defScope st) f (.ref cd) A outer s H E) (defBody st) t ∧ t { nx := fun _ H' => Q .non H', rt := Q } (start N vs) H) :
    ∃ fd : FuncData, (∀ (s : Shared) (us : List Value), us.length = ps.length → BindsTo s fd ⟨us, []⟩ (ps.zip us)) ∧
      ∀ (cd Pt : Addr) (base : Heap), (∃ o fd', h.get? fa = some o ∧ o.data = .func fd' ∧ fd'.code = .ref cd) → K.In base → base.Ns mainGlobals mg → PySem.W.CodeHd base cd Pt → BM mg base → FnOk P w K mg base (CXF P w) (k + 1) fa fd ps (sp Pt) := by
  obtain ⟨f, fd, F, m⟩ := D
  have e := hfa.symm.trans m
  cases e
  obtain ⟨oc, od, kV, doc, pm, an, cdv, ct, osl, rfl, lk, hcd⟩ := F.ex
  refine ⟨PySem.W.fnOf x x (defArgs st) (defBody st) (defScope st) .none kV doc pm an cdv ct, fun s us hu => .of_eq (b kV doc pm an cdv ct us hu), fun cd Pt base ⟨o, fd', h1, h2, h3⟩ _ _ hC hB => ?_⟩
  have e2 := KX _ _ lk
  rw [h1] at e2
  cases e2
  cases h2
  have e3 : cdv = .ref cd := h3
  subst e3
  exact fn_of lk hcd S (len Pt) fun A outer s H vs Q E hr hsp => body base cd Pt hC hB _ A outer s H vs Q E hr hsp
theorem freeIn {sc : Scope} {fr : List Str} {x : Str} (h : sc.names.lookup x = some .free) (hd : sc.names.all (fun y => !(decide (y.2 = NameKind.free)) || fr.contains y.1) = true) : x ∈ fr := by
  have q := List.all_eq_true.mp hd _ (PySem.mem_of_lookup h)
  simpa using q
def gP (NC : Addr) (wh : Nat) : GX := fun T => if 6 < wh then .error NC else .ok (nI (TiltTableCalls.placesOf T wh))
def spPlaces (K : PySem.W.Frag) (NC : Addr) (Pt : Addr) : Sp := fun vs H Q _ => ∃ (wh : Nat) (a : Addr) (bs : Tilt.Bytes), vs = [.int (wh : Int), .ref a] ∧ H Pt = some (.tbl #[]) ∧ TxAt K H a (bV bs) ∧ bs.length ≤ 20000 ∧ ∀ (H' : Hp) (p : Addr) (l : List Int), (match answeredX (gP NC wh) bs with | .ok l' => l = l' | .error _ => l = [-1]) → H' p = some (.lst (l.map V.int)) → Q (.ref p) H'
def EBp (NC : Addr) (wh : Nat) (bs : Tilt.Bytes) : XK := fun cv d H => cv = .ref NC ∧ ∃ e, answeredX (gP NC wh) bs = .error e
theorem sc_places : FnScope ["what", "text"] ["what", "text"] (defScope s_places) := ⟨rfl, rfl, rfl, by decide +kernel, rfl, by decide +kernel, by decide +kernel⟩
theorem body_places (T : Txt K mg c) (J : TJ mg) (TC : TP K mg NC NN) (gO : GI mg "OUT_OF_BOUNDS" (-1)) (xo : XObj K NC) (Da : DefAt K mg "answer" s_answer) (Dc : DefAt K mg "chosen_parts" s_chosen_parts) (Dt : DefAt K mg "tell_places" s_tell_places) {cd Pt : Addr} (hC : PySem.W.CodeHd base cd Pt) (hB : BM mg base)
    (f : Addr) (A : Around) (outer : List Env) (s : Shared) (H : Hp) (vs : List V) (Q : VK) (E : XK) (hr : Room 11 (A.deeper (envOfC "places" (defScope s_places) s.heap.objs.size f (.ref cd)))) (h : spPlaces K NC Pt vs H Q E) :
    ∃ t, PSs (cxOf (CXF P w) P w K mg base ["what", "text"] "places" (defScope s_places) f (.ref cd) A outer s H E) (defBody s_places) t ∧ t { nx := fun _ H' => Q .non H', rt := Q } (start ["what", "text"] vs) H := by
  obtain ⟨wh, a, bs, rfl, hT, ht, hz, k⟩ := h
  obtain ⟨fA, fdA, FA, mA⟩ := Da
  refine ⟨_, pss_one (ps_try1 (EB := EBp NC wh bs) (th := tRet (tLst (tCons (tC (.int (-1))) tNil))) rfl rfl xo rfl TC.mc (fun _ _ _ z => z.1)
    (fun E' p' hX => pss_one (ps_ret (pe_lam (c := cd) (Pt := Pt) (ps := ["text", "tell"]) (clos := [("what", s.heap.objs.size + 1)]) (fr := ["what"]) (is := [0]) (sp := fun f ws vs H Q E => ∃ n : Nat, ws = [V.int (n : Int)] ∧ spAnswerX K f (fun _ => True) (gP NC n) vs H Q E) hr rfl mA FA.kp (FA.binds fun _ _ _ _ _ _ us hl => match us, hl with | [_, _], _ => rfl) (passes hX rfl) hC rfl hB (by rfl) (by rfl) ?cap (pv 1) ?fn)))
    (fun a E' => pss_one (ps_ret (pe_lst (pa_cons (pe_gi gO) pa_nil))))), ?_⟩
  case cap =>
    refine ⟨fun x a h => h, fun x h => ?_, fun x hx => ?_, fun j x hj => ?_, rfl, fun _ => rfl⟩
    · have q : x ∈ (["what"] : List Str) := freeIn h (by decide +kernel)
      rw [List.mem_singleton.mp q]
      exact ⟨_, rfl⟩
    · rw [List.mem_singleton.mp hx]
      exact ⟨rfl, rfl⟩
    · cases j with
      | zero => cases hj; exact ⟨0, rfl, rfl⟩
      | succ j => simp at hj
  case fn =>
    intro base' f' c' ctv ws kp gf gc C
    refine FnOk.some (φ := fun n : Nat => ws = [V.int (n : Int)]) (sp := fun n => spAnswerX K f' (fun _ => True) (gP NC n)) fun n hw => ?_
    subst hw
    refine okX FA sc_answer len_answerX (body_answerX T J (fun _ _ _ _ _ => trivial) ?_ gf rfl (Binds.all fun us hl => match us, hl with | [_], _ => rfl) fA)
    refine lam_of (k := 4) gf gc ⟨rfl, rfl, rfl, rfl, by decide +kernel⟩ C (fun vs H Q E h => by obtain ⟨θ, Tb, rfl, _⟩ := h; rfl) fun A outer s H v Q E hr h => ?_
    obtain ⟨θ, Tb, ev, S, ⟨bb, hbb⟩, _, k⟩ := h
    cases ev
    have ku := kup_read hbb
    obtain ⟨hn, sn, _, O⟩ := id S
    refine ⟨_, pe_fn (ok_tellp T TC Dc Dt) (hr.mono (by decide)) (passes xe_lam rfl) (pa_cons (pv 0) (pa_cons (pv 1) pa_nil)), ?_⟩
    refine ⟨_, rfl, _, rfl, θ, Tb, n, rfl, S, ?_⟩
    unfold OutX gP at k
    by_cases h6 : 6 < n
    · rw [if_pos h6] at k ⊢
      exact k
    · rw [if_neg h6] at k ⊢
      rw [placesOf_eq O ku (by omega)] at k
      intro H' p s' hp hz
      exact k H' p s' (by rw [nI_V]; exact hp) (by unfold nI; rw [List.length_map]; omega)
  refine ⟨⟨_, rfl, hT, [V.int (wh : Int)], ⟨rfl, fun j i hj => ?_⟩, fun f' ps' hf => ⟨wh, rfl, a, bs, rfl, ht.keep fun o e => ?_, hz, trivial, ?_⟩⟩, fun σ' H' b dx ea he => ?_⟩
  · cases j with
    | zero => cases hj; exact ⟨_, rfl, rfl⟩
    | succ j => simp at hj
  · rw [upd_ne fun z => by rw [z, hT] at e; cases e]
    exact e
  · unfold OutX
    cases e : answeredX (gP NC wh) bs with
    | error C =>
      intro H'
      have e2 : C = NC := by
        unfold answeredX at e
        split at e
        · cases e
        · cases er : Tilt.readTable bs with
          | error _ => rw [er] at e; cases e
          | ok Tb =>
            rw [er] at e
            unfold gP at e
            by_cases h6 : 6 < wh
            · simp only [if_pos h6] at e
              cases e
              rfl
            · simp only [if_neg h6] at e
              cases e
      exact ⟨by rw [e2], C, e⟩
    | ok l => exact fun H' p hp => k H' p l (by rw [e]) hp
  · obtain ⟨_, e', he⟩ := he
    exact ⟨by show 1 ≤ sizeLine; decide, fun p hp => k _ p [-1] (by rw [he]) upd_same⟩
end
end Fb
set_option Elab.async false
set_option maxRecDepth 100000
set_option maxHeartbeats 400000
set_option linter.all false
namespace Fb
open PySem PySem.Spec PyProof.Rows L2 Fx Fm
section
variable {K : PySem.W.Frag} {h : Heap} {mg : Str → Option Value} {x m qual : Str} {st : Stmt} {f C N : Addr} {oc kV doc pm cd ct : Value} {od an : Option Addr} {sl : Array (Option Value)} {t : Tok}
theorem def_mk (X : K.In h) (G : h.Ns mainGlobals mg) (a : PySem.W.nsIn K mainGlobals x = some (some (.ref f))) (l : K.lookup f = some ⟨oc, od, .func (PySem.W.fnOf x x (defArgs st) (defBody st) (defScope st) .none kV doc pm an cd ct), sl⟩) (c : PySem.W.codeIn K cd x = true) (k : PySem.W.keepIn K (.ref f) = true) : DefAt K mg x st := ⟨f, _, fun_mk l c k, PySem.W.mg_of X G a⟩
theorem meth_mk (a : PySem.W.findIn K (.ref C) m = some (some (.ref f))) (i : PySem.W.isFn K (.ref f) = true) (l : K.lookup f = some ⟨oc, od, .func (PySem.W.fnOf m qual (defArgs st) (defBody st) (defScope st) .none kV doc pm an cd ct), sl⟩) (c : PySem.W.codeIn K cd qual = true) (k : PySem.W.keepIn K (.ref f) = true) : MethAt K C m qual st := ⟨f, _, fun_mk l c k, ⟨a, i, k⟩⟩
theorem init_mk (X : K.In h) (G : h.Ns mainGlobals mg) (a0 : PySem.W.nsIn K mainGlobals x = some (some (.ref C))) (a : PySem.W.findIn K (.ref C) "__init__" = some (some (.ref f))) (i : PySem.W.isFn K (.ref f) = true) (l : K.lookup f = some ⟨oc, od, .func (PySem.W.fnOf "__init__" qual (defArgs st) (defBody st) (defScope st) .none kV doc pm an cd ct), sl⟩) (c : PySem.W.codeIn K cd qual = true) (k : PySem.W.keepIn K (.ref f) = true) (mk : PySem.W.makesIn K C = true) (kc : PySem.W.keepIn K (.ref C) = true) : InitAt K mg C x qual st := ⟨f, _, fun_mk l c k, ⟨mk, a, i, kc⟩, PySem.W.mg_of X G a0⟩
theorem gi_mk {i : Int} (X : K.In h) (G : h.Ns mainGlobals mg) (a : PySem.W.nsIn K mainGlobals x = some (some (.int i t))) : GI mg x i := ⟨t, PySem.W.mg_of X G a⟩
theorem no_nil : ∀ y ∈ ([] : List Str), NoAttr K C y := fun y z => by cases z
theorem no_cons {ns : List Str} (a : PySem.W.findIn K (.ref C) x = some none) (r : ∀ y ∈ ns, NoAttr K C y) : ∀ y ∈ x :: ns, NoAttr K C y := fun y z => (List.mem_cons.mp z).elim (fun e => e ▸ a) (r y)
theorem cls_mk {ns : List Str} (pg : PySem.W.plainGet K C Str.empty = true) (hd : PySem.W.hasDictIn K C = true) (po : PySem.W.plainOver K C = true) (sa : PySem.W.findIn K (.ref C) "__setattr__" = some (some (.builtin "object.__setattr__"))) (no : ∀ y ∈ ns, NoAttr K C y) : ClsN K C ns := ⟨⟨pg, hd, po, sa⟩, no⟩
theorem so_mk {SO : Addr} {n : Nat} {t1 t2 t3 t4 t5 : Tok} (l : K.lookup SO = some ⟨.type "tuple", od, .seq #[.str "switch" t1, .str "lamp" t2, .str "coil" t3, .str "device" t4, .str "kick" t5] n, sl⟩) : ∃ (o : Obj) (its : Array Value) (n : Nat), K.lookup SO = some o ∧ o.cls = .type "tuple" ∧ o.data = .seq its n ∧ its.size ≤ sizeLine ∧ Vals sorts its.toList :=
  ⟨_, _, n, l, rfl, rfl, by show 5 ≤ sizeLine; decide, .cons ⟨t1, rfl⟩ (.cons ⟨t2, rfl⟩ (.cons ⟨t3, rfl⟩ (.cons ⟨t4, rfl⟩ (.cons ⟨t5, rfl⟩ .nil))))⟩
def strKeysB (es : Array DictEntry) : Bool := es.toList.all fun e => match e.key with
  | .str _ _ => true
  | _ => false
theorem strKeys_of {es : Array DictEntry} (h : strKeysB es = true) : StrKeys es := fun e he => by
  have := List.all_eq_true.mp h e (Array.mem_toList_iff.mpr he)
  cases hk : e.key with
  | str n t => exact ⟨n, t, rfl⟩
  | _ => rw [hk] at this; cases this
theorem xcls_mk {nm q : Str} {bs : List Value} {sn : List Str} {sub : List Value} {ab : Bool} {col : Option Bool} {dd : Option Addr} {k0 k1 k2 k3 k5 : Option Value} {es : Array DictEntry} {ep : Nat}
    (e : K.lookup C = some (excClassObj nm q C N bs excMro true sn sub ab col dd k0 k1 k2 k3 k5 "Exception.__new__")) (n : K.lookup N = some ⟨oc, od, .dict es ep, sl⟩) (sk : strKeysB es = true) (init : PySem.W.nsIn K N "__init__" = some (some (.ref f))) (fn : PySem.W.isFn K (.ref f) = true) (kp : PySem.W.keepIn K (.ref C) = true)
    (sa : PySem.W.findIn K (.ref C) "__setattr__" = some (some (.builtin "object.__setattr__"))) (ga : PySem.W.findIn K (.ref C) "__getattribute__" = some (some (.builtin "BaseException.__getattribute__"))) (gh : PySem.W.findIn K (.ref C) "__getattr__" = some none) : XCls K C N f :=
  ⟨⟨nm, q, bs, sn, sub, ab, col, dd, k0, k1, k2, k3, k5, e⟩, ⟨oc, od, es, ep, sl, n, strKeys_of sk⟩, init, fn, kp, sa, ga, gh⟩
theorem xi_mk {fI : Addr} (l : K.lookup fI = some ⟨oc, od, .func (PySem.W.fnOf "__init__" qual (defArgs st) (defBody st) (defScope st) .none kV doc pm an cd ct), sl⟩) (c : PySem.W.codeIn K cd qual = true) (k : PySem.W.keepIn K (.ref fI) = true) : ∃ fd, Fun K "__init__" qual st fI fd := ⟨_, fun_mk l c k⟩
/-- the last step: the row's def -/
theorem last_mk {P : Program} {w : World} {ps N : List Str} {k : Nat} {sp : Sp} {fa : Addr} (D : DefAt K mg x st) (hfa : mg x = some (.ref fa)) (S : FnScope N ps (defScope st)) (b : BindsL x x st ps) (len : ∀ vs H Q E, sp vs H Q E → vs.length = ps.length) (body : ∀ base : Heap, Body0 P w K mg base x st N k sp) :
    ∃ fd : FuncData, (∀ (s : Shared) (us : List Value), us.length = ps.length → BindsTo s fd ⟨us, []⟩ (ps.zip us)) ∧ ∀ base : Heap, K.In base → base.Ns mainGlobals mg → FnOk P w K mg base CX0 (k + 1) fa fd ps sp := by
  obtain ⟨f, fd, F, m⟩ := D
  have e := hfa.symm.trans m
  cases e
  refine ⟨fd, ?_, fun base _ _ => F.ok S len (body base _)⟩
  obtain ⟨oc, od, kV, doc, pm, an, cdv, ct, osl, rfl, lk, hcd⟩ := F.ex
  exact fun s us hu => .of_eq (b _ _ _ _ _ _ us hu)
end
theorem txt_mk {K : PySem.W.Frag} {mg : Str → Option Value} {vF vN vfI vS vL vC vD vKi vB vLi vSO : Addr}
    (xF : XCls K vF vN vfI)
    (iF : ∃ fd, Fun K "__init__" "Fault.__init__" m_Fault_init vfI fd)
    (mF : mg "Fault" = some (.ref vF))
    (nK : NoAttr K vF "kind")
    (nP : NoAttr K vF "place")
    (g_NOT_ENDED : GI mg "NOT_ENDED" 1)
    (g_WRONG_BYTE : GI mg "WRONG_BYTE" 2)
    (g_WRONG_WORD : GI mg "WRONG_WORD" 3)
    (g_WRONG_FORM : GI mg "WRONG_FORM" 4)
    (g_NOT_NEW : GI mg "NOT_NEW" 5)
    (g_NOT_THERE : GI mg "NOT_THERE" 6)
    (g_CLASH : GI mg "CLASH" 7)
    (g_TOO_FEW_HELD : GI mg "TOO_FEW_HELD" 8)
    (cS : ClsN K vS fsS)
    (iS : InitAt K mg vS "Switch" "Switch.__init__" m_Switch_init)
    (cL : ClsN K vL fsL)
    (iL : InitAt K mg vL "Lamp" "Lamp.__init__" m_Lamp_init)
    (cC : ClsN K vC fsC)
    (iC : InitAt K mg vC "Coil" "Coil.__init__" m_Coil_init)
    (cD : ClsN K vD fsD)
    (iD : InitAt K mg vD "Device" "Device.__init__" m_Device_init)
    (cKi : ClsN K vKi fsKi)
    (iKi : InitAt K mg vKi "Kick" "Kick.__init__" m_Kick_init)
    (cB : ClsN K vB fsB)
    (iB : InitAt K mg vB "Board" "Board.__init__" m_Board_init)
    (g_NL : GI mg "NL" 10)
    (g_BLANK : GI mg "BLANK" 32)
    (g_LAST_SIGN : GI mg "LAST_SIGN" 126)
    (g_MOST_NAME_BYTES : GI mg "MOST_NAME_BYTES" 12)
    (g_NO_NUMBER : GI mg "NO_NUMBER" (-1))
    (d_spelled : DefAt K mg "spelled" s_spelled)
    (d_is_letter : DefAt K mg "is_letter" s_is_letter)
    (d_is_digit : DefAt K mg "is_digit" s_is_digit)
    (d_is_name : DefAt K mg "is_name" s_is_name)
    (d_number_of : DefAt K mg "number_of" s_number_of)
    (cLi : ClsN K vLi fsLi)
    (iLi : InitAt K mg vLi "Line" "Line.__init__" m_Line_init)
    (m_has_more : MethAt K vLi "has_more" "Line.has_more" m_Line_has_more)
    (m_comes : MethAt K vLi "comes" "Line.comes" m_Line_comes)
    (m_take : MethAt K vLi "take" "Line.take" m_Line_take)
    (m_take_keyword : MethAt K vLi "take_keyword" "Line.take_keyword" m_Line_take_keyword)
    (m_take_ending : MethAt K vLi "take_ending" "Line.take_ending" m_Line_take_ending)
    (m_take_name : MethAt K vLi "take_name" "Line.take_name" m_Line_take_name)
    (m_take_number : MethAt K vLi "take_number" "Line.take_number" m_Line_take_number)
    (m_finish : MethAt K vLi "finish" "Line.finish" m_Line_finish)
    (d_find_end : DefAt K mg "find_end" s_find_end)
    (d_check_bytes : DefAt K mg "check_bytes" s_check_bytes)
    (d_split_words : DefAt K mg "split_words" s_split_words)
    (d_read_line : DefAt K mg "read_line" s_read_line)
    (g_MOST_BALLS : GI mg "MOST_BALLS" 8)
    (g_MOST_SWITCH_PLACE : GI mg "MOST_SWITCH_PLACE" 63)
    (g_MOST_LAMP_PLACE : GI mg "MOST_LAMP_PLACE" 63)
    (g_MOST_COIL_PLACE : GI mg "MOST_COIL_PLACE" 31)
    (g_MOST_TO_CLOSE : GI mg "MOST_TO_CLOSE" 31)
    (g_MOST_TO_OPEN : GI mg "MOST_TO_OPEN" 31)
    (g_MOST_COIL_MOST : GI mg "MOST_COIL_MOST" 1023)
    (g_MOST_COIL_REST : GI mg "MOST_COIL_REST" 4095)
    (g_MOST_COIL_HOLD : GI mg "MOST_COIL_HOLD" 15)
    (g_MOST_KICK_TICKS : GI mg "MOST_KICK_TICKS" 255)
    (g_MOST_DEVICES : GI mg "MOST_DEVICES" 8)
    (g_MOST_KICKS : GI mg "MOST_KICKS" 8)
    (g_MOST_HELD : GI mg "MOST_HELD" 8)
    (g_NO_PLACE : GI mg "NO_PLACE" (-1))
    (d_take_new_name : DefAt K mg "take_new_name" s_take_new_name)
    (d_take_new_name_but : DefAt K mg "take_new_name_but" s_take_new_name_but)
    (d_take_known : DefAt K mg "take_known" s_take_known)
    (d_take_place : DefAt K mg "take_place" s_take_place)
    (d_take_named_number : DefAt K mg "take_named_number" s_take_named_number)
    (d_take_serving_coil : DefAt K mg "take_serving_coil" s_take_serving_coil)
    (d_take_held_switch : DefAt K mg "take_held_switch" s_take_held_switch)
    (d_take_held_switches : DefAt K mg "take_held_switches" s_take_held_switches)
    (d_take_kick_switch : DefAt K mg "take_kick_switch" s_take_kick_switch)
    (d_take_ticks : DefAt K mg "take_ticks" s_take_ticks)
    (d_take_till : DefAt K mg "take_till" s_take_till)
    (d_read_table_line : DefAt K mg "read_table_line" s_read_table_line)
    (d_read_switch : DefAt K mg "read_switch" s_read_switch)
    (d_read_lamp : DefAt K mg "read_lamp" s_read_lamp)
    (d_read_coil : DefAt K mg "read_coil" s_read_coil)
    (d_read_device : DefAt K mg "read_device" s_read_device)
    (d_read_kick : DefAt K mg "read_kick" s_read_kick)
    (d_take_sort : DefAt K mg "take_sort" s_take_sort)
    (d_read_part : DefAt K mg "read_part" s_read_part)
    (d_check_drains : DefAt K mg "check_drains" s_check_drains)
    (d_read_board : DefAt K mg "read_board" s_read_board)
    (mSO : mg "SORTS" = some (.ref vSO))
    (kSO : ∃ (o : Obj) (its : Array Value) (n : Nat), K.lookup vSO = some o ∧ o.cls = .type "tuple" ∧ o.data = .seq its n ∧ its.size ≤ sizeLine ∧ Vals sorts its.toList)
    (b_ord : mg "ord" = none)
    (b_tuple : mg "tuple" = none)
    (b_len : mg "len" = none)
    (b_range : mg "range" = none)
    (b_max : mg "max" = none)
    (b_sum : mg "sum" = none)
    : Txt K mg ⟨vF, vN, vfI, vS, vL, vC, vD, vKi, vB, vLi, vSO⟩ := ⟨xF, iF, mF, nK, nP, g_NOT_ENDED, g_WRONG_BYTE, g_WRONG_WORD, g_WRONG_FORM, g_NOT_NEW, g_NOT_THERE, g_CLASH, g_TOO_FEW_HELD, cS, iS, cL, iL, cC, iC, cD, iD, cKi, iKi, cB, iB, g_NL, g_BLANK, g_LAST_SIGN, g_MOST_NAME_BYTES, g_NO_NUMBER, d_spelled, d_is_letter, d_is_digit, d_is_name, d_number_of, cLi, iLi, m_has_more, m_comes, m_take, m_take_keyword, m_take_ending, m_take_name, m_take_number, m_finish, d_find_end, d_check_bytes, d_split_words, d_read_line, g_MOST_BALLS, g_MOST_SWITCH_PLACE, g_MOST_LAMP_PLACE, g_MOST_COIL_PLACE, g_MOST_TO_CLOSE, g_MOST_TO_OPEN, g_MOST_COIL_MOST, g_MOST_COIL_REST, g_MOST_COIL_HOLD, g_MOST_KICK_TICKS, g_MOST_DEVICES, g_MOST_KICKS, g_MOST_HELD, g_NO_PLACE, d_take_new_name, d_take_new_name_but, d_take_known, d_take_place, d_take_named_number, d_take_serving_coil, d_take_held_switch, d_take_held_switches, d_take_kick_switch, d_take_ticks, d_take_till, d_read_table_line, d_read_switch, d_read_lamp, d_read_coil, d_read_device, d_read_kick, d_take_sort, d_read_part, d_check_drains, d_read_board, mSO, kSO, b_ord, b_tuple, b_len, b_range, b_max, b_sum⟩
/-! the request -/
theorem tx_of {K : PySem.W.Frag} {H : Hp} {a : Addr} {xs : List V} (hO : OnlyF H) (h : SqL K H a xs) : TxAt K H a xs := by
  rcases h with (h | ⟨o, h⟩) | h
  · rcases hO a with q | ⟨o, u, q⟩
    · rw [q] at h; cases h
    · rw [q] at h; cases h
  · exact .inl ⟨o, h⟩
  · exact .inr h
theorem bytes_of {ns : List Int} (h : ∀ z ∈ ns, 0 ≤ z ∧ z ≤ 255) : ns.map V.int = bV (TableNeutral.text ns) := by
  unfold bV TableNeutral.text TableNeutral.nats
  rw [List.map_map, List.map_map]
  refine List.map_congr_left fun z hz => ?_
  obtain ⟨h1, h2⟩ := h z hz
  show V.int z = V.int ((UInt8.ofNat z.toNat).toNat : Int)
  rw [show (UInt8.ofNat z.toNat).toNat = z.toNat by simp; omega]
  rw [show ((z.toNat : Nat) : Int) = z by omega]
end Fb
set_option Elab.async false
set_option maxRecDepth 100000
set_option maxHeartbeats 400000
set_option linter.all false
namespace Fb
open PySem PySem.Spec PyProof.Rows L2 Fx Fm
def outP (wh : Nat) (bs : Tilt.Bytes) : List Int := if 16384 < bs.length then [-2] else match Tilt.readTable bs with
  | .error _ => [-6]
  | .ok T => if 6 < wh then [-1] else 0 :: nI (TiltTableCalls.placesOf T wh)
theorem outP_of {NC : Addr} {wh : Nat} {bs : Tilt.Bytes} {l : List Int} (h : match answeredX (gP NC wh) bs with | .ok l' => l = l' | .error _ => l = [-1]) : l = outP wh bs := by
  unfold answeredX at h
  unfold outP
  by_cases z : 16384 < bs.length
  · rw [if_pos z] at h ⊢
    exact h
  · rw [if_neg z] at h ⊢
    cases er : Tilt.readTable bs with
    | error e => rw [er] at h; exact h
    | ok T =>
      rw [er] at h
      dsimp only at h ⊢
      unfold gP at h
      by_cases h6 : 6 < wh
      · rw [if_pos h6] at h ⊢
        exact h
      · rw [if_neg h6] at h ⊢
        exact h
theorem call_spec (w : Int) (ns : List Int) : PyWqaqby.places w ns = outP w.toNat (TableNeutral.text ns) := by
  show (TiltTableCalls.answer (.places (TableNeutral.text ns) w.toNat)).code :: (TiltTableCalls.answer (.places (TableNeutral.text ns) w.toNat)).nums = _
  unfold outP TiltTableCalls.answer TiltTableCalls.ofTable
  dsimp only
  by_cases z : 16384 < (TableNeutral.text ns).length
  · rw [if_pos z, if_pos (show Tilt.TEXT < (TableNeutral.text ns).length from z)]
    rfl
  · rw [if_neg z, if_neg (show ¬ Tilt.TEXT < (TableNeutral.text ns).length from z)]
    cases Tilt.readTable (TableNeutral.text ns) with
    | error e => rfl
    | ok T =>
      dsimp only
      by_cases h6 : 6 < w.toNat
      · rw [if_pos h6, if_pos h6]
        rfl
      · rw [if_neg h6, if_neg h6]
        rfl
def spLaw (K : PySem.W.Frag) (Pt : Addr) : Sp := fun vs H Q _ => ∃ (wh : Nat) (a : Addr) (bs : Tilt.Bytes), vs = [.int (wh : Int), .ref a] ∧ H Pt = some (.tbl #[]) ∧ TxAt K H a (bV bs) ∧ bs.length ≤ 20000 ∧ ∀ (H' : Hp) (p : Addr), H' p = some (.lst ((outP wh bs).map V.int)) → Q (.ref p) H'
theorem xcls0_mk {K : PySem.W.Frag} {C N : Addr} {oc : Value} {od : Option Addr} {sl : Array (Option Value)} {nm q : Str} {bs : List Value} {sn : List Str} {sub : List Value} {ab : Bool} {col : Option Bool} {dd : Option Addr} {k0 k1 k2 k3 k5 : Option Value} {es : Array DictEntry} {ep : Nat}
    (e : K.lookup C = some (excClassObj nm q C N bs excMro true sn sub ab col dd k0 k1 k2 k3 k5 "Exception.__new__")) (n : K.lookup N = some ⟨oc, od, .dict es ep, sl⟩) (sk : strKeysB es = true) (ni : (nsFind es "__init__").isNone = true) (kp : PySem.W.keepIn K (.ref C) = true) : XCls0 K C N :=
  ⟨⟨nm, q, bs, sn, sub, ab, col, dd, k0, k1, k2, k3, k5, e⟩, ⟨oc, od, es, ep, sl, n, strKeys_of sk, Option.isNone_iff_eq_none.mp ni⟩, kp⟩
theorem tx_ofT {K : PySem.W.Frag} {H : Hp} {Pt a : Addr} {xs : List V} (hO : OnlyT Pt H) (h : SqL K H a xs) : TxAt K H a xs := by
  rcases h with (h | ⟨o, h⟩) | h
  · by_cases z : a = Pt
    · rw [z, hO.1] at h; cases h
    · rcases hO.2 a z with q | ⟨o, u, q⟩
      · rw [q] at h; cases h
      · rw [q] at h; cases h
  · exact .inl ⟨o, h⟩
  · exact .inr h
theorem fin_law {P : Program} {w : World} {K : PySem.W.Frag} {mg : Str → Option Value} {h : Heap} {c : Cn} {NC NN fa : Addr} (KX : K.In h) (hfa : mg "places" = some (.ref fa)) (T : Txt K mg c) (J : TJ mg) (TC : TP K mg NC NN) (gO : GI mg "OUT_OF_BOUNDS" (-1)) (D : DefAt K mg "places" s_places) (Da : DefAt K mg "answer" s_answer) (Dc : DefAt K mg "chosen_parts" s_chosen_parts) (Dt : DefAt K mg "tell_places" s_tell_places) :
    ∃ fd : FuncData, (∀ (s : Shared) (us : List Value), us.length = (["what", "text"] : List Str).length → BindsTo s fd ⟨us, []⟩ ((["what", "text"] : List Str).zip us)) ∧
      ∀ (cd Pt : Addr) (base : Heap), (∃ o fd', h.get? fa = some o ∧ o.data = .func fd' ∧ fd'.code = .ref cd) → K.In base → base.Ns mainGlobals mg → PySem.W.CodeHd base cd Pt → BM mg base → FnOk P w K mg base (CXF P w) 12 fa fd ["what", "text"] (spLaw K Pt) :=
  last_mkT KX D hfa sc_places (fun _ _ _ _ _ _ us hl => match us, hl with | [_, _], _ => rfl) (fun Pt vs H Q E h => by obtain ⟨wh, a, bs, rfl, _⟩ := h; rfl)
    fun base cd Pt hC hB f A outer s H vs Q E hr h => body_places T J TC gO (let ⟨nm, q, bs, sn, sub, ab, col, dd, k0, k1, k2, k3, k5, e⟩ := TC.xc.obj; ⟨NN, nm, q, bs, sn, sub, ab, col, dd, k0, k1, k2, k3, k5, e⟩) Da Dc Dt hC hB f A outer s H vs Q E hr
      (let ⟨wh, a, bs, e, hT, ht, hz, k⟩ := h; ⟨wh, a, bs, e, hT, ht, hz, fun H' p l hl hp => k H' p (by rw [← outP_of hl]; exact hp)⟩)
end Fb
def PySem.W.Fast.tw1366306243567638187 : Unit := ()
def PySem.W.Fast.tw6559160975956803925 : Unit := ()
def PySem.W.Fast.tw1238370933615125515 : Unit := ()
def PySem.W.Fast.tw11325731891712003006 : Unit := ()
def PySem.W.Fast.tw362034836948783303 : Unit := ()
def PySem.W.Fast.tw4954417706010178862 : Unit := ()
def PySem.W.Fast.tw17080016824632801672 : Unit := ()
def PySem.W.Fast.tw17226667386931268463 : Unit := ()
def PySem.W.Fast.tw16401689105988386958 : Unit := ()
def PySem.W.Fast.tw4624933472825495594 : Unit := ()
def PySem.W.Fast.tw3647053640649888692 : Unit := ()
def PySem.W.Fast.tw12502839437278101266 : Unit := ()
def PySem.W.Fast.tw6270326665275320136 : Unit := ()
def PySem.W.Fast.tw1352581827909940255 : Unit := ()
def PySem.W.Fast.tw1035682496671191364 : Unit := ()
def PySem.W.Fast.tw1448070942700004211 : Unit := ()
def PySem.W.Fast.tw7594240268126857515 : Unit := ()
def PySem.W.Fast.tw12231737409183555391 : Unit := ()
def PySem.W.Fast.tw94829012198038022 : Unit := ()
def PySem.W.Fast.tw944219210389561768 : Unit := ()
def PySem.W.Fast.tw11930350251147449496 : Unit := ()
def PySem.W.Fast.tw12163791189296742896 : Unit := ()
def PySem.W.Fast.tw15272947734097818299 : Unit := ()
def PySem.W.Fast.tw6775338961110357455 : Unit := ()
open PySem PySem.W PyProof.Rows
set_option maxRecDepth 100000 in
set_option maxHeartbeats 0 in
theorem PySem.Challenge.cw_flipboards_s09_places_holds : PySem.Challenge.rw_flipboards_s09_places.Holds := by
  w_on; k_headS; (case hw => exact ⟨[.int 0, .list []], by decide +kernel, by decide +kernel⟩)
  k_fillS
  refine L2.walk_specT (r := PySem.Challenge.rw_flipboards_s09_places) (k := 12) (CX := fun w => Fx.CXF PySem.Challenge.rw_flipboards_s09_places.prog w) (ps := ["what", "text"]) (sp := fun K Pt => Fb.spLaw K Pt) (by decide +kernel) rfl rfl ⟨rfl, by decide, by decide⟩ ?Rr ?Nt (fun w h Y => PySem.W.kIn_of Y) ?Ff ?Ss (fun _ _ _ _ _ z => by obtain ⟨_, _, _, _, _, _, _, _, _, _, _, _, _, _, _, _, _, z⟩ := z; exact z)
  case Rr => first | exact List.mem_of_find?_eq_some (p := fun e : DefRec => e.name == "places") (by rfl) | exact List.mem_of_find?_eq_some (p := fun e : DefRec => e.name == "places") (by k_is)
  case Nt => intro w; first | k_is | exact rfl | decide +kernel
  case Ff =>
    intro w mg fa h Y KX G hmg
    refine' Fb.fin_law KX hmg (Fb.txt_mk ?xF ?iF ?mF ?nK ?nP ?g_NOT_ENDED ?g_WRONG_BYTE ?g_WRONG_WORD ?g_WRONG_FORM ?g_NOT_NEW ?g_NOT_THERE ?g_CLASH ?g_TOO_FEW_HELD ?cS ?iS ?cL ?iL ?cC ?iC ?cD ?iD ?cKi ?iKi ?cB ?iB ?g_NL ?g_BLANK ?g_LAST_SIGN ?g_MOST_NAME_BYTES ?g_NO_NUMBER ?d_spelled ?d_is_letter ?d_is_digit ?d_is_name ?d_number_of ?cLi ?iLi ?m_has_more ?m_comes ?m_take ?m_take_keyword ?m_take_ending ?m_take_name ?m_take_number ?m_finish ?d_find_end ?d_check_bytes ?d_split_words ?d_read_line ?g_MOST_BALLS ?g_MOST_SWITCH_PLACE ?g_MOST_LAMP_PLACE ?g_MOST_COIL_PLACE ?g_MOST_TO_CLOSE ?g_MOST_TO_OPEN ?g_MOST_COIL_MOST ?g_MOST_COIL_REST ?g_MOST_COIL_HOLD ?g_MOST_KICK_TICKS ?g_MOST_DEVICES ?g_MOST_KICKS ?g_MOST_HELD ?g_NO_PLACE ?d_take_new_name ?d_take_new_name_but ?d_take_known ?d_take_place ?d_take_named_number ?d_take_serving_coil ?d_take_held_switch ?d_take_held_switches ?d_take_kick_switch ?d_take_ticks ?d_take_till ?d_read_table_line ?d_read_switch ?d_read_lamp ?d_read_coil ?d_read_device ?d_read_kick ?d_take_sort ?d_read_part ?d_check_drains ?d_read_board ?mSO ?kSO ?b_ord ?b_tuple ?b_len ?b_range ?b_max ?b_sum) (Fb.TJ.mk ?j1 ?j2 ?j3) (Fb.TP.mk ?xc ?mc ?t0 ?t1 ?t2 ?t3 ?t4 ?t5 ?t6 ?tb) ?gO ?jd ?ja ?jc ?jt
    (case mc => refine' PySem.W.mg_of KX G ?q1; (case q1 => k_is))
    (case xc => refine' Fb.xcls0_mk ?q1 ?q2 ?q3 ?q4 ?q5; (case q1 => k_is); (case q2 => k_is); (case q3 => rfl); (case q4 => first | rfl | decide +kernel); (case q5 => k_is))
    (case mF => refine' PySem.W.mg_of KX G ?q1; (case q1 => k_is))
    (case mSO => refine' PySem.W.mg_of KX G ?q1; (case q1 => k_is))
    (case iS => refine' Fb.init_mk KX G ?q1 ?q2 ?q3 ?q4 ?q5 ?q6 ?q7 ?q8; (case q1 => k_is); (case q2 => k_is); (case q3 => k_is); (case q4 => k_is); (case q5 => k_is); (case q6 => k_is); (case q7 => k_is); (case q8 => k_is))
    (case iL => refine' Fb.init_mk KX G ?q1 ?q2 ?q3 ?q4 ?q5 ?q6 ?q7 ?q8; (case q1 => k_is); (case q2 => k_is); (case q3 => k_is); (case q4 => k_is); (case q5 => k_is); (case q6 => k_is); (case q7 => k_is); (case q8 => k_is))
    (case iC => refine' Fb.init_mk KX G ?q1 ?q2 ?q3 ?q4 ?q5 ?q6 ?q7 ?q8; (case q1 => k_is); (case q2 => k_is); (case q3 => k_is); (case q4 => k_is); (case q5 => k_is); (case q6 => k_is); (case q7 => k_is); (case q8 => k_is))
    (case iD => refine' Fb.init_mk KX G ?q1 ?q2 ?q3 ?q4 ?q5 ?q6 ?q7 ?q8; (case q1 => k_is); (case q2 => k_is); (case q3 => k_is); (case q4 => k_is); (case q5 => k_is); (case q6 => k_is); (case q7 => k_is); (case q8 => k_is))
    (case iKi => refine' Fb.init_mk KX G ?q1 ?q2 ?q3 ?q4 ?q5 ?q6 ?q7 ?q8; (case q1 => k_is); (case q2 => k_is); (case q3 => k_is); (case q4 => k_is); (case q5 => k_is); (case q6 => k_is); (case q7 => k_is); (case q8 => k_is))
    (case iB => refine' Fb.init_mk KX G ?q1 ?q2 ?q3 ?q4 ?q5 ?q6 ?q7 ?q8; (case q1 => k_is); (case q2 => k_is); (case q3 => k_is); (case q4 => k_is); (case q5 => k_is); (case q6 => k_is); (case q7 => k_is); (case q8 => k_is))
    (case iLi => refine' Fb.init_mk KX G ?q1 ?q2 ?q3 ?q4 ?q5 ?q6 ?q7 ?q8; (case q1 => k_is); (case q2 => k_is); (case q3 => k_is); (case q4 => k_is); (case q5 => k_is); (case q6 => k_is); (case q7 => k_is); (case q8 => k_is))
    (case xF => refine' Fb.xcls_mk ?q1 ?q2 ?q3 ?q4 ?q5 ?q6 ?q7 ?q8 ?q9; (case q1 => k_is); (case q2 => k_is); (case q3 => rfl); (case q4 => k_is); (case q5 => k_is); (case q6 => k_is); (case q7 => k_is); (case q8 => k_is); (case q9 => k_is))
    (case iF => refine' Fb.xi_mk ?q1 ?q2 ?q3; (case q1 => k_is); (case q2 => k_is); (case q3 => k_is))
    (case nK => (show PySem.W.findIn _ _ _ = some none); k_is)
    (case nP => (show PySem.W.findIn _ _ _ = some none); k_is)
    (case g_NOT_ENDED => refine' Fb.gi_mk KX G ?q1; (case q1 => k_is))
    (case g_WRONG_BYTE => refine' Fb.gi_mk KX G ?q1; (case q1 => k_is))
    (case g_WRONG_WORD => refine' Fb.gi_mk KX G ?q1; (case q1 => k_is))
    (case g_WRONG_FORM => refine' Fb.gi_mk KX G ?q1; (case q1 => k_is))
    (case g_NOT_NEW => refine' Fb.gi_mk KX G ?q1; (case q1 => k_is))
    (case g_NOT_THERE => refine' Fb.gi_mk KX G ?q1; (case q1 => k_is))
    (case g_CLASH => refine' Fb.gi_mk KX G ?q1; (case q1 => k_is))
    (case g_TOO_FEW_HELD => refine' Fb.gi_mk KX G ?q1; (case q1 => k_is))
    (case cS => refine' Fb.cls_mk ?q1 ?q2 ?q3 ?q4 (Fb.no_cons ?n1 (Fb.no_cons ?n2 (Fb.no_cons ?n3 (Fb.no_cons ?n4 (Fb.no_cons ?n5 Fb.no_nil))))); (case q1 => k_is); (case q2 => k_is); (case q3 => k_is); (case q4 => k_is); (case n1 => k_is); (case n2 => k_is); (case n3 => k_is); (case n4 => k_is); (case n5 => k_is))
    (case cL => refine' Fb.cls_mk ?q1 ?q2 ?q3 ?q4 (Fb.no_cons ?n1 (Fb.no_cons ?n2 Fb.no_nil)); (case q1 => k_is); (case q2 => k_is); (case q3 => k_is); (case q4 => k_is); (case n1 => k_is); (case n2 => k_is))
    (case cC => refine' Fb.cls_mk ?q1 ?q2 ?q3 ?q4 (Fb.no_cons ?n1 (Fb.no_cons ?n2 (Fb.no_cons ?n3 (Fb.no_cons ?n4 (Fb.no_cons ?n5 Fb.no_nil))))); (case q1 => k_is); (case q2 => k_is); (case q3 => k_is); (case q4 => k_is); (case n1 => k_is); (case n2 => k_is); (case n3 => k_is); (case n4 => k_is); (case n5 => k_is))
    (case cD => refine' Fb.cls_mk ?q1 ?q2 ?q3 ?q4 (Fb.no_cons ?n1 (Fb.no_cons ?n2 (Fb.no_cons ?n3 (Fb.no_cons ?n4 Fb.no_nil)))); (case q1 => k_is); (case q2 => k_is); (case q3 => k_is); (case q4 => k_is); (case n1 => k_is); (case n2 => k_is); (case n3 => k_is); (case n4 => k_is))
    (case cKi => refine' Fb.cls_mk ?q1 ?q2 ?q3 ?q4 (Fb.no_cons ?n1 (Fb.no_cons ?n2 (Fb.no_cons ?n3 (Fb.no_cons ?n4 Fb.no_nil)))); (case q1 => k_is); (case q2 => k_is); (case q3 => k_is); (case q4 => k_is); (case n1 => k_is); (case n2 => k_is); (case n3 => k_is); (case n4 => k_is))
    (case cB => refine' Fb.cls_mk ?q1 ?q2 ?q3 ?q4 (Fb.no_cons ?n1 (Fb.no_cons ?n2 (Fb.no_cons ?n3 (Fb.no_cons ?n4 (Fb.no_cons ?n5 (Fb.no_cons ?n6 (Fb.no_cons ?n7 (Fb.no_cons ?n8 (Fb.no_cons ?n9 Fb.no_nil))))))))); (case q1 => k_is); (case q2 => k_is); (case q3 => k_is); (case q4 => k_is); (case n1 => k_is); (case n2 => k_is); (case n3 => k_is); (case n4 => k_is); (case n5 => k_is); (case n6 => k_is); (case n7 => k_is); (case n8 => k_is); (case n9 => k_is))
    (case g_NL => refine' Fb.gi_mk KX G ?q1; (case q1 => k_is))
    (case g_BLANK => refine' Fb.gi_mk KX G ?q1; (case q1 => k_is))
    (case g_LAST_SIGN => refine' Fb.gi_mk KX G ?q1; (case q1 => k_is))
    (case g_MOST_NAME_BYTES => refine' Fb.gi_mk KX G ?q1; (case q1 => k_is))
    (case g_NO_NUMBER => refine' Fb.gi_mk KX G ?q1; (case q1 => k_is))
    (case d_spelled => refine' Fb.def_mk KX G ?q1 ?q2 ?q3 ?q4; (case q1 => k_is); (case q2 => k_is); (case q3 => k_is); (case q4 => k_is))
    (case d_is_letter => refine' Fb.def_mk KX G ?q1 ?q2 ?q3 ?q4; (case q1 => k_is); (case q2 => k_is); (case q3 => k_is); (case q4 => k_is))
    (case d_is_digit => refine' Fb.def_mk KX G ?q1 ?q2 ?q3 ?q4; (case q1 => k_is); (case q2 => k_is); (case q3 => k_is); (case q4 => k_is))
    (case d_is_name => refine' Fb.def_mk KX G ?q1 ?q2 ?q3 ?q4; (case q1 => k_is); (case q2 => k_is); (case q3 => k_is); (case q4 => k_is))
    (case d_number_of => refine' Fb.def_mk KX G ?q1 ?q2 ?q3 ?q4; (case q1 => k_is); (case q2 => k_is); (case q3 => k_is); (case q4 => k_is))
    (case cLi => refine' Fb.cls_mk ?q1 ?q2 ?q3 ?q4 (Fb.no_cons ?n1 (Fb.no_cons ?n2 (Fb.no_cons ?n3 (Fb.no_cons ?n4 Fb.no_nil)))); (case q1 => k_is); (case q2 => k_is); (case q3 => k_is); (case q4 => k_is); (case n1 => k_is); (case n2 => k_is); (case n3 => k_is); (case n4 => k_is))
    (case m_has_more => refine' Fb.meth_mk ?q1 ?q2 ?q3 ?q4 ?q5; (case q1 => k_is); (case q2 => k_is); (case q3 => k_is); (case q4 => k_is); (case q5 => k_is))
    (case m_comes => refine' Fb.meth_mk ?q1 ?q2 ?q3 ?q4 ?q5; (case q1 => k_is); (case q2 => k_is); (case q3 => k_is); (case q4 => k_is); (case q5 => k_is))
    (case m_take => refine' Fb.meth_mk ?q1 ?q2 ?q3 ?q4 ?q5; (case q1 => k_is); (case q2 => k_is); (case q3 => k_is); (case q4 => k_is); (case q5 => k_is))
    (case m_take_keyword => refine' Fb.meth_mk ?q1 ?q2 ?q3 ?q4 ?q5; (case q1 => k_is); (case q2 => k_is); (case q3 => k_is); (case q4 => k_is); (case q5 => k_is))
    (case m_take_ending => refine' Fb.meth_mk ?q1 ?q2 ?q3 ?q4 ?q5; (case q1 => k_is); (case q2 => k_is); (case q3 => k_is); (case q4 => k_is); (case q5 => k_is))
    (case m_take_name => refine' Fb.meth_mk ?q1 ?q2 ?q3 ?q4 ?q5; (case q1 => k_is); (case q2 => k_is); (case q3 => k_is); (case q4 => k_is); (case q5 => k_is))
    (case m_take_number => refine' Fb.meth_mk ?q1 ?q2 ?q3 ?q4 ?q5; (case q1 => k_is); (case q2 => k_is); (case q3 => k_is); (case q4 => k_is); (case q5 => k_is))
    (case m_finish => refine' Fb.meth_mk ?q1 ?q2 ?q3 ?q4 ?q5; (case q1 => k_is); (case q2 => k_is); (case q3 => k_is); (case q4 => k_is); (case q5 => k_is))
    (case d_find_end => refine' Fb.def_mk KX G ?q1 ?q2 ?q3 ?q4; (case q1 => k_is); (case q2 => k_is); (case q3 => k_is); (case q4 => k_is))
    (case d_check_bytes => refine' Fb.def_mk KX G ?q1 ?q2 ?q3 ?q4; (case q1 => k_is); (case q2 => k_is); (case q3 => k_is); (case q4 => k_is))
    (case d_split_words => refine' Fb.def_mk KX G ?q1 ?q2 ?q3 ?q4; (case q1 => k_is); (case q2 => k_is); (case q3 => k_is); (case q4 => k_is))
    (case d_read_line => refine' Fb.def_mk KX G ?q1 ?q2 ?q3 ?q4; (case q1 => k_is); (case q2 => k_is); (case q3 => k_is); (case q4 => k_is))
    (case g_MOST_BALLS => refine' Fb.gi_mk KX G ?q1; (case q1 => k_is))
    (case g_MOST_SWITCH_PLACE => refine' Fb.gi_mk KX G ?q1; (case q1 => k_is))
    (case g_MOST_LAMP_PLACE => refine' Fb.gi_mk KX G ?q1; (case q1 => k_is))
    (case g_MOST_COIL_PLACE => refine' Fb.gi_mk KX G ?q1; (case q1 => k_is))
    (case g_MOST_TO_CLOSE => refine' Fb.gi_mk KX G ?q1; (case q1 => k_is))
    (case g_MOST_TO_OPEN => refine' Fb.gi_mk KX G ?q1; (case q1 => k_is))
    (case g_MOST_COIL_MOST => refine' Fb.gi_mk KX G ?q1; (case q1 => k_is))
    (case g_MOST_COIL_REST => refine' Fb.gi_mk KX G ?q1; (case q1 => k_is))
    (case g_MOST_COIL_HOLD => refine' Fb.gi_mk KX G ?q1; (case q1 => k_is))
    (case g_MOST_KICK_TICKS => refine' Fb.gi_mk KX G ?q1; (case q1 => k_is))
    (case g_MOST_DEVICES => refine' Fb.gi_mk KX G ?q1; (case q1 => k_is))
    (case g_MOST_KICKS => refine' Fb.gi_mk KX G ?q1; (case q1 => k_is))
    (case g_MOST_HELD => refine' Fb.gi_mk KX G ?q1; (case q1 => k_is))
    (case g_NO_PLACE => refine' Fb.gi_mk KX G ?q1; (case q1 => k_is))
    (case d_take_new_name => refine' Fb.def_mk KX G ?q1 ?q2 ?q3 ?q4; (case q1 => k_is); (case q2 => k_is); (case q3 => k_is); (case q4 => k_is))
    (case d_take_new_name_but => refine' Fb.def_mk KX G ?q1 ?q2 ?q3 ?q4; (case q1 => k_is); (case q2 => k_is); (case q3 => k_is); (case q4 => k_is))
    (case d_take_known => refine' Fb.def_mk KX G ?q1 ?q2 ?q3 ?q4; (case q1 => k_is); (case q2 => k_is); (case q3 => k_is); (case q4 => k_is))
    (case d_take_place => refine' Fb.def_mk KX G ?q1 ?q2 ?q3 ?q4; (case q1 => k_is); (case q2 => k_is); (case q3 => k_is); (case q4 => k_is))
    (case d_take_named_number => refine' Fb.def_mk KX G ?q1 ?q2 ?q3 ?q4; (case q1 => k_is); (case q2 => k_is); (case q3 => k_is); (case q4 => k_is))
    (case d_take_serving_coil => refine' Fb.def_mk KX G ?q1 ?q2 ?q3 ?q4; (case q1 => k_is); (case q2 => k_is); (case q3 => k_is); (case q4 => k_is))
    (case d_take_held_switch => refine' Fb.def_mk KX G ?q1 ?q2 ?q3 ?q4; (case q1 => k_is); (case q2 => k_is); (case q3 => k_is); (case q4 => k_is))
    (case d_take_held_switches => refine' Fb.def_mk KX G ?q1 ?q2 ?q3 ?q4; (case q1 => k_is); (case q2 => k_is); (case q3 => k_is); (case q4 => k_is))
    (case d_take_kick_switch => refine' Fb.def_mk KX G ?q1 ?q2 ?q3 ?q4; (case q1 => k_is); (case q2 => k_is); (case q3 => k_is); (case q4 => k_is))
    (case d_take_ticks => refine' Fb.def_mk KX G ?q1 ?q2 ?q3 ?q4; (case q1 => k_is); (case q2 => k_is); (case q3 => k_is); (case q4 => k_is))
    (case d_take_till => refine' Fb.def_mk KX G ?q1 ?q2 ?q3 ?q4; (case q1 => k_is); (case q2 => k_is); (case q3 => k_is); (case q4 => k_is))
    (case d_read_table_line => refine' Fb.def_mk KX G ?q1 ?q2 ?q3 ?q4; (case q1 => k_is); (case q2 => k_is); (case q3 => k_is); (case q4 => k_is))
    (case d_read_switch => refine' Fb.def_mk KX G ?q1 ?q2 ?q3 ?q4; (case q1 => k_is); (case q2 => k_is); (case q3 => k_is); (case q4 => k_is))
    (case d_read_lamp => refine' Fb.def_mk KX G ?q1 ?q2 ?q3 ?q4; (case q1 => k_is); (case q2 => k_is); (case q3 => k_is); (case q4 => k_is))
    (case d_read_coil => refine' Fb.def_mk KX G ?q1 ?q2 ?q3 ?q4; (case q1 => k_is); (case q2 => k_is); (case q3 => k_is); (case q4 => k_is))
    (case d_read_device => refine' Fb.def_mk KX G ?q1 ?q2 ?q3 ?q4; (case q1 => k_is); (case q2 => k_is); (case q3 => k_is); (case q4 => k_is))
    (case d_read_kick => refine' Fb.def_mk KX G ?q1 ?q2 ?q3 ?q4; (case q1 => k_is); (case q2 => k_is); (case q3 => k_is); (case q4 => k_is))
    (case d_take_sort => refine' Fb.def_mk KX G ?q1 ?q2 ?q3 ?q4; (case q1 => k_is); (case q2 => k_is); (case q3 => k_is); (case q4 => k_is))
    (case d_read_part => refine' Fb.def_mk KX G ?q1 ?q2 ?q3 ?q4; (case q1 => k_is); (case q2 => k_is); (case q3 => k_is); (case q4 => k_is))
    (case d_check_drains => refine' Fb.def_mk KX G ?q1 ?q2 ?q3 ?q4; (case q1 => k_is); (case q2 => k_is); (case q3 => k_is); (case q4 => k_is))
    (case d_read_board => refine' Fb.def_mk KX G ?q1 ?q2 ?q3 ?q4; (case q1 => k_is); (case q2 => k_is); (case q3 => k_is); (case q4 => k_is))
    (case kSO => refine' Fb.so_mk ?q1; (case q1 => k_is))
    (case b_ord => refine' PySem.W.mg_none_of KX G ?q1; (case q1 => k_is))
    (case b_tuple => refine' PySem.W.mg_none_of KX G ?q1; (case q1 => k_is))
    (case b_len => refine' PySem.W.mg_none_of KX G ?q1; (case q1 => k_is))
    (case b_range => refine' PySem.W.mg_none_of KX G ?q1; (case q1 => k_is))
    (case b_max => refine' PySem.W.mg_none_of KX G ?q1; (case q1 => k_is))
    (case b_sum => refine' PySem.W.mg_none_of KX G ?q1; (case q1 => k_is))
    (case j1 => refine' Fb.gi_mk KX G ?q1; (case q1 => k_is))
    (case j2 => refine' Fb.gi_mk KX G ?q1; (case q1 => k_is))
    (case j3 => refine' Fb.gi_mk KX G ?q1; (case q1 => k_is))
    (case t0 => refine' Fb.gi_mk KX G ?q1; (case q1 => k_is))
    (case t1 => refine' Fb.gi_mk KX G ?q1; (case q1 => k_is))
    (case t2 => refine' Fb.gi_mk KX G ?q1; (case q1 => k_is))
    (case t3 => refine' Fb.gi_mk KX G ?q1; (case q1 => k_is))
    (case t4 => refine' Fb.gi_mk KX G ?q1; (case q1 => k_is))
    (case t5 => refine' Fb.gi_mk KX G ?q1; (case q1 => k_is))
    (case t6 => refine' Fb.gi_mk KX G ?q1; (case q1 => k_is))
    (case gO => refine' Fb.gi_mk KX G ?q1; (case q1 => k_is))
    (case tb => refine' PySem.W.mg_none_of KX G ?q1; (case q1 => k_is))
    (case jd => refine' Fb.def_mk KX G ?q1 ?q2 ?q3 ?q4; (case q1 => k_is); (case q2 => k_is); (case q3 => k_is); (case q4 => k_is))
    (case ja => refine' Fb.def_mk KX G ?q1 ?q2 ?q3 ?q4; (case q1 => k_is); (case q2 => k_is); (case q3 => k_is); (case q4 => k_is))
    (case jc => refine' Fb.def_mk KX G ?q1 ?q2 ?q3 ?q4; (case q1 => k_is); (case q2 => k_is); (case q3 => k_is); (case q4 => k_is))
    (case jt => refine' Fb.def_mk KX G ?q1 ?q2 ?q3 ?q4; (case q1 => k_is); (case q2 => k_is); (case q3 => k_is); (case q4 => k_is))
  case Ss =>
    intro K Pt H xs a hO hwi hask hx
    cases hx with
    | cons h0 h1 =>
      cases h0
      cases h1 with
      | cons h1 h2 =>
        cases h2
        cases h1 with
        | lst hs ha =>
          have e := L2.ints_dw a.2.1 _ ha
          subst e
          have q : (Codec.inInt 0 4294967295 a.1 && ((Codec.inLen 0 20000 a.2.1 && a.2.1.all (Codec.inInt 0 255)) && true)) = true := hwi
          rw [Bool.and_eq_true, Bool.and_eq_true, Bool.and_eq_true] at q
          have hw := Codec.inInt_iff.mp q.1
          have hb : ∀ z ∈ a.2.1, 0 ≤ z ∧ z ≤ 255 := fun z hz => Codec.inInt_iff.mp (List.all_eq_true.mp q.2.1.2 z hz)
          have hl := (Codec.inNat_iff.mp q.2.1.1).2
          rw [Fb.bytes_of hb] at hs
          refine ⟨a.1.toNat, _, TableNeutral.text a.2.1, by rw [Int.toNat_of_nonneg hw.1], hO.1, Fb.tx_ofT hO hs, ?_, fun H' p hp => ?_⟩
          · have := congrArg List.length (Fb.bytes_of hb)
            rw [List.length_map, Fb.bV_len] at this
            omega
          · show L2.Dw K H' (.ref p) (.list ((PyWqaqby.places a.1 a.2.1).map WData.int))
            rw [Fb.call_spec]
            exact .lst (L2.SqL.of hp) (L2.dw_ints _)
#print axioms PySem.Challenge.cw_flipboards_s09_places_holds
