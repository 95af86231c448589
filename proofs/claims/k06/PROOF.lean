import PyProof.Rows.All
import Wide.All
import OpenK.AllK
import Wide.FinOn
import Lean
import PyProof.EqAt
import PyProof.EqKinds
import PyProof.TupleCall
import PySem.Challenge.RW_stretchtree_k06_row_behind
set_option Elab.async false
set_option linter.all false
set_option maxRecDepth 100000
namespace L2
open PySem PySem.Spec PyProof.Rows

/-- a key: an int or a str -/
abbrev Key := Sum Int Str
def keyIs : Key → Value → Bool
  | .inl k, v => Value.isInt k v
  | .inr x, v => Value.isStrOf x v
def keyH (w : World) : Key → Int
  | .inl k => hashInt k
  | .inr x => hashStr w x
theorem keyIs_shape : ∀ {k : Key} {v : Value}, keyIs k v = true → (∃ i t, k = Sum.inl i ∧ v = Value.int i t) ∨ (∃ x t, k = Sum.inr x ∧ v = Value.str x t)
  | .inl i, v, h => by
    obtain ⟨t, e⟩ := Value.isInt_shape (k := i) (v := v) h
    exact .inl ⟨i, t, rfl, e⟩
  | .inr x, v, h => by
    obtain ⟨t, e⟩ := Value.isStrOf_shape (x := x) (v := v) h
    exact .inr ⟨x, t, rfl, e⟩
theorem keyIs_int (i : Int) (t : Tok) : keyIs (.inl i) (.int i t) = true := by simp [keyIs, Value.isInt]
theorem keyIs_str (x : Str) (t : Tok) : keyIs (.inr x) (.str x t) = true := by simp [keyIs, Value.isStrOf]
theorem key_ll (a b : Int) : decide ((Sum.inl a : Key) = Sum.inl b) = (a == b) := by
  by_cases e : a = b
  · subst e; simp
  · have h : ¬ (Sum.inl a : Key) = Sum.inl b := fun q => e (Sum.inl.inj q)
    rw [decide_eq_false h]
    exact (beq_eq_false_iff_ne.mpr e).symm
theorem key_rr (a b : Str) : decide ((Sum.inr a : Key) = Sum.inr b) = decide (a = b) := by
  by_cases e : a = b
  · subst e; simp
  · have h : ¬ (Sum.inr a : Key) = Sum.inr b := fun q => e (Sum.inr.inj q)
    rw [decide_eq_false h, decide_eq_false e]
theorem key_lr (a : Int) (b : Str) : decide ((Sum.inl a : Key) = Sum.inr b) = false := decide_eq_false (fun q => nomatch q)
theorem key_rl (a : Str) (b : Int) : decide ((Sum.inr a : Key) = Sum.inl b) = false := decide_eq_false (fun q => nomatch q)

def mixKind (prog : Program) (w : World) : PySem.KeyKind prog w Key where
  is := keyIs
  hash := keyH w
  inj := fun v a b ha hb => by
    rcases keyIs_shape ha with ⟨i, t, rfl, rfl⟩ | ⟨x, t, rfl, rfl⟩
    · rcases keyIs_shape hb with ⟨j, u, rfl, e⟩ | ⟨y, u, rfl, e⟩
      · injection e with e1 _; rw [e1]
      · exact nomatch e
    · rcases keyIs_shape hb with ⟨j, u, rfl, e⟩ | ⟨y, u, rfl, e⟩
      · exact nomatch e
      · injection e with e1 _; rw [e1]
  byValue := fun k v h => by
    rcases keyIs_shape h with ⟨i, t, rfl, rfl⟩ | ⟨x, t, rfl, rfl⟩ <;> rfl
  pyHash := fun hv h => by
    rcases keyIs_shape hv with ⟨i, t, rfl, rfl⟩ | ⟨x, t, rfl, rfl⟩
    · exact wpAny_pyHash_int h
    · exact wpAny_pyHash_str h
  eqBool := fun hu hv h => by
    rcases keyIs_shape hu with ⟨i, t, rfl, rfl⟩ | ⟨x, t, rfl, rfl⟩
    · rcases keyIs_shape hv with ⟨j, u, rfl, rfl⟩ | ⟨y, u, rfl, rfl⟩
      · rw [key_ll] at h; exact wpAny_eqBool_int h
      · rw [key_lr] at h; exact SeqAt.EqAt.int_str i t y u _ _ _ _ h
    · rcases keyIs_shape hv with ⟨j, u, rfl, rfl⟩ | ⟨y, u, rfl, rfl⟩
      · rw [key_rl] at h; exact SeqAt.EqAt.str_int x t j u _ _ _ _ h
      · rw [key_rr] at h; exact wpAny_eqBool_str h
  «strs» := fun k x t v h => by
    rcases keyIs_shape h with ⟨i, u, rfl, e⟩ | ⟨y, u, rfl, e⟩
    · exact nomatch e
    · injection e with e1 _
      subst e1
      cases v <;> rfl

theorem mixKind_int (prog : Program) (w : World) (i : Int) (t : Tok) : (mixKind prog w).is (.inl i) (.int i t) = true := keyIs_int i t
theorem mixKind_str (prog : Program) (w : World) (x : Str) (t : Tok) : (mixKind prog w).is (.inr x) (.str x t) = true := keyIs_str x t
end L2

namespace L2
open PySem PySem.Spec PyProof.Rows

/-- a value, without the heap -/
inductive V where
  | non | bl (b : Bool) | int (i : Int) | str (x : Str) | byt (b : Array UInt8) | flt (b : UInt64) | ref (a : Addr) | ty (n : String)
  deriving DecidableEq

def RelV : V → Value → Prop
  | .non, u => u = Value.none
  | .bl b, u => u = Value.bool b
  | .int i, u => ∃ t, u = Value.int i t
  | .str x, u => ∃ t, u = Value.str x t
  | .byt b, u => ∃ t, u = Value.bytes b t
  | .flt b, u => ∃ t, u = Value.float b t
  | .ref a, u => u = Value.ref a
  | .ty n, u => u = Value.type n

abbrev Vals : List V → List Value → Prop := Paired RelV
theorem Vals.length {xs : List V} {us : List Value} (r : Vals xs us) : xs.length = us.length := Paired.length r
theorem Vals.get : ∀ {xs : List V} {us : List Value} {i : Nat} {x : V}, Vals xs us → xs[i]? = some x → ∃ u, us[i]? = some u ∧ RelV x u
  | _, _, _, _, .nil, e => by simp at e
  | _, _, 0, _, .cons r _, e => by simp at e; subst e; exact ⟨_, rfl, r⟩
  | _, _, i + 1, x, .cons _ t, e => by
    obtain ⟨u, h1, h2⟩ := Vals.get (i := i) (x := x) t (by simpa using e)
    exact ⟨u, by simpa using h1, h2⟩
theorem Vals.set {x : V} {u : Value} (r : RelV x u) : ∀ {xs : List V} {us : List Value} (i : Nat), Vals xs us → Vals (xs.set i x) (us.set i u)
  | _, _, _, .nil => .nil
  | _, _, 0, .cons _ t => .cons r t
  | _, _, i + 1, .cons q t => .cons q (Vals.set r i t)
theorem Vals.append : ∀ {xs ys : List V} {us ws : List Value}, Vals xs us → Vals ys ws → Vals (xs ++ ys) (us ++ ws)
  | _, _, _, _, .nil, s => s
  | _, _, _, _, .cons r t, s => .cons r (Vals.append t s)
theorem Vals.take : ∀ {xs : List V} {us : List Value} (n : Nat), Vals xs us → Vals (xs.take n) (us.take n)
  | _, _, 0, _ => .nil
  | _, _, _ + 1, .nil => .nil
  | _, _, n + 1, .cons r t => .cons r (Vals.take n t)
theorem Vals.drop : ∀ {xs : List V} {us : List Value} (n : Nat), Vals xs us → Vals (xs.drop n) (us.drop n)
  | _, _, 0, r => r
  | _, _, _ + 1, .nil => .nil
  | _, _, n + 1, .cons _ t => Vals.drop n t
def RelO : Option V → Option Value → Prop
  | some v, some u => RelV v u
  | none, none => True
  | _, _ => False
def KV {κ : Type} : List (κ × V) → List (κ × Value) → Prop := Paired fun (p : κ × V) (q : κ × Value) => p.1 = q.1 ∧ RelV p.2 q.2

/-- a key of a dict (00_mix): an int or a text -/
def kV : Key → V
  | .inl i => .int i
  | .inr x => .str x

/-- what stands at a tracked address -/
inductive HO where
  /-- a list -/
  | lst (xs : List V)
  /-- a tuple (never changes) -/
  | tup (xs : List V)
  /-- a dict whose keys are ints and texts; one whose keys are tuples of ints and texts (the empty one is both) -/
  | dK (kvs : List (Key × V)) | dT (kvs : List (List Key × V))
  /-- a set of ints: its members, its size -/
  | set (S : Int → Bool) (n : Nat)
  /-- an instance of the class at C, its dict at dx, its attributes -/
  | ins (C dx : Addr) (fs : List (Str × V))
  /-- the dict of the instance at x -/
  | own (x : Addr)
  /-- the dict of an exception -/
  | xd (fs : List (Str × V))
  /-- a bound method, f of x -/
  | met (f x : Addr)
  /-- a range object lo, lo + 1, .. below hi -/
  | rng (lo hi : Int)
  /-- a thing that is known to the object (the script; a dict while a loop walks it): read, never written while it is so -/
  | frz (o : Obj) (u : HO)
  /-- a code object's table -/
  | tbl (ps : Array Value)
  /-- any other thing, by what is true of its one object (a def of one's own: SetO a S n := HO.ext fun h => ..) -/
  | ext (φ : Heap → Prop)

abbrev Hp := Addr → Option HO
def upd (H : Hp) (a : Addr) (o : HO) : Hp := fun b => if b = a then some o else H b
theorem upd_same {H : Hp} {a : Addr} {o : HO} : upd H a o a = some o := by unfold upd; rw [if_pos rfl]
theorem upd_ne {H : Hp} {a b : Addr} {o : HO} (h : b ≠ a) : upd H a o b = H b := by unfold upd; rw [if_neg h]
theorem upd_upd {H : Hp} {a : Addr} {o u : HO} : upd (upd H a o) a u = upd H a u := by
  funext b; unfold upd; split <;> rfl
/-- two objects of different content stand apart -/
theorem ne_of {H : Hp} {a b : Addr} {o u : HO} (h : H a = some o) (h' : H b = some u) (d : o ≠ u) : a ≠ b := by
  intro e; subst e; rw [h] at h'; exact d (Option.some.inj h')
theorem ne_of_none {H : Hp} {a b : Addr} {o : HO} (h : H a = some o) (h' : H b = none) : a ≠ b := by
  intro e; subst e; rw [h] at h'; cases h'

section
variable (P : Program) (w : World)
def ObjOk (H : Hp) (h : Heap) (a : Addr) : HO → Prop
  | .lst xs => xs.length ≤ sizeLine ∧ ∃ (its : List Value) (n : Nat), Vals xs its ∧ h.get? a = some { cls := .type "list", data := .seq its.toArray n }
  | .tup xs => xs.length ≤ sizeLine ∧ ∃ its : List Value, Vals xs its ∧ IsTup h a its.toArray
  | .dK kvs => kvs.length ≤ sizeLine ∧ (a == sysModules) = false ∧ ∃ vs, KV kvs vs ∧ h.DictOf (mixKind P w) a vs
  | .dT kvs => kvs.length ≤ sizeLine ∧ (a == sysModules) = false ∧ ∃ xs : List (List Key × Addr × Value),
      Paired (fun (p : List Key × V) (q : List Key × Addr × Value) => p.1 = q.1 ∧ H q.2.1 = some (.tup (p.1.map kV)) ∧ RelV p.2 q.2.2) kvs xs ∧
      ∃ o es ep, h.get? a = some o ∧ o.ExactDict ∧ o.data = .dict es ep ∧ es.toList = xs.map (entryOfKey (tupleKind (mixKind P w))) ∧ (xs.map (·.1)).Nodup
  | .set S n => h.SetOf (intKind P w) a S n
  | .ins C dx fs => H dx = some (.own a) ∧ fs.length ≤ 1000 ∧ dx ≠ a ∧ h.get? a = some (PySem.W.instObj C dx) ∧
      ∃ mA, h.Ns1 dx mA ∧ (∀ f, RelO (fs.lookup f) (mA f)) ∧ PySem.Within mA (fs.map (·.1))
  | .own _ => ∃ o, h.get? a = some o
  | .xd fs => ∃ mA, h.Ns1 a mA ∧ ∀ f, RelO (fs.lookup f) (mA f)
  | .rng lo hi => ∃ t u v, h.get? a = some { cls := .type "range", data := .fields #[.int lo t, .int hi u, .int 1 v] }
  | .frz o u => h.get? a = some o ∧ ObjOk H h a u
  | .tbl ps => h.get? a = some { cls := .none, data := .fields ps }
  | .met f x => h.get? a = some (PySem.W.methodObj (.ref f) (.ref x))
  | .ext φ => φ h ∧ (∃ o, h.get? a = some o) ∧ ∀ h1 h2 : Heap, φ h1 → (∀ o, h1.get? a = some o → h2.get? a = some o) → φ h2
/-- the abstract heap is held -/
def HOk (H : Hp) (h : Heap) : Prop := ∀ a o, H a = some o → ObjOk P w H h a o
end

section
variable {P : Program} {w : World} {H H' : Hp} {h h' : Heap} {a : Addr} {o : HO}
theorem ObjOk.lt (x : ObjOk P w H h a o) : a < h.objs.size := by
  cases o with
  | lst xs => obtain ⟨_, _, _, _, e⟩ := x; exact Heap.lt_size e
  | tup xs => obtain ⟨_, _, _, p⟩ := x; exact p.lt
  | dK kvs => obtain ⟨_, _, _, _, o, _, _, e, _⟩ := x; exact Heap.lt_size e
  | dT kvs => obtain ⟨_, _, _, _, o, _, _, e, _⟩ := x; exact Heap.lt_size e
  | set S n => obtain ⟨o, _, _, _, e, _⟩ := x; exact Heap.lt_size e
  | ins C dx fs => obtain ⟨_, _, _, e, _⟩ := x; exact Heap.lt_size e
  | own y => obtain ⟨_, e⟩ := x; exact Heap.lt_size e
  | xd fs => obtain ⟨_, ⟨_, _, _, e, _⟩, _⟩ := x; exact Heap.lt_size e
  | rng lo hi => obtain ⟨_, _, _, e⟩ := x; exact Heap.lt_size e
  | frz ob u => obtain ⟨e, _⟩ := x; exact Heap.lt_size e
  | tbl ps => exact Heap.lt_size (show h.get? a = some _ from x)
  | met f y => exact Heap.lt_size (show h.get? a = some _ from x)
  | ext φ => obtain ⟨_, ⟨_, e⟩, _⟩ := x; exact Heap.lt_size e
theorem Paired.mapP {α β : Type} {F G : α → β → Prop} : ∀ {l₁ : List α} {l₂ : List β}, Paired F l₁ l₂ → (∀ a b, F a b → G a b) → Paired G l₁ l₂
  | _, _, .nil, _ => .nil
  | _, _, .cons r t, f => .cons (f _ _ r) (Paired.mapP t f)
/-- what an object's description leans on: its own object, its own dict, the tuples -/
theorem ObjOk.stay (x : ObjOk P w H h a o) (k : ∀ b u, (b = a ∨ H b = some (.own a)) → h.get? b = some u → h'.get? b = some u)
    (ho : ∀ b, H b = some (.own a) → H' b = some (.own a)) (ht : ∀ b xs, H b = some (.tup xs) → H' b = some (.tup xs)) : ObjOk P w H' h' a o := by
  induction o with
  | lst xs => obtain ⟨z, its, n, r, e⟩ := x; exact ⟨z, its, n, r, k _ _ (.inl rfl) e⟩
  | tup xs => obtain ⟨z, its, r, ob, e, c⟩ := x; exact ⟨z, its, r, ob, k _ _ (.inl rfl) e, c⟩
  | dK kvs => obtain ⟨z, y, vs, r, ob, es, ep, e, c⟩ := x; exact ⟨z, y, vs, r, ob, es, ep, k _ _ (.inl rfl) e, c⟩
  | dT kvs =>
    obtain ⟨z, y, xs, r, ob, es, ep, e, c⟩ := x
    exact ⟨z, y, xs, Paired.mapP r fun p q z => ⟨z.1, ht _ _ z.2.1, z.2.2⟩, ob, es, ep, k _ _ (.inl rfl) e, c⟩
  | set S n => obtain ⟨ob, es, ep, t, e, c⟩ := x; exact ⟨ob, es, ep, t, k _ _ (.inl rfl) e, c⟩
  | ins C dx fs =>
    obtain ⟨d, z, ne, e, mA, ⟨od, es, ep, e2, c⟩, r⟩ := x
    exact ⟨ho _ d, z, ne, k _ _ (.inl rfl) e, mA, ⟨od, es, ep, k _ _ (.inr d) e2, c⟩, r⟩
  | own y => obtain ⟨ob, e⟩ := x; exact ⟨ob, k _ _ (.inl rfl) e⟩
  | xd fs => obtain ⟨mA, ⟨od, es, ep, e, c⟩, r⟩ := x; exact ⟨mA, ⟨od, es, ep, k _ _ (.inl rfl) e, c⟩, r⟩
  | rng lo hi => obtain ⟨t, u, v, e⟩ := x; exact ⟨t, u, v, k _ _ (.inl rfl) e⟩
  | frz ob u ih => obtain ⟨e, q⟩ := x; exact ⟨k _ _ (.inl rfl) e, ih q⟩
  | tbl ps =>
    have e : h.get? a = some { cls := .none, data := .fields ps } := x
    show h'.get? a = some { cls := .none, data := .fields ps }
    exact k a _ (.inl rfl) e
  | met f y =>
    have e : h.get? a = some (PySem.W.methodObj (.ref f) (.ref y)) := x
    show h'.get? a = some (PySem.W.methodObj (.ref f) (.ref y))
    exact k a _ (.inl rfl) e
  | ext φ => obtain ⟨p, ⟨o, e⟩, st⟩ := x; exact ⟨st _ _ p fun o q => k _ _ (.inl rfl) q, ⟨o, k _ _ (.inl rfl) e⟩, st⟩
theorem HOk.lt (x : HOk P w H h) (e : H a = some o) : a < h.objs.size := (x a o e).lt
theorem HOk.fresh (x : HOk P w H h) (e : h.objs.size ≤ a) : H a = none := by
  cases q : H a with
  | none => rfl
  | some u => exact absurd (Nat.lt_of_lt_of_le (x.lt q) e) (Nat.lt_irrefl _)
/-- every object of the heap is kept -/
theorem HOk.kept (x : HOk P w H h) (k : ∀ b u, h.get? b = some u → h'.get? b = some u) : HOk P w H h' := fun a o e =>
  (x a o e).stay (fun b u _ q => k b u q) (fun _ q => q) fun _ _ q => q
/-- a new object is laid and tracked -/
theorem HOk.laid (x : HOk P w H h) (k : ∀ b u, h.get? b = some u → h'.get? b = some u) (hp : h.objs.size ≤ a) (new : ObjOk P w (upd H a o) h' a o) : HOk P w (upd H a o) h' := fun b u e => by
  have hn := x.fresh hp
  by_cases hb : b = a
  · subst hb; rw [upd_same] at e; cases e; exact new
  · rw [upd_ne hb] at e
    exact (x b u e).stay (fun c v _ q => k c v q) (fun c q => by rw [upd_ne (ne_of_none q hn)]; exact q) fun c xs q => by rw [upd_ne (ne_of_none q hn)]; exact q
end

/-- what may be read as u: it is u, or a known u -/
def Rd (H : Hp) (a : Addr) (u : HO) : Prop := H a = some u ∨ ∃ o, H a = some (.frz o u)
theorem Rd.of {H : Hp} {a : Addr} {u : HO} (h : H a = some u) : Rd H a u := .inl h
theorem Rd.ok {P : Program} {w : World} {H : Hp} {h : Heap} {a : Addr} {u : HO} (r : Rd H a u) (x : HOk P w H h) : ObjOk P w H h a u := by
  rcases r with r | ⟨o, r⟩
  · exact x a u r
  · obtain ⟨_, q⟩ := x a _ r
    exact q
/-- what may be written -/
def Mut : Option HO → Prop
  | some (.lst _) => True
  | some (.dK _) => True
  | some (.dT _) => True
  | some (.set _ _) => True
  | some (.ins _ _ _) => True
  | some (.ext _) => True
  | _ => False
section
variable {P : Program} {w : World} {H : Hp} {h h' : Heap} {x e : Addr} {o' : HO}
/-- the object at e is changed: x itself, or the dict of the instance x -/
theorem HOk.write (ok : HOk P w H h) (mu : Mut (H x)) (he : e = x ∨ H e = some (.own x)) (k : ∀ b u, b ≠ e → h.get? b = some u → h'.get? b = some u) (heo : ∃ u, h'.get? e = some u)
    (new : ObjOk P w (upd H x o') h' x o') : HOk P w (upd H x o') h' := fun b u q => by
  have nown : ∀ c y, H c = some (.own y) → c ≠ x := fun c y r z => by subst z; rw [r] at mu; exact mu
  have ntup : ∀ c xs, H c = some (.tup xs) → c ≠ x := fun c xs r z => by subst z; rw [r] at mu; exact mu
  by_cases hb : b = x
  · subst hb; rw [upd_same] at q; cases q; exact new
  · rw [upd_ne hb] at q
    by_cases hbe : b = e
    · have q' : H b = some (.own x) := by
        rcases he with z | z
        · exact absurd (hbe.trans z) hb
        · rw [hbe]; exact z
      rw [q] at q'; cases q'
      obtain ⟨v, hv⟩ := heo
      exact ⟨v, by rw [hbe]; exact hv⟩
    · refine (ok b u q).stay (fun c v hc r => k c v ?_ r) (fun c r => by rw [upd_ne (nown c b r)]; exact r) fun c xs r => by rw [upd_ne (ntup c xs r)]; exact r
      rcases hc with rfl | hc
      · exact hbe
      · rintro rfl
        rcases he with z | z
        · exact nown c b hc z
        · rw [hc] at z; cases z; exact hb rfl
end

/-! ### kept unless tracked; of the frames at fs (the callers') the slots may change (an exception that passes writes there); of the records at ex (iterators) nothing is said -/
structure Un (fs ex : List Addr) (H H' : Hp) (h h' : Heap) : Prop where
  keep : ∀ b o, h.get? b = some o → H b = none → b ∉ fs → b ∉ ex → h'.get? b = some o
  slot : ∀ b o, h.get? b = some o → H b = none → b ∈ fs → b ∉ ex → ∃ sl, h'.get? b = some { o with slots := sl }
  free : ∀ b o, h.get? b = some o → H b = none → b ∉ ex → H' b = none
  there : ∀ b o, h.get? b = some o → b ∉ ex → ∃ o', h'.get? b = some o'
  tups : ∀ b xs, H b = some (.tup xs) → H' b = some (.tup xs)
  frzs : ∀ b o u, H b = some (.frz o u) → H' b = some (.frz o u)
  tbls : ∀ b ps, H b = some (.tbl ps) → ∃ more, H' b = some (.tbl (ps ++ more))
section
variable {fs fs' ex ex' : List Addr} {H H1 H2 : Hp} {h h1 h2 h' : Heap} {a x e : Addr} {o : HO}
theorem Un.any (u : Un fs ex H H1 h h1) {b : Addr} {ob : Obj} (q : h.get? b = some ob) (n : H b = none) (hx : b ∉ ex) : ∃ sl, h1.get? b = some { ob with slots := sl } := by
  by_cases hb : b ∈ fs
  · exact u.slot b ob q n hb hx
  · exact ⟨ob.slots, u.keep b ob q n hb hx⟩
theorem Un.kept (k : ∀ b u, h.get? b = some u → h'.get? b = some u) : Un fs ex H H h h' :=
  ⟨fun b ob q _ _ _ => k b ob q, fun b ob q _ _ _ => ⟨ob.slots, k b ob q⟩, fun _ _ _ n _ => n, fun b ob q _ => ⟨ob, k b ob q⟩, fun _ _ q => q, fun _ _ _ q => q, fun _ ps q => ⟨#[], by rw [q]; simp⟩⟩
theorem Un.refl : Un fs ex H H h h := Un.kept fun _ _ q => q
theorem Un.laid (k : ∀ b u, h.get? b = some u → h'.get? b = some u) (hp : h.objs.size ≤ a) (hn : H a = none) : Un fs ex H (upd H a o) h h' where
  keep := fun b u q _ _ _ => k b u q
  slot := fun b u q _ _ _ => ⟨u.slots, k b u q⟩
  free := fun b u q n _ => by rw [upd_ne (Nat.ne_of_lt (Nat.lt_of_lt_of_le (Heap.lt_size q) hp))]; exact n
  there := fun b u q _ => ⟨u, k b u q⟩
  tups := fun b xs q => by rw [upd_ne (ne_of_none q hn)]; exact q
  frzs := fun b u xs q => by rw [upd_ne (ne_of_none q hn)]; exact q
  tbls := fun b ps q => ⟨#[], by rw [upd_ne (ne_of_none q hn), q]; simp⟩
theorem Un.write (mu : Mut (H x)) (he : e = x ∨ H e = some (.own x)) (k : ∀ b u, b ≠ e → h.get? b = some u → h'.get? b = some u) (heo : ∃ u, h'.get? e = some u) : Un fs ex H (upd H x o) h h' := by
  have hx : ∀ b, H b = none → b ≠ x := fun b n z => by subst z; rw [n] at mu; exact mu
  have hb : ∀ b, H b = none → b ≠ e := fun b n z => by
    subst z
    rcases he with r | r
    · exact hx b n r
    · rw [n] at r; cases r
  have hm : ∀ b u, H b = some u → ¬ Mut (some u) → b ≠ x := fun b u q nm z => by subst z; rw [q] at mu; exact nm mu
  refine ⟨fun b u q n _ _ => k b u (hb b n) q, fun b u q n _ _ => ⟨u.slots, k b u (hb b n) q⟩, fun b u q n _ => by rw [upd_ne (hx b n)]; exact n, fun b u q _ => ?_,
    fun b xs q => by rw [upd_ne (hm b _ q fun z => z)]; exact q, fun b u xs q => by rw [upd_ne (hm b _ q fun z => z)]; exact q, fun b ps q => ⟨#[], by rw [upd_ne (hm b _ q fun z => z), q]; simp⟩⟩
  by_cases hbe : b = e
  · subst hbe; exact heo
  · exact ⟨u, k b u hbe q⟩
theorem Un.mono (u : Un fs ex H H1 h h1) (hs : ∀ b ∈ fs, b ∈ fs') (hx : ∀ b ∈ ex, b ∈ ex') : Un fs' ex' H H1 h h1 :=
  ⟨fun b ob q n hb he => u.keep b ob q n (fun z => hb (hs b z)) fun z => he (hx b z), fun _ _ q n _ he => u.any q n fun z => he (hx _ z), fun b ob q n he => u.free b ob q n fun z => he (hx b z), fun b ob q he => u.there b ob q fun z => he (hx b z), u.tups, u.frzs, u.tbls⟩
end

/-! ### the heap without what is tracked -/
def trk (h : Heap) (H : Hp) : List Addr := (List.range h.objs.size).filter fun a => (H a).isSome
def hidT (h : Heap) (H : Hp) : Heap := PySem.W.hideAll h (trk h H)
theorem hidT_size (h : Heap) (H : Hp) : (hidT h H).objs.size = h.objs.size := PySem.W.hideAll_size _ _
theorem hidT_get {h : Heap} {H : Hp} {b : Addr} {o : Obj} (e : h.get? b = some o) (n : H b = none) : (hidT h H).get? b = some o :=
  PySem.W.hideAll_get _ e fun hm => by
    have q : (H b).isSome = true := (List.mem_filter.mp hm).2
    rw [n] at q; simp at q
theorem of_hidT {h : Heap} {H : Hp} {b : Addr} {o : Obj} (e : (hidT h H).get? b = some o) : h.get? b = some o ∧ H b = none := by
  have e' : h.get? b = some o := PySem.W.of_hideAll (trk h H) e
  refine ⟨e', ?_⟩
  cases q : H b with
  | none => rfl
  | some x =>
    have hm : b ∈ trk h H := List.mem_filter.mpr ⟨List.mem_range.mpr (Heap.lt_size e'), by simp [q]⟩
    have z : (hidT h H).get? b = none := PySem.W.hideAll_none (trk h H) hm
    rw [z] at e; cases e

/-! ### OpenK's ledger, filled with every new object but one -/
def allNews (g h : Heap) (L : Addr) : List (Addr × Obj) := (List.range h.objs.size).filterMap fun a => if a = L ∨ (g.get? a).isSome = true then none else (h.get? a).map fun o => (a, o)
def rest (g h : Heap) (L d : Addr) : List (Addr × Obj) := (allNews g h L).filter fun p => decide (p.1 ≠ d)
end L2

namespace L2
open PySem PySem.Spec PyProof.Rows

/-- the module's facts, over the base: the heap at the law's entry without what is tracked there -/
structure Mod (K : PySem.W.Frag) (mg : Str → Option Value) (base : Heap) : Prop where
  kin : K.In base
  glob : base.Ns mainGlobals mg
  blt : ∃ mb, base.Ns builtinsNs mb ∧ ∀ x : Str, x ≠ "__name__" → mb x = bootBuiltins x
  nolimit : base.NoLimit

/-- the context: a def's body (or a comprehension's block) running. base: fixed through the whole law; s₀, H₀: the entry; outer: the frames whose slots others may change (a def's callers); stack: all frames that run;
   ex: iterators that were made ahead of the entry and are walked here (a comprehension's); fn: the names whose cells were made at the entry (a def: all; a comprehension's block: its own); calm: not within an except suite; pn: pins that every state bears; xe: what is wanted of an exception that leaves the code -/
structure Cx where
  prog : Program
  w : World
  K : PySem.W.Frag
  mg : Str → Option Value
  base : Heap
  A : Around
  N : List Str
  s₀ : Shared
  H₀ : Hp
  env : Env
  outer : List Env
  stack : List Env
  ex : List Addr
  fn : Str → Bool
  calm : Bool
  pn : List (Addr × Obj)
  xe : Value → Shared → Prop
/-- the callers' frames -/
def frs (l : List Env) : List Addr := l.filterMap (·.frame)
abbrev Cx.fs (X : Cx) : List Addr := frs X.outer

def Vis (sc : Scope) (x : Str) : Prop := sc.names.lookup x = some .local ∨ sc.names.lookup x = some .cell ∨ sc.names.lookup x = some .free
def Loc (sc : Scope) (x : Str) : Prop := sc.names.lookup x = some .local ∨ sc.names.lookup x = some .cell
def Look (env : Env) (h : Heap) (m : Str → Option Value) (x : Str) (u : Value) : Prop :=
  (env.kindOf x = some .local ∧ m x = some u) ∨ ((env.kindOf x = some .cell ∨ env.kindOf x = some .free) ∧ ∃ c, env.cells.lookup x = some c ∧ h.IsCell c (some u))

structure Cx.Ok (X : Cx) : Prop where
  mod : Mod X.K X.mg X.base
  kind : X.env.scope.kind = .function
  glob : X.env.globals = mainGlobals
  blt : X.env.builtins = builtinsNs
  above : X.s₀.heap.objs.size ≤ X.env.locals
  inj : ∀ x y c, X.env.cells.lookup x = some c → X.env.cells.lookup y = some c → x = y
  has : ∀ x, (X.env.kindOf x = some .cell ∨ X.env.kindOf x = some .free) → ∃ c, X.env.cells.lookup x = some c
  cab : ∀ x c, X.fn x = true → X.env.cells.lookup x = some c → X.s₀.heap.objs.size ≤ c
  hd : X.calm = true → X.A.handled = none
  frames : X.A.frames = some X.stack
  stk : X.stack = X.outer ∨ (X.stack = X.env :: X.outer ∧ X.env.frame = some X.env.locals)
  exf : ∀ b ∈ X.ex, b ≠ X.env.locals ∧ ∀ x c, X.env.cells.lookup x = some c → c ≠ b
  bs : ∀ b o, X.base.get? b = some o → X.s₀.heap.get? b = some o ∧ X.H₀ b = none
  bsz : X.base.objs.size ≤ X.s₀.heap.objs.size
  noex : ∀ b o, X.base.get? b = some o → b ∉ X.ex
  exfs : ∀ b ∈ X.ex, b ∉ X.fs
  funs : X.s₀.heap.FunFrames X.base X.outer
  frf : ∀ b ∈ X.fs, X.H₀ b = none

structure Inv (X : Cx) (pins : List (Addr × Obj)) (σ : List (Option V)) (H : Hp) (s : Shared) : Prop where
  ok : X.Ok
  os : s.os = X.s₀.os
  bare : AllBare s.gens
  base : Un X.fs X.ex X.H₀ H X.s₀.heap s.heap
  loc : ∃ m, s.heap.Ns X.env.locals m ∧ ∀ (i : Nat) (x : Str) (v : V), X.N[i]? = some x → σ[i]? = some (some v) → Vis X.env.scope x → ∃ u, RelV v u ∧ Look X.env s.heap m x u
  cell : ∀ x c, X.env.cells.lookup x = some c → ∃ v, s.heap.IsCell c v
  free : H X.env.locals = none
  freeC : ∀ x c, X.env.cells.lookup x = some c → H c = none
  pin : ∀ p ∈ X.pn ++ pins, s.heap.get? p.1 = some p.2 ∧ H p.1 = none ∧ p.1 ≠ X.env.locals ∧ p.1 ∉ X.fs ∧ ∀ v, p.2.data ≠ .cell v
  hok : HOk X.prog X.w H s.heap
  len : σ.length = X.N.length

section
variable {X : Cx} {pins : List (Addr × Obj)} {σ : List (Option V)} {H H' : Hp} {s : Shared} {h' : Heap}

theorem Cx.Ok.nofr (ok : X.Ok) {b : Addr} {o : Obj} (e : X.base.get? b = some o) : b ∉ X.fs := fun hb => by
  have := (ok.funs.mem hb).1
  rw [e] at this; cases this
theorem Inv.bs (I : Inv X pins σ H s) : ∀ b o, X.base.get? b = some o → s.heap.get? b = some o ∧ H b = none := fun b o e =>
  ⟨I.base.keep b o (I.ok.bs b o e).1 (I.ok.bs b o e).2 (I.ok.nofr e) (I.ok.noex b o e), I.base.free b o (I.ok.bs b o e).1 (I.ok.bs b o e).2 (I.ok.noex b o e)⟩
theorem Inv.bk (I : Inv X pins σ H s) : ∀ b o, X.base.get? b = some o → s.heap.get? b = some o := fun b o e => (I.bs b o e).1
theorem Inv.mod (I : Inv X pins σ H s) : Mod X.K X.mg X.base := I.ok.mod
theorem Inv.kIn (I : Inv X pins σ H s) : X.K.In s.heap := I.ok.mod.kin.keeps I.bk
theorem Inv.nolimit (I : Inv X pins σ H s) : s.heap.NoLimit := I.ok.mod.nolimit.keeps I.bk
theorem Inv.lt (I : Inv X pins σ H s) : X.env.locals < s.heap.objs.size := let ⟨_, hn, _⟩ := I.loc; hn.lt
theorem Inv.sz (I : Inv X pins σ H s) : X.s₀.heap.objs.size ≤ s.heap.objs.size := Nat.le_trans I.ok.above (Nat.le_of_lt I.lt)
theorem Inv.nofs (I : Inv X pins σ H s) {a : Addr} (h : s.heap.objs.size ≤ a) : a ∉ X.fs := fun hb => by
  obtain ⟨_, o, ho, _⟩ := I.ok.funs.mem hb
  exact absurd (Nat.lt_of_lt_of_le (Heap.lt_size ho) (Nat.le_trans I.sz h)) (Nat.lt_irrefl _)
theorem Inv.cne (I : Inv X pins σ H s) : ∀ x c, X.env.cells.lookup x = some c → c ≠ X.env.locals := fun x c e z => by
  obtain ⟨v, o, ho, hd⟩ := I.cell x c e
  obtain ⟨m, ⟨o', es, ep, ho', hd', _⟩, _⟩ := I.loc
  rw [z, ho'] at ho; cases ho; rw [hd'] at hd; cases hd
theorem Inv.funs (I : Inv X pins σ H s) : s.heap.FunFrames X.base X.outer := by
  have all : ∀ (l : List Env), (∀ b ∈ frs l, b ∈ X.fs) → X.s₀.heap.FunFrames X.base l → s.heap.FunFrames X.base l := by
    intro l
    induction l with
    | nil => intro _ _; trivial
    | cons env r ih =>
      intro hs hl
      obtain ⟨hk, ⟨L, o, hf, hn, ho, hd⟩, hr⟩ := hl
      have hL : L ∈ X.fs := hs L (by unfold frs; rw [List.filterMap_cons, hf]; exact List.mem_cons_self)
      obtain ⟨sl, e⟩ := I.base.slot L o ho (I.ok.frf L hL) hL fun z => I.ok.exfs L z hL
      exact ⟨hk, ⟨L, _, hf, hn, e, hd⟩, ih (fun b hb => hs b (by unfold frs; rw [List.filterMap_cons, hf]; exact List.mem_cons_of_mem _ hb)) hr⟩
  exact all X.outer (fun _ hb => hb) I.ok.funs

/-- the frames that run, for a call -/
theorem Inv.stack (I : Inv X pins σ H s) : s.heap.FunFrames X.base X.stack := by
  rcases I.ok.stk with e | ⟨e, hf⟩
  · rw [e]; exact I.funs
  · rw [e]
    obtain ⟨m, hn, _⟩ := I.loc
    refine .cons (by rw [I.ok.kind]; decide) hf hn ?_ I.funs
    exact Heap.get?_none_of_le (Nat.le_trans I.ok.bsz I.ok.above)
theorem Inv.stkSub (I : Inv X pins σ H s) : ∀ b ∈ frs X.stack, b ∈ X.env.locals :: X.fs := fun b hb => by
  rcases I.ok.stk with e | ⟨e, hf⟩
  · rw [e] at hb; exact List.mem_cons_of_mem _ hb
  · rw [e] at hb
    unfold frs at hb
    rw [List.filterMap_cons, hf] at hb
    exact hb
theorem Inv.stkFree (I : Inv X pins σ H s) : ∀ b ∈ frs X.stack, H b = none := fun b hb => by
  rcases List.mem_cons.mp (I.stkSub b hb) with e | hb
  · rw [e]; exact I.free
  · obtain ⟨_, o, ho, _⟩ := I.ok.funs.mem hb
    exact I.base.free b o ho (I.ok.frf b hb) fun z => I.ok.exfs b z hb

/-- THE STEP: the untracked objects but the frame and the records at ch are kept (the callers' frames up to slots), the frame's map is kept, the new abstract heap is held -/
theorem Inv.step {g' : Array GenState} {t' : Nat} {d' : Drawn} {ch : List Addr} (I : Inv X pins σ H s)
    (hch : ∀ b ∈ ch, (b ∈ X.ex ∨ X.s₀.heap.objs.size ≤ b) ∧ b ≠ X.env.locals ∧ (∀ x c, X.env.cells.lookup x = some c → c ≠ b) ∧ ∀ p ∈ X.pn ++ pins, p.1 ≠ b)
    (keep : ∀ b o, b ≠ X.env.locals → b ∉ X.fs → b ∉ ch → s.heap.get? b = some o → H b = none → h'.get? b = some o)
    (slot : ∀ b o, b ≠ X.env.locals → b ∈ X.fs → b ∉ ch → s.heap.get? b = some o → H b = none → ∃ sl, h'.get? b = some { o with slots := sl }) (free : ∀ b o, b ∉ ch → s.heap.get? b = some o → H b = none → H' b = none)
    (there : ∀ b o, b ∉ ch → s.heap.get? b = some o → ∃ o', h'.get? b = some o')
    (tups : ∀ b xs, H b = some (.tup xs) → H' b = some (.tup xs)) (frzs : ∀ b o u, H b = some (.frz o u) → H' b = some (.frz o u)) (tbls : ∀ b ps, H b = some (.tbl ps) → ∃ more, H' b = some (.tbl (ps ++ more)))
    (ns : ∀ m, s.heap.Ns X.env.locals m → h'.Ns X.env.locals m) (hok : HOk X.prog X.w H' h') (hg : AllBare g') :
    Inv X pins σ H' { s with heap := h', gens := g', drawn := d', toks := t' } := by
  have neL : ∀ b o, X.s₀.heap.get? b = some o → b ≠ X.env.locals := fun b o e => Nat.ne_of_lt (Nat.lt_of_lt_of_le (Heap.lt_size e) I.ok.above)
  have neC : ∀ b o, X.s₀.heap.get? b = some o → b ∉ X.ex → b ∉ ch := fun b o e hx hb => by
    rcases (hch b hb).1 with z | z
    · exact hx z
    · exact absurd (Nat.lt_of_lt_of_le (Heap.lt_size e) z) (Nat.lt_irrefl _)
  have cellK : ∀ x c, X.env.cells.lookup x = some c → ∀ v, s.heap.IsCell c v → h'.IsCell c v := fun x c e v ⟨o, ho, hd⟩ => by
    have nch : c ∉ ch := fun z => (hch c z).2.2.1 x c e rfl
    by_cases hc : c ∈ X.fs
    · obtain ⟨sl, q⟩ := slot c o (I.cne x c e) hc nch ho (I.freeC x c e)
      exact ⟨_, q, hd⟩
    · exact ⟨o, keep c o (I.cne x c e) hc nch ho (I.freeC x c e), hd⟩
  refine ⟨I.ok, I.os, hg, ⟨fun b o e n hb hx => ?_, fun b o e n hb hx => ?_, fun b o e n hx => ?_, fun b o e hx => ?_, fun b xs e => tups b xs (I.base.tups b xs e), fun b o xs e => frzs b o xs (I.base.frzs b o xs e), fun b ps e => ?_⟩, ?_, fun x c e => ?_, ?_, fun x c e => ?_, fun p hp => ?_, hok, I.len⟩
  · exact keep b o (neL b o e) hb (neC b o e hx) (I.base.keep b o e n hb hx) (I.base.free b o e n hx)
  · obtain ⟨sl, e1⟩ := I.base.slot b o e n hb hx
    obtain ⟨sl', e2⟩ := slot b _ (neL b o e) hb (neC b o e hx) e1 (I.base.free b o e n hx)
    exact ⟨sl', e2⟩
  · obtain ⟨o', e1⟩ := I.base.there b o e hx
    exact free b o' (neC b o e hx) e1 (I.base.free b o e n hx)
  · obtain ⟨o', e1⟩ := I.base.there b o e hx
    exact there b o' (neC b o e hx) e1
  · obtain ⟨m1, e1⟩ := I.base.tbls b ps e
    obtain ⟨m2, e2⟩ := tbls b _ e1
    exact ⟨m1 ++ m2, by rw [e2, Array.append_assoc]⟩
  · obtain ⟨m, hn, hl⟩ := I.loc
    refine ⟨m, ns m hn, fun i x v e1 e2 e3 => ?_⟩
    obtain ⟨u, r, l⟩ := hl i x v e1 e2 e3
    refine ⟨u, r, ?_⟩
    rcases l with l | ⟨k, c, e, z⟩
    · exact .inl l
    · exact .inr ⟨k, c, e, cellK x c e _ z⟩
  · obtain ⟨v, z⟩ := I.cell x c e
    exact ⟨v, cellK x c e v z⟩
  · obtain ⟨m, ⟨o, _, _, ho, _⟩, _⟩ := I.loc
    exact free _ o (fun z => (hch _ z).2.1 rfl) ho I.free
  · obtain ⟨v, o, ho, hd⟩ := I.cell x c e
    exact free c o (fun z => (hch c z).2.2.1 x c e rfl) ho (I.freeC x c e)
  · obtain ⟨e, n, ne, nf, d⟩ := I.pin p hp
    have nch : p.1 ∉ ch := fun z => (hch p.1 z).2.2.2 p hp rfl
    exact ⟨keep p.1 p.2 ne nf nch e n, free p.1 p.2 nch e n, ne, nf, d⟩
/-- .. where the frame's own object is kept too -/
theorem Inv.un {t' : Nat} (I : Inv X pins σ H s) (u : Un X.fs [] H H' s.heap h') (hok : HOk X.prog X.w H' h') : Inv X pins σ H' { s with heap := h', toks := t' } := by
  obtain ⟨m, ⟨o, es, ep, ho, r⟩, _⟩ := id I.loc
  obtain ⟨sl, hL⟩ := u.any ho I.free (by simp)
  exact I.step (g' := s.gens) (d' := s.drawn) (ch := []) (fun _ z => nomatch z) (fun b o _ hb _ e n => u.keep b o e n hb (by simp)) (fun b o _ hb _ e n => u.slot b o e n hb (by simp)) (fun b o _ e n => u.free b o e n (by simp)) (fun b o _ e => u.there b o e (by simp)) u.tups u.frzs u.tbls (fun m' hm => by
    obtain ⟨o', es', ep', ho', r'⟩ := hm
    rw [ho] at ho'; cases ho'
    exact ⟨_, es', ep', hL, r'⟩) hok I.bare
/-- behind a call (or a comprehension's block): the slots of this frame may have changed too, the records at ch may have turned -/
theorem Inv.call {g' : Array GenState} {t' : Nat} {d' : Drawn} {ch : List Addr} (I : Inv X pins σ H s) (u : Un (frs X.stack) ch H H' s.heap h') (hok : HOk X.prog X.w H' h') (hg : AllBare g')
    (hch : ∀ b ∈ ch, (b ∈ X.ex ∨ X.s₀.heap.objs.size ≤ b) ∧ b ≠ X.env.locals ∧ (∀ x c, X.env.cells.lookup x = some c → c ≠ b) ∧ ∀ p ∈ X.pn ++ pins, p.1 ≠ b) :
    Inv X pins σ H' { s with heap := h', gens := g', drawn := d', toks := t' } := by
  obtain ⟨m, ⟨o, es, ep, ho, r⟩, _⟩ := id I.loc
  obtain ⟨sl, hL⟩ := u.any ho I.free fun z => (hch _ z).2.1 rfl
  exact I.step (ch := ch) hch (fun b o hL hb hc e n => u.keep b o e n (fun z => (List.mem_cons.mp (I.stkSub b z)).elim hL hb) hc) (fun b o _ _ hc e n => u.any e n hc) (fun b o hc e n => u.free b o e n hc) (fun b o hc e => u.there b o e hc) u.tups u.frzs u.tbls (fun m' hm => by
    obtain ⟨o', es', ep', ho', r'⟩ := hm
    rw [ho] at ho'; cases ho'
    exact ⟨_, es', ep', hL, r'⟩) hok hg
/-- an untracked record of ours (an iterator) has turned -/
theorem Inv.turned {t' : Nat} {it : Addr} (I : Inv X pins σ H s) (k : ∀ b o, b ≠ it → s.heap.get? b = some o → h'.get? b = some o) (hn : H it = none) (hL : it ≠ X.env.locals)
    (h1 : it ∈ X.ex ∨ X.s₀.heap.objs.size ≤ it) (h2 : ∀ x c, X.env.cells.lookup x = some c → c ≠ it) (h3 : ∀ p ∈ X.pn ++ pins, p.1 ≠ it) : Inv X pins σ H { s with heap := h', toks := t' } := by
  have nit : ∀ b u, H b = some u → b ≠ it := fun b u e z => by rw [z, hn] at e; cases e
  refine I.step (g' := s.gens) (d' := s.drawn) (ch := [it]) (fun b hb => ?_) (fun b o _ _ hc e _ => k b o (fun z => hc (by simp [z])) e) (fun b o _ _ hc e _ => ⟨o.slots, k b o (fun z => hc (by simp [z])) e⟩) (fun _ _ _ _ n => n)
    (fun b o hc e => ⟨o, k b o (fun z => hc (by simp [z])) e⟩) (fun _ _ e => e) (fun _ _ _ e => e) (fun b ps e => ⟨#[], by rw [e]; simp⟩) (fun m hm => ?_) (fun b u e => ?_) I.bare
  · have e : b = it := by simpa using hb
    subst e
    exact ⟨h1, hL, h2, h3⟩
  · obtain ⟨o, es, ep, ho, r⟩ := hm
    exact ⟨o, es, ep, k _ o (Ne.symm hL) ho, r⟩
  · refine (I.hok b u e).stay (fun c v hc q => k c v ?_ q) (fun _ q => q) fun _ _ q => q
    rcases hc with z | z
    · rw [z]; exact nit b u e
    · exact nit c _ z
theorem Inv.tok (I : Inv X pins σ H s) (t : Nat) : Inv X pins σ H { s with toks := t } := I.un (h' := s.heap) (t' := t) Un.refl I.hok
/-- all objects kept -/
theorem Inv.kept {t' : Nat} (I : Inv X pins σ H s) (k : ∀ b u, s.heap.get? b = some u → h'.get? b = some u) : Inv X pins σ H { s with heap := h', toks := t' } := I.un (Un.kept k) (I.hok.kept k)
/-- a new object laid and tracked -/
theorem Inv.laid {a : Addr} {o : HO} {t' : Nat} (I : Inv X pins σ H s) (k : ∀ b u, s.heap.get? b = some u → h'.get? b = some u) (hp : s.heap.objs.size ≤ a) (new : ObjOk X.prog X.w (upd H a o) h' a o) :
    Inv X pins σ (upd H a o) { s with heap := h', toks := t' } := I.un (Un.laid k hp (I.hok.fresh hp)) (I.hok.laid k hp new)
/-- an object written -/
theorem Inv.write {x e : Addr} {o : HO} {t' : Nat} (I : Inv X pins σ H s) (mu : Mut (H x)) (he : e = x ∨ H e = some (.own x)) (k : ∀ b u, b ≠ e → s.heap.get? b = some u → h'.get? b = some u) (heo : ∃ u, h'.get? e = some u)
    (new : ObjOk X.prog X.w (upd H x o) h' x o) : Inv X pins σ (upd H x o) { s with heap := h', toks := t' } := I.un (Un.write mu he k heo) (I.hok.write mu he k heo new)
theorem Inv.pins_of {pins' : List (Addr × Obj)} (I : Inv X pins σ H s) (h : ∀ p ∈ pins', s.heap.get? p.1 = some p.2 ∧ H p.1 = none ∧ p.1 ≠ X.env.locals ∧ p.1 ∉ X.fs ∧ ∀ v, p.2.data ≠ .cell v) : Inv X pins' σ H s :=
  ⟨I.ok, I.os, I.bare, I.base, I.loc, I.cell, I.free, I.freeC, fun p hp => (List.mem_append.mp hp).elim (fun z => I.pin p (List.mem_append_left _ z)) (h p), I.hok, I.len⟩

theorem nodup_ix {N : List Str} (hN : N.Nodup) {i j : Nat} {x : Str} (a : N[i]? = some x) (b : N[j]? = some x) : i = j := by
  obtain ⟨h1, e1⟩ := List.getElem?_eq_some_iff.mp a
  obtain ⟨h2, e2⟩ := List.getElem?_eq_some_iff.mp b
  exact (List.getElem_inj hN).mp (e1.trans e2.symm)

/-- a name is stored; what changed -/
theorem store_ok2 {M : Model} {A : Around} {E : Value → Shared → Prop} {i : Nat} {x : Str} {v : V} {u : Value} {Q : Unit → Shared → Prop} (I : Inv X pins σ H s) (hN : X.N.Nodup) (hi : X.N[i]? = some x) (hx : Loc X.env.scope x) (r : RelV v u)
    (h : ∀ s', Inv X pins (σ.set i (some v)) H s' → (∃ a, Heap.SameBut a s.heap s'.heap ∧ (a = X.env.locals ∨ X.env.cells.lookup x = some a)) → Q () s') (hf : X.fn x = true ∨ X.env.scope.names.lookup x = some .local := by first | exact .inl rfl | exact .inr rfl | assumption) : wpAny M A (storeName X.env x u) Q E s := by
  obtain ⟨m, hn, hl⟩ := id I.loc
  have hcls : (X.env.scope.kind == .class || (X.env.scope.kind == .module && X.env.locals != X.env.globals)) = false := by rw [I.ok.kind]; rfl
  have hiσ : i < σ.length := by rw [I.len]; exact (List.getElem?_eq_some_iff.mp hi).1
  have cne := I.cne
  have tracked : ∀ {a : Addr} {h' : Heap}, (∃ o, s.heap.get? a = some o ∧ H a = none) → Heap.SameBut a s.heap h' → HOk X.prog X.w H h' := fun {a h'} ha hs b ob e => by
    obtain ⟨_, _, hfree⟩ := ha
    refine (I.hok b ob e).stay (fun c w' hc q => (hs.2 c ?_).trans q) (fun _ q => q) fun _ _ q => q
    rintro rfl
    rcases hc with rfl | hc
    · rw [hfree] at e; cases e
    · rw [hfree] at hc; cases hc
  rcases hx with hk | hk
  · refine wpAny_storeName_local hk hn (fun h' hn' hs => ?_) hcls
    obtain ⟨oL, _, _, hoL, _⟩ := id hn
    refine h _ ⟨I.ok, I.os, I.bare, ⟨fun b o e n hb hx => ?_, fun b o e n hb hx => ?_, I.base.free, fun b o e hx => ?_, I.base.tups, I.base.frzs, I.base.tbls⟩, ⟨_, hn', fun j y v' e1 e2 e3 => ?_⟩, fun y c e => ?_, I.free, I.freeC, fun p hp => ?_, tracked ⟨oL, hoL, I.free⟩ hs, by simpa using I.len⟩ ⟨_, hs, .inl rfl⟩
    · exact (hs.2 b (Nat.ne_of_lt (Nat.lt_of_lt_of_le (Heap.lt_size e) I.ok.above))).trans (I.base.keep b o e n hb hx)
    · obtain ⟨sl, e1⟩ := I.base.slot b o e n hb hx
      exact ⟨sl, (hs.2 b (Nat.ne_of_lt (Nat.lt_of_lt_of_le (Heap.lt_size e) I.ok.above))).trans e1⟩
    · obtain ⟨o', e1⟩ := I.base.there b o e hx
      exact ⟨o', (hs.2 b (Nat.ne_of_lt (Nat.lt_of_lt_of_le (Heap.lt_size e) I.ok.above))).trans e1⟩
    · by_cases hj : j = i
      · subst hj
        rw [hi] at e1; cases e1
        rw [List.getElem?_set_self hiσ] at e2
        cases e2
        exact ⟨u, r, .inl ⟨hk, by simp⟩⟩
      · rw [List.getElem?_set_ne (Ne.symm hj)] at e2
        obtain ⟨u', r', q⟩ := hl j y v' e1 e2 e3
        refine ⟨u', r', ?_⟩
        rcases q with ⟨k, e⟩ | ⟨k, c, e, z⟩
        · refine .inl ⟨k, ?_⟩
          have : y ≠ x := fun e => hj (nodup_ix hN e1 (e ▸ hi))
          simp [this, e]
        · exact .inr ⟨k, c, e, z.sameBut hs (cne y c e)⟩
    · obtain ⟨w', z⟩ := I.cell y c e
      exact ⟨w', z.sameBut hs (cne y c e)⟩
    · obtain ⟨e, n, ne, nf, d⟩ := I.pin p hp
      exact ⟨(hs.2 p.1 ne).trans e, n, ne, nf, d⟩
  · have hfn : X.fn x = true := by
      rcases hf with z | z
      · exact z
      · rw [z] at hk; cases hk
    obtain ⟨c, hc⟩ := I.ok.has x (.inl hk)
    obtain ⟨w', z⟩ := I.cell x c hc
    refine wpAny_storeName_cell I.ok.kind hk hc z (fun h' hc' hs => ?_)
    obtain ⟨oc, hoc, hocd⟩ := id z
    refine h { s with heap := h' } ⟨I.ok, I.os, I.bare, ⟨fun b o e n hb hx => ?_, fun b o e n hb hx => ?_, I.base.free, fun b o e hx => ?_, I.base.tups, I.base.frzs, I.base.tbls⟩, ⟨m, hn.sameBut hs (Ne.symm (cne x c hc)), fun j y v' e1 e2 e3 => ?_⟩, fun y c' e => ?_, I.free, I.freeC, fun p hp => ?_, tracked ⟨oc, hoc, I.freeC x c hc⟩ hs, by simpa using I.len⟩ ⟨c, hs, .inr hc⟩
    · exact (hs.2 b (Nat.ne_of_lt (Nat.lt_of_lt_of_le (Heap.lt_size e) (I.ok.cab x c hfn hc)))).trans (I.base.keep b o e n hb hx)
    · obtain ⟨sl, e1⟩ := I.base.slot b o e n hb hx
      exact ⟨sl, (hs.2 b (Nat.ne_of_lt (Nat.lt_of_lt_of_le (Heap.lt_size e) (I.ok.cab x c hfn hc)))).trans e1⟩
    · obtain ⟨o', e1⟩ := I.base.there b o e hx
      exact ⟨o', (hs.2 b (Nat.ne_of_lt (Nat.lt_of_lt_of_le (Heap.lt_size e) (I.ok.cab x c hfn hc)))).trans e1⟩
    · by_cases hj : j = i
      · subst hj
        rw [hi] at e1; cases e1
        rw [List.getElem?_set_self hiσ] at e2
        cases e2
        exact ⟨u, r, .inr ⟨.inl hk, c, hc, hc'⟩⟩
      · rw [List.getElem?_set_ne (Ne.symm hj)] at e2
        obtain ⟨u', r', q⟩ := hl j y v' e1 e2 e3
        refine ⟨u', r', ?_⟩
        rcases q with q | ⟨k, c', e, z'⟩
        · exact .inl q
        · refine .inr ⟨k, c', e, z'.sameBut hs ?_⟩
          rintro rfl
          exact hj (nodup_ix hN e1 (I.ok.inj _ _ _ e hc ▸ hi))
    · by_cases hcc : c' = c
      · subst hcc; exact ⟨_, hc'⟩
      · obtain ⟨w2, z2⟩ := I.cell y c' e
        exact ⟨w2, z2.sameBut hs hcc⟩
    · obtain ⟨e, n, ne, nf, d⟩ := I.pin p hp
      refine ⟨(hs.2 p.1 ?_).trans e, n, ne, nf, d⟩
      intro q
      rw [q, hoc] at e
      have q' : oc = p.2 := Option.some.inj e
      exact d w' (by rw [← q']; exact hocd)
theorem store_ok {M : Model} {A : Around} {E : Value → Shared → Prop} {i : Nat} {x : Str} {v : V} {u : Value} {Q : Unit → Shared → Prop} (I : Inv X pins σ H s) (hN : X.N.Nodup) (hi : X.N[i]? = some x) (hx : Loc X.env.scope x) (r : RelV v u)
    (h : ∀ s', Inv X pins (σ.set i (some v)) H s' → Q () s') (hf : X.fn x = true ∨ X.env.scope.names.lookup x = some .local := by first | exact .inl rfl | exact .inr rfl | assumption) : wpAny M A (storeName X.env x u) Q E s :=
  store_ok2 I hN hi hx r (fun s' I' _ => h s' I') hf
/-- behind a call or a block, the state as it is -/
theorem Inv.call' {s' : Shared} {ch : List Addr} (I : Inv X pins σ H s) (ho : s'.os = s.os) (u : Un (frs X.stack) ch H H' s.heap s'.heap) (hok : HOk X.prog X.w H' s'.heap) (hg : AllBare s'.gens)
    (hch : ∀ b ∈ ch, (b ∈ X.ex ∨ X.s₀.heap.objs.size ≤ b) ∧ b ≠ X.env.locals ∧ (∀ x c, X.env.cells.lookup x = some c → c ≠ b) ∧ ∀ p ∈ X.pn ++ pins, p.1 ≠ b) : Inv X pins σ H' s' := by
  obtain ⟨h', g', d', t', o'⟩ := s'
  have e : o' = s.os := ho
  subst e
  exact I.call (g' := g') (t' := t') (d' := d') u hok hg hch
end

/-! ### the judgements -/
/-- an exception: its class, its own dict's address (where it has one), the abstract heap behind it -/
abbrev XK := Value → Option Addr → Hp → Prop
abbrev St := List (Option V)
abbrev VK := V → Hp → Prop
/-- an expression's reading; a test's; an argument list's -/
abbrev TE := St → Hp → VK → Prop
abbrev TT := St → Hp → (Bool → Hp → Prop) → Prop
abbrev TA := St → Hp → (List V → Hp → Prop) → Prop
/-- what is wanted behind a statement -/
structure Ends where
  nx : St → Hp → Prop
  rt : VK
  bk : St → Hp → Prop := fun _ _ => False
  ct : St → Hp → Prop := fun _ _ => False
abbrev TS := Ends → St → Hp → Prop

def EP (X : Cx) (pins : List (Addr × Obj)) (σ : St) (Q : VK) (u : Value) (s' : Shared) : Prop := ∃ v H', Inv X pins σ H' s' ∧ RelV v u ∧ Q v H'
def TP (X : Cx) (pins : List (Addr × Obj)) (σ : St) (Q : Bool → Hp → Prop) (b : Bool) (s' : Shared) : Prop := ∃ H', Inv X pins σ H' s' ∧ Q b H'
def AP (X : Cx) (pins : List (Addr × Obj)) (σ : St) (Q : List V → Hp → Prop) (us : List Value) (s' : Shared) : Prop := ∃ vs H', Inv X pins σ H' s' ∧ Vals vs us ∧ Q vs H'
def SP (X : Cx) (pins : List (Addr × Obj)) (D : Ends) (f : Flow) (s' : Shared) : Prop :=
  match f with
  | .next => ∃ σ' H', Inv X pins σ' H' s' ∧ D.nx σ' H'
  | .brk => ∃ σ' H', Inv X pins σ' H' s' ∧ D.bk σ' H'
  | .cont => ∃ σ' H', Inv X pins σ' H' s' ∧ D.ct σ' H'
  | .ret u => ∃ v σ' H', Inv X pins σ' H' s' ∧ RelV v u ∧ D.rt v H'

def PE (X : Cx) (e : Expr) (t : TE) : Prop :=
  ∀ (pins : List (Addr × Obj)) (s : Shared) (σ : St) (H : Hp) (Q : VK), Inv X pins σ H s → t σ H Q → wpAny (model X.prog X.w) X.A (eval e X.env) (EP X pins σ Q) X.xe s
def PT (X : Cx) (e : Expr) (t : TT) : Prop :=
  ∀ (pins : List (Addr × Obj)) (s : Shared) (σ : St) (H : Hp) (Q : Bool → Hp → Prop), Inv X pins σ H s → t σ H Q → wpAny (model X.prog X.w) X.A (isTrue e X.env (eval e X.env)) (TP X pins σ Q) X.xe s
/-- a test whatever its 'whole' is (and, or) -/
def PW (X : Cx) (e : Expr) (t : TT) : Prop :=
  ∀ (whole : Sem Value) (pins : List (Addr × Obj)) (s : Shared) (σ : St) (H : Hp) (Q : Bool → Hp → Prop), Inv X pins σ H s → t σ H Q → wpAny (model X.prog X.w) X.A (isTrue e X.env whole) (TP X pins σ Q) X.xe s
theorem PW.pt {X : Cx} {e : Expr} {t : TT} (h : PW X e t) : PT X e t := h _
/-- an argument list (no star), from the left -/
def PA (X : Cx) (es : List Expr) (t : TA) : Prop :=
  ∀ (pos : Pos) (pins : List (Addr × Obj)) (s : Shared) (σ : St) (H : Hp) (Q : List V → Hp → Prop), Inv X pins σ H s → t σ H Q → wpAny (model X.prog X.w) X.A (spliced (backTo pos (starEach es X.env))) (AP X pins σ Q) X.xe s
def PS (X : Cx) (st : Stmt) (t : TS) : Prop :=
  ∀ (pins : List (Addr × Obj)) (s : Shared) (σ : St) (H : Hp) (D : Ends), Inv X pins σ H s → t D σ H → wpAny (model X.prog X.w) X.A (exec st X.env) (SP X pins D) X.xe s
def PSs (X : Cx) (st : List Stmt) (t : TS) : Prop :=
  ∀ (pins : List (Addr × Obj)) (s : Shared) (σ : St) (H : Hp) (D : Ends), Inv X pins σ H s → t D σ H → wpAny (model X.prog X.w) X.A (execs st X.env) (SP X pins D) X.xe s
/-- weaken the end -/
theorem thn {α : Type} {t : Sem α} {Q Q' : α → Shared → Prop} {M : Model} {A : Around} {E : Value → Shared → Prop} {s : Shared} (h : wpAny M A t Q E s) (hQ : ∀ a s, Q a s → Q' a s) : wpAny M A t Q' E s := wpAny_mono h hQ fun _ _ x => x
end L2

namespace L2
open PySem PySem.Spec PyProof.Rows
section
variable {X : Cx}

/-! ### names and constants -/
def tVar (i : Nat) : TE := fun σ H Q => ∃ v, σ[i]? = some (some v) ∧ Q v H
def tC (v : V) : TE := fun _ H Q => Q v H
theorem pe_var {i : Nat} {x : Str} {pos : Pos} (hN : X.N[i]? = some x) (hv : Vis X.env.scope x) (hd : (x == ("__debug__" : Str)) = false := by decide) (hcd : (x == ("__classdict__" : Str)) = false := by decide) : PE X (.Name x pos) (tVar i) := by
  intro pins s σ H Q I h
  obtain ⟨v, e, h⟩ := h
  obtain ⟨m, hn, hl⟩ := I.loc
  obtain ⟨u, r, l⟩ := hl i x v hN e hv
  have fin : EP X pins σ Q u s := ⟨v, H, I, r, h⟩
  rcases l with ⟨hk, hm⟩ | ⟨hk, c, hc, hcell⟩
  · exact wpAny_Name (wpAny_loadName_local I.ok.kind hk hn hm fin) hd
  · rcases hk with hk | hk
    · exact wpAny_Name (wpAny_loadName_cell I.ok.kind hk hc hcell fin) hd
    · exact wpAny_Name (wpAny_loadName_free I.ok.kind hk hc hcell fin hcd) hd
theorem pe_int {i j pos} : PE X (.Constant (.int i) j pos) (tC (.int i)) := fun _ _ _ H _ I h => wpAny_Constant_int ⟨.int i, H, I.tok _, ⟨_, rfl⟩, h⟩
theorem pe_bl {b j pos} : PE X (.Constant (.bool b) j pos) (tC (.bl b)) := fun _ _ _ H _ I h => Constant_bool ⟨.bl b, H, I, rfl, h⟩
theorem pe_non {j pos} : PE X (.Constant .none j pos) (tC .non) := fun _ _ _ H _ I h => Constant_none ⟨.non, H, I, rfl, h⟩
theorem pe_str {x j pos} : PE X (.Constant (.str x) j pos) (tC (.str x)) := fun _ _ _ H _ I h => Calls.Constant_str ⟨.str x, H, I.tok _, ⟨_, rfl⟩, h⟩

/-- a global name of the def -/
def Gl (X : Cx) (x : Str) : Prop := X.env.kindOf x = some .globalImplicit
theorem ld_glob {E : Value → Shared → Prop} {pins : List (Addr × Obj)} {s : Shared} {σ : St} {H : Hp} {x : Str} {u : Value} {pos : Pos} {Q : Value → Shared → Prop} (I : Inv X pins σ H s) (hg : Gl X x) (hm : X.mg x = some u) (h : Q u s)
    (hd : (x == ("__debug__" : Str)) = false := by decide) : wpAny (model X.prog X.w) X.A (eval (.Name x pos) X.env) Q E s :=
  Calls.Name_function_global I.ok.kind hg (Calls.loadGlobal_global (by rw [I.ok.glob]; exact I.mod.glob.keeps I.bk) hm h) hd
theorem ld_blt {E : Value → Shared → Prop} {pins : List (Addr × Obj)} {s : Shared} {σ : St} {H : Hp} {x : Str} {u : Value} {pos : Pos} {Q : Value → Shared → Prop} (I : Inv X pins σ H s) (hg : Gl X x) (hm : X.mg x = none) (hv : bootBuiltins x = some u) (h : Q u s)
    (hn : x ≠ "__name__" := by decide) (hd : (x == ("__debug__" : Str)) = false := by decide) : wpAny (model X.prog X.w) X.A (eval (.Name x pos) X.env) Q E s := by
  obtain ⟨mb, h1, h2⟩ := I.mod.blt
  exact Calls.Name_function_global I.ok.kind hg (Calls.loadGlobal_builtin (by rw [I.ok.glob]; exact I.mod.glob.keeps I.bk) hm (by rw [I.ok.blt]; exact h1.keeps I.bk) ((h2 x hn).trans hv) h) hd
/-- a module's constant, a class, a function, as a value -/
theorem pe_glob {x : Str} {v : V} {u : Value} {pos : Pos} (hg : Gl X x) (hm : X.mg x = some u) (r : RelV v u) (hd : (x == ("__debug__" : Str)) = false := by decide) : PE X (.Name x pos) (tC v) :=
  fun _ _ _ H _ I h => ld_glob I hg hm ⟨v, H, I, r, h⟩ hd
theorem pe_bltn {x : Str} {v : V} {u : Value} {pos : Pos} (hg : Gl X x) (hm : X.mg x = none) (hv : bootBuiltins x = some u) (r : RelV v u) (hn : x ≠ "__name__" := by decide) (hd : (x == ("__debug__" : Str)) = false := by decide) : PE X (.Name x pos) (tC v) :=
  fun _ _ _ H _ I h => ld_blt I hg hm hv ⟨v, H, I, r, h⟩ hn hd

/-! ### arithmetic -/
variable {a b : Expr} {ta tb : TE} {pos : Pos}
/-! ### comparisons -/
/-- a comparison as a value, as a test -/
def tB (t : TE) : TT := fun σ H Q => t σ H fun x H1 => ∃ c, x = .bl c ∧ Q c H1
/-- an expression whose value is a bool, as a test -/
theorem pt_val {e : Expr} {t : TE} (h : PE X e t) (he : ∀ whole, isTrue e X.env whole = (do let v ← whole; standAt e.pos; holding [v] (truthy v)) := by intro _; rfl) : PT X e (tB t) := by
  intro pins s σ H Q I hw
  refine isTrue_plain (thn (h pins s σ H _ I hw) fun v s1 ⟨x, H1, I1, r1, q1⟩ => ?_) (he _)
  obtain ⟨d, rfl, q⟩ := q1
  cases r1
  exact wpAny_truthy_bool ⟨H1, I1, q⟩

/-! ### and, or, not -/
variable {tA tB' : TT} {rest : List Expr}
def tAnd (t u : TT) : TT := fun σ H Q => t σ H fun c H1 => if c = true then u σ H1 Q else Q false H1
def tOr (t u : TT) : TT := fun σ H Q => t σ H fun c H1 => if c = true then Q true H1 else u σ H1 Q
def tNot (t : TT) : TT := fun σ H Q => t σ H fun c H1 => Q (!c) H1
theorem pw_and1 (ha : PT X a tA) : PW X (.BoolOp .And [a] pos) tA := by
  intro wh pins s σ H Q I h
  refine isTrue_and (thn (ha pins s σ H Q I h) fun c s1 e => ?_)
  cases c with
  | true => exact isTrue_and_nil e
  | false => exact e
theorem pw_or1 (ha : PT X a tA) : PW X (.BoolOp .Or [a] pos) tA := by
  intro wh pins s σ H Q I h
  refine isTrue_or (thn (ha pins s σ H Q I h) fun c s1 e => ?_)
  cases c with
  | false => exact isTrue_or_nil e
  | true => exact e
theorem pw_and (ha : PT X a tA) (hb : PW X (.BoolOp .And (b :: rest) pos) tB') : PW X (.BoolOp .And (a :: b :: rest) pos) (tAnd tA tB') := by
  intro wh pins s σ H Q I h
  refine isTrue_and (thn (ha pins s σ H _ I h) fun c s1 ⟨H1, I1, q1⟩ => ?_)
  cases c with
  | true => exact hb wh pins s1 σ H1 Q I1 q1
  | false => exact ⟨H1, I1, q1⟩
theorem pw_or (ha : PT X a tA) (hb : PW X (.BoolOp .Or (b :: rest) pos) tB') : PW X (.BoolOp .Or (a :: b :: rest) pos) (tOr tA tB') := by
  intro wh pins s σ H Q I h
  refine isTrue_or (thn (ha pins s σ H _ I h) fun c s1 ⟨H1, I1, q1⟩ => ?_)
  cases c with
  | true => exact ⟨H1, I1, q1⟩
  | false => exact hb wh pins s1 σ H1 Q I1 q1
theorem pt_not (ha : PT X a tA) : PT X (.UnaryOp .Not a pos) (tNot tA) := by
  intro pins s σ H Q I h
  exact isTrue_not (ha pins s σ H (fun c H1 => Q (!c) H1) I h)
/-- .. as values (bools) -/
def tAndV (ta tb : TE) : TE := fun σ H Q => ta σ H fun x H1 => ∃ c, x = .bl c ∧ if c = true then tb σ H1 Q else Q (.bl false) H1
def tOrV (ta tb : TE) : TE := fun σ H Q => ta σ H fun x H1 => ∃ c, x = .bl c ∧ if c = true then Q (.bl true) H1 else tb σ H1 Q
def tNotV (ta : TE) : TE := fun σ H Q => ta σ H fun x H1 => ∃ c, x = .bl c ∧ Q (.bl (!c)) H1
theorem pe_one {op} {t : TE} (h : PE X a t) : PE X (.BoolOp op [a] pos) t := fun pins s σ H Q I hw => BoolOp_one (h pins s σ H Q I hw)
theorem pe_and (ha : PE X a ta) (hb : PE X (.BoolOp .And (b :: rest) pos) tb) : PE X (.BoolOp .And (a :: b :: rest) pos) (tAndV ta tb) := by
  intro pins s σ H Q I h
  refine BoolOp_and (thn (ha pins s σ H _ I h) fun v s1 ⟨x, H1, I1, r1, q1⟩ => ?_)
  obtain ⟨c, rfl, q1⟩ := q1
  cases r1
  refine wpAny_truthy_bool ?_
  cases c with
  | true => exact hb pins s1 σ H1 Q I1 q1
  | false => exact ⟨.bl false, H1, I1, rfl, q1⟩
theorem pe_not (ha : PE X a ta) : PE X (.UnaryOp .Not a pos) (tNotV ta) := by
  intro pins s σ H Q I h
  refine UnaryOp_ (thn (ha pins s σ H _ I h) fun v s1 ⟨x, H1, I1, r1, q1⟩ => ?_)
  obtain ⟨c, rfl, q1⟩ := q1
  cases r1
  exact not_of (wpAny_truthy_bool ⟨.bl (!c), H1, I1, rfl, q1⟩)
end
end L2

namespace L2
open PySem PySem.Spec PyProof.Rows

/-! ### a list, a tuple that is read: tracked, frozen, or an object of the module -/
def SqL (K : PySem.W.Frag) (H : Hp) (a : Addr) (xs : List V) : Prop :=
  Rd H a (.lst xs) ∨
    ∃ (o : Obj) (its : Array Value) (n : Nat), K.lookup a = some o ∧ o.cls = .type "list" ∧ o.dict = none ∧ o.data = .seq its n ∧ its.size ≤ sizeLine ∧ Vals xs its.toList
def SqT (K : PySem.W.Frag) (H : Hp) (a : Addr) (xs : List V) : Prop :=
  Rd H a (.tup xs) ∨
    ∃ (o : Obj) (its : Array Value) (n : Nat), K.lookup a = some o ∧ o.cls = .type "tuple" ∧ o.data = .seq its n ∧ its.size ≤ sizeLine ∧ Vals xs its.toList
def absV : Value → Option V
  | .none => some .non
  | .bool b => some (.bl b)
  | .int i _ => some (.int i)
  | .str x _ => some (.str x)
  | .bytes b _ => some (.byt b)
  | .float b _ => some (.flt b)
  | .ref a => some (.ref a)
  | .type n => some (.ty n)
  | _ => none
theorem RelV.abs {x : V} {u : Value} (r : RelV x u) : absV u = some x := by
  cases x with
  | non => cases r; rfl
  | bl _ => cases r; rfl
  | int _ => obtain ⟨t, rfl⟩ := r; rfl
  | str _ => obtain ⟨t, rfl⟩ := r; rfl
  | byt _ => obtain ⟨t, rfl⟩ := r; rfl
  | flt _ => obtain ⟨t, rfl⟩ := r; rfl
  | ref _ => cases r; rfl
  | ty _ => cases r; rfl
theorem RelV.inj {x y : V} {u : Value} (r : RelV x u) (q : RelV y u) : x = y := Option.some.inj (r.abs.symm.trans q.abs)
theorem Vals.inj : ∀ {xs ys : List V} {us : List Value}, Vals xs us → Vals ys us → xs = ys
  | _, _, _, .nil, .nil => rfl
  | _, _, _, .cons r t, .cons r' t' => by rw [r.inj r', Vals.inj t t']
section
variable {X : Cx} {pins : List (Addr × Obj)} {σ : St} {H : Hp} {s : Shared} {a : Addr} {xs ys : List V}
theorem SqL.of {K : PySem.W.Frag} (h : H a = some (.lst xs)) : SqL K H a xs := .inl (.inl h)
theorem SqT.of {K : PySem.W.Frag} (h : H a = some (.tup xs)) : SqT K H a xs := .inl (.inl h)
theorem Inv.list (I : Inv X pins σ H s) (h : SqL X.K H a xs) : ∃ its : List Value, Vals xs its ∧ PlainL s.heap a its.toArray ∧ xs.length ≤ sizeLine := by
  rcases h with h | ⟨o, its, n, hk, hc, hd, hs, hz, r⟩
  · obtain ⟨z, its, n, r, e⟩ := h.ok I.hok
    exact ⟨its, r, ⟨_, n, e, rfl, rfl, rfl⟩, z⟩
  · refine ⟨its.toList, r, ⟨o, n, I.kIn a o hk, hc, hd, by simpa using hs⟩, ?_⟩
    have e := r.length
    simp only [Array.length_toList] at e
    omega
theorem Inv.tuple (I : Inv X pins σ H s) (h : SqT X.K H a xs) : ∃ its : List Value, Vals xs its ∧ IsTup s.heap a its.toArray ∧ xs.length ≤ sizeLine := by
  rcases h with h | ⟨o, its, n, hk, hc, hs, hz, r⟩
  · obtain ⟨z, its, r, p⟩ := h.ok I.hok
    exact ⟨its, r, p, z⟩
  · refine ⟨its.toList, r, ⟨o, I.kIn a o hk, hc, n, by simpa using hs⟩, ?_⟩
    have e := r.length
    simp only [Array.length_toList] at e
    omega
theorem Inv.list_inj (I : Inv X pins σ H s) (h : SqL X.K H a xs) (h' : SqL X.K H a ys) : xs = ys := by
  obtain ⟨its, r, ⟨o, n, e, _, _, d⟩, _⟩ := I.list h
  obtain ⟨its', r', ⟨o', n', e', _, _, d'⟩, _⟩ := I.list h'
  rw [e] at e'; cases e'
  rw [d] at d'
  injection d' with d1 _
  have : its = its' := by simpa using congrArg Array.toList d1
  subst this
  exact r.inj r'
end

/-! ### another wish about exceptions -/
abbrev Cx.wish (X : Cx) (E : Value → Shared → Prop) : Cx := { X with xe := E }
/-- no exception leaves -/
abbrev Cx.nox (X : Cx) : Cx := X.wish fun _ _ => False
theorem Cx.Ok.wish {X : Cx} (ok : X.Ok) (E : Value → Shared → Prop) : (X.wish E).Ok :=
  ⟨ok.mod, ok.kind, ok.glob, ok.blt, ok.above, ok.inj, ok.has, ok.cab, ok.hd, ok.frames, ok.stk, ok.exf, ok.bs, ok.bsz, ok.noex, ok.exfs, ok.funs, ok.frf⟩
theorem Cx.Ok.unwish {X : Cx} {E : Value → Shared → Prop} (ok : (X.wish E).Ok) : X.Ok :=
  ⟨ok.mod, ok.kind, ok.glob, ok.blt, ok.above, ok.inj, ok.has, ok.cab, ok.hd, ok.frames, ok.stk, ok.exf, ok.bs, ok.bsz, ok.noex, ok.exfs, ok.funs, ok.frf⟩
section
variable {X : Cx} {pins : List (Addr × Obj)} {σ : St} {H : Hp} {s : Shared} {E : Value → Shared → Prop}
theorem Inv.wish (I : Inv X pins σ H s) (E : Value → Shared → Prop) : Inv (X.wish E) pins σ H s := ⟨I.ok.wish E, I.os, I.bare, I.base, I.loc, I.cell, I.free, I.freeC, I.pin, I.hok, I.len⟩
theorem Inv.unwish (I : Inv (X.wish E) pins σ H s) : Inv X pins σ H s := ⟨I.ok.unwish, I.os, I.bare, I.base, I.loc, I.cell, I.free, I.freeC, I.pin, I.hok, I.len⟩
theorem SP.unwish {D : Ends} {f : Flow} {s' : Shared} (h : SP (X.wish E) pins D f s') : SP X pins D f s' := by
  cases f with
  | next => obtain ⟨σ', H', I, q⟩ := h; exact ⟨σ', H', I.unwish, q⟩
  | brk => obtain ⟨σ', H', I, q⟩ := h; exact ⟨σ', H', I.unwish, q⟩
  | cont => obtain ⟨σ', H', I, q⟩ := h; exact ⟨σ', H', I.unwish, q⟩
  | ret u => obtain ⟨v, σ', H', I, r, q⟩ := h; exact ⟨v, σ', H', I.unwish, r, q⟩
theorem PE.nox {e : Expr} {t : TE} (h : PE X.nox e t) : PE X e t := fun pins s σ H Q I hw =>
  wpAny_mono (h pins s σ H Q (I.wish _) hw) (fun _ _ ⟨v, H', I', r, q⟩ => ⟨v, H', I'.unwish, r, q⟩) fun _ _ z => False.elim z
theorem PT.nox {e : Expr} {t : TT} (h : PT X.nox e t) : PT X e t := fun pins s σ H Q I hw =>
  wpAny_mono (h pins s σ H Q (I.wish _) hw) (fun _ _ ⟨H', I', q⟩ => ⟨H', I'.unwish, q⟩) fun _ _ z => False.elim z
theorem PSs.nox {st : List Stmt} {t : TS} (h : PSs X.nox st t) : PSs X st t := fun pins s σ H D I hw =>
  wpAny_mono (h pins s σ H D (I.wish _) hw) (fun _ _ q => q.unwish) fun _ _ z => False.elim z
end

/-! ### blocks and small statements -/
section
variable {X : Cx} {st : Stmt} {rest : List Stmt} {t u : TS} {e : Expr} {te : TE} {pos : Pos}
def tNext : TS := fun D σ H => D.nx σ H
def tSeq (t u : TS) : TS := fun D σ H => t { D with nx := u D } σ H
theorem pss_nil : PSs X [] tNext := fun _ _ σ H _ I h => wpAny_execs_nil ⟨σ, H, I, h⟩
theorem pss_cons (h1 : PS X st t) (h2 : PSs X rest u) : PSs X (st :: rest) (tSeq t u) := by
  intro pins s σ H D I h
  refine wpAny_execs_cons (thn (h1 pins s σ H { D with nx := u D } I h) fun f s1 q => ?_)
  cases f with
  | next =>
    obtain ⟨σ', H', I', q⟩ := q
    exact h2 pins s1 σ' H' D I' q
  | ret v => exact q
  | brk => exact q
  | cont => exact q
theorem pss_one (h1 : PS X st t) : PSs X [st] t := by
  intro pins s σ H D I h
  refine wpAny_execs_cons (thn (h1 pins s σ H D I h) fun f s1 q => ?_)
  cases f with
  | next => exact wpAny_execs_nil q
  | ret v => exact q
  | brk => exact q
  | cont => exact q
/-- in a def's body nothing is shown -/
theorem Inv.quiet {pins : List (Addr × Obj)} {σ : St} {H : Hp} {s : Shared} (I : Inv X pins σ H s) : interactive X.env = false := by simp [interactive, I.ok.kind]
/-- an expression whose value is dropped -/
def tDrop (te : TE) : TS := fun D σ H => te σ H fun _ H1 => D.nx σ H1
theorem ps_expr (he : PE X e te) (hs : swapsWith e none pos.line X.env = pure false := by rfl) : PS X (.Expr e pos) (tDrop te) := by
  intro pins s σ H D I h
  exact wpAny_Expr_any (thn (he pins s σ H _ I h) fun v s1 ⟨x, H1, I1, r1, q1⟩ => ⟨σ, H1, I1, q1⟩) I.quiet hs
def tRet (te : TE) : TS := fun D σ H => te σ H D.rt
theorem ps_ret (he : PE X e te) : PS X (.Return (some e) pos) (tRet te) := by
  intro pins s σ H D I h
  exact wpAny_Return_some (thn (he pins s σ H _ I h) fun v s1 ⟨x, H1, I1, r1, q1⟩ => ⟨x, σ, H1, I1, r1, q1⟩)
def tRetN : TS := fun D _ H => D.rt .non H
theorem ps_retN : PS X (.Return none pos) tRetN := fun _ _ σ H _ I h => wpAny_Return_none ⟨.non, σ, H, I, rfl, h⟩
def tIfS (c : TT) (t u : TS) : TS := fun D σ H => c σ H fun b H1 => if b = true then t D σ H1 else u D σ H1
theorem ps_if {c : Expr} {a b : List Stmt} {tc : TT} (hc : PT X c tc) (ha : PSs X a t) (hb : PSs X b u) : PS X (.If c a b pos) (tIfS tc t u) := by
  intro pins s σ H D I h
  refine wpAny_If (thn (hc pins s σ H _ I h) fun d s1 ⟨H1, I1, q1⟩ => ?_)
  cases d with
  | true => exact ha pins s1 σ H1 D I1 q1
  | false => exact hb pins s1 σ H1 D I1 q1
end

/-! ### targets -/
abbrev TG := V → St → Hp → (St → Hp → Prop) → Prop
abbrev TGs := List V → St → Hp → (St → Hp → Prop) → Prop
def PG (X : Cx) (target : Expr) (t : TG) : Prop :=
  ∀ (pins : List (Addr × Obj)) (s : Shared) (σ : St) (H : Hp) (v : V) (u : Value) (Q : St → Hp → Prop), Inv X pins σ H s → RelV v u → t v σ H Q →
    wpAny (model X.prog X.w) X.A (assign target X.env u) (fun _ s' => ∃ σ' H', Inv X pins σ' H' s' ∧ Q σ' H') X.xe s
/-- several targets, one after another -/
def PGs (X : Cx) (ts : List Expr) (t : TGs) : Prop :=
  ∀ (pins : List (Addr × Obj)) (s : Shared) (σ : St) (H : Hp) (vs : List V) (us : List Value) (Q : St → Hp → Prop), Inv X pins σ H s → Vals vs us → t vs σ H Q →
    wpAny (model X.prog X.w) X.A (assignInOrder ((assignEach ts X.env).map (·.2)) us) (fun _ s' => ∃ σ' H', Inv X pins σ' H' s' ∧ Q σ' H') X.xe s
/-- o[i] = v, by values -/
abbrev TSet := V → V → V → Hp → (Hp → Prop) → Prop
def PSet (X : Cx) (t : TSet) : Prop :=
  ∀ (pins : List (Addr × Obj)) (s : Shared) (σ : St) (H : Hp) (o i v : V) (ov iv u : Value) (Q : Hp → Prop), Inv X pins σ H s → RelV o ov → RelV i iv → RelV v u → t o i v H Q →
    wpAny (model X.prog X.w) X.A (setItem ov iv u) (fun _ s' => ∃ H', Inv X pins σ H' s' ∧ Q H') X.xe s
section
variable {X : Cx} {pos : Pos}
def gName (i : Nat) : TG := fun v σ H Q => Q (σ.set i (some v)) H
theorem pg_name {i : Nat} {x : Str} (hN : X.N.Nodup) (hi : X.N[i]? = some x) (hx : Loc X.env.scope x) (hf : X.fn x = true ∨ X.env.scope.names.lookup x = some .local := by first | exact .inl rfl | exact .inr rfl | assumption) : PG X (.Name x pos) (gName i) := by
  intro pins s σ H v u Q I r h
  exact wpAny_assign_Name (store_ok I hN hi hx r (fun s' I' => ⟨_, H, I', h⟩) hf)
def gNil : TGs := fun vs σ H Q => vs = [] ∧ Q σ H
def gCons (t : TG) (u : TGs) : TGs := fun vs σ H Q => ∃ v r, vs = v :: r ∧ t v σ H fun σ' H' => u r σ' H' Q
theorem pgs_nil : PGs X [] gNil := by
  intro pins s σ H vs us Q I r h
  obtain ⟨e, h⟩ := h
  subst e
  cases r
  exact assignInOrder_nil ⟨σ, H, I, h⟩
theorem pgs_cons {e : Expr} {es : List Expr} {t : TG} {u : TGs} (h1 : PG X e t) (h2 : PGs X es u)
    (hs : (assignEach (e :: es) X.env).map (·.2) = assign e X.env :: (assignEach es X.env).map (·.2) := by rfl) : PGs X (e :: es) (gCons t u) := by
  intro pins s σ H vs us Q I r h
  obtain ⟨v, vr, e1, h⟩ := h
  subst e1
  cases r with
  | cons r rr =>
    rw [hs]
    refine assignInOrder_cons (thn (h1 pins s σ H _ _ _ I r h) fun _ s1 ⟨σ1, H1, I1, q1⟩ => ?_)
    exact h2 pins s1 σ1 H1 _ _ Q I1 rr q1
/-- (a, b, ..) = a tuple of that length -/
def gTup (K : PySem.W.Frag) (n : Nat) (t : TGs) : TG := fun v σ H Q => ∃ a xs, v = .ref a ∧ SqT K H a xs ∧ xs.length = n ∧ t xs σ H Q
theorem pg_tup {es : List Expr} {k : Nat} {t : TGs} {n : Nat} (hc : X.calm = true) (h : PGs X es t)
    (hn : (assignEach es X.env).length = n := by rfl) (hst : (assignEach es X.env).findIdx? (·.1) = none := by rfl) : PG X (.Tuple es k pos) (gTup X.K n t) := by
  intro pins s σ H v u Q I r hw
  obtain ⟨a, xs, e1, hq, hl, hw⟩ := hw
  subst e1
  cases r
  obtain ⟨its, rv, ht, hz⟩ := I.tuple hq
  refine assign_Tuple_tuple (I.ok.hd hc) ht (by simp [hn, ← hl, rv.length]) hst fun h' hx => ?_
  have I1 : Inv X pins σ H { s with heap := h' } := I.kept (t' := s.toks) fun b o e => hx b o (Nat.ne_of_lt (Heap.lt_size e)) e
  exact h pins _ σ H xs _ Q I1 (by simpa using rv) hw
/-- o[i] = .. -/
def gSub (to ti : TE) (t : TSet) : TG := fun v σ H Q => to σ H fun o H1 => ti σ H1 fun i H2 => t o i v H2 fun H3 => Q σ H3
theorem pg_sub {o i : Expr} {to ti : TE} {t : TSet} (ho : PE X o to) (hi : PE X i ti) (hs : PSet X t)
    (ha : ∀ v, assign (.Subscript o i pos) X.env v = (do
      let ov ← holding [v] (eval o X.env)
      let iv ← holding [v, ov] (eval i X.env)
      standAt pos
      holding [v, ov, iv] (setItem ov iv v)
      release [v, ov, iv] []) := by intro _; rfl) : PG X (.Subscript o i pos) (gSub to ti t) := by
  intro pins s σ H v u Q I r h
  rw [ha]
  refine wpAny_bind (wpAny_holding (thn (ho pins s σ H _ I h) fun ov s1 ⟨x, H1, I1, r1, q1⟩ => ?_))
  refine wpAny_bind (wpAny_holding (thn (hi pins s1 σ H1 _ I1 q1) fun iv s2 ⟨y, H2, I2, r2, q2⟩ => ?_))
  refine wpAny_bind (wpAny_standAt (wpAny_bind (wpAny_holding (thn (hs pins s2 σ H2 x y v ov iv u _ I2 r1 r2 r q2) fun _ s3 ⟨H3, I3, q3⟩ => ?_))))
  exact wpAny_release ⟨σ, H3, I3, q3⟩
/-- target = value -/
def tAsg (te : TE) (g : TG) : TS := fun D σ H => te σ H fun x H1 => g x σ H1 D.nx
theorem ps_asg {tg e : Expr} {te : TE} {g : TG} (he : PE X e te) (hg : PG X tg g) (hs : swapsWithSole [tg] e pos.line X.env = pure false := by rfl) (hw : swappedStores [tg] e X.env = pure none := by rfl)
    (h1 : (assignEach [tg] X.env).map (·.2) = [assign tg X.env] := by rfl) : PS X (.Assign [tg] e pos) (tAsg te g) := by
  intro pins s σ H D I h
  refine wpAny_Assign_stores (thn (he pins s σ H _ I h) fun v s1 ⟨x, H1, I1, r1, q1⟩ => ?_) hs hw
  rw [h1]
  exact thn (hg pins s1 σ H1 x v _ I1 r1 q1) fun _ s2 q => q
/-- name = value -/
theorem ps_set {i : Nat} {x : Str} {e : Expr} {te : TE} {pos' : Pos} (hN : X.N.Nodup) (hi : X.N[i]? = some x) (hx : Loc X.env.scope x) (he : PE X e te) (hs : swapsWith e (some (.Name x pos')) pos.line X.env = pure false := by rfl) (hf : X.fn x = true ∨ X.env.scope.names.lookup x = some .local := by first | exact .inl rfl | exact .inr rfl | assumption) :
    PS X (.Assign [.Name x pos'] e pos) (tAsg te (gName i)) := by
  intro pins s σ H D I h
  refine wpAny_Assign_Name (thn (he pins s σ H _ I h) fun v s1 ⟨y, H1, I1, r1, q1⟩ => ?_) hs
  exact store_ok I1 hN hi hx r1 (fun s2 I2 => ⟨_, H1, I2, q1⟩) hf
end

/-! ### while -/
section
variable {X : Cx} {pos : Pos}
/-- the invariant W with its measure -/
def tWhile (c : TT) (tb : TS) : TS := fun D σ H => ∃ W : Nat → St → Hp → Prop, (∃ m, W m σ H) ∧ ∀ m σ H, W m σ H →
  c σ H fun b H1 => if b = true then ∃ N : St → Hp → Prop, (∀ σ' H', N σ' H' → ∃ m', m' < m ∧ W m' σ' H') ∧ tb { D with nx := N, ct := N, bk := D.nx } σ H1 else D.nx σ H1
theorem ps_while {c : Expr} {body : List Stmt} {tc : TT} {tb : TS} (hp : PassesOwn (model X.prog X.w) X.A X.env X.xe) (hc : PT X c tc) (hb : PSs X body tb) : PS X (.While c body [] pos) (tWhile tc tb) := by
  intro pins s σ H D I h
  obtain ⟨W, ⟨m0, w0⟩, turn⟩ := h
  refine wpAny_While (codeAny_whileLoop (fun n s' => ∃ σ' H', Inv X pins σ' H' s' ∧ W n σ' H') ?_ m0 ⟨σ, H, I, w0⟩)
  rintro n s1 ⟨σ1, H1, I1, w1⟩
  refine wpAny_passesOwn hp (thn (hc pins s1 σ1 H1 _ I1 (turn n σ1 H1 w1)) fun b s2 ⟨H2, I2, q2⟩ => ?_)
  cases b with
  | true =>
    obtain ⟨N, hN, q2⟩ := q2
    rw [if_pos rfl]
    refine wpAny_passesOwn hp (thn (hb pins s2 σ1 H2 _ I2 q2) fun f s3 q3 => ?_)
    cases f with
    | next =>
      obtain ⟨σ3, H3, I3, n3⟩ := q3
      obtain ⟨m', hm, w3⟩ := hN σ3 H3 n3
      exact ⟨m', hm, σ3, H3, I3, w3⟩
    | cont =>
      obtain ⟨σ3, H3, I3, n3⟩ := q3
      obtain ⟨m', hm, w3⟩ := hN σ3 H3 n3
      exact ⟨m', hm, σ3, H3, I3, w3⟩
    | brk => exact q3
    | ret v => exact q3
  | false =>
    rw [if_neg Bool.false_ne_true]
    exact wpAny_execs_nil ⟨σ1, H2, I2, q2⟩
end

/-! ### what a loop or a comprehension walks -/
/-- at turn i: it yields x (the heap may grow), or it stops -/
structure It where
  go : Nat → Hp → Prop
  yld : Nat → Hp → V → Hp → Prop
  stop : Nat → Hp → Prop
/-- the iterator's own objects may turn: they are not the frame's, not pinned, younger than the entry (or a comprehension's own) -/
def FpOk (X : Cx) (pins : List (Addr × Obj)) (H : Hp) (b : Addr) : Prop :=
  H b = none ∧ b ≠ X.env.locals ∧ b ∉ X.fs ∧ (b ∈ X.ex ∨ X.s₀.heap.objs.size ≤ b) ∧ (∀ x c, X.env.cells.lookup x = some c → c ≠ b) ∧ ∀ p ∈ X.pn ++ pins, p.1 ≠ b
theorem Inv.fpOk {X : Cx} {pins : List (Addr × Obj)} {σ : St} {H H' : Hp} {s : Shared} {b : Addr} (I : Inv X pins σ H s) (hb : s.heap.objs.size ≤ b) (hn : H' b = none) : FpOk X pins H' b := by
  refine ⟨hn, Nat.ne_of_gt (Nat.lt_of_lt_of_le I.lt hb), I.nofs hb, .inr (Nat.le_trans I.sz hb), fun x c e z => ?_, fun p hp z => ?_⟩
  · obtain ⟨v, q⟩ := I.cell x c e
    exact absurd (Nat.lt_of_lt_of_le q.lt (by rw [z]; exact hb)) (Nat.lt_irrefl _)
  · exact absurd (Nat.lt_of_lt_of_le (Heap.lt_size (I.pin p hp).1) (by rw [z]; exact hb)) (Nat.lt_irrefl _)
structure Turn (P : Program) (w : World) (K : PySem.W.Frag) (tg : Expr) (J : It) (fp : List Addr) (it : Addr) (tn : Nat → Heap → Prop) : Prop where
  mem : it ∈ fp
  obj : ∀ i h, tn i h → ∀ b ∈ fp, ∃ o, h.get? b = some o ∧ ∀ v, o.data ≠ .cell v
  keep : ∀ i h h', tn i h → (∀ b ∈ fp, ∀ o, h.get? b = some o → h'.get? b = some o) → tn i h'
  item : ∀ (X : Cx), X.prog = P → X.w = w → X.K = K → X.calm = true → ∀ (i : Nat) (pins : List (Addr × Obj)) (s : Shared) (σ : St) (H : Hp) (E : Value → Shared → Prop), Inv X pins σ H s → (∀ b ∈ fp, FpOk X pins H b) → tn i s.heap → J.go i H →
    wpAny (model P w) X.A (pyNext (.ref it)) (fun r s1 => ∃ u, r = some u ∧
      wpAny (model P w) X.A (letOwnedTupleGo tg (.ref it) u) (fun _ s2 => ∃ x H', Inv X pins σ H' s2 ∧ RelV x u ∧ J.yld i H x H' ∧ tn (i + 1) s2.heap ∧ ∀ b ∈ fp, H' b = none) E s1) E s
  done : ∀ (X : Cx), X.prog = P → X.w = w → X.K = K → X.calm = true → ∀ (i : Nat) (pins : List (Addr × Obj)) (s : Shared) (σ : St) (H : Hp) (E : Value → Shared → Prop), Inv X pins σ H s → (∀ b ∈ fp, FpOk X pins H b) → tn i s.heap → J.stop i H →
    wpAny (model P w) X.A (pyNext (.ref it)) (fun r s1 => r = none ∧ Inv X pins σ H s1) E s
  self : ∀ (A : Around) (i : Nat) (s : Shared) (Q : Value → Shared → Prop) (E : Value → Shared → Prop), tn i s.heap → Q (.ref it) s → wpAny (model P w) A (pyIter (.ref it)) Q E s
abbrev TI := St → Hp → (It → Hp → Prop) → Prop
/-- an iterator has come -/
def PIE (X : Cx) (pins : List (Addr × Obj)) (σ : St) (tg : Expr) (R : It → Hp → Prop) (itv : Value) (s2 : Shared) : Prop :=
  ∃ (it : Addr) (fp : List Addr) (tn : Nat → Heap → Prop) (J : It) (H' : Hp), itv = .ref it ∧ Inv X pins σ H' s2 ∧ Turn X.prog X.w X.K tg J fp it tn ∧ tn 0 s2.heap ∧ (∀ b ∈ fp, FpOk X pins H' b) ∧ R J H'
def PI (X : Cx) (tg iter : Expr) (wi : TI) : Prop :=
  ∀ (pins : List (Addr × Obj)) (s : Shared) (σ : St) (H : Hp) (R : It → Hp → Prop), Inv X pins σ H s → wi σ H R →
    wpAny (model X.prog X.w) X.A (eval iter X.env) (fun v s1 => wpAny (model X.prog X.w) X.A (pyIter v) (PIE X pins σ tg R) X.xe s1) X.xe s

/-- the step ahead of the store is nothing for an iterator that keeps no tuple -/
theorem go_of {M : Model} {A : Around} {E : Value → Shared → Prop} {s : Shared} {tg : Expr} {it : Addr} {u : Value} {o : Obj} {n : String} {vs : Array Value} {Q : Unit → Shared → Prop} (ho : s.heap.get? it = some o) (hc : o.cls = .type n) (hd : o.data = .fields vs)
    (hn : ["enumerate", "zip", "dict_itemiterator", "dict_reverseitemiterator", "odict_iterator", "itertools.zip_longest", "itertools.pairwise"].contains n = false) (hQ : Q () s) : wpAny M A (letOwnedTupleGo tg (.ref it) u) Q E s := by
  unfold letOwnedTupleGo
  cases tg <;> first
    | exact wpAny_pure hQ
    | (cases u <;> first
        | exact wpAny_pure hQ
        | (refine wpAny_bind (wpAny_load ho ?_)
           rw [hc, hd]
           show wpAny M A (if (["enumerate", "zip", "dict_itemiterator", "dict_reverseitemiterator", "odict_iterator", "itertools.zip_longest", "itertools.pairwise"].contains n && vs[0]? == some (rawInt _)) = true then _ else _) Q E s
           rw [if_neg (by intro h; rw [hn, Bool.false_and] at h; cases h)]
           exact wpAny_pure hQ))

/-- the list at a, as it stands at each turn (a loop may append to it) -/
def Itl (K : PySem.W.Frag) (a : Addr) : It :=
  ⟨fun i H => ∃ xs x, SqL K H a xs ∧ xs[i]? = some x, fun i H x H' => H' = H ∧ ∀ xs, SqL K H a xs → xs[i]? = some x, fun i H => ∃ xs, SqL K H a xs ∧ xs.length ≤ i⟩
def Itt (K : PySem.W.Frag) (a : Addr) : It :=
  ⟨fun i H => ∃ xs x, SqT K H a xs ∧ xs[i]? = some x, fun i H x H' => H' = H ∧ ∀ xs, SqT K H a xs → xs[i]? = some x, fun i H => ∃ xs, SqT K H a xs ∧ xs.length ≤ i⟩
/-- lo, lo + 1, .. (n of them) -/
def Itr (lo : Int) (n : Nat) : It := ⟨fun i _ => i < n, fun i H x H' => H' = H ∧ x = .int (lo + i), fun i _ => n ≤ i⟩
theorem turn_list {P : Program} {w : World} {K : PySem.W.Frag} {tg : Expr} (a it : Addr) : Turn P w K tg (Itl K a) [it] it (fun i h => h.IsListIter it a i) where
  mem := by simp
  obj := fun i h st b hb => by
    have e : b = it := by simpa using hb
    subst e
    obtain ⟨o, e, c, d⟩ := st
    exact ⟨o, e, fun v z => by rw [d] at z; cases z⟩
  keep := fun i h h' st k => st.at fun o e => k it (by simp) o e
  item := by
    intro X hP hw hK hc i pins s σ H E I hf st hg
    subst hP hw hK
    obtain ⟨xs, x, hq, hx⟩ := hg
    obtain ⟨its, rv, p, hz⟩ := I.list hq
    obtain ⟨u, hu, ru⟩ := rv.get hx
    obtain ⟨f0, f1, f2, f3, f4, f5⟩ := hf it (by simp)
    refine wpAny_pyNext_list_item st p.isList (x := u) (by simpa using hu) fun h' st' sb => ?_
    have I1 : Inv X pins σ H { s with heap := h' } := I.turned (t' := s.toks) (fun b o hb e => (sb.2 b hb).trans e) f0 f1 f3 f4 f5
    obtain ⟨o, e, c, d⟩ := id st'
    exact ⟨u, rfl, go_of (s := { s with heap := h' }) e c d (by decide) ⟨x, H, I1, ru, ⟨rfl, fun ys hy => by rw [I.list_inj hy hq]; exact hx⟩, st', fun b hb => (hf b hb).1⟩⟩
  done := by
    intro X hP hw hK hc i pins s σ H E I hf st hg
    subst hP hw hK
    obtain ⟨xs, hq, hx⟩ := hg
    obtain ⟨its, rv, p, hz⟩ := I.list hq
    obtain ⟨f0, f1, f2, f3, f4, f5⟩ := hf it (by simp)
    have hl := rv.length
    exact wpAny_pyNext_list_end (I.ok.hd hc) st p.isList (by simp; omega) fun h' eb => ⟨rfl, I.turned (t' := s.toks) (fun b o hb e => eb b o hb e) f0 f1 f3 f4 f5⟩
  self := fun _ _ _ _ _ st h => wpAny_pyIter_listiter st h
theorem turn_range {P : Program} {w : World} {K : PySem.W.Frag} {tg : Expr} (it : Addr) (lo : Int) (n : Nat) : Turn P w K tg (Itr lo n) [it] it (fun i h => IsRangeIter h it (lo + (i : Nat) * 1) ((n : Int) - (i : Nat)) 1) where
  mem := by simp
  obj := fun i h st b hb => by
    have e : b = it := by simpa using hb
    subst e
    exact ⟨_, st, fun v z => by
      have z' : Data.fields _ = Data.cell v := z
      cases z'⟩
  keep := fun i h h' st k => k it (by simp) _ st
  item := by
    intro X hP hw hK hc i pins s σ H E I hf st hg
    subst hP hw hK
    obtain ⟨f0, f1, f2, f3, f4, f5⟩ := hf it (by simp)
    have W := Walks.range (prog := X.prog) (w := X.w) (I.ok.hd hc) it lo 1 n
    refine W.item i s _ _ hg st fun v h' tk hv st' kk => ?_
    obtain ⟨t, rfl⟩ := hv
    have I1 : Inv X pins σ H { s with heap := h', toks := tk } := I.turned (fun b o hb e => kk b o (by simpa using hb) e) f0 f1 f3 f4 f5
    refine ⟨_, rfl, go_of (s := { s with heap := h', toks := tk }) (n := "range_iterator") st' rfl rfl (by decide) ⟨.int (lo + i), H, I1, ⟨t, ?_⟩, ⟨rfl, rfl⟩, st', fun b hb => (hf b hb).1⟩⟩
    rw [Int.mul_one]
  done := by
    intro X hP hw hK hc i pins s σ H E I hf st hg
    subst hP hw hK
    obtain ⟨f0, f1, f2, f3, f4, f5⟩ := hf it (by simp)
    exact wpAny_pyNext_range_end (I.ok.hd hc) st (by have : n ≤ i := hg; omega) fun h' eb => ⟨rfl, I.turned (t' := s.toks) (fun b o hb e => eb b o hb e) f0 f1 f3 f4 f5⟩
  self := fun _ _ _ _ _ st h => wpAny_pyIter_rangeiter st h
end L2

namespace L2
open PySem PySem.Spec PyProof.Rows
section
variable {X : Cx} {tg : Expr}
def iList (K : PySem.W.Frag) (tl : TE) : TI := fun σ H R => tl σ H fun x H1 => ∃ a, x = .ref a ∧ (∃ xs, SqL K H1 a xs) ∧ R (Itl K a) H1
def iTup (K : PySem.W.Frag) (tl : TE) : TI := fun σ H R => tl σ H fun x H1 => ∃ a, x = .ref a ∧ (∃ xs, SqT K H1 a xs) ∧ R (Itt K a) H1
theorem pi_list {l : Expr} {tl : TE} (hl : PE X l tl) : PI X tg l (iList X.K tl) := by
  intro pins s σ H R I h
  refine thn (hl pins s σ H _ I h) fun v s1 ⟨x, H1, I1, r1, q1⟩ => ?_
  obtain ⟨a, e, ⟨xs, hq⟩, q⟩ := q1
  subst e
  cases r1
  obtain ⟨its, rv, p, hz⟩ := I1.list hq
  refine wpAny_pyIter_list p.isList ?_
  refine ⟨s1.heap.objs.size, [s1.heap.objs.size], _, _, H1, rfl, I1.kept (t' := s1.toks) fun b o e => Heap.get?_push_of_some _ e, turn_list a _, ⟨_, Heap.get?_push_size _ rfl, rfl, rfl⟩, fun b hb => ?_, q⟩
  have e : b = s1.heap.objs.size := by simpa using hb
  subst e
  exact I1.fpOk (Nat.le_refl _) (I1.hok.fresh (Nat.le_refl _))
/-- a range object just made, walked -/
theorem range_it {pins : List (Addr × Obj)} {σ : St} {H : Hp} {s : Shared} {R : It → Hp → Prop} {E : Value → Shared → Prop} {lo hi : Int} {t u v : Tok} {tk : Nat} (I : Inv X pins σ H s) (h1 : -(2 ^ 62) ≤ lo) (h2 : lo < 2 ^ 62) (h3 : -(2 ^ 62) ≤ hi) (h4 : hi < 2 ^ 62)
    (q : R (Itr lo (hi - lo).toNat) H) : wpAny (model X.prog X.w) X.A (pyIter (.ref s.heap.objs.size)) (PIE X pins σ tg R) E { s with heap := s.heap.push { cls := .type "range", data := .fields #[.int lo t, .int hi u, .int 1 v] }, toks := tk } := by
  refine wpAny_pyIter_range (IsRange.new ..) (small_one h1 h2 h3 h4) ?_
  have I1 : Inv X pins σ H { s with heap := s.heap.push { cls := .type "range", data := .fields #[.int lo t, .int hi u, .int 1 v] }, toks := tk } := I.kept fun b o e => Heap.get?_push_of_some _ e
  refine ⟨(s.heap.push { cls := .type "range", data := .fields #[.int lo t, .int hi u, .int 1 v] }).objs.size, [(s.heap.push { cls := .type "range", data := .fields #[.int lo t, .int hi u, .int 1 v] }).objs.size], _, _, H, rfl,
    I1.kept (t' := tk) fun b o e => Heap.get?_push_of_some _ e, turn_range _ lo (hi - lo).toNat, ?_, fun b hb => ?_, q⟩
  · have e1 : lo + ((0 : Nat) : Int) * 1 = lo := by simp
    have e2 : (((hi - lo).toNat : Nat) : Int) - ((0 : Nat) : Int) = Builtin.Range.rangeSize lo hi 1 := by rw [rangeSize_one]; split <;> omega
    show IsRangeIter _ _ (lo + ((0 : Nat) : Int) * 1) ((((hi - lo).toNat : Nat) : Int) - ((0 : Nat) : Int)) 1
    rw [e1, e2]
    exact Heap.get?_push_size _ rfl
  · have e : b = (s.heap.push { cls := .type "range", data := .fields #[.int lo t, .int hi u, .int 1 v] }).objs.size := by simpa using hb
    subst e
    exact I1.fpOk (Nat.le_refl _) (I1.hok.fresh (Nat.le_refl _))
def iRng1 (ta : TA) : TI := fun σ H R => ta σ H fun vs H1 => ∃ j : Int, vs = [.int j] ∧ -(2 ^ 62) ≤ j ∧ j < 2 ^ 62 ∧ R (Itr 0 j.toNat) H1
def iRng2 (ta : TA) : TI := fun σ H R => ta σ H fun vs H1 => ∃ i j : Int, vs = [.int i, .int j] ∧ (-(2 ^ 62) ≤ i ∧ i < 2 ^ 62 ∧ -(2 ^ 62) ≤ j ∧ j < 2 ^ 62) ∧ R (Itr i (j - i).toNat) H1
theorem pi_range1 {a : Expr} {ta : TA} {p pos : Pos} (hg : Gl X "range") (hm : X.mg "range" = none) (ha : PA X [a] ta) (hs : starEach [a] X.env = [(false, eval a X.env)] := by rfl) : PI X tg (.Call (.Name "range" p) [a] [] pos) (iRng1 ta) := by
  intro pins s σ H R I h
  refine Call_ (ld_blt I hg hm boot_range (PyProof.Rows.callWith_type1 (thn (ha pos pins s σ H _ I h) fun us s1 ⟨vs, H1, I1, r1, q1⟩ => ?_) hs rfl))
  obtain ⟨j, e, q1, q2, q⟩ := q1
  subst e
  cases r1 with
  | cons r rr =>
    cases rr
    obtain ⟨t, rfl⟩ := r
    exact call_range_1 (range_it I1 (by omega) (by omega) q1 q2 (by simpa using q))
theorem pi_range2 {a b : Expr} {ta : TA} {p pos : Pos} (hg : Gl X "range") (hm : X.mg "range" = none) (ha : PA X [a, b] ta) (hs : starEach [a, b] X.env = [(false, eval a X.env), (false, eval b X.env)] := by rfl) (hs2 : starEach [b] X.env = [(false, eval b X.env)] := by rfl) :
    PI X tg (.Call (.Name "range" p) [a, b] [] pos) (iRng2 ta) := by
  intro pins s σ H R I h
  refine Call_ (ld_blt I hg hm boot_range (PyProof.Rows.callWith_type1 (thn (ha pos pins s σ H _ I h) fun us s1 ⟨vs, H1, I1, r1, q1⟩ => ?_) (by rw [hs, hs2]) (by rw [hs2]; rfl)))
  obtain ⟨i, j, e, ⟨q1, q2, q3, q4⟩, q⟩ := q1
  subst e
  cases r1 with
  | cons r rr =>
    cases rr with
    | cons r' rr =>
      cases rr
      obtain ⟨t, rfl⟩ := r
      obtain ⟨t', rfl⟩ := r'
      exact call_range_2 (range_it I1 q1 q2 q3 q4 q)

/-! ### for -/
/-- W: the invariant by the turn and a measure; N: what the body is to reach -/
def tFor (wi : TI) (g : TG) (tb : TS) : TS := fun D σ H => wi σ H fun J H1 => ∃ W : Nat → Nat → St → Hp → Prop, (∃ m, W 0 m σ H1) ∧ ∀ i m σ H, W i m σ H →
  (J.stop i H ∧ D.nx σ H) ∨ (J.go i H ∧ ∃ N : St → Hp → Prop, (∀ σ' H', N σ' H' → ∃ m', m' < m ∧ W (i + 1) m' σ' H') ∧ ∀ x H', J.yld i H x H' → g x σ H' fun σ2 H2 => tb { D with nx := N, ct := N, bk := D.nx } σ2 H2)
/-- the records at fp as they stand -/
def pinsAt (fp : List Addr) (h : Heap) : List (Addr × Obj) := fp.filterMap fun b => (h.get? b).map fun o => (b, o)
theorem mem_pinsAt {fp : List Addr} {h : Heap} {b : Addr} {o : Obj} (hb : b ∈ fp) (e : h.get? b = some o) : (b, o) ∈ pinsAt fp h := List.mem_filterMap.mpr ⟨b, hb, by rw [e]; rfl⟩
theorem of_pinsAt {fp : List Addr} {h : Heap} {p : Addr × Obj} (hp : p ∈ pinsAt fp h) : p.1 ∈ fp ∧ h.get? p.1 = some p.2 := by
  obtain ⟨b, hb, e⟩ := List.mem_filterMap.mp hp
  cases q : h.get? b with
  | none => rw [q] at e; cases e
  | some o =>
    rw [q] at e
    have e' : (b, o) = p := Option.some.inj e
    subst e'
    exact ⟨hb, q⟩
theorem Inv.pinned {pins : List (Addr × Obj)} {σ : St} {H : Hp} {s : Shared} {fp : List Addr} (I : Inv X pins σ H s) (hf : ∀ b ∈ fp, FpOk X pins H b) (ho : ∀ b ∈ fp, ∃ o, s.heap.get? b = some o ∧ ∀ v, o.data ≠ .cell v) : Inv X (pins ++ pinsAt fp s.heap) σ H s :=
  I.pins_of fun p hp => (List.mem_append.mp hp).elim (fun z => I.pin p (List.mem_append_right _ z)) fun z => by
    obtain ⟨hb, e⟩ := of_pinsAt z
    obtain ⟨f0, f1, f2, _⟩ := hf p.1 hb
    obtain ⟨o, e', d⟩ := ho p.1 hb
    rw [e] at e'; cases e'
    exact ⟨e, f0, f1, f2, d⟩
theorem Inv.unpinned {pins pl : List (Addr × Obj)} {σ : St} {H : Hp} {s : Shared} (I : Inv X (pins ++ pl) σ H s) : Inv X pins σ H s := I.pins_of fun p hp => I.pin p (List.mem_append_right _ (List.mem_append_left _ hp))
theorem ps_for {iter : Expr} {body : List Stmt} {wi : TI} {g : TG} {tb : TS} {pos : Pos} (hp : PassesOwn (model X.prog X.w) X.A X.env X.xe) (hc : X.calm = true) (hi : PI X tg iter wi) (hg : PG X tg g) (hb : PSs X body tb)
    (hs : ∀ x, foldedSetIterable iter X.env x = pure x := by intro _; rfl) : PS X (.For tg iter body [] pos) (tFor wi g tb) := by
  intro pins s σ H D I h
  refine wpAny_For (thn (hi pins s σ H _ I h) fun v s1 h1 => thn h1 fun itv s2 h2 => ?_) hs
  obtain ⟨it, fp, tn, J, H2, e, I2, T, st2, f2, W, ⟨m0, w0⟩, turn⟩ := h2
  subst e
  -- what stays true of the iterator's objects through the loop
  have stat : ∀ {H' : Hp}, (∀ b ∈ fp, H' b = none) → ∀ b ∈ fp, FpOk X pins H' b := fun hn b hb => ⟨hn b hb, (f2 b hb).2⟩
  refine codeAny_forLoop_any (fun n s' => ∃ i σ' H', Inv X pins σ' H' s' ∧ tn i s'.heap ∧ (∀ b ∈ fp, H' b = none) ∧ W i n σ' H') ?_ m0 ⟨0, σ, H2, I2, st2, fun b hb => (f2 b hb).1, w0⟩
  rintro n s3 ⟨i, σ3, H3, I3, st3, fr3, w3⟩
  rcases turn i n σ3 H3 w3 with ⟨stop, qn⟩ | ⟨go, N, hN, step⟩
  · refine wpAny_passesOwn hp (thn (T.done X rfl rfl rfl hc i pins s3 σ3 H3 X.xe I3 (stat fr3) st3 stop) fun r s4 ⟨hr, I4⟩ => ?_)
    subst hr
    exact wpAny_execs_nil ⟨σ3, H3, I4, qn⟩
  · refine wpAny_passesOwn hp (thn (T.item X rfl rfl rfl hc i pins s3 σ3 H3 X.xe I3 (stat fr3) st3 go) fun r s4 ⟨u, hr, h4⟩ => ?_)
    subst hr
    refine wpAny_passesOwn hp (thn h4 fun _ s5 ⟨x, H5, I5, r5, y5, st5, fr5⟩ => ?_)
    have I5' := I5.pinned (stat fr5) (T.obj _ _ st5)
    refine wpAny_passesOwn hp (thn (hg _ s5 σ3 H5 x u _ I5' r5 (step x H5 y5)) fun _ s6 ⟨σ6, H6, I6, q6⟩ => ?_)
    refine wpAny_passesOwn hp (thn (hb _ s6 σ6 H6 _ I6 q6) fun f s7 q7 => ?_)
    have again : ∀ {σ7 : St} {H7 : Hp}, Inv X (pins ++ pinsAt fp s5.heap) σ7 H7 s7 → N σ7 H7 → ∃ m, m < n ∧ ∃ i σ' H', Inv X pins σ' H' s7 ∧ tn i s7.heap ∧ (∀ b ∈ fp, H' b = none) ∧ W i m σ' H' := fun {σ7 H7} I7 n7 => by
      obtain ⟨m', hm, w7⟩ := hN σ7 H7 n7
      refine ⟨m', hm, i + 1, σ7, H7, I7.unpinned, T.keep _ _ _ st5 fun b hb o e => (I7.pin (b, o) (List.mem_append_right _ (List.mem_append_right _ (mem_pinsAt hb e)))).1, fun b hb => ?_, w7⟩
      obtain ⟨o, e, d⟩ := T.obj _ _ st5 b hb
      exact (I7.pin (b, o) (List.mem_append_right _ (List.mem_append_right _ (mem_pinsAt hb e)))).2.1
    cases f with
    | next => obtain ⟨σ7, H7, I7, n7⟩ := q7; exact again I7 n7
    | cont => obtain ⟨σ7, H7, I7, n7⟩ := q7; exact again I7 n7
    | brk => obtain ⟨σ7, H7, I7, q7⟩ := q7; exact ⟨σ7, H7, I7.unpinned, q7⟩
    | ret v => obtain ⟨x7, σ7, H7, I7, r7, q7⟩ := q7; exact ⟨x7, σ7, H7, I7.unpinned, r7, q7⟩
end

/-! ### the forms one uses -/
/-- over a list that the body leaves as it is -/
theorem for_list {K : PySem.W.Frag} {a : Addr} {xs : List V} {g : TG} {tb : TS} {D : Ends} {σ : St} {H : Hp} (Pv : Nat → St → Hp → Prop) (h0 : Pv 0 σ H) (hl : ∀ i σ H, i ≤ xs.length → Pv i σ H → SqL K H a xs)
    (hs : ∀ i x σ H, xs[i]? = some x → Pv i σ H → g x σ H fun σ2 H2 => tb { D with nx := Pv (i + 1), ct := Pv (i + 1), bk := D.nx } σ2 H2) (hd : ∀ σ H, Pv xs.length σ H → D.nx σ H) :
    ∃ W : Nat → Nat → St → Hp → Prop, (∃ m, W 0 m σ H) ∧ ∀ i m σ H, W i m σ H →
      ((Itl K a).stop i H ∧ D.nx σ H) ∨ ((Itl K a).go i H ∧ ∃ N : St → Hp → Prop, (∀ σ' H', N σ' H' → ∃ m', m' < m ∧ W (i + 1) m' σ' H') ∧ ∀ x H', (Itl K a).yld i H x H' → g x σ H' fun σ2 H2 => tb { D with nx := N, ct := N, bk := D.nx } σ2 H2) := by
  refine ⟨fun i m σ H => m = xs.length - i ∧ i ≤ xs.length ∧ Pv i σ H, ⟨xs.length, by simp, Nat.zero_le _, h0⟩, ?_⟩
  rintro i m σ H ⟨rfl, hi, p⟩
  have q := hl i σ H hi p
  by_cases hlt : i < xs.length
  · refine .inr ⟨⟨xs, xs[i], q, by simp [hlt]⟩, Pv (i + 1), fun σ' H' p' => ⟨xs.length - (i + 1), by omega, rfl, hlt, p'⟩, fun x H' y => ?_⟩
    obtain ⟨e, y⟩ := y
    subst e
    exact hs i x σ _ (y xs q) p
  · have e : i = xs.length := by omega
    subst e
    exact .inl ⟨⟨xs, q, Nat.le_refl _⟩, hd σ H p⟩
theorem for_range {lo : Int} {n : Nat} {g : TG} {tb : TS} {D : Ends} {σ : St} {H : Hp} (Pv : Nat → St → Hp → Prop) (h0 : Pv 0 σ H)
    (hs : ∀ i σ H, i < n → Pv i σ H → g (.int (lo + i)) σ H fun σ2 H2 => tb { D with nx := Pv (i + 1), ct := Pv (i + 1), bk := D.nx } σ2 H2) (hd : ∀ σ H, Pv n σ H → D.nx σ H) :
    ∃ W : Nat → Nat → St → Hp → Prop, (∃ m, W 0 m σ H) ∧ ∀ i m σ H, W i m σ H →
      ((Itr lo n).stop i H ∧ D.nx σ H) ∨ ((Itr lo n).go i H ∧ ∃ N : St → Hp → Prop, (∀ σ' H', N σ' H' → ∃ m', m' < m ∧ W (i + 1) m' σ' H') ∧ ∀ x H', (Itr lo n).yld i H x H' → g x σ H' fun σ2 H2 => tb { D with nx := N, ct := N, bk := D.nx } σ2 H2) := by
  refine ⟨fun i m σ H => m = n - i ∧ i ≤ n ∧ Pv i σ H, ⟨n, by simp, Nat.zero_le _, h0⟩, ?_⟩
  rintro i m σ H ⟨rfl, hi, p⟩
  by_cases hlt : i < n
  · refine .inr ⟨hlt, Pv (i + 1), fun σ' H' p' => ⟨n - (i + 1), by omega, rfl, hlt, p'⟩, fun x H' y => ?_⟩
    obtain ⟨e, y⟩ := y
    subst e y
    exact hs i σ _ hlt p
  · have e : i = n := by omega
    subst e
    exact .inl ⟨Nat.le_refl _, hd σ H p⟩
end L2

namespace L2
open PySem PySem.Spec PyProof.Rows

abbrev R2 := V → V → Hp → VK → Prop
/-- a two-place operation on values: f is binaryOp op, inplaceOp op or compareOp op -/
def OpR (X : Cx) (f : Value → Value → Sem Value) (r : R2) : Prop :=
  ∀ (pins : List (Addr × Obj)) (s : Shared) (σ : St) (H : Hp) (x y : V) (v u : Value) (Q : VK), Inv X pins σ H s → RelV x v → RelV y u → r x y H Q →
    wpAny (model X.prog X.w) X.A (f v u) (EP X pins σ Q) X.xe s
/-- a one-place operation -/
def UnR (X : Cx) (f : Value → Sem Value) (r : V → Hp → VK → Prop) : Prop :=
  ∀ (pins : List (Addr × Obj)) (s : Shared) (σ : St) (H : Hp) (x : V) (v : Value) (Q : VK), Inv X pins σ H s → RelV x v → r x H Q →
    wpAny (model X.prog X.w) X.A (f v) (EP X pins σ Q) X.xe s
/-- a call of a value that is known (a builtin, a type) with values -/
def CallR (X : Cx) (f : Value) (r : List V → Hp → VK → Prop) : Prop :=
  ∀ (pins : List (Addr × Obj)) (s : Shared) (σ : St) (H : Hp) (xs : List V) (us : List Value) (Q : VK), Inv X pins σ H s → Vals xs us → r xs H Q →
    wpAny (model X.prog X.w) X.A (call f us) (EP X pins σ Q) X.xe s
def tOp (r : R2) (ta tb : TE) : TE := fun σ H Q => ta σ H fun x H1 => tb σ H1 fun y H2 => r x y H2 Q
def tUn (r : V → Hp → VK → Prop) (ta : TE) : TE := fun σ H Q => ta σ H fun x H1 => r x H1 Q
/-- ints in, under C, and a value out -/
def rI (C : Int → Int → Prop) (g : Int → Int → V) : R2 := fun x y H Q => ∃ i j, x = .int i ∧ y = .int j ∧ C i j ∧ Q (g i j) H
def rI0 (g : Int → Int → V) : R2 := fun x y H Q => ∃ i j, x = .int i ∧ y = .int j ∧ Q (g i j) H
def rU (g : Int → V) : V → Hp → VK → Prop := fun x H Q => ∃ i, x = .int i ∧ Q (g i) H

section
variable {X : Cx} {a b c : Expr} {ta tb tc : TE} {pos : Pos}

theorem binT (ha : PE X a ta) (hb : PE X b tb) {pins : List (Addr × Obj)} {s : Shared} {σ : St} {H : Hp} {R : V → V → Hp → Prop} (I : Inv X pins σ H s)
    (h : ta σ H fun x H1 => tb σ H1 fun y H2 => R x y H2) {Q : Value → Shared → Prop} {f : Value → Value → Sem Value}
    (hf : ∀ v u s2 x y H2, Inv X pins σ H2 s2 → RelV x v → RelV y u → R x y H2 → wpAny (model X.prog X.w) X.A (f v u) Q X.xe s2) :
    wpAny (model X.prog X.w) X.A (eval a X.env) (fun v s₁ => wpAny (model X.prog X.w) X.A (eval b X.env) (fun u s₂ => wpAny (model X.prog X.w) X.A (f v u) Q X.xe s₂) X.xe s₁) X.xe s := by
  refine thn (ha pins s σ H _ I h) fun v s1 ⟨x, H1, I1, r1, q1⟩ => ?_
  refine thn (hb pins s1 σ H1 _ I1 q1) fun u s2 ⟨y, H2, I2, r2, q2⟩ => ?_
  exact hf v u s2 x y H2 I2 r1 r2 q2

theorem pe_op {op : Operator} {r : R2} (ho : OpR X (binaryOp op) r) (ha : PE X a ta) (hb : PE X b tb) : PE X (.BinOp a op b pos) (tOp r ta tb) := by
  intro pins s σ H Q I h
  exact wpAny_BinOp (binT ha hb I h fun v u s2 x y H2 I2 rx ry q => ho pins s2 σ H2 x y v u Q I2 rx ry q)
theorem pe_un {op : UnaryOp} {r : V → Hp → VK → Prop} (ho : UnR X (unaryOp op) r) (ha : PE X a ta) : PE X (.UnaryOp op a pos) (tUn r ta) := by
  intro pins s σ H Q I h
  exact UnaryOp_ (thn (ha pins s σ H _ I h) fun v s1 ⟨x, H1, I1, r1, q1⟩ => ho pins s1 σ H1 x v Q I1 r1 q1)
/-! ### ints -/
theorem opI {f : Value → Value → Sem Value} {C : Int → Int → Prop} {g : Int → Int → Int}
    (rule : ∀ (i j : Int) (t u : Tok) (s : Shared) (Q : Value → Shared → Prop) (E : Value → Shared → Prop), C i j → Q (.int (g i j) s.toks) { s with toks := s.toks + 1 } → wpAny (model X.prog X.w) X.A (f (.int i t) (.int j u)) Q E s) :
    OpR X f (rI C fun i j => .int (g i j)) := by
  intro pins s σ H x y v u Q I rx ry h
  obtain ⟨i, j, rfl, rfl, hc, q⟩ := h
  obtain ⟨t, rfl⟩ := rx
  obtain ⟨t', rfl⟩ := ry
  exact rule i j t t' s _ _ hc ⟨.int (g i j), H, I.tok _, ⟨_, rfl⟩, q⟩
theorem opI0 {f : Value → Value → Sem Value} {g : Int → Int → Int}
    (rule : ∀ (i j : Int) (t u : Tok) (s : Shared) (Q : Value → Shared → Prop) (E : Value → Shared → Prop), Q (.int (g i j) s.toks) { s with toks := s.toks + 1 } → wpAny (model X.prog X.w) X.A (f (.int i t) (.int j u)) Q E s) :
    OpR X f (rI0 fun i j => .int (g i j)) := by
  intro pins s σ H x y v u Q I rx ry h
  obtain ⟨i, j, rfl, rfl, q⟩ := h
  obtain ⟨t, rfl⟩ := rx
  obtain ⟨t', rfl⟩ := ry
  exact rule i j t t' s _ _ ⟨.int (g i j), H, I.tok _, ⟨_, rfl⟩, q⟩
theorem opB0 {f : Value → Value → Sem Value} {g : Int → Int → Bool}
    (rule : ∀ (i j : Int) (t u : Tok) (s : Shared) (Q : Value → Shared → Prop) (E : Value → Shared → Prop), Q (.bool (g i j)) s → wpAny (model X.prog X.w) X.A (f (.int i t) (.int j u)) Q E s) :
    OpR X f (rI0 fun i j => .bl (g i j)) := by
  intro pins s σ H x y v u Q I rx ry h
  obtain ⟨i, j, rfl, rfl, q⟩ := h
  obtain ⟨t, rfl⟩ := rx
  obtain ⟨t', rfl⟩ := ry
  exact rule i j t t' s _ _ ⟨.bl (g i j), H, I, rfl, q⟩

def CDiv (i j : Int) : Prop := 0 < j ∧ j < 1073741824
def CPow (i j : Int) : Prop := 0 ≤ j ∧ j ≤ 1000000 ∧ i.natAbs < 2 ^ 64
def CMul (i j : Int) : Prop := (-(2 ^ 64) < i ∧ i < 2 ^ 64) ∨ (-(2 ^ 64) < j ∧ j < 2 ^ 64)
theorem CMul.ok {i j : Int} (h : CMul i j) : IntMulOk i j := by
  rcases h with ⟨h1, h2⟩ | ⟨h1, h2⟩
  · exact .of_left (intBits_le_64 h1 h2)
  · exact .of_right (intBits_le_64 h1 h2)
theorem op_add : OpR X (binaryOp .Add) (rI0 fun i j => .int (i + j)) := opI0 fun _ _ _ _ _ _ _ q => add_int q
theorem op_sub : OpR X (binaryOp .Sub) (rI0 fun i j => .int (i - j)) := opI0 fun _ _ _ _ _ _ _ q => sub_int q
theorem op_mul : OpR X (binaryOp .Mult) (rI CMul fun i j => .int (i * j)) := opI fun _ _ _ _ _ _ _ hc q => mul_int q hc.ok
/-- // by a positive divisor -/
theorem op_fdiv : OpR X (binaryOp .FloorDiv) (rI CDiv fun i j => .int (i / j)) := opI fun i j _ _ _ _ _ hc q => by
  have h1 : (0 : Int) < j := hc.1
  have h2 : j < 1073741824 := hc.2
  exact floordiv_int (by omega) (by rw [Int.fdiv_eq_ediv_of_nonneg i (by omega)]; exact q) (.inl (PyProof.noPylong_small (by omega)))
/-- % by a positive divisor of any size -/
theorem op_mod : OpR X (binaryOp .Mod) (rI (fun _ j => 0 < j) fun i j => .int (i % j)) := opI fun i j _ _ _ _ _ hc q => by
  have h1 : (0 : Int) < j := hc
  exact mod_int' (by omega) (by rw [Int.fmod_eq_emod_of_nonneg i (by omega)]; exact q)
theorem op_pow : OpR X (binaryOp .Pow) (rI CPow fun i j => .int (i ^ j.toNat)) := opI fun _ _ _ _ _ _ _ hc q => pow_int_small hc.1 hc.2.1 hc.2.2 q
theorem unI {f : Value → Sem Value} {g : Int → Int}
    (rule : ∀ (i : Int) (t : Tok) (s : Shared) (Q : Value → Shared → Prop) (E : Value → Shared → Prop), Q (.int (g i) s.toks) { s with toks := s.toks + 1 } → wpAny (model X.prog X.w) X.A (f (.int i t)) Q E s) :
    UnR X f (rU fun i => .int (g i)) := by
  intro pins s σ H x v Q I rx h
  obtain ⟨i, rfl, q⟩ := h
  obtain ⟨t, rfl⟩ := rx
  exact rule i t s _ _ ⟨.int (g i), H, I.tok _, ⟨_, rfl⟩, q⟩
theorem un_neg : UnR X (unaryOp .USub) (rU fun i => .int (-i)) := unI fun _ _ _ _ _ q => neg_int q
/-! ### bools among ints: n += (a < b) -/
end

/-! ### comparisons -/
/-- the scalars that == tells apart as data does -/
def scal : V → V → Bool
  | .non, .non => true | .non, .int _ => true | .int _, .non => true | .non, .bl _ => true | .bl _, .non => true | .non, .str _ => true | .str _, .non => true
  | .int _, .int _ => true | .bl _, .bl _ => true | .str _, .str _ => true | .byt _, .byt _ => true
  | .int _, .str _ => true | .str _, .int _ => true | .bl _, .str _ => true | .str _, .bl _ => true
  | _, _ => false
def rEq : R2 := fun x y H Q => scal x y = true ∧ Q (.bl (decide (x = y))) H
def rNe : R2 := fun x y H Q => scal x y = true ∧ Q (.bl (!decide (x = y))) H

theorem dec_int {i j : Int} : decide (V.int i = V.int j) = (i == j) := by
  rw [Bool.eq_iff_iff]
  simp
theorem dec_bl {i j : Bool} : decide (V.bl i = V.bl j) = (i == j) := by
  rw [Bool.eq_iff_iff]
  simp
theorem dec_str {i j : Str} : decide (V.str i = V.str j) = (i == j) := by
  rw [Bool.eq_iff_iff]
  simp
theorem dec_byt {i j : Array UInt8} : decide (V.byt i = V.byt j) = (i.toList == j.toList) := by
  rw [Bool.eq_iff_iff]
  cases i
  cases j
  simp

section
variable {X : Cx} {a b c : Expr} {ta tb tc : TE} {pos : Pos}
theorem fin_bl {pins : List (Addr × Obj)} {σ : St} {H : Hp} {s : Shared} {Q : VK} {k k' : Bool} (I : Inv X pins σ H s) (q : Q (.bl k) H) (e : k = k') : EP X pins σ Q (.bool k') s := by
  subst e
  exact ⟨.bl k, H, I, rfl, q⟩
theorem op_eq : OpR X (compareOp .Eq) rEq := by
  intro pins s σ H x y v u Q I rx ry h
  obtain ⟨hs, q⟩ := h
  cases x with
  | non =>
    cases rx
    cases y with
    | non => cases ry; exact PySem.EqNone.eq_none_none (fin_bl I q (by simp))
    | bl j => cases ry; exact PySem.EqNone.eq_none_bool (fin_bl I q (by simp))
    | int j => obtain ⟨t', rfl⟩ := ry; exact PySem.EqNone.eq_none_int (fin_bl I q (by simp))
    | str j => obtain ⟨t', rfl⟩ := ry; exact PySem.EqNone.eq_none_str (fin_bl I q (by simp))
    | _ => exact absurd (show false = true from hs) Bool.false_ne_true
  | bl i =>
    cases rx
    cases y with
    | non => cases ry; exact PySem.EqNone.eq_bool_none (fin_bl I q (by simp))
    | bl j => cases ry; exact eq_bool (fin_bl I q dec_bl)
    | str j => obtain ⟨t', rfl⟩ := ry; exact PySem.EqMixed.eq_bool_str (fin_bl I q (by simp))
    | _ => exact absurd (show false = true from hs) Bool.false_ne_true
  | int i =>
    obtain ⟨t, rfl⟩ := rx
    cases y with
    | non => cases ry; exact PySem.EqNone.eq_int_none (fin_bl I q (by simp))
    | int j => obtain ⟨t', rfl⟩ := ry; exact eq_int (fin_bl I q dec_int)
    | str j => obtain ⟨t', rfl⟩ := ry; exact PySem.EqMixed.eq_int_str (fin_bl I q (by simp))
    | _ => exact absurd (show false = true from hs) Bool.false_ne_true
  | str i =>
    obtain ⟨t, rfl⟩ := rx
    cases y with
    | non => cases ry; exact PySem.EqNone.eq_str_none (fin_bl I q (by simp))
    | bl j => cases ry; exact PySem.EqMixed.eq_str_bool (fin_bl I q (by simp))
    | int j => obtain ⟨t', rfl⟩ := ry; exact PySem.EqMixed.eq_str_int (fin_bl I q (by simp))
    | str j => obtain ⟨t', rfl⟩ := ry; exact eq_str (fin_bl I q dec_str)
    | _ => exact absurd (show false = true from hs) Bool.false_ne_true
  | byt i =>
    obtain ⟨t, rfl⟩ := rx
    cases y with
    | byt j => obtain ⟨t', rfl⟩ := ry; exact PySem.W.eq_bytes (fin_bl I q dec_byt)
    | _ => exact absurd (show false = true from hs) Bool.false_ne_true
  | _ => cases y <;> exact absurd (show false = true from hs) Bool.false_ne_true
theorem op_ne : OpR X (compareOp .NotEq) rNe := by
  intro pins s σ H x y v u Q I rx ry h
  obtain ⟨hs, q⟩ := h
  cases x with
  | non =>
    cases rx
    cases y with
    | non => cases ry; exact PySem.EqNone.ne_none_none (fin_bl I q (by simp))
    | bl j => cases ry; exact PySem.EqNone.ne_none_bool (fin_bl I q (by simp))
    | int j => obtain ⟨t', rfl⟩ := ry; exact PySem.EqNone.ne_none_int (fin_bl I q (by simp))
    | str j => obtain ⟨t', rfl⟩ := ry; exact PySem.EqNone.ne_none_str (fin_bl I q (by simp))
    | _ => exact absurd (show false = true from hs) Bool.false_ne_true
  | bl i =>
    cases rx
    cases y with
    | non => cases ry; exact PySem.EqNone.ne_bool_none (fin_bl I q (by simp))
    | bl j => cases ry; exact ne_bool (fin_bl I q (congrArg not dec_bl))
    | str j => obtain ⟨t', rfl⟩ := ry; exact PySem.EqMixed.ne_bool_str (fin_bl I q (by simp))
    | _ => exact absurd (show false = true from hs) Bool.false_ne_true
  | int i =>
    obtain ⟨t, rfl⟩ := rx
    cases y with
    | non => cases ry; exact PySem.EqNone.ne_int_none (fin_bl I q (by simp))
    | int j => obtain ⟨t', rfl⟩ := ry; exact ne_int (fin_bl I q (congrArg not dec_int))
    | str j => obtain ⟨t', rfl⟩ := ry; exact PySem.EqMixed.ne_int_str (fin_bl I q (by simp))
    | _ => exact absurd (show false = true from hs) Bool.false_ne_true
  | str i =>
    obtain ⟨t, rfl⟩ := rx
    cases y with
    | non => cases ry; exact PySem.EqNone.ne_str_none (fin_bl I q (by simp))
    | bl j => cases ry; exact PySem.EqMixed.ne_str_bool (fin_bl I q (by simp))
    | int j => obtain ⟨t', rfl⟩ := ry; exact PySem.EqMixed.ne_str_int (fin_bl I q (by simp))
    | str j => obtain ⟨t', rfl⟩ := ry; exact ne_str (fin_bl I q (congrArg not dec_str))
    | _ => exact absurd (show false = true from hs) Bool.false_ne_true
  | byt i =>
    obtain ⟨t, rfl⟩ := rx
    cases y with
    | byt j => obtain ⟨t', rfl⟩ := ry; exact PySem.W.ne_bytes (fin_bl I q (congrArg not dec_byt))
    | _ => exact absurd (show false = true from hs) Bool.false_ne_true
  | _ => cases y <;> exact absurd (show false = true from hs) Bool.false_ne_true

theorem op_lt : OpR X (compareOp .Lt) (rI0 fun i j => .bl (decide (i < j))) := opB0 fun _ _ _ _ _ _ _ q => lt_int q
theorem op_le : OpR X (compareOp .LtE) (rI0 fun i j => .bl (decide (i ≤ j))) := opB0 fun _ _ _ _ _ _ _ q => le_int q
theorem op_gt : OpR X (compareOp .Gt) (rI0 fun i j => .bl (decide (j < i))) := opB0 fun _ _ _ _ _ _ _ q => gt_int q
theorem op_ge : OpR X (compareOp .GtE) (rI0 fun i j => .bl (decide (j ≤ i))) := opB0 fun _ _ _ _ _ _ _ q => ge_int q
/-- is None, is not None: the right side a value none -/
theorem op_isN : OpR X (compareOp .Is) (fun x y H Q => y = .non ∧ Q (.bl (decide (x = .non))) H) := by
  intro pins s σ H x y v u Q I rx ry h
  obtain ⟨rfl, q⟩ := h
  cases ry
  refine is_none_gen (fin_bl I q ?_)
  cases x <;> first
    | (cases rx; rfl)
    | (obtain ⟨t, rfl⟩ := rx; rfl)
theorem op_notN : OpR X (compareOp .IsNot) (fun x y H Q => y = .non ∧ Q (.bl (!decide (x = .non))) H) := by
  intro pins s σ H x y v u Q I rx ry h
  obtain ⟨rfl, q⟩ := h
  cases ry
  refine isnot_none_gen (fin_bl I q ?_)
  cases x <;> first
    | (cases rx; rfl)
    | (obtain ⟨t, rfl⟩ := rx; rfl)

/-- two rules for one operation: by cases -/
theorem OpR.or {f : Value → Value → Sem Value} {r r' : R2} (h : OpR X f r) (h' : OpR X f r') : OpR X f (fun x y H Q => r x y H Q ∨ r' x y H Q) := by
  intro pins s σ H x y v u Q I rx ry q
  rcases q with q | q
  · exact h pins s σ H x y v u Q I rx ry q
  · exact h' pins s σ H x y v u Q I rx ry q

theorem nomark (b : Expr) {op : CmpOp} (h : op ≠ .In := by decide) (h2 : op ≠ .NotIn := by decide) : behindInMarks op b = false := by
  have e1 : (op == CmpOp.In) = false := by cases op <;> first | rfl | exact absurd rfl h
  have e2 : (op == CmpOp.NotIn) = false := by cases op <;> first | rfl | exact absurd rfl h2
  cases b <;> simp [behindInMarks, e1, e2]
/-- a comparison as a value; hm: nomark b, or (for in, not in) by with_unfolding_all rfl -/
theorem pe_cmpR {op : CmpOp} {r : R2} (ho : OpR X (compareOp op) r) (ha : PE X a ta) (hb : PE X b tb) (hm : behindInMarks op b = false) : PE X (.Compare a [op] [b] pos) (tOp r ta tb) := by
  intro pins s σ H Q I h
  exact wpAny_Compare1 (binT ha hb I h fun v u s2 x y H2 I2 rx ry q => ho pins s2 σ H2 x y v u Q I2 rx ry q) hm
/-- a reading of a value as a test -/
def tTest (t : TE) : TT := fun σ H Q => t σ H fun x H' => ∃ k, x = .bl k ∧ Q k H'
theorem pt_cmpR {op : CmpOp} {r : R2} (ho : OpR X (compareOp op) r) (ha : PE X a ta) (hb : PE X b tb) (hm : behindInMarks op b = false) : PT X (.Compare a [op] [b] pos) (tTest (tOp r ta tb)) := by
  intro pins s σ H Q I h
  refine wpAny_isTrue_Compare1 (thn (ha pins s σ H _ I h) fun v s1 ⟨x, H1, I1, r1, q1⟩ => thn (hb pins s1 σ H1 _ I1 q1) fun u s2 ⟨y, H2, I2, r2, q2⟩ =>
    thn (ho pins s2 σ H2 x y v u _ I2 r1 r2 q2) fun c s3 ⟨z, H3, I3, r3, k, e, q3⟩ => ?_) hm
  subst e
  cases r3
  exact wpAny_truthy_bool ⟨H3, I3, q3⟩
/-- a op1 b op2 c -/
def tChain (r r' : R2) (ta tb tc : TE) : TE := fun σ H Q => ta σ H fun x H1 => tb σ H1 fun y H2 => r x y H2 fun z H3 => ∃ k, z = .bl k ∧
  (if k = true then tc σ H3 fun w' H4 => r' y w' H4 Q else Q (.bl false) H3)
theorem pe_chain {op op' : CmpOp} {r r' : R2} (ho : OpR X (compareOp op) r) (ho' : OpR X (compareOp op') r') (ha : PE X a ta) (hb : PE X b tb) (hc : PE X c tc)
    (hm : lastMarks [op, op'] [b, c] = false := by with_unfolding_all rfl) : PE X (.Compare a [op, op'] [b, c] pos) (tChain r r' ta tb tc) := by
  intro pins s σ H Q I h
  refine Compare_chain (thn (ha pins s σ H _ I h) fun v s1 ⟨x, H1, I1, r1, q1⟩ => chain_link (thn (hb pins s1 σ H1 _ I1 q1) fun u s2 ⟨y, H2, I2, r2, q2⟩ =>
    thn (ho pins s2 σ H2 x y v u _ I2 r1 r2 q2) fun d s3 ⟨z, H3, I3, r3, k, e, q3⟩ => ?_)) hm
  subst e
  cases r3
  refine wpAny_truthy_bool ?_
  cases k with
  | false => exact ite_ff ⟨.bl false, H3, I3, rfl, q3⟩
  | true => exact ite_tt (chain_last (thn (hc pins s3 σ H3 _ I3 q3) fun w' s4 ⟨z', H4, I4, r4, q4⟩ => ho' pins s4 σ H4 y z' u w' Q I4 r2 r4 q4))
/-! ### truth -/
theorem line63 : (sizeLine : Nat) < 2 ^ 63 := by rw [sizeLine_eq]; decide
/-! ### strs and bytes -/
/-! ### scalar builtins, by CallR -/
theorem vals1 {x : V} {us : List Value} (r : Vals [x] us) : ∃ u, us = [u] ∧ RelV x u := by
  cases r with
  | cons r1 r2 => cases r2; exact ⟨_, rfl, r1⟩
theorem vals2 {x y : V} {us : List Value} (r : Vals [x, y] us) : ∃ u w', us = [u, w'] ∧ RelV x u ∧ RelV y w' := by
  cases r with
  | cons r1 r2 =>
    cases r2 with
    | cons r3 r4 => cases r4; exact ⟨_, _, rfl, r1, r3⟩
theorem call_max2 (hc : X.calm = true) : CallR X (.builtin "max") (fun xs H Q => ∃ i j, xs = [.int i, .int j] ∧ Q (.int (if j > i then j else i)) H) := by
  intro pins s σ H xs us Q I r h
  obtain ⟨i, j, rfl, q⟩ := h
  obtain ⟨u, w', rfl, ⟨t, rfl⟩, ⟨t', rfl⟩⟩ := vals2 r
  refine max_two_ints (I.ok.hd hc) fun h' tk k => ⟨_, H, I.kept k, ?_, q⟩
  by_cases hj : j > i
  · rw [if_pos hj, if_pos hj]; exact ⟨_, rfl⟩
  · rw [if_neg hj, if_neg hj]; exact ⟨_, rfl⟩
theorem call_min2 (hc : X.calm = true) : CallR X (.builtin "min") (fun xs H Q => ∃ i j, xs = [.int i, .int j] ∧ Q (.int (if j < i then j else i)) H) := by
  intro pins s σ H xs us Q I r h
  obtain ⟨i, j, rfl, q⟩ := h
  obtain ⟨u, w', rfl, ⟨t, rfl⟩, ⟨t', rfl⟩⟩ := vals2 r
  refine min_two_ints (I.ok.hd hc) fun h' tk k => ⟨_, H, I.kept k, ?_, q⟩
  by_cases hj : j < i
  · rw [if_pos hj, if_pos hj]; exact ⟨_, rfl⟩
  · rw [if_neg hj, if_neg hj]; exact ⟨_, rfl⟩
theorem call_int1 : CallR X (.type "int") (fun xs H Q => (∃ i, xs = [.int i] ∧ Q (.int i) H) ∨ ∃ k, xs = [.bl k] ∧ Q (.int (if k then 1 else 0)) H) := by
  intro pins s σ H xs us Q I r h
  rcases h with ⟨i, rfl, q⟩ | ⟨k, rfl, q⟩
  · obtain ⟨u, rfl, t, rfl⟩ := vals1 r
    exact call_int_int ⟨.int i, H, I, ⟨_, rfl⟩, q⟩
  · obtain ⟨u, rfl, r1⟩ := vals1 r
    cases r1
    exact call_int_bool ⟨.int (if k then 1 else 0), H, I.tok _, ⟨_, rfl⟩, q⟩
end
end L2

namespace L2
open PySem PySem.Spec PyProof.Rows

/-! ### an instance, its attributes a map -/
structure ObjM (h : Heap) (x dx C : Addr) (mA : Str → Option Value) : Prop where
  obj : h.get? x = some (PySem.W.instObj C dx)
  ns : h.Ns1 dx mA
  ne : dx ≠ x

theorem lookIn_ns {h : Heap} {dx : Addr} {mA : Str → Option Value} (n : h.Ns1 dx mA) : ∃ od, h.get? dx = some od ∧ ∀ name, PySem.W.lookIn name od = some (mA name) := by
  obtain ⟨o, es, ep, ho, hd, hk, _, hm⟩ := n
  refine ⟨o, ho, fun name => ?_⟩
  have e := hm name
  unfold nsFind findBy at e
  rw [← Array.find?_toList] at e
  unfold PySem.W.lookIn
  rw [hd]
  dsimp only
  split
  · rename_i y q
    rw [q] at e
    exact congrArg some e
  · rename_i q
    rw [q] at e
    have a : es.toList.any (·.refKey) = false := by
      rw [List.any_eq_false]
      intro y hy
      obtain ⟨z, t, hkey⟩ := hk y (Array.mem_toList_iff.mp hy)
      simp [DictEntry.refKey, hkey]
    have a' : ¬ es.toList.any (·.refKey) = true := by rw [a]; exact Bool.false_ne_true
    rw [if_neg a']
    exact congrArg some e

theorem ObjM.look {h : Heap} {x dx C : Addr} {mA : Str → Option Value} (I : ObjM h x dx C mA) : ∃ od, PySem.W.InstAt h x (PySem.W.instObj C dx) C (some od) ∧ ∀ name, PySem.W.lookIn name od = some (mA name) :=
  let ⟨od, ho, hl⟩ := lookIn_ns I.ns
  ⟨od, ⟨I.obj, rfl, rfl, ho⟩, hl⟩

section
variable {prog : Program} {w : World} {A : Around} {E : Value → Shared → Prop} {s : Shared} {K : PySem.W.Frag} {x dx C f : Addr} {mA : Str → Option Value} {name : Str} {v : Value}

theorem get_map {expr : Bool} {Q : Value → Shared → Prop} (X : K.In s.heap) (I : ObjM s.heap x dx C mA) (hg : PySem.W.plainGet K C name = true) (hh : PySem.W.hasDictIn K C = true)
    (ha : PySem.W.findIn K (.ref C) name = some none) (hv : mA name = some v) (hv' : PySem.W.handedIn v = true) (h : Q v { s with toks := s.toks + 1 }) :
    wpAny (model prog w) A (getAttr (.ref x) name expr) Q E s := by
  obtain ⟨od, J, hl⟩ := I.look
  exact PySem.W.get_value X J (PySem.W.plainGet_of hg).1 (PySem.W.findObj_own hh ha rfl (by rw [hl, hv])) hv' h

theorem get_meth {pl : Sem Bool} {Q : Value × List Value → Shared → Prop} (X : K.In s.heap) (I : ObjM s.heap x dx C mA) (hg : PySem.W.plainGet K C name = true)
    (hf : PySem.W.findIn K (.ref C) name = some (some (.ref f))) (ht : PySem.W.isFn K (.ref f) = true) (hv : mA name = none) (h : Q (.ref f, [.ref x]) s) :
    wpAny (model prog w) A (getMethod (.ref x) name pl) Q E s := by
  obtain ⟨od, J, hl⟩ := I.look
  exact PySem.W.method_fn X J (PySem.W.plainGet_of hg).1 (PySem.W.plainGet_of hg).2 hf (beq_iff_eq.mp ht) (by show (PySem.W.lookIn name od).map (·.isSome) = some false; rw [hl, hv]; rfl) h

theorem set_map {ns : List Str} {Q : Unit → Shared → Prop} (X : K.In s.heap) (I : ObjM s.heap x dx C mA)
    (hs : PySem.W.findIn K (.ref C) "__setattr__" = some (some (.builtin "object.__setattr__"))) (hp : PySem.W.plainOver K C = true) (ht : PySem.W.takerIn K C name = some none) (hh : PySem.W.hasDictIn K C = true)
    (hw : PySem.Within mA ns) (hsz : ns.length ≤ sizeLine)
    (h : ∀ h', ObjM h' x dx C (fun y => if y = name then some v else mA y) → Heap.SameBut dx s.heap h' → Q () { s with heap := h', toks := s.toks + 2 }) :
    wpAny (model prog w) A (setAttr (.ref x) name v) Q E s := by
  obtain ⟨od, J, hl⟩ := I.look
  refine PySem.W.set_plain X J hs (PySem.W.osa_open (s := { s with toks := s.toks + 1 }) (r := none) X J hp ht fun b => ?_)
  obtain ⟨cd, hc, hd'⟩ := PySem.W.any_some hh
  have hx : s.heap.get? x = some ⟨.ref C, some dx, .plain, #[]⟩ := I.obj
  refine wpAny_bind (wpAny_pure (wpAny_bind (wpAny_bind (wpAny_loadPart hx (wpAny_bind (PySem.W.Looks.here (s := { s with toks := s.toks + 1 }) (PySem.W.looks_clsIn X hc) ?_))))))
  rw [hd']
  refine wpAny_pure (a := some dx) (wpAny_bind (wpAny_pure (wpAny_bind ?_)))
  refine wpAny_nsSet1 (s := { s with toks := s.toks + 1 }) I.ns fun h' hn2 hs2 => ?_
  obtain ⟨oD, esD, epD, hoD, hdD, hcD⟩ := hn2.count (PySem.Within.cons name v hw)
  refine wpAny_bind (wpAny_lookBehind hoD (by rw [hdD]; exact pastItsLine_dict (Nat.le_trans hcD (by rw [List.length_cons]; omega))) ?_)
  exact wpAny_pure (h _ ⟨(hs2.2 _ (Ne.symm I.ne)).trans I.obj, hn2, I.ne⟩ hs2)

/-- C(..): the dict at the heap's end, the instance behind it; then its __init__ -/
theorem make_map {R : Result → Shared → Prop} {vs : List Value} {kw : List (Str × Value)} (X : K.In s.heap) (hm : PySem.W.makesIn K C = true)
    (hi : PySem.W.findIn K (.ref C) "__init__" = some (some (.ref f))) (hf : PySem.W.typeIn K (.ref f) = some (.type "function"))
    (h : codeAny (model prog w) (A.under (.builtin "type.__call__" ⟨.ref C :: vs, kw⟩)) (.call (.ref f) ⟨.ref (s.heap.objs.size + 1) :: vs, kw⟩) (PySem.W.InitBack (s.heap.objs.size + 1) R)
      { s with heap := (s.heap.push PySem.W.emptyDict).push (PySem.W.instObj C s.heap.objs.size) }) :
    codeAny (model prog w) A (.call (.ref C) ⟨vs, kw⟩) R s := by
  obtain ⟨hh, g, d, t, os⟩ := s
  exact PySem.W.make_core (PySem.W.makes_of X hm) (PySem.W.looks_findIn X hi) (fun self => PySem.W.bind_fn X self hf) (.inl rfl) h
end

/-! ### the attributes as a list of pairs -/
def putF (f : Str) (v : V) : List (Str × V) → List (Str × V)
  | [] => [(f, v)]
  | (g, x) :: r => if g = f then (g, v) :: r else (g, x) :: putF f v r
theorem lookup_putF (f g : Str) (v : V) : ∀ fs : List (Str × V), (putF f v fs).lookup g = if g = f then some v else fs.lookup g
  | [] => by
    show List.lookup g [(f, v)] = _
    by_cases h : g = f
    · have hb : (g == f) = true := beq_iff_eq.mpr h
      simp only [List.lookup, hb, if_pos h]
    · have hb : (g == f) = false := beq_eq_false_iff_ne.mpr h
      simp only [List.lookup, hb, if_neg h]
  | (k, x) :: r => by
    have ih := lookup_putF f g v r
    rw [show putF f v ((k, x) :: r) = (if k = f then (k, v) :: r else (k, x) :: putF f v r) from rfl]
    by_cases hk : k = f
    · rw [if_pos hk]
      by_cases h : g = k
      · have hb : (g == k) = true := beq_iff_eq.mpr h
        simp only [List.lookup, hb, if_pos (h.trans hk)]
      · have hb : (g == k) = false := beq_eq_false_iff_ne.mpr h
        simp only [List.lookup, hb, if_neg (fun e : g = f => h (e.trans hk.symm))]
    · rw [if_neg hk]
      by_cases h : g = k
      · have hb : (g == k) = true := beq_iff_eq.mpr h
        simp only [List.lookup, hb, if_neg (fun e : g = f => hk (h.symm.trans e))]
      · have hb : (g == k) = false := beq_eq_false_iff_ne.mpr h
        simp only [List.lookup, hb]
        exact ih
theorem keys_putF (f : Str) (v : V) : ∀ fs : List (Str × V), f ∈ (putF f v fs).map (·.1) ∧ ∀ g, g ∈ fs.map (·.1) → g ∈ (putF f v fs).map (·.1)
  | [] => ⟨by simp [putF], fun g h => by simp at h⟩
  | (k, x) :: r => by
    obtain ⟨i1, i2⟩ := keys_putF f v r
    rw [show putF f v ((k, x) :: r) = (if k = f then (k, v) :: r else (k, x) :: putF f v r) from rfl]
    by_cases hk : k = f
    · rw [if_pos hk]
      subst hk
      exact ⟨by simp, fun g h => by simpa using h⟩
    · rw [if_neg hk]
      refine ⟨?_, fun g h => ?_⟩
      · rw [List.map_cons]
        exact List.mem_cons_of_mem _ i1
      · rw [List.map_cons] at h ⊢
        rcases List.mem_cons.mp h with e | e
        · exact List.mem_cons.mpr (.inl e)
        · exact List.mem_cons_of_mem _ (i2 g e)
theorem length_putF (f : Str) (v : V) : ∀ fs : List (Str × V), (putF f v fs).length ≤ fs.length + 1
  | [] => by simp [putF]
  | (k, x) :: r => by
    have ih := length_putF f v r
    rw [show putF f v ((k, x) :: r) = (if k = f then (k, v) :: r else (k, x) :: putF f v r) from rfl]
    by_cases hk : k = f
    · rw [if_pos hk, List.length_cons, List.length_cons]; omega
    · rw [if_neg hk, List.length_cons, List.length_cons]; omega

theorem RelO.some_of {v : V} {o : Option Value} (r : RelO (some v) o) : ∃ u, o = some u ∧ RelV v u := by
  cases o with
  | none => exact (show False from r).elim
  | some u => exact ⟨u, rfl, r⟩
theorem RelO.none_of {o : Option Value} (r : RelO none o) : o = none := by
  cases o with
  | none => rfl
  | some u => exact (show False from r).elim
theorem handed_of {v : V} {u : Value} (r : RelV v u) : PySem.W.handedIn u = true := by
  cases v with
  | non => cases (show u = Value.none from r); rfl
  | bl b => cases (show u = Value.bool b from r); rfl
  | int i => obtain ⟨t, e⟩ := (show ∃ t, u = Value.int i t from r); cases e; rfl
  | str x => obtain ⟨t, e⟩ := (show ∃ t, u = Value.str x t from r); cases e; rfl
  | byt b => obtain ⟨t, e⟩ := (show ∃ t, u = Value.bytes b t from r); cases e; rfl
  | flt b => obtain ⟨t, e⟩ := (show ∃ t, u = Value.float b t from r); cases e; rfl
  | ref a => cases (show u = Value.ref a from r); rfl
  | ty n => cases (show u = Value.type n from r); rfl

section
variable {P : Program} {w : World} {H H' : Hp} {h h' : Heap} {a C dx : Addr} {fs fs' : List (Str × V)}
theorem ins_get (hok : HOk P w H h) (e : H a = some (.ins C dx fs)) : ∃ mA, ObjM h a dx C mA ∧ (∀ f, RelO (fs.lookup f) (mA f)) ∧ PySem.Within mA (fs.map (·.1)) ∧ fs.length ≤ 1000 ∧ H dx = some (.own a) := by
  obtain ⟨d, z, ne, ob, mA, n, r, q⟩ := (show ObjOk P w H h a (.ins C dx fs) from hok a _ e)
  exact ⟨mA, ⟨ob, n, ne⟩, r, q, z, d⟩
end

/-! ### what of the text a class must have -/
structure Cls (K : PySem.W.Frag) (C : Addr) : Prop where
  pg : PySem.W.plainGet K C Str.empty = true
  hd : PySem.W.hasDictIn K C = true
  po : PySem.W.plainOver K C = true
  sa : PySem.W.findIn K (.ref C) "__setattr__" = some (some (.builtin "object.__setattr__"))
theorem Cls.get {K : PySem.W.Frag} {C : Addr} (c : Cls K C) (f : Str) : PySem.W.plainGet K C f = true := c.pg
/-- no class of it has the name -/
def NoAttr (K : PySem.W.Frag) (C : Addr) (f : Str) : Prop := PySem.W.findIn K (.ref C) f = some none
theorem NoAttr.taker {K : PySem.W.Frag} {C : Addr} {f : Str} (n : NoAttr K C f) : PySem.W.takerIn K C f = some none := by
  unfold PySem.W.takerIn
  rw [show PySem.W.findIn K (.ref C) f = some none from n]
  rfl
/-- a constant of the class -/
structure Con (K : PySem.W.Frag) (C : Addr) (f : Str) (v : V) (u : Value) : Prop where
  at_ : PySem.W.findIn K (.ref C) f = some (some u)
  rel : RelV v u
  get : PySem.W.specialIn K u "__get__" = some none
  cp : PySem.W.copiedNames.contains f = false
/-- a method: a plain def of the class or of one above it -/
structure Meth (K : PySem.W.Frag) (C : Addr) (m : Str) (f : Addr) : Prop where
  at_ : PySem.W.findIn K (.ref C) m = some (some (.ref f))
  fn : PySem.W.isFn K (.ref f) = true
  kp : PySem.W.keepIn K (.ref f) = true

section
variable {X : Cx} {pins : List (Addr × Obj)} {σ : St} {H : Hp} {s : Shared} {a C dx : Addr} {fs : List (Str × V)} {f : Str} {v : V} {A : Around} {E : Value → Shared → Prop}

theorem getattr_ok {b : Bool} {Q : Value → Shared → Prop} (I : Inv X pins σ H s) (e : H a = some (.ins C dx fs)) (c : Cls X.K C) (n : NoAttr X.K C f) (l : fs.lookup f = some v)
    (h : ∀ u s', Inv X pins σ H s' → RelV v u → Q u s') : wpAny (model X.prog X.w) A (getAttr (.ref a) f b) Q E s := by
  obtain ⟨mA, O, r, _, _, _⟩ := ins_get I.hok e
  obtain ⟨u, hu, ru⟩ := RelO.some_of (v := v) (o := mA f) (by rw [← l]; exact r f)
  exact get_map I.kIn O (c.get f) c.hd n hu (handed_of ru) (h u _ (I.tok _) ru)

theorem getmeth_ok {m : Str} {g : Addr} {pl : Sem Bool} {Q : Value × List Value → Shared → Prop} (I : Inv X pins σ H s) (e : H a = some (.ins C dx fs)) (c : Cls X.K C) (k : Meth X.K C m g) (l : fs.lookup m = none)
    (h : Q (.ref g, [.ref a]) s) : wpAny (model X.prog X.w) A (getMethod (.ref a) m pl) Q E s := by
  obtain ⟨mA, O, r, _, _, _⟩ := ins_get I.hok e
  have hn : mA m = none := RelO.none_of (by rw [← l]; exact r m)
  exact get_meth I.kIn O (c.get m) k.at_ k.fn hn h

theorem setattr_ok {y : V} {u : Value} {Q : Unit → Shared → Prop} (I : Inv X pins σ H s) (e : H a = some (.ins C dx fs)) (c : Cls X.K C) (n : NoAttr X.K C f) (hl : fs.length < 1000) (ry : RelV y u)
    (h : ∀ s', Inv X pins σ (upd H a (.ins C dx (putF f y fs))) s' → Q () s') : wpAny (model X.prog X.w) A (setAttr (.ref a) f u) Q E s := by
  obtain ⟨mA, O, r, wi, _, ho⟩ := ins_get I.hok e
  have hz : (fs.map (·.1)).length ≤ sizeLine := by rw [List.length_map, sizeLine_eq]; omega
  refine set_map I.kIn O c.sa c.po n.taker c.hd wi hz fun h' O' sb => h _ ?_
  have hd : ∃ o, h'.get? dx = some o := let ⟨o, _, _, e', _⟩ := O'.ns; ⟨o, e'⟩
  refine I.write (x := a) (e := dx) (by rw [e]; exact True.intro) (.inr ho) (fun b q hb z => (sb.2 b hb).trans z) hd ?_
  refine ⟨by rw [upd_ne O.ne]; exact ho, ?_, O.ne, O'.obj, _, O'.ns, fun g => ?_, fun g hg => ?_⟩
  · have := length_putF f y fs; omega
  · show RelO ((putF f y fs).lookup g) (if g = f then some u else mA g)
    rw [lookup_putF]
    by_cases q : g = f
    · rw [if_pos q, if_pos q]; exact ry
    · rw [if_neg q, if_neg q]; exact r g
  · by_cases q : g = f
    · rw [q]; exact (keys_putF f y fs).1
    · refine (keys_putF f y fs).2 g (wi g fun z => hg ?_)
      show (if g = f then some u else mA g) = none
      rw [if_neg q]; exact z

/-- a new instance, tracked, without attributes -/
theorem Inv.made (I : Inv X pins σ H s) : Inv X pins σ (upd (upd H s.heap.objs.size (.own (s.heap.objs.size + 1))) (s.heap.objs.size + 1) (.ins C s.heap.objs.size []))
    { s with heap := (s.heap.push PySem.W.emptyDict).push (PySem.W.instObj C s.heap.objs.size) } := by
  have e1 : (s.heap.push PySem.W.emptyDict).get? s.heap.objs.size = some PySem.W.emptyDict := Heap.get?_push_size s.heap rfl
  have e2 : ((s.heap.push PySem.W.emptyDict).push (PySem.W.instObj C s.heap.objs.size)).get? (s.heap.objs.size + 1) = some (PySem.W.instObj C s.heap.objs.size) := by
    have := Heap.get?_push_size (s.heap.push PySem.W.emptyDict) (o := PySem.W.instObj C s.heap.objs.size) rfl
    rwa [Heap.size_push] at this
  have e3 : (s.heap.push PySem.W.emptyDict).Ns s.heap.objs.size (fun _ => none) := ⟨PySem.W.emptyDict, #[], _, e1, rfl, (fun e he => absurd he (by simp)), fun _ => rfl⟩
  have I1 := I.laid (a := s.heap.objs.size) (o := .own (s.heap.objs.size + 1)) (h' := s.heap.push PySem.W.emptyDict) (t' := s.toks) (fun b u q => Heap.get?_push_of_some _ q) (Nat.le_refl _) ⟨_, e1⟩
  refine I1.laid (a := s.heap.objs.size + 1) (o := .ins C s.heap.objs.size []) (t' := s.toks) (fun b u q => Heap.get?_push_of_some _ q) (Nat.le_of_eq (Heap.size_push _ _)) ?_
  have ne : s.heap.objs.size ≠ s.heap.objs.size + 1 := Nat.ne_of_lt (Nat.lt_succ_self _)
  refine ⟨by rw [upd_ne ne, upd_same], Nat.zero_le _, ne, e2, fun _ => none, (Heap.Ns1.of_empty e3).at fun o q => Heap.get?_push_of_some _ q, fun _ => True.intro, fun y hy => absurd rfl hy⟩

/-- e.f where nothing but the object is asked: through attributeBase (super) and the last hold -/
theorem attr_of {prog : Program} {w : World} {env : Env} {e : Expr} {f : Str} {pos : Pos} {s : Shared} {Q : Value → Shared → Prop} (hb : attributeBase e f env (eval e env) = eval e env)
    (h : wpAny (model prog w) A (eval e env) (fun o s₁ => wpAny (model prog w) A (getAttr o f true) Q E s₁) E s) : wpAny (model prog w) A (eval (.Attribute e f pos) env) Q E s :=
  Attribute_any_ h (by rw [arm_eval_Attribute, hb])
end

/-! ### readings and rules -/
/-- e.f, an attribute of the instance -/
def tFld (K : PySem.W.Frag) (ta : TE) (f : Str) : TE := fun σ H Q => ta σ H fun x H1 => ∃ a C dx fs v, x = .ref a ∧ H1 a = some (.ins C dx fs) ∧ Cls K C ∧ NoAttr K C f ∧ fs.lookup f = some v ∧ Q v H1
/-- e.f = value -/
def sFld (K : PySem.W.Frag) (ta tv : TE) (f : Str) : TS := fun D σ H => tv σ H fun y H1 => ta σ H1 fun x H2 => ∃ a C dx fs, x = .ref a ∧ H2 a = some (.ins C dx fs) ∧ Cls K C ∧ NoAttr K C f ∧ fs.length < 1000 ∧
  D.nx σ (upd H2 a (.ins C dx (putF f y fs)))
section
variable {X : Cx} {o e value : Expr} {f : Str} {pos pos' tpos : Pos} {ta tv : TE}
theorem pe_fld (he : PE X e ta) (hb : attributeBase e f X.env (eval e X.env) = eval e X.env) : PE X (.Attribute e f pos) (tFld X.K ta f) := by
  intro pins s σ H Q I h
  refine attr_of hb (thn (he pins s σ H _ I h) fun u s1 ⟨x, H1, I1, rx, a, C, dx, fs, v, ex, ea, c, n, l, q⟩ => ?_)
  subst ex
  obtain rfl : u = Value.ref a := rx
  exact getattr_ok I1 ea c n l fun u' s2 I2 ru => ⟨v, H1, I2, ru, q⟩
theorem ps_fld (ha : PE X o ta) (hv : PE X value tv) (hs : swapsWith value (some (.Attribute o f pos')) pos.line X.env = pure false) : PS X (.Assign [.Attribute o f pos'] value pos) (sFld X.K ta tv f) := by
  intro pins s σ H D I h
  refine plainObj_wpAny_Assign_Attribute (thn (hv pins s σ H _ I h) fun u s1 ⟨y, H1, I1, ry, q⟩ => thn (ha pins s1 σ H1 _ I1 q) fun ov s2 ⟨x, H2, I2, rx, a, C, dx, fs, ex, ea, c, n, l, q2⟩ => ?_) hs
  subst ex
  obtain rfl : ov = Value.ref a := rx
  exact setattr_ok I2 ea c n l ry fun s3 I3 => ⟨σ, _, I3, q2⟩
end

/-! ### isinstance -/
section
variable {X : Cx} {pins : List (Addr × Obj)} {σ : St} {H : Hp} {s : Shared} {A : Around} {E : Value → Shared → Prop} {Q : Value → Shared → Prop} {c : Value} {b : Bool}
/-- the type of a value, as the fragment's deciders take it; for an instance its class -/
inductive TyOf (K : PySem.W.Frag) (H : Hp) : V → Value → Prop where
  | non : TyOf K H .non (.type "NoneType")
  | bl (x : Bool) : TyOf K H (.bl x) (.type "bool")
  | int (i : Int) : TyOf K H (.int i) (.type "int")
  | str (x : Str) : TyOf K H (.str x) (.type "str")
  | flt (x : UInt64) : TyOf K H (.flt x) (.type "float")
  | lst {a : Addr} {xs : List V} (e : H a = some (.lst xs)) : TyOf K H (.ref a) (.type "list")
  | frz {a : Addr} {o : Obj} {xs : List V} (e : H a = some (.frz o (.lst xs))) : TyOf K H (.ref a) (.type "list")
  | tup {a : Addr} {xs : List V} (e : H a = some (.tup xs)) : TyOf K H (.ref a) (.type "tuple")
  | dK {a : Addr} {kvs : List (Key × V)} (e : H a = some (.dK kvs)) : TyOf K H (.ref a) (.type "dict")
  | dT {a : Addr} {kvs : List (List Key × V)} (e : H a = some (.dT kvs)) : TyOf K H (.ref a) (.type "dict")
  | ins {a C dx : Addr} {fs : List (Str × V)} (e : H a = some (.ins C dx fs)) (cl : Cls K C) (ha : PySem.W.findIn K (.ref C) "__class__" = some (some (.builtin "object.__class__")))
      (hn : PySem.W.specialIn K (.builtin "object.__class__") "__get__" = some (some (.builtin "getset_descriptor.__get__"))) (htk : PySem.W.takesIn K (.builtin "object.__class__") = some true)
      (hm : PySem.W.mroIn K C (.type "object") = some true) : TyOf K H (.ref a) (.ref C)
/-- isinstance(x, c) for one class c, a built-in or an own one: kitOne's answer -/
theorem isinst_ok {x : V} {u t : Value} (I : Inv X pins σ H s) (rx : RelV x u) (ty : TyOf X.K H x t) (e : PySem.W.kitOne X.K t c = some b) (h : ∀ tk, Q (.bool b) { s with toks := tk }) :
    wpAny (model X.prog X.w) A (call (.builtin "isinstance") [u, c]) Q E s := by
  cases ty with
  | non => cases (show u = Value.none from rx); exact PySem.W.kia_one PySem.W.kitx_none I.kIn True.intro e (fun z => nomatch z) h
  | bl y => cases (show u = Value.bool y from rx); exact PySem.W.kia_one PySem.W.kitx_bool I.kIn True.intro e (fun z => nomatch z) h
  | int i => obtain ⟨t, q⟩ := (show ∃ t, u = Value.int i t from rx); cases q; exact PySem.W.kia_one PySem.W.kitx_int I.kIn True.intro e (fun z => nomatch z) h
  | str y => obtain ⟨t, q⟩ := (show ∃ t, u = Value.str y t from rx); cases q; exact PySem.W.kia_one PySem.W.kitx_str I.kIn True.intro e (fun z => nomatch z) h
  | flt y => obtain ⟨t, q⟩ := (show ∃ t, u = Value.float y t from rx); cases q; exact PySem.W.kia_one PySem.W.kitx_float I.kIn True.intro e (fun z => nomatch z) h
  | @lst a xs ea =>
    cases (show u = Value.ref a from rx)
    obtain ⟨_, _, n, _, h1⟩ := (show ObjOk X.prog X.w H s.heap a (.lst xs) from I.hok a _ ea)
    exact PySem.W.kia_one PySem.W.kitx_list I.kIn ⟨_, h1, rfl⟩ e (fun z => nomatch z) h
  | @frz a ob xs ea =>
    cases (show u = Value.ref a from rx)
    obtain ⟨_, _, _, n, _, h1⟩ := (show ObjOk X.prog X.w H s.heap a (.frz ob (.lst xs)) from I.hok a _ ea)
    exact PySem.W.kia_one PySem.W.kitx_list I.kIn ⟨_, h1, rfl⟩ e (fun z => nomatch z) h
  | @tup a xs ea =>
    cases (show u = Value.ref a from rx)
    obtain ⟨_, _, _, p⟩ := (show ObjOk X.prog X.w H s.heap a (.tup xs) from I.hok a _ ea)
    obtain ⟨o, h1, h2, _⟩ := p
    exact PySem.W.kia_one PySem.W.kitx_tuple I.kIn ⟨o, h1, h2⟩ e (fun z => nomatch z) h
  | @dK a kvs ea =>
    cases (show u = Value.ref a from rx)
    obtain ⟨_, _, vs, _, p⟩ := (show ObjOk X.prog X.w H s.heap a (.dK kvs) from I.hok a _ ea)
    obtain ⟨o, es, ep, h1, h2, _⟩ := p
    exact PySem.W.kia_one PySem.W.kitx_dict I.kIn ⟨o, h1, h2.1⟩ e (fun z => nomatch z) h
  | @dT a kvs ea =>
    cases (show u = Value.ref a from rx)
    obtain ⟨_, _, xs, _, o, es, ep, h1, h2, _⟩ := (show ObjOk X.prog X.w H s.heap a (.dT kvs) from I.hok a _ ea)
    exact PySem.W.kia_one PySem.W.kitx_dict I.kIn ⟨o, h1, h2.1⟩ e (fun z => nomatch z) h
  | @ins a C dx fs ea cl ha hn htk hm =>
    cases (show u = Value.ref a from rx)
    obtain ⟨mA, O, _⟩ := ins_get I.hok ea
    obtain ⟨od, J, _⟩ := O.look
    exact PySem.W.kia_one (PySem.W.kitx_own (cl.get _) cl.hd ha hn htk hm) I.kIn J e (fun z => nomatch z) h
end
end L2

namespace L2
open PySem PySem.Spec PyProof.Rows

/-! ### room -/
structure Room (k : Nat) (A : Around) : Prop where
  hd : A.handled = none
  dp : A.depth + 3 * k + 5 < recursionLimit
  un : A.units + 16 * k + 200 < cLine
theorem Room.mono {j k : Nat} {A : Around} (r : Room k A) (h : j ≤ k) : Room j A := ⟨r.hd, by have := r.dp; omega, by have := r.un; omega⟩
theorem Room.deeper {k : Nat} {A : Around} (r : Room (k + 1) A) (env : Env) : Room k (A.deeper env) :=
  ⟨r.hd, by have := r.dp; show A.depth + 1 + 3 * k + 5 < _; omega, by have := r.un; show A.units + 3 + 16 * k + 200 < _; omega⟩
theorem make_depth {A : Around} {C : Addr} {us : List Value} {kw : List (Str × Value)} : (A.under (.builtin "type.__call__" ⟨.ref C :: us, kw⟩)).depth = A.depth + 1 := by
  first | rfl | simp [Around.under, Code.weight, Code.isCreation, Code.isGuard, Code.isCaller, Code.frames, Code.isFrame, guardIds]
theorem make_units {A : Around} {C : Addr} {us : List Value} {kw : List (Str × Value)} : (A.under (.builtin "type.__call__" ⟨.ref C :: us, kw⟩)).units = A.units + 1 := by
  first | rfl | simp [Around.under, Code.cUnits, Code.frames, Code.isFrame]
theorem Room.make {k : Nat} {A : Around} (r : Room (k + 1) A) (C : Addr) (us : List Value) (kw : List (Str × Value)) : Room k (A.under (.builtin "type.__call__" ⟨.ref C :: us, kw⟩)) :=
  ⟨r.hd, by have := r.dp; rw [make_depth]; omega, by have := r.un; rw [make_units]; omega⟩
theorem Room.depth {k : Nat} {A : Around} (r : Room k A) : A.depth < recursionLimit := by have := r.dp; omega
theorem Room.units {k : Nat} {A : Around} (r : Room k A) : A.units + 64 < cLine := by have := r.un; omega
theorem Room.units0 {k : Nat} {A : Around} (r : Room k A) : A.units < cLine := by have := r.un; omega

/-! ### argument lists and displays -/
def tNil : TA := fun _ H Q => Q [] H
def tCons (ta : TE) (tr : TA) : TA := fun σ H Q => ta σ H fun x H1 => tr σ H1 fun xs H2 => Q (x :: xs) H2
section
variable {X : Cx} {e : Expr} {es : List Expr} {te : TE} {t : TA} {pos : Pos}
theorem pa_nil : PA X [] tNil := fun _ _ _ _ H Q I h => Calls.spliced_nil ⟨[], H, I, .nil, h⟩
theorem pa_cons (ha : PE X e te) (hr : PA X es t) (hs : starEach (e :: es) X.env = (false, eval e X.env) :: starEach es X.env := by rfl) : PA X (e :: es) (tCons te t) := by
  intro pos pins s σ H Q I h
  rw [hs]
  show wpAny _ _ (spliced ((false, eval e X.env) :: backTo pos (starEach es X.env))) _ _ s
  refine Calls.spliced_cons (thn (ha pins s σ H _ I h) fun u s1 ⟨x, H1, I1, r1, q1⟩ => ?_)
  exact thn (hr pos pins s1 σ H1 _ I1 q1) fun us s2 ⟨xs, H2, I2, r2, q2⟩ => ⟨x :: xs, H2, I2, .cons r1 r2, q2⟩

/-- a tuple, a list of written items -/
def tTup (t : TA) : TE := fun σ H Q => t σ H fun xs H1 => xs.length ≤ sizeLine ∧ ∀ p, H1 p = none → Q (.ref p) (upd H1 p (.tup xs))
def tLst (t : TA) : TE := fun σ H Q => t σ H fun xs H1 => xs.length ≤ sizeLine ∧ ∀ p, H1 p = none → Q (.ref p) (upd H1 p (.lst xs))
theorem pe_tup {x1} (h : PA X es t) : PE X (.Tuple es x1 pos) (tTup t) := by
  intro pins s σ H Q I hq
  refine wpAny_Tuple_spliced (thn (h pos pins s σ H _ I hq) fun us s1 ⟨xs, H1, I1, r, z, q⟩ => ⟨by rw [← r.length]; exact z, ?_⟩)
  have hf : H1 s1.heap.objs.size = none := I1.hok.fresh (Nat.le_refl _)
  refine ⟨.ref s1.heap.objs.size, upd H1 s1.heap.objs.size (.tup xs), I1.laid (t' := s1.toks) (fun b u e => Heap.get?_push_of_some _ e) (Nat.le_refl _) ?_, rfl, q _ hf⟩
  exact ⟨z, us, r, ⟨_, Heap.get?_push_size _ rfl, rfl, _, rfl⟩⟩
theorem pe_lst (h : PA X es t) : PE X (.List es pos) (tLst t) := by
  intro pins s σ H Q I hq
  refine wpAny_List_spliced (thn (h pos pins s σ H _ I hq) fun us s1 ⟨xs, H1, I1, r, z, q⟩ => ⟨by rw [← r.length]; exact z, ?_⟩)
  have hf : H1 s1.heap.objs.size = none := I1.hok.fresh (Nat.le_refl _)
  refine ⟨.ref s1.heap.objs.size, upd H1 s1.heap.objs.size (.lst xs), I1.laid (t' := s1.toks) (fun b u e => Heap.get?_push_of_some _ e) (Nat.le_refl _) ?_, rfl, q _ hf⟩
  exact ⟨z, us, 0, r, Heap.get?_push_size _ rfl⟩
end

/-! ### what a def promises -/
/-- a def's promise: the bound arguments in the parameters' order, the heap, the wanted end, the wanted exception -/
abbrev Sp := List V → Hp → VK → XK → Prop
/-- how an exception lies behind a call (file 08 gives it): the callers' frames, abstract heap and state ahead of the call, the wish, the exception, the state -/
abbrev CXT := List Env → Hp → Shared → XK → Value → Shared → Prop

/-- the state at a call -/
structure Env0 (P : Program) (w : World) (K : PySem.W.Frag) (mg : Str → Option Value) (base : Heap) (A : Around) (outer : List Env) (s : Shared) (H : Hp) : Prop where
  frames : A.frames = some outer
  mod : Mod K mg base
  bs : ∀ b o, base.get? b = some o → s.heap.get? b = some o ∧ H b = none
  bsz : base.objs.size ≤ s.heap.objs.size
  funs : s.heap.FunFrames base outer
  frf : ∀ b ∈ frs outer, H b = none
  hok : HOk P w H s.heap
  bare : AllBare s.gens
/-- a call's end -/
def CE (outer : List Env) (P : Program) (w : World) (H : Hp) (s : Shared) (Q : VK) (u : Value) (s' : Shared) : Prop :=
  ∃ v H', s'.os = s.os ∧ AllBare s'.gens ∧ Un (frs outer) [] H H' s.heap s'.heap ∧ HOk P w H' s'.heap ∧ RelV v u ∧ Q v H'
def CR (CX : CXT) (outer : List Env) (P : Program) (w : World) (H : Hp) (s : Shared) (Q : VK) (E : XK) (r : Result) (s' : Shared) : Prop :=
  match r with
  | .ok (.ret u) => CE outer P w H s Q u s'
  | .ok _ => False
  | .error e => CX outer H s E e s'
structure FnOk (P : Program) (w : World) (K : PySem.W.Frag) (mg : Str → Option Value) (base : Heap) (CX : CXT) (k : Nat) (f : Addr) (fd : FuncData) (ps : List Str) (sp : Sp) : Prop where
  len : ∀ vs H Q E, sp vs H Q E → vs.length = ps.length
  run : ∀ (A : Around) (outer : List Env) (s : Shared) (H : Hp) (args : Args) (us : List Value) (vs : List V) (Q : VK) (E : XK), Room k A → Env0 P w K mg base A outer s H → BindsTo s fd args (ps.zip us) → Vals vs us → sp vs H Q E →
    codeAny (model P w) A (.call (.ref f) args) (CR CX outer P w H s Q E) s
theorem FnOk.mono {P : Program} {w : World} {K : PySem.W.Frag} {mg : Str → Option Value} {base : Heap} {CX : CXT} {j k : Nat} {f : Addr} {fd : FuncData} {ps : List Str} {sp : Sp} (F : FnOk P w K mg base CX j f fd ps sp) (h : j ≤ k) :
    FnOk P w K mg base CX k f fd ps sp := ⟨F.len, fun A outer s H args us vs Q E hr => F.run A outer s H args us vs Q E (hr.mono h)⟩
theorem Env0.make {P : Program} {w : World} {K : PySem.W.Frag} {mg : Str → Option Value} {base : Heap} {A : Around} {outer : List Env} {s : Shared} {H : Hp} (e : Env0 P w K mg base A outer s H) (C : Addr) (us : List Value) (kw : List (Str × Value)) :
    Env0 P w K mg base (A.under (.builtin "type.__call__" ⟨.ref C :: us, kw⟩)) outer s H := ⟨by first | exact e.frames | (simpa [Around.under, Code.envs, Code.isFrame, pushEnvs] using e.frames), e.mod, e.bs, e.bsz, e.funs, e.frf, e.hok, e.bare⟩
section
variable {X : Cx} {pins : List (Addr × Obj)} {σ : St} {H : Hp} {s s' : Shared}
/-- from a body: what a callee wants -/
theorem Inv.env0 (I : Inv X pins σ H s) : Env0 X.prog X.w X.K X.mg X.base X.A X.stack s H :=
  ⟨I.ok.frames, I.ok.mod, I.bs, Nat.le_trans I.ok.bsz I.sz, I.stack, I.stkFree, I.hok, I.bare⟩
/-- behind a call -/
theorem Inv.after {Q : VK} {u : Value} (I : Inv X pins σ H s) (h : CE X.stack X.prog X.w H s Q u s') : EP X pins σ Q u s' := by
  obtain ⟨v, H', os, bare, un, hok, r, q⟩ := h
  obtain ⟨hh, g, d, t, os'⟩ := s'
  obtain rfl : os' = s.os := os
  exact ⟨v, H', I.call (h' := hh) (g' := g) (d' := d) (t' := t) (ch := []) un hok bare (fun b z => absurd z (by simp)), r, q⟩
end

/-! ### calls -/
/-- f(..): the written arguments, then the defaults dvs; E: what is wanted of an exception -/
def tCall (sp : Sp) (dvs : List V) (E : XK) (t : TA) : TE := fun σ H Q => t σ H fun vs H1 => sp (vs ++ dvs) H1 Q E
/-- o.m(..) of an instance of the class at C -/
def tMeth (C : Addr) (m : Str) (sp : Sp) (dvs : List V) (E : XK) (ta : TE) (t : TA) : TE := fun σ H Q => ta σ H fun x H1 => ∃ a dx fs, x = .ref a ∧ H1 a = some (.ins C dx fs) ∧ fs.lookup m = none ∧
  t σ H1 fun vs H2 => sp (x :: (vs ++ dvs)) H2 Q E
/-- C(..): a new instance and its dict, then __init__ -/
def tMake (C : Addr) (sp : Sp) (dvs : List V) (E : XK) (t : TA) : TE := fun σ H Q => t σ H fun vs H1 => ∀ x dx, H1 x = none → H1 dx = none → dx ≠ x →
  sp (.ref x :: (vs ++ dvs)) (upd (upd H1 dx (.own x)) x (.ins C dx [])) (fun v H2 => v = .non ∧ Q (.ref x) H2) E

/-- how the parameters are bound: us the positional arguments, kw the keywords' values by name, ds the defaults that fill up -/
def Binds (K : PySem.W.Frag) (fd : FuncData) (ps : List Str) (ds : List Value) : Prop :=
  ∀ (s : Shared) (us : List Value), K.In s.heap → (us ++ ds).length = ps.length → BindsTo s fd ⟨us, []⟩ (ps.zip (us ++ ds))
/-- every parameter is given -/
theorem Binds.all {K : PySem.W.Frag} {fd : FuncData} {ps : List Str} (h : ∀ us : List Value, us.length = ps.length → bindArgs fd ⟨us, []⟩ = pure (ps.zip us)) : Binds K fd ps [] := fun s us _ hl => by
  rw [List.append_nil] at hl ⊢
  exact .of_eq (h us hl)

/-- an exception of a callee reaches what this body wants of exceptions -/
def Passes (CX : CXT) (X : Cx) (E : XK) : Prop := ∀ (pins : List (Addr × Obj)) (σ : St) (H : Hp) (s : Shared) (e : Value) (s' : Shared), Inv X pins σ H s → CX X.stack H s E e s' → X.xe e s'

section
variable {X : Cx} {CX : CXT} {k : Nat} {f C : Addr} {fd : FuncData} {ps : List Str} {sp : Sp} {dvs : List V} {ds : List Value} {E : XK} {x m : Str} {p pos apos : Pos} {e o : Expr} {es : List Expr} {ta : TE} {t : TA}

/-- the callee runs -/
theorem run_fn {pins : List (Addr × Obj)} {σ : St} {H : Hp} {s : Shared} {Q : VK} {us : List Value} {vs : List V} (F : FnOk X.prog X.w X.K X.mg X.base CX k f fd ps sp) (hr : Room k X.A) (hb : Binds X.K fd ps ds) (hd : Vals dvs ds) (hx : Passes CX X E)
    (I : Inv X pins σ H s) (r : Vals vs us) (h : sp (vs ++ dvs) H Q E) : wpAny (model X.prog X.w) X.A (call (.ref f) us) (EP X pins σ Q) X.xe s := by
  have r2 : Vals (vs ++ dvs) (us ++ ds) := r.append hd
  have hl : (us ++ ds).length = ps.length := by rw [← r2.length]; exact F.len _ _ _ _ h
  refine wpAny_call (codeAny_mono (F.run X.A X.stack s H ⟨us, []⟩ (us ++ ds) (vs ++ dvs) Q E hr I.env0 (hb s us I.kIn hl) r2 h) fun r s' hq => ?_)
  cases r with
  | error e => exact hx pins σ H s e s' I hq
  | ok fl =>
    cases fl with
    | ret u => exact I.after hq
    | next => exact False.elim hq
    | brk => exact False.elim hq
    | cont => exact False.elim hq

theorem pe_call (F : FnOk X.prog X.w X.K X.mg X.base CX k f fd ps sp) (hr : Room k X.A) (hg : Gl X x) (hm : X.mg x = some (.ref f)) (hk : PySem.W.keepIn X.K (.ref f) = true) (hb : Binds X.K fd ps ds) (hd : Vals dvs ds) (hx : Passes CX X E)
    (ha : PA X (e :: es) t) (hdb : (x == ("__debug__" : Str)) = false := by decide) (he : starEach (e :: es) X.env = (false, eval e X.env) :: starEach es X.env := by rfl) (hpl : (backTo pos (starEach es X.env)).any (·.1) = false := by rfl) :
    PE X (.Call (.Name x p) (e :: es) [] pos) (tCall sp dvs E t) := by
  intro pins s σ H Q I h
  refine wpAny_Call_Name_kw (ld_glob I hg hm ?_ hdb)
  refine PySem.W.callWith_K (h₀ := X.base) I.ok.mod.kin hk (thn (ha pos pins s σ H _ I h) fun us s1 ⟨vs, H1, I1, r, q⟩ => ⟨I1.kIn, ?_⟩) he hpl
  exact run_fn F hr hb hd hx I1 r q
/-- o.m(e, ..) -/
theorem pe_meth {pl : Sem Bool} (he : PE X o ta) (c : Cls X.K C) (hm : Meth X.K C m f) (F : FnOk X.prog X.w X.K X.mg X.base CX k f fd ps sp) (hr : Room k X.A) (hb : Binds X.K fd ps ds) (hd : Vals dvs ds) (hx : Passes CX X E) (ha : PA X (e :: es) t)
    (hst : starEach (e :: es) X.env = (false, eval e X.env) :: starEach es X.env := by rfl) (hpl : (backTo pos (starEach es X.env)).any (·.1) = false := by rfl)
    (ht : eval (.Call (.Attribute o m apos) (e :: es) [] pos) X.env = (do
      let ov ← eval o X.env
      standAt apos.atName
      let (f, first) ← holding [ov] (getMethod ov m pl)
      callWith pos f first (backTo pos (starEach (e :: es) X.env)) (backToKw pos (keywordEach [] X.env))) := by rfl) :
    PE X (.Call (.Attribute o m apos) (e :: es) [] pos) (tMeth C m sp dvs E ta t) := by
  intro pins s σ H Q I h
  refine PySem.W.methodCall_KW (pl := pl) (thn (he pins s σ H _ I h) fun u s1 ⟨x, H1, I1, rx, a, dx, fs, ex, ea, l, q⟩ => ?_) ht
  subst ex
  obtain rfl : u = Value.ref a := rx
  refine getmeth_ok I1 ea c hm l ?_
  refine PySem.W.callWith_K (first := [.ref a]) (h₀ := X.base) I.ok.mod.kin hm.kp (thn (ha pos pins s1 σ H1 _ I1 q) fun us s2 ⟨vs, H2, I2, r, q2⟩ => ⟨I2.kIn, ?_⟩) hst hpl
  exact run_fn (us := .ref a :: us) (vs := .ref a :: vs) F hr hb hd hx I2 (.cons rfl r) q2
/-- o.m() -/
theorem pe_meth0 {pl : Sem Bool} (he : PE X o ta) (c : Cls X.K C) (hm : Meth X.K C m f) (F : FnOk X.prog X.w X.K X.mg X.base CX k f fd ps sp) (hr : Room k X.A) (hb : Binds X.K fd ps ds) (hd : Vals dvs ds) (hx : Passes CX X E)
    (ht : eval (.Call (.Attribute o m apos) [] [] pos) X.env = (do
      let ov ← eval o X.env
      standAt apos.atName
      let (f, first) ← holding [ov] (getMethod ov m pl)
      callWith pos f first (backTo pos (starEach [] X.env)) (backToKw pos (keywordEach [] X.env))) := by rfl) :
    PE X (.Call (.Attribute o m apos) [] [] pos) (tMeth C m sp dvs E ta tNil) := by
  intro pins s σ H Q I h
  refine PySem.W.methodCall_KW (pl := pl) (thn (he pins s σ H _ I h) fun u s1 ⟨x, H1, I1, rx, a, dx, fs, ex, ea, l, q⟩ => ?_) ht
  subst ex
  obtain rfl : u = Value.ref a := rx
  refine getmeth_ok I1 ea c hm l ?_
  exact PySem.W.callWith_K0 (first := [.ref a]) I1.kIn hm.kp (run_fn (us := [.ref a]) (vs := [.ref a]) F hr hb hd hx I1 (.cons rfl .nil) q)

/-- what a class must have to be made -/
structure Mk (K : PySem.W.Frag) (C f : Addr) : Prop where
  makes : PySem.W.makesIn K C = true
  init : PySem.W.findIn K (.ref C) "__init__" = some (some (.ref f))
  fn : PySem.W.isFn K (.ref f) = true
  kp : PySem.W.keepIn K (.ref C) = true

theorem run_make {pins : List (Addr × Obj)} {σ : St} {H : Hp} {s : Shared} {Q : VK} {us : List Value} {vs : List V} (M : Mk X.K C f) (F : FnOk X.prog X.w X.K X.mg X.base CX k f fd ps sp) (hr : Room (k + 1) X.A) (hb : Binds X.K fd ps ds) (hd : Vals dvs ds)
    (hx : Passes CX X E) (I : Inv X pins σ H s) (r : Vals vs us)
    (h : ∀ x dx, H x = none → H dx = none → dx ≠ x → sp (.ref x :: (vs ++ dvs)) (upd (upd H dx (.own x)) x (.ins C dx [])) (fun v H2 => v = .non ∧ Q (.ref x) H2) E) :
    wpAny (model X.prog X.w) X.A (call (.ref C) us) (EP X pins σ Q) X.xe s := by
  have hq := h (s.heap.objs.size + 1) s.heap.objs.size (I.hok.fresh (Nat.le_succ _)) (I.hok.fresh (Nat.le_refl _)) (Nat.ne_of_lt (Nat.lt_succ_self _))
  have I2 := Inv.made (C := C) I
  have r2 : Vals (V.ref (s.heap.objs.size + 1) :: (vs ++ dvs)) (Value.ref (s.heap.objs.size + 1) :: (us ++ ds)) := .cons rfl (r.append hd)
  have hl : (Value.ref (s.heap.objs.size + 1) :: us ++ ds).length = ps.length := by
    have e := r2.length
    rw [F.len _ _ _ _ hq] at e
    exact e.symm
  refine wpAny_call (make_map (f := f) I.kIn M.makes M.init (beq_iff_eq.mp M.fn) (codeAny_mono (F.run _ X.stack _ _ ⟨Value.ref (s.heap.objs.size + 1) :: us, []⟩ (Value.ref (s.heap.objs.size + 1) :: (us ++ ds)) _ _ E (hr.make C us [])
    (I2.env0.make C us []) (hb _ (Value.ref (s.heap.objs.size + 1) :: us) I2.kIn hl) r2 hq) fun r s' hq' => ?_))
  cases r with
  | error e => exact hx pins σ _ _ e s' I2 hq'
  | ok fl =>
    cases fl with
    | ret u =>
      obtain ⟨v, H', I3, rv, ev, q3⟩ := I2.after hq'
      subst ev
      exact ⟨rv, ⟨V.ref (s.heap.objs.size + 1), H', I3, rfl, q3⟩⟩
    | next => exact False.elim hq'
    | brk => exact False.elim hq'
    | cont => exact False.elim hq'
theorem pe_make (M : Mk X.K C f) (F : FnOk X.prog X.w X.K X.mg X.base CX k f fd ps sp) (hr : Room (k + 1) X.A) (hg : Gl X x) (hm : X.mg x = some (.ref C)) (hb : Binds X.K fd ps ds) (hd : Vals dvs ds) (hx : Passes CX X E)
    (ha : PA X (e :: es) t) (hdb : (x == ("__debug__" : Str)) = false := by decide) (he : starEach (e :: es) X.env = (false, eval e X.env) :: starEach es X.env := by rfl) (hpl : (backTo pos (starEach es X.env)).any (·.1) = false := by rfl) :
    PE X (.Call (.Name x p) (e :: es) [] pos) (tMake C sp dvs E t) := by
  intro pins s σ H Q I h
  refine wpAny_Call_Name_kw (ld_glob I hg hm ?_ hdb)
  refine PySem.W.callWith_K (h₀ := X.base) I.ok.mod.kin M.kp (thn (ha pos pins s σ H _ I h) fun us s1 ⟨vs, H1, I1, r, q⟩ => ⟨I1.kIn, ?_⟩) he hpl
  exact run_make M F hr hb hd hx I1 r q
end

/-! ### keywords -/
section
variable {X : Cx} {CX : CXT} {k : Nat} {f C : Addr} {fd : FuncData} {ps ks : List Str} {sp : Sp} {E : XK} {x m : Str} {p pos apos kpos : Pos} {e o : Expr} {es : List Expr} {kws : List Keyword} {te ta : TE} {t tk : TA} {nm : Option Str}
/-- how a call with keywords binds: g puts the positional values us and the keywords' values ws (names ks) in the parameters' order, defaults among them -/
structure KBinds (K : PySem.W.Frag) (fd : FuncData) (ps ks : List Str) (g : List Value → List Value → List Value) (gV : List V → List V → List V) : Prop where
  to : ∀ (s : Shared) (us ws : List Value), K.In s.heap → (g us ws).length = ps.length → BindsTo s fd ⟨us, ks.zip ws⟩ (ps.zip (g us ws))
  rel : ∀ {vs : List V} {us : List Value} {zs : List V} {ws : List Value}, Vals vs us → Vals zs ws → Vals (gV vs zs) (g us ws)
variable {g : List Value → List Value → List Value} {gV : List V → List V → List V}
end

/-! ### a def's body keeps its promise -/
/-- names: the parameters first -/
structure FnScope (N P : List Str) (sc : Scope) : Prop where
  kind : sc.kind = .function
  co : sc.isCoroutine = false
  gen : sc.isGenerator = false
  nd : N.Nodup
  pre : N.take P.length = P
  par : ∀ x ∈ P, sc.names.lookup x = some .local ∨ sc.names.lookup x = some .cell
  nofree : ∀ y ∈ sc.names, y.2 ≠ .free

theorem bindL_out {kindOf : Str → Option NameKind} {x : Str} : ∀ {binds : List (Str × Value)} {m : Str → Option Value}, (∀ v, (x, v) ∉ binds) → bindL kindOf binds m x = m x
  | [], _, _ => rfl
  | (n, v) :: r, m, h => by
    unfold bindL
    rw [bindL_out fun w hw => h w (List.mem_cons_of_mem _ hw)]
    split
    · have : x ≠ n := by rintro rfl; exact h v List.mem_cons_self
      simp [this]
    · rfl
theorem bindC_out {kindOf : Str → Option NameKind} {x : Str} : ∀ {binds : List (Str × Value)} {m : Str → Option Value}, (∀ v, (x, v) ∉ binds) → bindC kindOf binds m x = m x
  | [], _, _ => rfl
  | (n, v) :: r, m, h => by
    unfold bindC
    rw [bindC_out fun w hw => h w (List.mem_cons_of_mem _ hw)]
    split
    · rfl
    · have : x ≠ n := by rintro rfl; exact h v List.mem_cons_self
      simp [this]
theorem bindL_get {kindOf : Str → Option NameKind} {x : Str} {v : Value} : ∀ {P : List Str} {vs : List Value} {i : Nat} {m : Str → Option Value}, P.Nodup → P[i]? = some x → vs[i]? = some v → kindOf x = some .local →
    bindL kindOf (P.zip vs) m x = some v
  | [], _, _, _, _, h, _, _ => by simp at h
  | _ :: _, [], _, _, _, _, h, _ => by simp at h
  | p :: P, w :: vs, 0, m, nd, h1, h2, hk => by
    simp at h1 h2; subst h1; subst h2
    show bindL kindOf ((p, w) :: P.zip vs) m p = _
    unfold bindL
    rw [bindL_out fun v hv => (List.nodup_cons.mp nd).1 (List.of_mem_zip hv).1, if_pos hk]
    simp
  | p :: P, w :: vs, i + 1, m, nd, h1, h2, hk => by
    show bindL kindOf ((p, w) :: P.zip vs) m x = _
    unfold bindL
    exact bindL_get (i := i) (List.nodup_cons.mp nd).2 (by simpa using h1) (by simpa using h2) hk
theorem bindC_get {kindOf : Str → Option NameKind} {x : Str} {v : Value} : ∀ {P : List Str} {vs : List Value} {i : Nat} {m : Str → Option Value}, P.Nodup → P[i]? = some x → vs[i]? = some v → kindOf x ≠ some .local →
    bindC kindOf (P.zip vs) m x = some v
  | [], _, _, _, _, h, _, _ => by simp at h
  | _ :: _, [], _, _, _, _, h, _ => by simp at h
  | p :: P, w :: vs, 0, m, nd, h1, h2, hk => by
    simp at h1 h2; subst h1; subst h2
    show bindC kindOf ((p, w) :: P.zip vs) m p = _
    unfold bindC
    rw [bindC_out fun v hv => (List.nodup_cons.mp nd).1 (List.of_mem_zip hv).1, if_neg hk]
    simp
  | p :: P, w :: vs, i + 1, m, nd, h1, h2, hk => by
    show bindC kindOf ((p, w) :: P.zip vs) m x = _
    unfold bindC
    exact bindC_get (i := i) (List.nodup_cons.mp nd).2 (by simpa using h1) (by simpa using h2) hk

/-- the names' values at the entry -/
def start (N : List Str) (vs : List V) : St := vs.map some ++ List.replicate (N.length - vs.length) none

/-- the context of a def's body, at its entry; an exception leaves the frame, then lies as CX says -/
def cxOf (CX : CXT) (P : Program) (w : World) (K : PySem.W.Frag) (mg : Str → Option Value) (base : Heap) (N : List Str) (qual : Str) (scope : Scope) (f : Addr) (cd : Value) (A : Around) (outer : List Env) (s : Shared) (H : Hp) (E : XK) : Cx where
  prog := P
  w := w
  K := K
  mg := mg
  base := base
  A := A.deeper (envOfC qual scope s.heap.objs.size f cd)
  N := N
  s₀ := s
  H₀ := H
  env := envOfC qual scope s.heap.objs.size f cd
  outer := outer
  stack := envOfC qual scope s.heap.objs.size f cd :: outer
  ex := []
  calm := true
  fn := fun _ => true
  pn := []
  xe := fun e s' => wpAny (model P w) (A.deeper (envOfC qual scope s.heap.objs.size f cd)) (leaving (envOfC qual scope s.heap.objs.size f cd) e) (fun _ s'' => CX outer H s E e s'') (fun e' s'' => CX outer H s E e' s'') s'

theorem cell_has {sc : Scope} {n : Nat} {x : Str} (h : sc.names.lookup x = some .cell) : ∃ c, (cellsFrom n sc.names []).lookup x = some c := by
  have q := PySem.W.cellsFrom_some sc.names n [] (.inl h)
  exact Option.isSome_iff_exists.mp q

theorem inv_start {CX : CXT} {P : Program} {w : World} {K : PySem.W.Frag} {mg : Str → Option Value} {base : Heap} {N ps : List Str} {qual : Str} {scope : Scope} {f : Addr} {cd : Value} {A : Around} {outer : List Env} {s s1 : Shared} {H : Hp} {E : XK} {us : List Value} {vs : List V}
    (S : FnScope N ps scope) (hd : A.handled = none) (e0 : Env0 P w K mg base A outer s H) (hl : vs.length = ps.length) (r : Vals vs us)
    (x : InCallC s s.heap.objs.size (bindL (envOfC qual scope s.heap.objs.size f cd).kindOf (ps.zip us) fun _ => none) (cellsFrom (s.heap.objs.size + 1) scope.names []) (bindC (envOfC qual scope s.heap.objs.size f cd).kindOf (ps.zip us) fun _ => none) s1) :
    Inv (cxOf CX P w K mg base N qual scope f cd A outer s H E) [] (start N vs) H s1 := by
  have hpl : ps.length ≤ N.length := by have := congrArg List.length S.pre; rw [List.length_take] at this; omega
  obtain ⟨h1, tk, rfl, hk⟩ := x.done
  have noA : ∀ b : Addr, b ∉ (cxOf CX P w K mg base N qual scope f cd A outer s H E).ex := fun b z => absurd (show b ∈ ([] : List Addr) from z) (by simp)
  refine ⟨⟨e0.mod, S.kind, rfl, rfl, Nat.le_refl _, fun y z c h1 h2 => ?_, fun y hy => ?_, fun y c _ h => ?_, fun _ => hd, Around.frames_deeper e0.frames, .inr ⟨rfl, rfl⟩, fun b z => absurd z (noA b), e0.bs, e0.bsz, fun b _ _ => noA b, fun b z => absurd z (noA b), e0.funs, e0.frf⟩,
    rfl, e0.bare, Un.kept hk, ⟨_, x.toInCall.ns, fun i y v h1 h2 h3 => ?_⟩, fun y c h => ⟨_, x.cell y c h⟩, e0.hok.fresh (Nat.le_refl _), fun y c h => ?_, fun p hp => absurd (show p ∈ ([] : List (Addr × Obj)) from hp) (by simp), e0.hok.kept hk, ?_⟩
  · exact name_of_addr x.apart (PySem.mem_of_lookup h1) (PySem.mem_of_lookup h2)
  · have hy : scope.names.lookup y = some .cell ∨ scope.names.lookup y = some .free := hy
    rcases hy with hy | hy
    · exact cell_has hy
    · exact absurd rfl (S.nofree _ (PySem.mem_of_lookup hy))
  · exact Nat.le_of_lt (x.above y c (PySem.mem_of_lookup h))
  · have hi : i < vs.length := by
      unfold start at h2
      by_cases hi : i < vs.length
      · exact hi
      · rw [List.getElem?_append_right (by simpa using hi)] at h2
        rw [List.getElem?_replicate] at h2
        split at h2 <;> cases h2
    have ha : vs[i]? = some v := by
      unfold start at h2
      rw [List.getElem?_append_left (by simpa using hi), List.getElem?_map] at h2
      cases e : vs[i]? with
      | none => rw [e] at h2; cases h2
      | some a => rw [e] at h2; cases h2; rfl
    obtain ⟨u, hu, rv⟩ := r.get ha
    have hp : ps[i]? = some y := by
      rw [← S.pre, List.getElem?_take_of_lt (by omega)]; exact h1
    have ndP : ps.Nodup := by rw [← S.pre]; exact S.nd.sublist (List.take_sublist _ _)
    refine ⟨u, rv, ?_⟩
    rcases S.par y (List.mem_of_getElem? hp) with k | k
    · exact .inl ⟨k, bindL_get ndP hp hu k⟩
    · obtain ⟨c, e⟩ := cell_has (n := s.heap.objs.size + 1) k
      refine .inr ⟨.inl k, c, e, ?_⟩
      have q := x.cell y c e
      rw [bindC_get ndP hp hu (by show scope.names.lookup y ≠ _; rw [k]; decide)] at q
      exact q
  · exact e0.hok.fresh (Nat.le_of_lt (x.above y c (PySem.mem_of_lookup h)))
  · unfold start
    show _ = N.length
    rw [List.length_append, List.length_map, List.length_replicate]
    omega

/-- THE RULE: a def (or a method) of the text, by its body. The body's reading t is chosen for each entry; it is run at the parameters' values -/
theorem fn_of {CX : CXT} {P : Program} {w : World} {K : PySem.W.Frag} {mg : Str → Option Value} {base : Heap} {k : Nat} {f : Addr} {name qual : Str} {params : Arguments} {body : List Stmt} {scope : Scope} {dV kV doc pm cdv ct oc : Value} {an od : Option Addr}
    {osl : Array (Option Value)} {N ps : List Str} {sp : Sp} (lk : K.lookup f = some ⟨oc, od, .func (PySem.W.fnOf name qual params body scope dV kV doc pm an cdv ct), osl⟩) (hcd : PySem.W.codeIn K cdv qual = true) (S : FnScope N ps scope)
    (len : ∀ vs H Q E, sp vs H Q E → vs.length = ps.length)
    (hbody : ∀ (A : Around) (outer : List Env) (s : Shared) (H : Hp) (vs : List V) (Q : VK) (E : XK), Room k (A.deeper (envOfC qual scope s.heap.objs.size f cdv)) → sp vs H Q E →
      ∃ t, PSs (cxOf CX P w K mg base N qual scope f cdv A outer s H E) body t ∧ t { nx := fun _ H' => Q .non H', rt := Q } (start N vs) H) :
    FnOk P w K mg base CX (k + 1) f (PySem.W.fnOf name qual params body scope dV kV doc pm an cdv ct) ps sp := by
  refine ⟨len, fun A outer s H args us vs Q E hr e0 hb r hsp => ?_⟩
  have hl := len _ _ _ _ hsp
  have KX : K.In s.heap := e0.mod.kin.keeps fun b o e => (e0.bs b o e).1
  have lim : s.heap.NoLimit := e0.mod.nolimit.keeps fun b o e => (e0.bs b o e).1
  have hkind : ∀ y ∈ ps.zip us, scope.names.lookup y.1 = some .local ∨ (scope.names.lookup y.1 = some .cell ∧ ((cellsFrom (s.heap.objs.size + 1) scope.names []).lookup y.1).isSome = true) := fun ⟨n, v⟩ hy => by
    rcases S.par n (List.of_mem_zip hy).1 with q | q
    · exact .inl q
    · exact .inr ⟨q, PySem.W.cellsFrom_some _ _ _ (.inl q)⟩
  refine codeAny_call_function hr.depth (KX _ _ lk) rfl S.co S.gen rfl (PySem.W.codeRec_of KX hcd) (hb _ _ _ _ ?_)
  refine wpAny_newFunctionEnv_cells S.kind hkind fun env he s1 x => ?_
  subst he
  refine ⟨lim.keeps x.toInCall.keep, codeAny_func ?_⟩
  obtain ⟨t, ht, hq⟩ := hbody A outer s H vs Q E (hr.deeper _) hsp
  have I : Inv (cxOf CX P w K mg base N qual scope f cdv A outer s H E) [] (start N vs) H s1 := inv_start S hr.hd e0 hl r x
  refine wpAny_mono (ht [] s1 (start N vs) H _ I hq) (fun fl s' hs => ?_) fun e s' hs => hs
  have fin : ∀ {σ' : St} {H' : Hp} {v : V} {u : Value}, Inv (cxOf CX P w K mg base N qual scope f cdv A outer s H E) [] σ' H' s' → RelV v u → Q v H' → CE outer P w H s Q u s' :=
    fun {σ' H' v u} J rv q => ⟨v, H', J.os, J.bare, J.base, J.hok, rv, q⟩
  cases fl with
  | ret u =>
    obtain ⟨v, σ', H', J, rv, q⟩ := hs
    exact fin J rv q
  | next =>
    obtain ⟨σ', H', J, q⟩ := hs
    exact fin (v := V.non) (u := Value.none) J rfl q
  | brk =>
    obtain ⟨_, _, _, q⟩ := hs
    exact False.elim q
  | cont =>
    obtain ⟨_, _, _, q⟩ := hs
    exact False.elim q
end L2

namespace L2
open PySem PySem.Spec PyProof.Rows
section
variable {X : Cx} {x : Str} {p pos : Pos} {e : Expr} {es : List Expr} {t : TA} {id T : String} {r : List V → Hp → VK → Prop}

def tCB (r : List V → Hp → VK → Prop) (t : TA) : TE := fun σ H Q => t σ H fun vs H1 => r vs H1 Q
/-- f(e, ..), f a built-in function -/
theorem pe_callB (hc : CallR X (.builtin id) r) (hg : Gl X x) (hm : X.mg x = none) (hv : bootBuiltins x = some (.builtin id)) (ha : PA X (e :: es) t) (hn : x ≠ "__name__" := by decide) (hdb : (x == ("__debug__" : Str)) = false := by decide)
    (he : starEach (e :: es) X.env = (false, eval e X.env) :: starEach es X.env := by rfl) (hpl : (backTo pos (starEach es X.env)).any (·.1) = false := by rfl) : PE X (.Call (.Name x p) (e :: es) [] pos) (tCB r t) := by
  intro pins s σ H Q I h
  refine wpAny_Call_Name_kw (ld_blt I hg hm hv ?_ hn hdb)
  exact PyProof.Rows.callWith_builtin1 (thn (ha pos pins s σ H _ I h) fun us s1 ⟨vs, H1, I1, r1, q1⟩ => hc pins s1 σ H1 vs us Q I1 r1 q1) he hpl
/-- T(e, ..), T a built-in type -/
theorem pe_callTy (hc : CallR X (.type T) r) (hg : Gl X x) (hm : X.mg x = none) (hv : bootBuiltins x = some (.type T)) (ha : PA X (e :: es) t) (hn : x ≠ "__name__" := by decide) (hdb : (x == ("__debug__" : Str)) = false := by decide)
    (he : starEach (e :: es) X.env = (false, eval e X.env) :: starEach es X.env := by rfl) (hpl : (backTo pos (starEach es X.env)).any (·.1) = false := by rfl) : PE X (.Call (.Name x p) (e :: es) [] pos) (tCB r t) := by
  intro pins s σ H Q I h
  refine wpAny_Call_Name_kw (ld_blt I hg hm hv ?_ hn hdb)
  exact PyProof.Rows.callWith_type1 (thn (ha pos pins s σ H _ I h) fun us s1 ⟨vs, H1, I1, r1, q1⟩ => hc pins s1 σ H1 vs us Q I1 r1 q1) he hpl
end
end L2

namespace HT
open PySem PyProof.Rows

section
open PySem.SeqAt
open PySem.AutoSeq1 (wpAny_loadPart')
open PySem.MeetsSeq PySem.MeetsSeq2 PySem.MeetsSeq3

end

section
variable {prog : Program} {w : World} {A : Around} {E : Value → Shared → Prop} {s : Shared}

/-! ### t[a:b], not the whole -/
/-- a slice's bound as a place among n (d where it is left out) -/
def sIx (n d : Nat) : Option Int → Nat
  | none => d
  | some v => if v < 0 then (v + (n : Int)).toNat else min v.toNat n
end
end HT

namespace L2
open PySem PySem.Spec PyProof.Rows

/-! ### the parts of a slice -/
abbrev TO := St → Hp → (Option Int → Hp → Prop) → Prop
/-- a slice's part (left out, or an int) -/
def PO (X : Cx) (e : Option Expr) (t : TO) : Prop :=
  ∀ (pins : List (Addr × Obj)) (s : Shared) (σ : St) (H : Hp) (Q : Option Int → Hp → Prop), Inv X pins σ H s → t σ H Q →
    wpAny (model X.prog X.w) X.A (evalPart e X.env) (fun u s' => ∃ o H', Inv X pins σ H' s' ∧ IsPart u o ∧ Q o H') X.xe s
def tNoPart : TO := fun _ H Q => Q none H
def tPart (t : TE) : TO := fun σ H Q => t σ H fun x H1 => ∃ i, x = .int i ∧ Q (some i) H1

theorem intsAre_of {ns : List Int} : ∀ {us : List Value}, Vals (ns.map V.int) us → IntsAre us ns := by
  induction ns with
  | nil => intro us r; rw [List.map_nil] at r; cases r; exact .nil
  | cons n ns ih =>
    intro us r
    rw [List.map_cons] at r
    cases r with
    | cons r1 r2 =>
      obtain ⟨t, e⟩ := r1
      subst e
      exact .cons n t (ih r2)

section
variable {X : Cx} {e : Expr} {te : TE} {lo hi : Option Expr} {tl th : TO} {pos p2 : Pos}

theorem po_none : PO X none tNoPart := by
  intro pins s σ H Q I h
  rw [evalPart_none]
  exact wpAny_pure ⟨none, H, I, .none, h⟩
theorem po_some (h : PE X e te) : PO X (some e) (tPart te) := by
  intro pins s σ H Q I hw
  rw [evalPart_some]
  refine thn (h pins s σ H _ I hw) fun u s1 ⟨x, H1, I1, r1, q1⟩ => ?_
  obtain ⟨i, rfl, q⟩ := q1
  obtain ⟨t, rfl⟩ := r1
  exact ⟨some i, H1, I1, .int i t, q⟩

/-- what a slice of a value is, by values: the slice object stands at sl -/
def SlR (X : Cx) (r : V → Option Int → Option Int → Hp → VK → Prop) : Prop :=
  ∀ (pins : List (Addr × Obj)) (s : Shared) (σ : St) (H : Hp) (x : V) (v vl vu : Value) (lo hi : Option Int) (sl : Addr) (Q : VK), Inv X pins σ H s → RelV x v → s.heap.IsSliceOf sl vl vu .none → IsPart vl lo → IsPart vu hi → r x lo hi H Q →
    ∃ T id, typeLookup (.type T) "__getitem__" = pure (some (.builtin id)) ∧ s.TypeIs v T ∧ wpAny (model X.prog X.w) X.A (getItem v (.ref sl)) (EP X pins σ Q) X.xe s
theorem SlR.or {r r' : V → Option Int → Option Int → Hp → VK → Prop} (h : SlR X r) (h' : SlR X r') : SlR X (fun x lo hi H Q => r x lo hi H Q ∨ r' x lo hi H Q) := by
  intro pins s σ H x v vl vu lo hi sl Q I rx hs pl pu q
  rcases q with q | q
  · exact h pins s σ H x v vl vu lo hi sl Q I rx hs pl pu q
  · exact h' pins s σ H x v vl vu lo hi sl Q I rx hs pl pu q
def tSl (r : V → Option Int → Option Int → Hp → VK → Prop) (te : TE) (tl th : TO) : TE := fun σ H Q => te σ H fun x H1 => tl σ H1 fun l H2 => th σ H2 fun u H3 => r x l u H3 Q
/-- a[lo:hi], any a -/
theorem pe_slice {r : V → Option Int → Option Int → Hp → VK → Prop} (hr : SlR X r) (he : PE X e te) (hl : PO X lo tl) (hu : PO X hi th) : PE X (.Subscript e (.Slice lo hi none p2) pos) (tSl r te tl th) := by
  intro pins s σ H Q I h
  refine Subscript_ (thn (he pins s σ H _ I h) fun v s1 ⟨x, H1, I1, r1, q1⟩ => ?_)
  refine wpAny_Slice (thn (hl pins s1 σ H1 _ I1 q1) fun vl s2 ⟨l, H2, I2, pl, q2⟩ => thn (hu pins s2 σ H2 _ I2 q2) fun vu s3 ⟨u, H3, I3, pu, q3⟩ => ?_)
  rw [evalPart_none]
  refine wpAny_pure ?_
  have I4 : Inv X pins σ H3 { s3 with heap := s3.heap.push { cls := .type "slice", data := .fields #[vl, vu, .none] } } := I3.kept (t' := s3.toks) fun b ob q => Heap.get?_push_of_some _ q
  obtain ⟨T, id, hT, ht, hg⟩ := hr pins { s3 with heap := s3.heap.push { cls := .type "slice", data := .fields #[vl, vu, .none] } } σ H3 x v vl vu l u s3.heap.objs.size Q I4 r1 (Heap.IsSliceOf.new ..) pl pu q3
  show wpAny (model X.prog X.w) X.A (subscriptTail e (.Slice lo hi none p2) v (.ref s3.heap.objs.size)) (EP X pins σ Q) X.xe { s3 with heap := s3.heap.push { cls := .type "slice", data := .fields #[vl, vu, .none] } }
  exact tail_any (ops := [.ref s3.heap.objs.size, v]) ht hT hg (by with_unfolding_all rfl)

/-- the items of xs[lo:hi] -/
def cutV (xs : List V) (lo hi : Option Int) : List V := (xs.drop (HT.sIx xs.length 0 lo)).take (HT.sIx xs.length xs.length hi - HT.sIx xs.length 0 lo)
theorem cutV_length (xs : List V) (lo hi : Option Int) : (cutV xs lo hi).length ≤ xs.length := by
  unfold cutV
  rw [List.length_take, List.length_drop]
  omega
/-! ### t < u, t + u -/
end
end L2

namespace L2
open PySem PySem.Spec PyProof.Rows

/-! ### places -/
/-- the place that an index of any sign means -/
def ixN (n : Nat) (i : Int) : Option Nat := if 0 ≤ i then (if i < n then some i.toNat else none) else if -(n : Int) ≤ i then some (i + n).toNat else none
def atI {α : Type} (xs : List α) (i : Int) : Option α := (ixN xs.length i).bind fun j => xs[j]?
theorem ixN_seq {n : Nat} {i : Int} {j : Nat} (h : ixN n i = some j) : seqIndex? i n = some j ∧ j < n ∧ -(n : Int) ≤ i ∧ i < n := by
  unfold ixN at h
  by_cases h0 : 0 ≤ i
  · rw [if_pos h0] at h
    by_cases h1 : i < n
    · rw [if_pos h1] at h
      have e : i.toNat = j := Option.some.inj h
      exact ⟨by rw [seqIndex_of h0 h1, e], by omega, by omega, h1⟩
    · rw [if_neg h1] at h; cases h
  · rw [if_neg h0] at h
    by_cases h1 : -(n : Int) ≤ i
    · rw [if_pos h1] at h
      have e : (i + n).toNat = j := Option.some.inj h
      exact ⟨by rw [seqIndex_neg (by omega) h1, e], by omega, h1, by omega⟩
    · rw [if_neg h1] at h; cases h
theorem atI_get {α : Type} {xs : List α} {i : Int} {v : α} (h : atI xs i = some v) : ∃ j, seqIndex? i xs.length = some j ∧ xs[j]? = some v ∧ j < xs.length ∧ -(xs.length : Int) ≤ i ∧ i < xs.length := by
  unfold atI at h
  cases e : ixN xs.length i with
  | none => rw [e] at h; cases h
  | some j =>
    rw [e] at h
    obtain ⟨h1, h2, h3, h4⟩ := ixN_seq e
    exact ⟨j, h1, h, h2, h3, h4⟩
theorem atI_nat {α : Type} {xs : List α} {j : Nat} {v : α} (h : xs[j]? = some v) : atI xs (j : Int) = some v := by
  have hj : j < xs.length := (List.getElem?_eq_some_iff.mp h).1
  have e : ixN xs.length (j : Int) = some j := by
    unfold ixN
    rw [if_pos (by omega), if_pos (by omega)]; simp
  unfold atI; rw [e]; exact h
/-! ### what may be subscripted -/
/-- what stands as an index of a plain subscript -/
def PlainIx (b : Expr) : Prop := ∀ o i, subscripted b false o i = operate [o, i] (getItem o i)
/-- a subscript by values -/
def IxR (X : Cx) (r : R2) : Prop :=
  ∀ (value slice : Expr) (pins : List (Addr × Obj)) (s : Shared) (σ : St) (H : Hp) (x y : V) (v u : Value) (Q : VK), Inv X pins σ H s → RelV x v → RelV y u → r x y H Q →
    subscripted slice false v u = operate [v, u] (getItem v u) → wpAny (model X.prog X.w) X.A (subscriptTail value slice v u) (EP X pins σ Q) X.xe s
/-- a call of a builtin's method by values: the receiver, the arguments -/
def MtR (X : Cx) (id : String) (r : V → List V → Hp → VK → Prop) : Prop :=
  ∀ (pins : List (Addr × Obj)) (s : Shared) (σ : St) (H : Hp) (x : V) (xs : List V) (v : Value) (us : List Value) (Q : VK), Inv X pins σ H s → RelV x v → Vals xs us → r x xs H Q →
    wpAny (model X.prog X.w) X.A (call (.builtin id) (v :: us)) (EP X pins σ Q) X.xe s
section
variable {X : Cx} {a b : Expr} {ta tb : TE} {pos : Pos}
theorem IxR.or {r r' : R2} (h : IxR X r) (h' : IxR X r') : IxR X (fun x y H Q => r x y H Q ∨ r' x y H Q) := by
  intro value slice pins s σ H x y v u Q I rx ry q hs
  rcases q with q | q
  · exact h value slice pins s σ H x y v u Q I rx ry q hs
  · exact h' value slice pins s σ H x y v u Q I rx ry q hs
theorem MtR.or {id : String} {r r' : V → List V → Hp → VK → Prop} (h : MtR X id r) (h' : MtR X id r') : MtR X id (fun x xs H Q => r x xs H Q ∨ r' x xs H Q) := by
  intro pins s σ H x xs v us Q I rx rs q
  rcases q with q | q
  · exact h pins s σ H x xs v us Q I rx rs q
  · exact h' pins s σ H x xs v us Q I rx rs q
/-- a[b] -/
theorem pe_ix {r : R2} (hr : IxR X r) (ha : PE X a ta) (hb : PE X b tb) (hs : PlainIx b) : PE X (.Subscript a b pos) (tOp r ta tb) := by
  intro pins s σ H Q I h
  exact Subscript_ (binT ha hb I h fun v u s2 x y H2 I2 rx ry q => hr a b pins s2 σ H2 x y v u Q I2 rx ry q (hs _ _))

def rIxL (K : PySem.W.Frag) : R2 := fun x y H Q => ∃ p xs i v, x = .ref p ∧ y = .int i ∧ SqL K H p xs ∧ atI xs i = some v ∧ Q v H
def rIxT (K : PySem.W.Frag) : R2 := fun x y H Q => ∃ p xs i v, x = .ref p ∧ y = .int i ∧ SqT K H p xs ∧ atI xs i = some v ∧ Q v H
theorem ix_list : IxR X (rIxL X.K) := by
  intro value slice pins s σ H x y v u Q I rx ry h hs
  obtain ⟨p, xs, i, z, rfl, rfl, hq, he, q⟩ := h
  cases rx
  obtain ⟨t, rfl⟩ := ry
  obtain ⟨its, r, pl, hz⟩ := I.list hq
  obtain ⟨j, h1, h2, h3, h4, h5⟩ := atI_get he
  obtain ⟨w, ew, rw'⟩ := r.get h2
  have hl := r.length
  have hn := line63
  have fin : EP X pins σ Q w s := ⟨z, H, I, rw', q⟩
  by_cases h0 : 0 ≤ i
  · have hj : i.toNat = j := by
      rw [seqIndex_of h0 h5] at h1
      exact Option.some.inj h1
    exact item_listR pl.isList h0 (by omega) (by rw [hj]; simpa using ew) fin hs
  · have hj : (i + (its.toArray.size : Int)).toNat = j := by
      rw [seqIndex_neg (by omega) h4] at h1
      rw [List.size_toArray, ← hl]
      exact Option.some.inj h1
    exact subscriptTail_builtinR (x := w) pl.isList.typeIs slot_list_getitem.lookup
      (wpAny_getItem_list_neg (Q := fun r s' => r = w ∧ EP X pins σ Q r s') pl.isList (by omega) (by rw [List.size_toArray] <;> omega) (by omega) (by rw [hj]; simpa using ew) ⟨rfl, fin⟩) hs
theorem ix_tup : IxR X (rIxT X.K) := by
  intro value slice pins s σ H x y v u Q I rx ry h hs
  obtain ⟨p, xs, i, z, rfl, rfl, hq, he, q⟩ := h
  cases rx
  obtain ⟨t, rfl⟩ := ry
  obtain ⟨its, r, pl, hz⟩ := I.tuple hq
  obtain ⟨j, h1, h2, h3, h4, h5⟩ := atI_get he
  obtain ⟨w, ew, rw'⟩ := r.get h2
  have hl := r.length
  have hn := line63
  have fin : EP X pins σ Q w s := ⟨z, H, I, rw', q⟩
  exact subscriptTail_builtinR (x := w) pl.typeIs slot_tuple_getitem.lookup
    (getItem_tuple (j := j) (Q := fun r s' => r = w ∧ EP X pins σ Q r s') pl (by omega) (by omega) (by rw [List.size_toArray, ← hl]; exact h1) (by simpa using ew) ⟨rfl, fin⟩) hs
/-! ### xs[i] = v, any sign -/
/-- the list's object behind a store -/
theorem mapSeq_set (its : List Value) (n j : Nat) (u : Value) : Obj.mapSeq (·.setIfInBounds j u) { cls := .type "list", data := .seq its.toArray n } = { cls := .type "list", data := .seq (its.set j u).toArray n } := by
  simp [Obj.mapSeq]
theorem Inv.lst {pins : List (Addr × Obj)} {σ : St} {H : Hp} {s : Shared} {p : Addr} {xs : List V} (I : Inv X pins σ H s) (h : H p = some (.lst xs)) :
    ∃ (its : List Value) (n : Nat), Vals xs its ∧ s.heap.get? p = some { cls := .type "list", data := .seq its.toArray n } ∧ xs.length ≤ sizeLine := by
  obtain ⟨z, its, n, r, e⟩ := I.hok p _ h
  exact ⟨its, n, r, e, z⟩
/-- the list at p is written by an update of its object -/
theorem Inv.lstUpd {pins : List (Addr × Obj)} {σ : St} {H : Hp} {s : Shared} {p : Addr} {xs ys : List V} {its its' : List Value} {n n' : Nat} {f : Obj → Obj} (I : Inv X pins σ H s) (h : H p = some (.lst xs))
    (ho : s.heap.get? p = some { cls := .type "list", data := .seq its.toArray n }) (hf : f { cls := .type "list", data := .seq its.toArray n } = { cls := .type "list", data := .seq its'.toArray n' }) (r : Vals ys its') (hz : ys.length ≤ sizeLine) (t : Nat) :
    Inv X pins σ (upd H p (.lst ys)) { s with heap := s.heap.update p f, toks := t } := by
  have e : (s.heap.update p f).get? p = some { cls := .type "list", data := .seq its'.toArray n' } := by
    rw [Heap.get?_update_self f ho (by rw [hf] <;> rfl), hf]
  refine I.write (x := p) (e := p) (by rw [h]; trivial) (.inl rfl) (fun b u hb q => (Heap.get?_update_other _ _ (Ne.symm hb)).trans q) ⟨_, e⟩ ?_
  exact ⟨hz, its', n', r, e⟩
def rSetL : V → V → V → Hp → (Hp → Prop) → Prop := fun o i v H Q => ∃ p xs k j, o = .ref p ∧ i = .int k ∧ H p = some (.lst xs) ∧ ixN xs.length k = some j ∧ Q (upd H p (.lst (xs.set j v)))
theorem set_list : PSet X rSetL := by
  intro pins s σ H o i v ov iv u Q I ro ri rv h
  obtain ⟨p, xs, k, j, rfl, rfl, hp, hj, q⟩ := h
  cases ro
  obtain ⟨t, rfl⟩ := ri
  obtain ⟨its, n, r, ho, hz⟩ := I.lst hp
  obtain ⟨h1, h2, h3, h4⟩ := ixN_seq hj
  have hl := r.length
  have hn := line63
  have I' : Inv X pins σ (upd H p (.lst (xs.set j v))) { s with heap := s.heap.update p (Obj.mapSeq (·.setIfInBounds j u)) } :=
    I.lstUpd hp ho (mapSeq_set its n j u) (r.set rv j) (by rw [List.length_set]; exact hz) s.toks
  by_cases h0 : 0 ≤ k
  · have hk : k.toNat = j := by
      rw [seqIndex_of h0 h4] at h1
      exact Option.some.inj h1
    exact PySem.W.ki_setAt ho h0 (by omega) (by rw [List.size_toArray, ← hl]; exact h4) (by rw [hk]; exact ⟨_, I', q⟩)
  · have hk : (k + (its.toArray.size : Int)).toNat = j := by
      rw [seqIndex_neg (by omega) h3] at h1
      rw [List.size_toArray, ← hl]
      exact Option.some.inj h1
    exact PySem.W.ki_setBack ho (by omega) (by rw [List.size_toArray, ← hl]; exact h3) (by omega) (by rw [hk]; exact ⟨_, I', q⟩)

/-! ### slices -/
theorem slice_bounds (lo hi : Option Int) (n : Nat) : (sliceBounds lo hi none n).1 = ((HT.sIx n 0 lo : Nat) : Int) ∧ (sliceBounds lo hi none n).2.1 = ((HT.sIx n n hi : Nat) : Int) ∧ (sliceBounds lo hi none n).2.2 = 1 := by
  refine ⟨?_, ?_, rfl⟩
  · cases lo with
    | none => simp [sliceBounds, HT.sIx]
    | some i =>
      simp only [sliceBounds, HT.sIx, Option.getD_none, show (1 : Int) > 0 by decide, if_true]
      by_cases h : i < 0
      · simp only [h, if_true] <;> omega
      · simp only [h, if_false] <;> omega
  · cases hi with
    | none => simp [sliceBounds, HT.sIx]
    | some i =>
      simp only [sliceBounds, HT.sIx, Option.getD_none, show (1 : Int) > 0 by decide, if_true]
      by_cases h : i < 0
      · simp only [h, if_true] <;> omega
      · simp only [h, if_false] <;> omega
theorem slicePick_cut (its : List Value) (lo hi : Option Int) : slicePick its.toArray lo hi none = ((its.drop (HT.sIx its.length 0 lo)).take (HT.sIx its.length its.length hi - HT.sIx its.length 0 lo)).toArray := by
  obtain ⟨h1, h2, h3⟩ := slice_bounds lo hi its.toArray.size
  unfold slicePick
  rw [h1, h2, h3]
  simp only [sliceRange_one, pick_run, List.size_toArray] <;> rfl
/-- xs[lo:hi] of a list: a new list -/
def rSlL (K : PySem.W.Frag) : V → Option Int → Option Int → Hp → VK → Prop := fun x lo hi H Q => ∃ a xs, x = .ref a ∧ SqL K H a xs ∧ ∀ p, H p = none → Q (.ref p) (upd H p (.lst (cutV xs lo hi)))
theorem sl_list : SlR X (rSlL X.K) := by
  intro pins s σ H x v vl vu lo hi sl Q I rx hs pl pu h
  obtain ⟨a, xs, rfl, hx, q⟩ := h
  cases rx
  obtain ⟨its, r, ht, hz⟩ := I.list hx
  have hlen := r.length
  refine ⟨"list", _, slot_list_getitem.lookup, ht.isList.typeIs, ?_⟩
  refine wpAny_getItem_list_slice ht.isList hs pl pu .none (by simp) ?_ (by rw [List.size_toArray] <;> omega)
  rw [slicePick_cut, ← hlen]
  refine ⟨.ref s.heap.objs.size, _, I.laid (t' := s.toks) (o := .lst (cutV xs lo hi)) (fun b ob q => Heap.get?_push_of_some _ q) (Nat.le_refl _) ?_, rfl, q _ (I.hok.fresh (Nat.le_refl _))⟩
  exact ⟨Nat.le_trans (cutV_length xs lo hi) hz, _, 0, (r.drop (HT.sIx xs.length 0 lo)).take (HT.sIx xs.length xs.length hi - HT.sIx xs.length 0 lo), Heap.get?_push_size _ rfl⟩

/-! ### in, not in: flat items -/
def flatV : V → Bool
  | .non => true
  | .bl _ => true
  | .int _ => true
  | .str _ => true
  | _ => false
/-- == of flat values -/
def eqV : V → V → Bool
  | .non, .non => true
  | .bl a, .bl b => a == b
  | .bl a, .int b => (if a then 1 else 0) == b
  | .int a, .bl b => a == (if b then 1 else 0)
  | .int a, .int b => a == b
  | .str a, .str b => a == b
  | _, _ => false
theorem eqAt_V {A : Around} {s : Shared} {y x : V} {u v : Value} (ry : RelV y u) (rx : RelV x v) (fy : flatV y = true) (fx : flatV x = true) : SeqAt.EqAt A s u v (eqV y x) := by
  cases y with
  | non =>
    cases ry
    cases x with
    | non => cases rx; exact SeqAt.EqAt.same _
    | bl b => cases rx; exact SeqAt.EqAt.none_bool b
    | int b => obtain ⟨t, rfl⟩ := rx; exact SeqAt.EqAt.none_int b t
    | str b => obtain ⟨t, rfl⟩ := rx; exact SeqAt.EqAt.none_str b t
    | _ => exact absurd (show false = true from fx) Bool.false_ne_true
  | bl a =>
    cases ry
    cases x with
    | non => cases rx; exact SeqAt.EqAt.bool_none a
    | bl b => cases rx; exact SeqAt.EqAt.bool_bool a b
    | int b => obtain ⟨t, rfl⟩ := rx; exact SeqAt.EqAt.bool_int a b t
    | str b => obtain ⟨t, rfl⟩ := rx; exact SeqAt.EqAt.bool_str a b t
    | _ => exact absurd (show false = true from fx) Bool.false_ne_true
  | int a =>
    obtain ⟨t', rfl⟩ := ry
    cases x with
    | non => cases rx; exact SeqAt.EqAt.int_none a t'
    | bl b => cases rx; exact SeqAt.EqAt.int_bool a t' b
    | int b => obtain ⟨t, rfl⟩ := rx; exact SeqAt.EqAt.int_int a t' b t
    | str b => obtain ⟨t, rfl⟩ := rx; exact SeqAt.EqAt.int_str a t' b t
    | _ => exact absurd (show false = true from fx) Bool.false_ne_true
  | str a =>
    obtain ⟨t', rfl⟩ := ry
    cases x with
    | non => cases rx; exact SeqAt.EqAt.str_none a t'
    | bl b => cases rx; exact SeqAt.EqAt.str_bool a t' b
    | int b => obtain ⟨t, rfl⟩ := rx; exact SeqAt.EqAt.str_int a t' b t
    | str b => obtain ⟨t, rfl⟩ := rx; exact SeqAt.EqAt.str_str a t' b t
    | _ => exact absurd (show false = true from fx) Bool.false_ne_true
  | _ => exact absurd (show false = true from fy) Bool.false_ne_true
/-- the items' answers, read off the values (a value's own answer does not lean on its token) -/
def eqU (x : V) (u : Value) : Bool := match u with
  | .none => eqV .non x
  | .bool b => eqV (.bl b) x
  | .int i _ => eqV (.int i) x
  | .str z _ => eqV (.str z) x
  | _ => false
theorem eqU_of {x y : V} {u : Value} (r : RelV y u) (f : flatV y = true) : eqU x u = eqV y x := by
  cases y with
  | non => cases r; rfl
  | bl b => cases r; rfl
  | int i => obtain ⟨t, rfl⟩ := r; rfl
  | str z => obtain ⟨t, rfl⟩ := r; rfl
  | _ => exact absurd (show false = true from f) Bool.false_ne_true
theorem any_eqU {x : V} : ∀ {xs : List V} {us : List Value}, Vals xs us → xs.all flatV = true → us.any (eqU x) = xs.any fun y => eqV y x
  | _, _, .nil, _ => rfl
  | y :: xs, u :: us, .cons r t, f => by
    rw [List.all_cons, Bool.and_eq_true] at f
    rw [List.any_cons, List.any_cons, eqU_of r f.1, any_eqU t f.2]
theorem mem_eqAt {A : Around} {s : Shared} {x : V} {v : Value} (rx : RelV x v) (fx : flatV x = true) : ∀ {xs : List V} {us : List Value}, Vals xs us → xs.all flatV = true → ∀ u ∈ us, SeqAt.EqAt A s u v (eqU x u)
  | _, _, .nil, _ => fun u hu => by cases hu
  | y :: xs, u :: us, .cons r t, f => fun u' hu => by
    rw [List.all_cons, Bool.and_eq_true] at f
    rcases List.mem_cons.mp hu with rfl | hu
    · rw [eqU_of r f.1]; exact eqAt_V r rx f.1 fx
    · exact mem_eqAt rx fx t f.2 u' hu
def inV (x : V) (xs : List V) : Bool := xs.any fun y => eqV y x
/-- x in a list or tuple of flat items -/
def rIn (K : PySem.W.Frag) (neg : Bool) : R2 := fun x y H Q => ∃ p xs, y = .ref p ∧ (SqL K H p xs ∨ SqT K H p xs) ∧ flatV x = true ∧ xs.all flatV = true ∧ Q (.bl (if neg then !inV x xs else inV x xs)) H
theorem op_in_seq : OpR X (compareOp .In) (rIn X.K false) := by
  intro pins s σ H x y v u Q I rx ry h
  obtain ⟨p, xs, rfl, hq, fx, fs, q⟩ := h
  cases ry
  rcases hq with hq | hq
  · obtain ⟨its, r, pl, hz⟩ := I.list hq
    refine SeqAt.in_listAt (eqU x) pl.isList (fun w hw => mem_eqAt rx fx r fs w (by simpa using hw)) ⟨.bl _, H, I, rfl, ?_⟩
    rw [show its.toArray.any (eqU x) = its.any (eqU x) by simp, any_eqU r fs]
    exact q
  · obtain ⟨its, r, pl, hz⟩ := I.tuple hq
    refine SeqAt.in_tupleAt (eqU x) pl (fun w hw => mem_eqAt rx fx r fs w (by simpa using hw)) ⟨.bl _, H, I, rfl, ?_⟩
    rw [show its.toArray.any (eqU x) = its.any (eqU x) by simp, any_eqU r fs]
    exact q
/-! ### len, list(x), tuple(x) of any list or tuple that is read -/
theorem call_len_seq : CallR X (.builtin "len") (fun xs H Q => ∃ p ys, xs = [.ref p] ∧ (SqL X.K H p ys ∨ SqT X.K H p ys) ∧ Q (.int ys.length) H) := by
  intro pins s σ H xs us Q I r h
  obtain ⟨p, ys, rfl, hq, q⟩ := h
  obtain ⟨u, rfl, rx⟩ := vals1 r
  cases rx
  have hn := line63
  rcases hq with hq | hq
  · obtain ⟨its, r', pl, hz⟩ := I.list hq
    have hlen := r'.length
    exact Calls.call_len_list pl.isList (by simp only [List.size_toArray] <;> omega) ⟨.int ys.length, H, I.tok _, ⟨s.toks + 1, by rw [List.size_toArray, hlen]⟩, q⟩
  · obtain ⟨its, r', pl, hz⟩ := I.tuple hq
    have hlen := r'.length
    exact len_tuple pl (by simp only [List.size_toArray] <;> omega) ⟨.int ys.length, H, I.tok _, ⟨s.toks + 1, by rw [List.size_toArray, hlen]⟩, q⟩
theorem CallR.or {f : Value} {r r' : List V → Hp → VK → Prop} (h : CallR X f r) (h' : CallR X f r') : CallR X f (fun xs H Q => r xs H Q ∨ r' xs H Q) := by
  intro pins s σ H xs us Q I rs q
  rcases q with q | q
  · exact h pins s σ H xs us Q I rs q
  · exact h' pins s σ H xs us Q I rs q
theorem call_list_of : CallR X (.type "list") (fun xs H Q => ∃ p ys, xs = [.ref p] ∧ (SqL X.K H p ys ∨ SqT X.K H p ys) ∧ ∀ l, H l = none → Q (.ref l) (upd H l (.lst ys))) := by
  intro pins s σ H xs us Q I r h
  obtain ⟨p, ys, rfl, hq, q⟩ := h
  obtain ⟨u, rfl, rx⟩ := vals1 r
  cases rx
  have fin : ∀ (its : List Value), Vals ys its → ys.length ≤ sizeLine → ∀ (h' : Heap) (c' : Nat), (∀ b o', s.heap.get? b = some o' → h'.get? b = some o') →
      h'.get? s.heap.objs.size = some { cls := .type "list", dict := none, data := .seq its.toArray c', slots := #[] } → EP X pins σ Q (.ref s.heap.objs.size) { s with heap := h' } := fun its r' hz h' c' kp e =>
    ⟨.ref s.heap.objs.size, _, I.laid (t' := s.toks) kp (Nat.le_refl _) (show ObjOk X.prog X.w _ h' _ (.lst ys) from ⟨hz, its, c', r', e⟩), rfl, q _ (I.hok.fresh (Nat.le_refl _))⟩
  rcases hq with hq | hq
  · obtain ⟨its, r', pl, hz⟩ := I.list hq
    have hlen := r'.length
    obtain ⟨o, ho, hc, n, hd⟩ := pl.isList
    exact call_list_seq p (.inl rfl) ho hc hd (fun h' c' kp e => fin its r' hz h' c' kp e) (by simp only [List.size_toArray] <;> omega)
  · obtain ⟨its, r', pl, hz⟩ := I.tuple hq
    have hlen := r'.length
    obtain ⟨o, ho, hc, n, hd⟩ := pl
    exact call_list_seq p (.inr rfl) ho hc hd (fun h' c' kp e => fin its r' hz h' c' kp e) (by simp only [List.size_toArray] <;> omega)
/-! ### the call of a builtin's method: o.m(..) -/
/-- the value is of that builtin type -/
def tyV (K : PySem.W.Frag) (T : String) (x : V) (H : Hp) : Prop := match x with
  | .str _ => T = "str"
  | .int _ => T = "int"
  | .ref p => (T = "list" ∧ ∃ xs, SqL K H p xs) ∨ (T = "tuple" ∧ ∃ o, K.lookup p = some o ∧ o.cls = .type "tuple" ∧ o.dict = none) ∨
      (T = "dict" ∧ ((∃ kvs, H p = some (.dK kvs)) ∨ ∃ kvs, H p = some (.dT kvs))) ∨ (T = "set" ∧ ∃ S n, H p = some (.set S n))
  | _ => False
theorem tyV_is {pins : List (Addr × Obj)} {σ : St} {H : Hp} {s : Shared} {T : String} {x : V} {v : Value} (I : Inv X pins σ H s) (r : RelV x v) (ty : tyV X.K T x H) :
    s.TypeIs v T ∧ ∀ a, v = .ref a → ∃ ob, s.heap.get? a = some ob ∧ ob.dict = none := by
  cases x with
  | str z =>
    obtain ⟨t, rfl⟩ := r
    cases (show T = "str" from ty)
    exact ⟨typeIs_str s z t, fun _ e => nomatch e⟩
  | int i =>
    obtain ⟨t, rfl⟩ := r
    cases (show T = "int" from ty)
    exact ⟨typeIs_int s i t, fun _ e => nomatch e⟩
  | ref p =>
    cases r
    rcases ty with ⟨rfl, xs, hq⟩ | ⟨rfl, o, hk, hc, hd⟩ | ⟨rfl, hk⟩ | ⟨rfl, S, n, hk⟩
    · obtain ⟨its, _, pl, _⟩ := I.list hq
      refine ⟨pl.isList.typeIs, fun a e => ?_⟩
      cases e
      obtain ⟨o, n, e, c, hd, _⟩ := pl
      exact ⟨o, e, hd⟩
    · refine ⟨⟨o, I.kIn p o hk, hc⟩, fun a e => ?_⟩
      cases e
      exact ⟨o, I.kIn _ o hk, hd⟩
    · have z : ∃ o, s.heap.get? p = some o ∧ o.ExactDict := by
        rcases hk with ⟨kvs, hk⟩ | ⟨kvs, hk⟩
        · obtain ⟨_, _, _, _, o, _, _, e, ex, _⟩ := I.hok p _ hk
          exact ⟨o, e, ex⟩
        · obtain ⟨_, _, _, _, o, _, _, e, ex, _⟩ := I.hok p _ hk
          exact ⟨o, e, ex⟩
      obtain ⟨o, e, ex⟩ := z
      refine ⟨⟨o, e, ex.1⟩, fun a e2 => ?_⟩
      cases e2
      exact ⟨o, e, ex.2.1⟩
    · obtain ⟨o, _, _, _, e, ex, _⟩ := I.hok p _ hk
      refine ⟨⟨o, e, ex.1⟩, fun a e2 => ?_⟩
      cases e2
      exact ⟨o, e, ex.2.1⟩
  | _ => exact False.elim ty
def tBM0 (K : PySem.W.Frag) (T : String) (r : V → List V → Hp → VK → Prop) (to : TE) : TE := fun σ H Q => to σ H fun x H1 => tyV K T x H1 ∧ r x [] H1 Q
def tBM (K : PySem.W.Frag) (T : String) (r : V → List V → Hp → VK → Prop) (to : TE) (t : TA) : TE := fun σ H Q => to σ H fun x H1 => tyV K T x H1 ∧ t σ H1 fun xs H2 => r x xs H2 Q
variable {o e : Expr} {es : List Expr} {to : TE} {t : TA} {name : Str} {apos cpos : Pos} {T id : String} {r : V → List V → Hp → VK → Prop}
theorem pe_bm0 (pa : PlainAttrs T) (slot : Slot T name id) (hty : typeOf (.builtin id) = pure (.type "method_descriptor")) (hm : MtR X id r) (ho : PE X o to)
    (hbase : attributeBase o name X.env (eval o X.env) = eval o X.env := by rfl) (hline : (apos.endLine == cpos.line) = true := by rfl) : PE X (.Call (.Attribute o name apos) [] [] cpos) (tBM0 X.K T r to) := by
  intro pins s σ H Q I h
  refine wpAny_Call_method0_late hbase hline (thn (ho pins s σ H _ I h) fun v s1 ⟨x, H1, I1, r1, ty, q1⟩ => ?_)
  obtain ⟨h1, h2⟩ := tyV_is I1 r1 ty
  exact ⟨T, id, pa, slot, hty, h1, h2, Calls.callWith_builtin rfl (PySem.evalArgs_none (hm pins s1 σ H1 x [] v [] Q I1 r1 .nil q1))⟩
theorem pe_bm (pa : PlainAttrs T) (slot : Slot T name id) (hty : typeOf (.builtin id) = pure (.type "method_descriptor")) (hm : MtR X id r) (ho : PE X o to) (ha : PA X (e :: es) t)
    (hbase : attributeBase o name X.env (eval o X.env) = eval o X.env := by rfl)
    (hfew : ((backTo cpos (starEach (e :: es) X.env)).all (fun x => !x.1) && (backToKw cpos (keywordEach [] X.env)).all (fun x => x.1.isSome)
      && decide ((e :: es).length + ([] : List Keyword).length + (if ([] : List Keyword).isEmpty then 0 else 1) < 30)) = true := by rfl)
    (hline : (apos.endLine == cpos.line) = true := by rfl) (hs : starEach (e :: es) X.env = (false, eval e X.env) :: starEach es X.env := by rfl) (hplain : (backTo cpos (starEach es X.env)).any (·.1) = false := by rfl) :
    PE X (.Call (.Attribute o name apos) (e :: es) [] cpos) (tBM X.K T r to t) := by
  intro pins s σ H Q I h
  refine wpAny_Call_method_late hbase hfew hline rfl (thn (ho pins s σ H _ I h) fun v s1 ⟨x, H1, I1, r1, ty, q1⟩ => ?_)
  obtain ⟨h1, h2⟩ := tyV_is I1 r1 ty
  refine ⟨T, id, pa, slot, hty, h1, h2, ?_⟩
  have hA := ha cpos pins s1 σ H1 _ I1 q1
  rw [hs] at hA ⊢
  refine Calls.callWith_builtin (by show (false || (backTo cpos (starEach es X.env)).any (·.1)) = false; rw [hplain] <;> rfl) (Calls.evalArgs_plain ?_)
  exact thn hA fun us s2 ⟨vs, H2, I2, r2, q2⟩ => hm pins s2 σ H2 x vs v us Q I2 r1 r2 q2
end
end L2

namespace L2
open PySem PySem.Spec PyProof.Rows

def MtM (X : Cx) (id : String) (r : V → List V → Hp → VK → Prop) : Prop :=
  ∀ (pins : List (Addr × Obj)) (s : Shared) (σ : St) (H : Hp) (x : V) (xs : List V) (v : Value) (us : List Value) (Q : VK), Inv X pins σ H s → RelV x v → Vals xs us → r x xs H Q →
    wpAny (model X.prog X.w) X.A (call (.builtin id) (v :: us)) (EP X pins σ Q) X.xe s

/-! ### lists of values -/
theorem Vals.one : ∀ {x : V} {us : List Value}, Vals [x] us → ∃ u, us = [u] ∧ RelV x u
  | _, _, .cons r .nil => ⟨_, rfl, r⟩
theorem Vals.zero : ∀ {us : List Value}, Vals [] us → us = []
  | _, .nil => rfl
theorem Vals.dropLast {xs : List V} {us : List Value} (h : Vals xs us) : Vals xs.dropLast us.dropLast := by
  induction h with
  | nil => exact .nil
  | cons r t ih =>
    cases t with
    | nil => exact .nil
    | cons q t' => exact .cons r ih
theorem erase_last {α : Type} (l : List α) : l.eraseIdx (l.length - 1) = l.dropLast := by
  induction l with
  | nil => rfl
  | cons a r ih =>
    cases r with
    | nil => rfl
    | cons b r =>
      have e : (a :: b :: r).length - 1 = ((b :: r).length - 1) + 1 := by
        have h1 : (a :: b :: r).length = r.length + 2 := rfl
        have h2 : (b :: r).length = r.length + 1 := rfl
        omega
      rw [e, List.eraseIdx_cons_succ, ih]
      all_goals rfl
section
variable {X : Cx} {pins : List (Addr × Obj)} {σ : St} {H : Hp} {s : Shared} {l b : Addr} {xs ys zs : List V}

/-! ### the two steps: a tracked list is rewritten, a new list is laid -/
theorem Inv.lset {its its' : List Value} {n : Nat} {f : Array Value → Array Value} {t' : Nat} (I : Inv X pins σ H s) (hH : H l = some (.lst xs))
    (e : s.heap.get? l = some { cls := .type "list", data := .seq its.toArray n }) (hf : f its.toArray = its'.toArray) (hv : Vals ys its') (hz : ys.length ≤ sizeLine) :
    Inv X pins σ (upd H l (.lst ys)) { s with heap := s.heap.update l (Obj.mapSeq f), toks := t' } := by
  have q := PySem.IsL.update e f
  rw [hf] at q
  refine I.write (x := l) (e := l) (by rw [hH]; exact trivial) (.inl rfl) (fun b' u hb hu => (Heap.get?_update_other s.heap (Obj.mapSeq f) (Ne.symm hb)).trans hu) ⟨_, q⟩ ?_
  exact ⟨hz, its', _, hv, q⟩
theorem Inv.lnew {its : List Value} {t' : Nat} (I : Inv X pins σ H s) (hv : Vals ys its) (hz : ys.length ≤ sizeLine) :
    Inv X pins σ (upd H s.heap.objs.size (.lst ys)) { s with heap := s.heap.push { cls := .type "list", data := .seq its.toArray }, toks := t' } :=
  I.laid (fun _ _ q => Heap.get?_push_of_some _ q) (Nat.le_refl _) ⟨hz, its, 0, hv, Heap.get?_push_size _ rfl⟩
theorem Inv.fresh (I : Inv X pins σ H s) : H s.heap.objs.size = none := I.hok.fresh (Nat.le_refl _)
theorem Inv.lstM (I : Inv X pins σ H s) (hH : H l = some (.lst xs)) : xs.length ≤ sizeLine ∧ ∃ (its : List Value) (n : Nat), Vals xs its ∧ xs.length = its.length ∧ s.heap.get? l = some { cls := .type "list", data := .seq its.toArray n } := by
  obtain ⟨z, its, n, r, e⟩ := I.hok l _ hH
  exact ⟨z, its, n, r, r.length, e⟩

end

section
variable {X : Cx}

/-! ### methods -/
def rAppend : V → List V → Hp → VK → Prop := fun x vs H Q => ∃ l xs y, x = .ref l ∧ vs = [y] ∧ H l = some (.lst xs) ∧ xs.length < sizeLine ∧ Q .non (upd H l (.lst (xs ++ [y])))
theorem mt_append : MtM X "list.append" rAppend := by
  intro pins s σ H x vs v us Q I rx rv h
  obtain ⟨l, xs, y, rfl, rfl, hH, hz, q⟩ := h
  cases rx
  obtain ⟨u, rfl, ru⟩ := rv.one
  obtain ⟨z, its, n, r, hl, e⟩ := I.lstM hH
  refine call_meets F.slot_list_append ⟨_, e, rfl⟩ F.entry_list_append (F.args_list_append_2 _ _) (PySem.list_append l its.toArray n u (by rw [List.size_toArray]; omega)) ⟨e, ?_⟩
  refine ⟨.non, _, I.lset (its' := its ++ [u]) hH e (by simp) (r.append (.cons ru .nil)) ?_, rfl, q⟩
  rw [List.length_append, List.length_singleton]
  omega

def rPop : V → List V → Hp → VK → Prop := fun x vs H Q => ∃ l xs y, x = .ref l ∧ vs = [] ∧ H l = some (.lst xs) ∧ xs[xs.length - 1]? = some y ∧ Q y (upd H l (.lst xs.dropLast))
theorem mt_pop : MtM X "list.pop" rPop := by
  intro pins s σ H x vs v us Q I rx rv h
  obtain ⟨l, xs, y, rfl, rfl, hH, hy, q⟩ := h
  cases rx
  have hus := rv.zero
  subst hus
  obtain ⟨z, its, n, r, hl, e⟩ := I.lstM hH
  obtain ⟨u, hu, ru⟩ := r.get hy
  have hy' : its.toArray[its.toArray.size - 1]? = some u := by
    show its.toArray[its.length - 1]? = some u
    rw [← Array.getElem?_toList, ← hl]
    exact hu
  refine call_meets F.slot_list_pop ⟨_, e, rfl⟩ F.entry_list_pop (F.args_list_pop_1 _) (MeetsSeq.list_pop_last l its.toArray n u hy' (by rw [List.size_toArray]; omega)) ⟨e, ?_⟩
  refine ⟨y, _, I.lset (its' := its.dropLast) hH e ?_ r.dropLast ?_, ru, q⟩
  · show its.toArray.eraseIdxIfInBounds (its.toArray.size - 1) = its.dropLast.toArray
    rw [List.size_toArray, List.eraseIdxIfInBounds_toArray, erase_last]
  · rw [List.length_dropLast]
    omega

/-! ### list + list, list += list, list * int -/
def rCat : R2 := fun x y H Q => ∃ l b xs zs, x = .ref l ∧ y = .ref b ∧ H l = some (.lst xs) ∧ H b = some (.lst zs) ∧ xs.length + zs.length ≤ sizeLine ∧ ∀ p, H p = none → Q (.ref p) (upd H p (.lst (xs ++ zs)))
theorem op_cat : OpR X (binaryOp .Add) rCat := by
  intro pins s σ H x y v u Q I rx ry h
  obtain ⟨l, b, xs, zs, rfl, rfl, hH, hB, hz, q⟩ := h
  cases rx
  cases ry
  obtain ⟨z, its, n, r, hl, e⟩ := I.lstM hH
  obtain ⟨z2, its2, n2, r2, hl2, e2⟩ := I.lstM hB
  refine PySem.P.add_list e e2 ?_ (by rw [List.size_toArray, List.size_toArray]; omega)
  have ea : its.toArray ++ its2.toArray = (its ++ its2).toArray := by simp
  rw [ea]
  exact ⟨.ref _, _, I.lnew (t' := s.toks) (r.append r2) (by rw [List.length_append]; omega), rfl, q _ I.fresh⟩
/-! ### del xs[i] -/
end

/-! ### xs[a:b] = ys -/
section
variable {prog : Program} {w : World} {A : Around} {E : Value → Shared → Prop} {s : Shared}
end

section
variable {X : Cx}
end
end L2

namespace Att
open PySem PySem.W PySem.Calls PyProof.Rows

/-! ### the script -/
theorem ints_of_wellAll {P : Params} {h : Heap} : ∀ (ns : List Int) (vs : List Value), WellAll P h vs (ns.map WData.int) → IntsAre vs ns := by
  intro ns
  induction ns with
  | nil =>
    intro vs w
    rw [List.map_nil] at w
    cases w
    exact .nil
  | cons n ns ih =>
    intro vs w
    rw [List.map_cons] at w
    cases w with
    | cons a b =>
      cases a
      exact .cons _ _ (ih _ b)

theorem script_of {l : OpenLaw} {n : Nat} (hn : l.most = some n) {P : Params} {h : Heap} {args : List WData} {vals : List Value}
    (hpre : l.row.toRowW.claim.pre args = true) (hwl : WellAll P h vals args) :
    ∃ a vs ns, vals = [Value.ref a] ∧ args = [WData.list (ns.map WData.int)] ∧ h.get? a = some { cls := .type "list", data := .seq vs.toArray } ∧ IntsAre vs ns ∧ ns.length ≤ n := by
  have hsh : WShape.hasAll [] args [.list .int] = true := (pre_splitW hpre).1
  have hc : l.pre.holds [] { args := args } = true := (pre_splitW hpre).2
  obtain ⟨d, r, rfl, h1, h2⟩ := hasAllW_cons hsh
  obtain rfl := hasAllW_nil h2
  obtain ⟨xs, rfl, h3⟩ := hasW_list h1
  obtain ⟨ns, rfl⟩ := items_int h3
  have hlen : ns.length ≤ n := by
    unfold OpenLaw.pre at hc
    have h4 : (WTm.not (.lt (.lit (.int (n : Int))) (.len (.arg 0)))).holds [] { args := [.list (ns.map .int)] } = true := by
      have h4 := (holds_andW hc).1
      rw [hn] at h4
      exact h4
    have h5 := condW_of h4 (w_not (w_lt w_lit (w_len_list (w_arg rfl))))
    rw [List.length_map] at h5
    refine Nat.le_of_not_lt fun q => ?_
    have q' : (n : Int) < ((ns.length : Nat) : Int) := by omega
    first
      | (rw [decide_eq_true q'] at h5; exact absurd h5 (by decide))
      | (simp at h5; omega)
  cases hwl with
  | cons w1 w2 =>
    cases w2
    cases w1 with
    | list ho hall => exact ⟨_, _, ns, rfl, rfl, ho, ints_of_wellAll ns _ hall, hlen⟩

theorem post_true (l : OpenLaw) (args : List WData) : l.row.toRowW.claim.post args (.bool true) args = true :=
  postW_of (r := l.row.toRowW) (X := (true == true))
    (show WShape.has [] (.bool true) .bool = true by first | rfl | decide | simp [WShape.has, WShape.arms, WShape.armsAll])
    (show (WTm.eq .res (.lit (.bool true))).value [] { args := args, res := some (.bool true), after := args } = some (.bool (true == true)) from w_eq_bool (w_res rfl) w_lit) rfl

/-! ### the attachment: holds_open's last premise (the goal 'hc' behind k_head) from a wpAny of the law's body -/
/-- the same from a codeAny of the CALL (for a layer whose function contracts speak of calls) -/
theorem attach_call {l : OpenLaw} {n : Nat} {q : Program} {loose : List Str} {XP : (Str → Option Value) → Heap → Prop} {YP : World → Heap → Prop} {d : DefRec}
    (hn : l.most = some n) (hdf : d.params.defaults = [])
    (call : ∀ (w : World) (s₀ s₁ : Shared) (mg mb : Str → Option Value) (fa : Addr) (o : Obj) (pm cd doc : Value) (a : Addr) (vs : List Value) (ns : List Int),
      Ground q loose [] XP w s₀ mg mb s₁.heap → YP w s₁.heap →
      s₁.heap.get? fa = some o → o.data = .func (docDef d.name d.params d.body d.scope pm cd doc) → s₁.heap.CodeRec cd d.name → mg d.name = some (.ref fa) →
      s₁.heap.get? a = some { cls := .type "list", data := .seq vs.toArray } → IntsAre vs ns → ns.length ≤ n → s₁.gens = #[] →
      codeAny (model l.prog w) callerA (.call (.ref fa) ⟨[.ref a], []⟩) (fun r s' => r = .ok (.ret (.bool true)) ∧ OldK s₁.heap s'.heap ∧ s'.os = s₁.os ∧ AllBare s'.gens) s₁) :
    WalkO q loose XP YP l.row.toRowW d [] (fun f vs => PySem.call f vs) := by
  intro w s₀ s₁ mg mb G Y fa o pm cd doc dV kV ho hd hcd hD hmg hg args vals as hpre hlay hrd hwl hlo
  obtain rfl : dV = .none := Dflts.none hD hdf
  obtain rfl : kV = .none := Dflts.noKw hD
  obtain ⟨a, vs, ns, rfl, rfl, hobj, hints, hlen⟩ := script_of hn hpre hwl
  refine enter_call (codeAny_mono (call w s₀ s₁ mg mb fa o pm cd doc a vs ns G Y ho (fd_plain hd) hcd hmg hobj hints hlen hg) fun r s' hq => ?_)
  obtain ⟨rfl, h2, h3, h4⟩ := hq
  exact ⟨.inl ⟨.bool true, .bool true, [], rfl, fun _ => rfl, .bool true, post_true l _, fun _ => ⟨List.Pairwise.nil, fun _ hm => (nomatch hm)⟩⟩, h2, h3, h4⟩

/-! ### rules over ANY heap (no ledger) from facts about the written part K: the library's own take a ledger (News) for what they write -/
section
variable {prog : Program} {w : World} {A : Around} {E : Value → Shared → Prop} {s : Shared} {K : Frag}

/-! the whole heap as the ledger: makes every rule that writes through a ledger a rule over any heap -/
end
end Att

namespace L2
open PySem PySem.Spec PyProof.Rows

theorem vals_ints : ∀ {vs : List Value} {ns : List Int}, IntsAre vs ns → Vals (ns.map V.int) vs
  | _, _, .nil => .nil
  | _, _, .cons n t h => .cons ⟨t, rfl⟩ (vals_ints h)

/-- nothing is tracked but the script, known to the object (or it is an object of the module) -/
def Only (H : Hp) : Prop := ∀ b, H b = none ∨ ∃ o xs, H b = some (.frz o (.lst xs))

/-- THE HEAD: the law's promise, at the heap behind the top. F, the promise of the law's def, may use that base is part of the heap (so K.In base, base.Ns mainGlobals mg stand in Mod) -/
theorem law_call {P : Program} {w : World} {K : PySem.W.Frag} {mg mb : Str → Option Value} {CX : CXT} {k : Nat} {fa a : Addr} {fd : FuncData} {x : Str} {sp : Sp} {s₁ : Shared} {vs : List Value} {ns : List Int}
    (KX : K.In s₁.heap) (hns : s₁.heap.Ns mainGlobals mg) (hb : s₁.heap.Ns builtinsNs mb) (hbb : ∀ x : Str, x ≠ "__name__" → mb x = bootBuiltins x) (hlim : s₁.heap.NoLimit) (hg : s₁.gens = #[])
    (ha : s₁.heap.get? a = some { cls := .type "list", data := .seq vs.toArray }) (hi : IntsAre vs ns) (hl : ns.length ≤ sizeLine) (hr : Room k callerA)
    (F : ∀ base : Heap, K.In base → base.Ns mainGlobals mg → FnOk P w K mg base CX k fa fd [x] sp) (hbind : ∀ (s : Shared) (u : Value), BindsTo s fd ⟨[u], []⟩ [(x, u)])
    (hsp : ∀ H : Hp, Only H → SqL K H a (ns.map V.int) → sp [.ref a] H (fun v _ => v = .bl true) fun _ _ _ => False)
    (hCX : ∀ H e s', CX [] H s₁ (fun _ _ _ => False) e s' → False) :
    codeAny (model P w) callerA (.call (.ref fa) ⟨[.ref a], []⟩) (fun r s' => r = .ok (.ret (.bool true)) ∧ OldK s₁.heap s'.heap ∧ s'.os = s₁.os ∧ AllBare s'.gens) s₁ := by
  have rv := vals_ints hi
  have lenV := hi.length
  -- from an abstract heap in which nothing but the script may be tracked
  have core : ∀ H : Hp, Only H → SqL K H a (ns.map V.int) → HOk P w H s₁.heap → (∀ b, H b ≠ none → b = a) → (H a ≠ none → K.lookup a = none) →
      codeAny (model P w) callerA (.call (.ref fa) ⟨[.ref a], []⟩) (fun r s' => r = .ok (.ret (.bool true)) ∧ OldK s₁.heap s'.heap ∧ s'.os = s₁.os ∧ AllBare s'.gens) s₁ := by
    intro H hO hS hok hA hK
    have base_of : ∀ {b : Addr} {o : Obj}, s₁.heap.get? b = some o → H b = none → (hidT s₁.heap H).get? b = some o := fun e n => hidT_get e n
    have noA : ∀ {b : Addr} {o : Obj} {es : Array DictEntry} {ep : Nat}, s₁.heap.get? b = some o → o.data = .dict es ep → H b = none := fun {b o es ep} e d => by
      cases q : H b with
      | none => rfl
      | some u =>
        have e' : b = a := hA b (by rw [q]; simp)
        subst e'
        rw [ha] at e; cases e
        have d' : Data.seq vs.toArray _ = Data.dict es ep := d
        cases d'
    have nsK : ∀ {b : Addr} {m : Str → Option Value}, s₁.heap.Ns b m → (hidT s₁.heap H).Ns b m := fun {b m} ⟨o, es, ep, e, d, r⟩ => ⟨o, es, ep, base_of e (noA e d), d, r⟩
    have hKb : K.In (hidT s₁.heap H) := fun b o e => base_of (KX b o e) (by
      cases q : H b with
      | none => rfl
      | some u =>
        have e' : b = a := hA b (by rw [q]; simp)
        subst e'
        rw [hK (by rw [q]; simp)] at e; cases e)
    have hM : Mod K mg (hidT s₁.heap H) := ⟨hKb, nsK hns, ⟨mb, nsK hb, hbb⟩, let ⟨mc, h1, h2⟩ := hlim; ⟨mc, nsK h1, h2⟩⟩
    have e0 : Env0 P w K mg (hidT s₁.heap H) callerA [] s₁ H := ⟨rfl, hM, fun b o e => of_hidT e, Nat.le_of_eq (hidT_size _ _), trivial, fun b hb => absurd (show b ∈ ([] : List Addr) from hb) (by simp), hok, .of_eq hg⟩
    refine codeAny_mono ((F _ hKb (nsK hns)).run callerA [] s₁ H ⟨[.ref a], []⟩ [.ref a] [.ref a] _ _ hr e0 (hbind s₁ (.ref a)) (.cons rfl .nil) (hsp H hO hS)) fun r s' h => ?_
    cases r with
    | error e => exact (hCX H e s' h).elim
    | ok fl =>
      cases fl with
      | next => exact False.elim h
      | brk => exact False.elim h
      | cont => exact False.elim h
      | ret u =>
        obtain ⟨v, H', os, bare, un, hok', r', q⟩ := h
        have q' : v = .bl true := q
        subst q'
        obtain rfl : u = Value.bool true := r'
        refine ⟨rfl, OldK.of_keep fun b o e => ?_, os, bare⟩
        cases q : H b with
        | none => exact un.keep b o e q (by intro z; exact absurd (show b ∈ ([] : List Addr) from z) (by simp)) (by simp)
        | some u =>
          rcases hO b with z | ⟨ob, xs, z⟩
          · rw [q] at z; cases z
          · have z2 := un.frzs b ob _ z
            obtain ⟨e1, _⟩ := hok b _ z
            obtain ⟨e2, _⟩ := hok' b _ z2
            rw [e] at e1; cases e1
            exact e2
  cases hk : K.lookup a with
  | some o =>
    -- the script is one of the module's own objects
    have e := KX a o hk
    rw [ha] at e
    cases e
    refine core (fun _ => none) (fun _ => .inl rfl) (.inr ⟨_, vs.toArray, _, hk, rfl, rfl, rfl, by rw [List.size_toArray, lenV]; exact hl, by simpa using rv⟩) (fun b u z => by have z' : (none : Option HO) = some u := z; cases z') (fun b z => absurd rfl z) fun z => absurd rfl z
  | none =>
    refine core (fun b => if b = a then some (.frz { cls := .type "list", data := .seq vs.toArray } (.lst (ns.map V.int))) else none) (fun b => ?_) (.inl (.inr ⟨{ cls := .type "list", data := .seq vs.toArray }, if_pos rfl⟩)) (fun b u z => ?_) (fun b z => ?_) fun _ => hk
    · by_cases hb : b = a
      · exact .inr ⟨_, _, if_pos hb⟩
      · exact .inl (if_neg hb)
    · by_cases hb : b = a
      · have z' := (if_pos hb).symm.trans z
        cases z'
        subst hb
        exact ⟨ha, by rw [List.length_map]; exact hl, vs, _, rv, ha⟩
      · have z' := (if_neg hb).symm.trans z
        cases z'
    · by_cases hb : b = a
      · exact hb
      · exact absurd (if_neg hb) z
end L2

namespace L2
open PySem PySem.Spec PyProof.Rows

/-- the goal that k_head leaves (case hc), from the law's promise. F gives the function object fd (K's own) once, then the promise over every base -/
theorem walk_of {l : PySem.W.OpenLaw} {n k : Nat} {q : Program} {loose : List Str} {XP : (Str → Option Value) → Heap → Prop} {YP : World → Heap → Prop} {d : DefRec} {K : Params → PySem.W.Frag} {CX : World → CXT} {sp : World → Sp} {x : Str}
    (hn : l.most = some n) (hn2 : n ≤ sizeLine) (hdf : d.params.defaults = []) (hr : Room k callerA)
    (hY : ∀ (w : World) (h : Heap), YP w h → (K w.params).In h)
    (F : ∀ (w : World) (mg : Str → Option Value) (fa : Addr) (h : Heap), (K w.params).In h → h.Ns mainGlobals mg → mg d.name = some (.ref fa) →
      ∃ fd : FuncData, (∀ (s : Shared) (u : Value), BindsTo s fd ⟨[u], []⟩ [(x, u)]) ∧
        ∀ base : Heap, (K w.params).In base → base.Ns mainGlobals mg → FnOk l.prog w (K w.params) mg base (CX w) k fa fd [x] (sp w))
    (hsp : ∀ (w : World) (H : Hp) (a : Addr) (ns : List Int), ns.length ≤ n → Only H → SqL (K w.params) H a (ns.map V.int) → sp w [.ref a] H (fun v _ => v = .bl true) fun _ _ _ => False)
    (hCX : ∀ (w : World) (H : Hp) (s : Shared) (e : Value) (s' : Shared), CX w [] H s (fun _ _ _ => False) e s' → False) :
    PySem.W.WalkO q loose XP YP l.row.toRowW d [] (fun f vs => PySem.call f vs) := by
  refine Att.attach_call hn hdf fun w s₀ s₁ mg mb fa o pm cd doc a vs ns G Y ho hd hcd hmg hobj hints hlen hg => ?_
  have KX := hY w _ Y
  obtain ⟨fd, hb, hF⟩ := F w mg fa _ KX G.T.g hmg
  exact law_call KX G.T.g G.T.b G.T.builtins G.T.nolimit hg hobj hints (Nat.le_trans hlen hn2) hr hF hb (fun H hO hS => hsp w H a ns hlen hO hS) fun H e s' => hCX w H s₁ e s'
end L2


/-! SHORT WORDS over the layer: a def of the text, its body, what a loop and a test want. -/
namespace L2
open PySem PySem.Spec PyProof.Rows

/-! ### the text by places -/
/-- the j-th statement of a class's body -/
def inClass (s : Stmt) (j : Nat) : Stmt := match s with
  | .ClassDef _ _ _ body _ _ _ _ _ _ _ => body.getD j (.Pass ⟨0, 0, 0, 0⟩)
  | _ => .Pass ⟨0, 0, 0, 0⟩
def defArgs (s : Stmt) : Arguments := match s with
  | .FunctionDef _ a _ _ _ _ _ _ _ _ => a
  | _ => { posonlyargs := [], args := [], vararg := none, kwonlyargs := [], kw_defaults := [], kwarg := none, defaults := [] }
def defBody (s : Stmt) : List Stmt := match s with
  | .FunctionDef _ _ b _ _ _ _ _ _ _ => b
  | _ => []
def defScope (s : Stmt) : Scope := match s with
  | .FunctionDef _ _ _ _ _ _ sc _ _ _ => sc
  | _ => { kind := .function, names := [], isGenerator := false, isCoroutine := false }

/-! ### no exception leaves a def -/
abbrev CX0 : CXT := fun _ _ _ _ _ _ => False
abbrev E0 : XK := fun _ _ _ => False
theorem pass0 {X : Cx} : Passes CX0 X E0 := fun _ _ _ _ _ _ _ h => h.elim

/-! ### a def (or method) of the text as it stands behind the top -/
structure Fun (K : PySem.W.Frag) (x qual : Str) (st : Stmt) (f : Addr) (fd : FuncData) : Prop where
  ex : ∃ (oc : Value) (od : Option Addr) (kV doc pm : Value) (an : Option Addr) (cdv ct : Value) (osl : Array (Option Value)),
    fd = PySem.W.fnOf x qual (defArgs st) (defBody st) (defScope st) .none kV doc pm an cdv ct ∧ K.lookup f = some ⟨oc, od, .func fd, osl⟩ ∧ PySem.W.codeIn K cdv qual = true
  kp : PySem.W.keepIn K (.ref f) = true
section
variable {P : Program} {w : World} {K : PySem.W.Frag} {mg : Str → Option Value} {base : Heap}
/-- THE RULE for a def: its body as a term of rules, and the reading of that term -/
theorem Fun.ok {x qual : Str} {st : Stmt} {f : Addr} {fd : FuncData} {N ps : List Str} {k : Nat} {sp : Sp} (F : Fun K x qual st f fd) (S : FnScope N ps (defScope st)) (len : ∀ vs H Q E, sp vs H Q E → vs.length = ps.length)
    (hbody : ∀ (cdv : Value) (A : Around) (outer : List Env) (s : Shared) (H : Hp) (vs : List V) (Q : VK) (E : XK), Room k (A.deeper (envOfC qual (defScope st) s.heap.objs.size f cdv)) → sp vs H Q E →
      ∃ t, PSs (cxOf CX0 P w K mg base N qual (defScope st) f cdv A outer s H E).nox (defBody st) t ∧ t { nx := fun _ H' => Q .non H', rt := Q } (start N vs) H) : FnOk P w K mg base CX0 (k + 1) f fd ps sp := by
  obtain ⟨oc, od, kV, doc, pm, an, cdv, ct, osl, rfl, lk, hcd⟩ := F.ex
  refine fn_of lk hcd S len fun A outer s H vs Q E hr hsp => ?_
  obtain ⟨t, h, q⟩ := hbody cdv A outer s H vs Q E hr hsp
  exact ⟨t, h.nox, q⟩
/-- how its arguments bind (no defaults): h is «fun _ _ _ _ _ _ us hl => match us, hl with | [_, _], _ => rfl», one _ a parameter -/
theorem Fun.binds {x qual : Str} {st : Stmt} {f : Addr} {fd : FuncData} {ps : List Str} (F : Fun K x qual st f fd)
    (h : ∀ (kV doc pm : Value) (an : Option Addr) (cdv ct : Value) (us : List Value), us.length = ps.length → bindArgs (PySem.W.fnOf x qual (defArgs st) (defBody st) (defScope st) .none kV doc pm an cdv ct) ⟨us, []⟩ = pure (ps.zip us)) : Binds K fd ps [] := by
  obtain ⟨oc, od, kV, doc, pm, an, cdv, ct, osl, rfl, lk, hcd⟩ := F.ex
  exact .all (h kV doc pm an cdv ct)
theorem fun_mk {x qual : Str} {st : Stmt} {f : Addr} {oc : Value} {od an : Option Addr} {osl : Array (Option Value)} {kV doc pm cdv ct : Value} (l : K.lookup f = some ⟨oc, od, .func (PySem.W.fnOf x qual (defArgs st) (defBody st) (defScope st) .none kV doc pm an cdv ct), osl⟩)
    (c : PySem.W.codeIn K cdv qual = true) (k : PySem.W.keepIn K (.ref f) = true) : Fun K x qual st f (PySem.W.fnOf x qual (defArgs st) (defBody st) (defScope st) .none kV doc pm an cdv ct) := ⟨⟨oc, od, kV, doc, pm, an, cdv, ct, osl, rfl, l, c⟩, k⟩
end
theorem hu_of {A : Around} {k : Nat} (hr : Room k A) : A.units + 1 < cLine := Nat.lt_of_le_of_lt (Nat.add_le_add_left (by decide : 1 ≤ 64) _) hr.units
theorem small1000 {n : Nat} (h : n ≤ 1000) : n < sizeLine := Nat.lt_of_le_of_lt h (by decide)

/-! ### expressions in short: the name that stands in the i-th slot -/
section
variable {X : Cx}
theorem pv (i : Nat) {x : Str} {pos : Pos} (hN : X.N[i]? = some x := by rfl) (hv : Vis X.env.scope x := by first | exact Or.inl rfl | exact Or.inr (Or.inl rfl) | exact Or.inr (Or.inr rfl)) (hd : (x == ("__debug__" : Str)) = false := by decide)
    (hcd : (x == ("__classdict__" : Str)) = false := by decide) : PE X (.Name x pos) (tVar i) := pe_var hN hv hd hcd
end

/-! ### tests -/
/-! ### heaps -/
/-- all that was tracked is as it was -/
def Same (H H' : Hp) : Prop := ∀ b o, H b = some o → H' b = some o
theorem Same.refl (H : Hp) : Same H H := fun _ _ h => h
theorem Same.trans {H H1 H2 : Hp} (a : Same H H1) (b : Same H1 H2) : Same H H2 := fun c o h => b c o (a c o h)
theorem Same.free {H H' : Hp} (e : Same H H') {l : Addr} (h : H' l = Option.none) : H l = Option.none := by
  cases q : H l with
  | none => rfl
  | some o =>
    rw [e l o q] at h
    cases h
theorem Same.seq {K : PySem.W.Frag} {H H' : Hp} {a : Addr} {xs : List V} (e : Same H H') (h : SqL K H a xs) : SqL K H' a xs := by
  rcases h with (h | ⟨o, h⟩) | h
  · exact .inl (.inl (e _ _ h))
  · exact .inl (.inr ⟨o, e _ _ h⟩)
  · exact .inr h

end L2

namespace L2
open PySem PySem.Spec PyProof.Rows
/-! ### lists of pairs as tables -/
section
variable {κ : Type} [DecidableEq κ]
def valV (kvs : List (κ × V)) (k : κ) : Option V := (kvs.find? fun kv => decide (kv.1 = k)).map (·.2)
/-- in its place, or at the end -/
def putK (kvs : List (κ × V)) (k : κ) (v : V) : List (κ × V) :=
  if (kvs.any fun kv => decide (kv.1 = k)) = true then kvs.map (fun kv => if kv.1 = k then (kv.1, v) else kv) else kvs ++ [(k, v)]
def dropK (kvs : List (κ × V)) (k : κ) : List (κ × V) := kvs.filter fun kv => decide (kv.1 ≠ k)

theorem valV_pos {p : κ × V} {r : List (κ × V)} {k : κ} (e : p.1 = k) : valV (p :: r) k = some p.2 := by simp [valV, List.find?_cons, e]
theorem valV_neg {p : κ × V} {r : List (κ × V)} {k : κ} (e : ¬ p.1 = k) : valV (p :: r) k = valV r k := by simp [valV, List.find?_cons, e]
theorem valV_any (k : κ) : ∀ kvs : List (κ × V), (kvs.any fun kv => decide (kv.1 = k)) = (valV kvs k).isSome
  | [] => rfl
  | p :: r => by
    rw [List.any_cons]
    by_cases e : p.1 = k
    · simp only [valV_pos e, decide_eq_true e, Bool.true_or, Option.isSome_some]
    · rw [valV_neg e, decide_eq_false e, Bool.false_or]; exact valV_any k r
theorem valV_map (k j : κ) (y : V) : ∀ kvs : List (κ × V), valV (kvs.map fun kv => if kv.1 = k then (kv.1, y) else kv) j = (valV kvs j).map fun x => if j = k then y else x
  | [] => rfl
  | p :: r => by
    have ih := valV_map k j y r
    rw [List.map_cons]
    by_cases h : p.1 = k
    · rw [if_pos h]
      by_cases e : p.1 = j
      · rw [valV_pos (p := (p.1, y)) e, valV_pos e, Option.map_some, if_pos (e.symm.trans h)]
      · rw [valV_neg (p := (p.1, y)) e, valV_neg e, ih]
    · rw [if_neg h]
      by_cases e : p.1 = j
      · rw [valV_pos (p := p) e, valV_pos e, Option.map_some, if_neg (fun z => h (e.trans z))]
      · rw [valV_neg (p := p) e, valV_neg e, ih]
theorem valV_snoc (k j : κ) (y : V) : ∀ kvs : List (κ × V), valV kvs k = none → valV (kvs ++ [(k, y)]) j = if j = k then some y else valV kvs j
  | [], _ => by
    by_cases e : k = j
    · rw [if_pos e.symm]; exact valV_pos (p := (k, y)) e
    · rw [if_neg (fun z => e z.symm)]; exact valV_neg (p := (k, y)) e
  | p :: r, hn => by
    rw [List.cons_append]
    have hk : ¬ p.1 = k := fun z => by rw [valV_pos z] at hn; cases hn
    rw [valV_neg hk] at hn
    have ih := valV_snoc k j y r hn
    by_cases e : p.1 = j
    · rw [valV_pos e, valV_pos e, if_neg (fun z => hk (e.trans z))]
    · rw [valV_neg e, valV_neg e, ih]
theorem valV_put (kvs : List (κ × V)) (k j : κ) (y : V) : valV (putK kvs k y) j = if j = k then some y else valV kvs j := by
  unfold putK
  by_cases a : (kvs.any fun kv => decide (kv.1 = k)) = true
  · rw [if_pos a, valV_map]
    rw [valV_any] at a
    by_cases e : j = k
    · obtain ⟨x, hx⟩ := Option.isSome_iff_exists.mp a
      rw [if_pos e, e, hx, Option.map_some, if_pos rfl]
    · rw [if_neg e]
      cases valV kvs j with
      | none => rfl
      | some x => rw [Option.map_some, if_neg e]
  · rw [if_neg a]
    refine valV_snoc k j y kvs ?_
    rw [valV_any] at a
    cases q : valV kvs k with
    | none => rfl
    | some x => rw [q] at a; exact (a rfl).elim
theorem length_putK (kvs : List (κ × V)) (k : κ) (v : V) : (putK kvs k v).length ≤ kvs.length + 1 := by
  unfold putK
  split
  · rw [List.length_map]; omega
  · rw [List.length_append, List.length_cons, List.length_nil]; omega
theorem RelO.isSome_eq {o : Option V} {u : Option Value} (r : RelO o u) : o.isSome = u.isSome := by
  cases o with
  | none => cases u with
    | none => rfl
    | some _ => exact (show False from r).elim
  | some _ => cases u with
    | none => exact (show False from r).elim
    | some _ => rfl
/-- raw tables of the same keys -/
theorem KV.val {kvs : List (κ × V)} {vs : List (κ × Value)} (r : KV kvs vs) (k : κ) : RelO (valV kvs k) (valueAt vs k) := by
  unfold KV at r
  induction r with
  | nil => exact True.intro
  | @cons p q ps qs h t ih =>
    obtain ⟨h1, h2⟩ := h
    by_cases e : p.1 = k
    · have e' : q.1 = k := h1.symm.trans e
      have b : valueAt (q :: qs) k = some q.2 := by simp [valueAt, List.find?_cons, e']
      rw [valV_pos e, b]; exact h2
    · have e' : ¬ q.1 = k := fun z => e (h1.trans z)
      have b : valueAt (q :: qs) k = valueAt qs k := by simp [valueAt, List.find?_cons, e']
      rw [valV_neg e, b]; exact ih
theorem KV.any {kvs : List (κ × V)} {vs : List (κ × Value)} (r : KV kvs vs) (k : κ) : (kvs.any fun kv => decide (kv.1 = k)) = vs.any fun kv => decide (kv.1 = k) := by
  unfold KV at r
  induction r with
  | nil => rfl
  | cons h t ih => rw [List.any_cons, List.any_cons, ih, h.1]
theorem KV.repl {kvs : List (κ × V)} {vs : List (κ × Value)} (r : KV kvs vs) (k : κ) {y : V} {u : Value} (ry : RelV y u) :
    KV (kvs.map fun kv => if kv.1 = k then (kv.1, y) else kv) (vs.map fun kv => if kv.1 = k then (kv.1, u) else kv) := by
  unfold KV at r ⊢
  induction r with
  | nil => exact .nil
  | @cons p q ps qs h t ih =>
    rw [List.map_cons, List.map_cons]
    refine .cons ?_ ih
    obtain ⟨h1, h2⟩ := h
    by_cases e : p.1 = k
    · rw [if_pos e, if_pos (h1.symm.trans e)]; exact ⟨h1, ry⟩
    · rw [if_neg e, if_neg (fun z => e (h1.trans z))]; exact ⟨h1, h2⟩
theorem KV.put {kvs : List (κ × V)} {vs : List (κ × Value)} (r : KV kvs vs) (k : κ) {y : V} {u : Value} (ry : RelV y u) : KV (putK kvs k y) (stored vs k u) := by
  unfold putK stored
  rw [r.any k]
  by_cases e : (vs.any fun kv => decide (kv.1 = k)) = true
  · rw [if_pos e, if_pos e]; exact r.repl k ry
  · rw [if_neg e, if_neg e]; exact Paired.snoc r ⟨rfl, ry⟩
theorem KV.length {kvs : List (κ × V)} {vs : List (κ × Value)} (r : KV kvs vs) : kvs.length = vs.length := Paired.length r
end


/-! ### a tracked dict, its keys ints and texts or tuples of these -/
theorem kV_is {P : Program} {w : World} {k : Key} {u : Value} (r : RelV (kV k) u) : (mixKind P w).is k u = true := by
  cases k with
  | inl i => obtain ⟨t, e⟩ := (show ∃ t, u = Value.int i t from r); subst e; exact mixKind_int P w i t
  | inr x => obtain ⟨t, e⟩ := (show ∃ t, u = Value.str x t from r); subst e; exact mixKind_str P w x t
theorem items_are {P : Program} {w : World} : ∀ {ks : List Key} {us : List Value}, Vals (ks.map kV) us → ItemsAre (mixKind P w) ks us
  | [], _, r => by rw [List.map_nil] at r; cases r; exact .nil
  | k :: ks, _, r => by
    rw [List.map_cons] at r
    cases r with
    | cons h t => exact .cons (kV_is h) (items_are t)

/-- raw entries of a dict with tuple keys -/
abbrev KT (H : Hp) : List (List Key × V) → List (List Key × Addr × Value) → Prop := Paired fun p q => p.1 = q.1 ∧ H q.2.1 = some (.tup (p.1.map kV)) ∧ RelV p.2 q.2.2
theorem KT.val {H : Hp} {kvs : List (List Key × V)} {xs : List (List Key × Addr × Value)} (r : KT H kvs xs) (k : List Key) : RelO (valV kvs k) ((atKey xs k).map (·.2)) := by
  induction r with
  | nil => exact True.intro
  | @cons p q ps qs h t ih =>
    obtain ⟨h1, _, h2⟩ := h
    by_cases e : p.1 = k
    · have e' : q.1 = k := h1.symm.trans e
      have b : atKey (q :: qs) k = some q.2 := by simp [atKey, List.find?_cons, e']
      rw [valV_pos e, b]; exact h2
    · have e' : ¬ q.1 = k := fun z => e (h1.trans z)
      have b : atKey (q :: qs) k = atKey qs k := by simp [atKey, List.find?_cons, e']
      rw [valV_neg e, b]; exact ih
theorem KT.repl {H : Hp} {kvs : List (List Key × V)} {xs : List (List Key × Addr × Value)} (r : KT H kvs xs) (k : List Key) {y : V} {u : Value} (ry : RelV y u) :
    KT H (kvs.map fun kv => if kv.1 = k then (kv.1, y) else kv) (xs.map (putAt k u)) := by
  induction r with
  | nil => exact .nil
  | @cons p q ps qs h t ih =>
    rw [List.map_cons, List.map_cons]
    refine .cons ?_ ih
    obtain ⟨h1, h2, h3⟩ := h
    unfold putAt
    by_cases e : p.1 = k
    · rw [if_pos e, if_pos (h1.symm.trans e)]; exact ⟨h1, h2, ry⟩
    · rw [if_neg e, if_neg (fun z => e (h1.trans z))]; exact ⟨h1, h2, h3⟩
theorem KT.put {H : Hp} {kvs : List (List Key × V)} {xs : List (List Key × Addr × Value)} (r : KT H kvs xs) (k : List Key) {b : Addr} {y : V} {u : Value} (hb : H b = some (.tup (k.map kV))) (ry : RelV y u) :
    KT H (putK kvs k y) (storedH xs k b u) := by
  have e : (kvs.any fun kv => decide (kv.1 = k)) = (atKey xs k).isSome := by
    rw [valV_any, (r.val k).isSome_eq, Option.isSome_map]
  unfold putK storedH
  rw [e]
  by_cases q : (atKey xs k).isSome = true
  · rw [if_pos q, if_pos q]; exact r.repl k ry
  · rw [if_neg q, if_neg q]; exact Paired.snoc r ⟨rfl, hb, ry⟩
theorem KT.keeps {H H' : Hp} {kvs : List (List Key × V)} {xs : List (List Key × Addr × Value)} (r : KT H kvs xs) (ht : ∀ b ys, H b = some (.tup ys) → H' b = some (.tup ys)) : KT H' kvs xs :=
  Paired.mapP r fun _ _ z => ⟨z.1, ht _ _ z.2.1, z.2.2⟩

section
variable {P : Program} {w : World} {H : Hp} {h : Heap} {a : Addr}
theorem rd_of {u : HO} (ok : HOk P w H h) (e : Rd H a u) : ObjOk P w H h a u := e.ok ok
theorem dk_rd {kvs : List (Key × V)} (ok : HOk P w H h) (e : Rd H a (.dK kvs)) : kvs.length ≤ sizeLine ∧ (a == sysModules) = false ∧ ∃ vs, KV kvs vs ∧ h.DictOf (mixKind P w) a vs :=
  show ObjOk P w H h a (.dK kvs) from rd_of ok e
theorem dk_of {kvs : List (Key × V)} (ok : HOk P w H h) (e : H a = some (.dK kvs)) : kvs.length ≤ sizeLine ∧ (a == sysModules) = false ∧ ∃ vs, KV kvs vs ∧ h.DictOf (mixKind P w) a vs := dk_rd ok (.inl e)
/-- a tracked tuple of ints and texts is a key -/
theorem key_of {ks : List Key} (ok : HOk P w H h) (e : H a = some (.tup (ks.map kV))) : (tupleKind (mixKind P w)).is h ks a := by
  obtain ⟨_, its, r, o, h1, h2, n, h3⟩ := (show ObjOk P w H h a (.tup (ks.map kV)) from ok a _ e)
  exact ⟨o, its.toArray, n, h1, h2, h3, by simpa using items_are r⟩
theorem dt_rd {kvs : List (List Key × V)} (ok : HOk P w H h) (e : Rd H a (.dT kvs)) : kvs.length ≤ sizeLine ∧ (a == sysModules) = false ∧
    ∃ xs, KT H kvs xs ∧ h.DictOfH (tupleKind (mixKind P w)) a xs := by
  obtain ⟨z, y, xs, r, o, es, ep, h1, h2, h3, h4, h5⟩ := (show ObjOk P w H h a (.dT kvs) from rd_of ok e)
  refine ⟨z, y, xs, r, o, es, ep, h1, h2, h3, h4, fun x hx => ?_, h5⟩
  have all : ∀ {l : List (List Key × V)} {m : List (List Key × Addr × Value)}, KT H l m → ∀ x ∈ m, (tupleKind (mixKind P w)).is h x.1 x.2.1 := by
    intro l m q
    induction q with
    | nil => intro x hx; exact nomatch hx
    | @cons p q ps qs hq t ih =>
      intro x hx
      rcases List.mem_cons.mp hx with e | hx
      · subst e
        exact key_of ok (by rw [← hq.1]; exact hq.2.1)
      · exact ih x hx
  exact all r x hx
theorem dt_of {kvs : List (List Key × V)} (ok : HOk P w H h) (e : H a = some (.dT kvs)) : kvs.length ≤ sizeLine ∧ (a == sysModules) = false ∧
    ∃ xs, KT H kvs xs ∧ h.DictOfH (tupleKind (mixKind P w)) a xs := dt_rd ok (.inl e)
end

/-- what the dict at a holds at the key y -/
def DGet (H : Hp) (a : Addr) (y : V) (r : Option V) : Prop :=
  (∃ kvs k, Rd H a (.dK kvs) ∧ y = kV k ∧ r = valV kvs k) ∨ ∃ kvs k b, Rd H a (.dT kvs) ∧ y = .ref b ∧ H b = some (.tup (k.map kV)) ∧ r = valV kvs k
/-- the heap behind a[y] = v -/
def DPut (H : Hp) (a : Addr) (y v : V) (H' : Hp) : Prop :=
  (∃ kvs k, H a = some (.dK kvs) ∧ y = kV k ∧ kvs.length < sizeLine ∧ H' = upd H a (.dK (putK kvs k v))) ∨
  ∃ kvs k b, H a = some (.dT kvs) ∧ y = .ref b ∧ H b = some (.tup (k.map kV)) ∧ kvs.length < sizeLine ∧ H' = upd H a (.dT (putK kvs k v))
theorem DGet.k {H : Hp} {a : Addr} {kvs : List (Key × V)} {k : Key} (e : H a = some (.dK kvs)) : DGet H a (kV k) (valV kvs k) := .inl ⟨kvs, k, .inl e, rfl, rfl⟩
theorem DGet.t {H : Hp} {a b : Addr} {kvs : List (List Key × V)} {k : List Key} (e : H a = some (.dT kvs)) (eb : H b = some (.tup (k.map kV))) : DGet H a (.ref b) (valV kvs k) := .inr ⟨kvs, k, b, .inl e, rfl, eb, rfl⟩
theorem DPut.k {H : Hp} {a : Addr} {kvs : List (Key × V)} {k : Key} {v : V} (e : H a = some (.dK kvs)) (hl : kvs.length < sizeLine) : DPut H a (kV k) v (upd H a (.dK (putK kvs k v))) := .inl ⟨kvs, k, e, rfl, hl, rfl⟩
theorem DPut.t {H : Hp} {a b : Addr} {kvs : List (List Key × V)} {k : List Key} {v : V} (e : H a = some (.dT kvs)) (eb : H b = some (.tup (k.map kV))) (hl : kvs.length < sizeLine) :
    DPut H a (.ref b) v (upd H a (.dT (putK kvs k v))) := .inr ⟨kvs, k, b, e, rfl, eb, hl, rfl⟩


section
variable {X : Cx} {pins : List (Addr × Obj)} {σ : St} {H : Hp} {s : Shared} {a : Addr} {y v : V} {u r : Value} {o : Option V} {A : Around} {E : Value → Shared → Prop}

theorem Inv.big (I : Inv X pins σ H s) : sysModules < s.heap.objs.size := by
  have h : mainGlobals < s.heap.objs.size := (I.mod.glob.keeps I.bk).lt
  exact Nat.lt_trans (by decide) h

/-- d[y], there -/
theorem d_getItem {Q : Value → Shared → Prop} (hu : A.units + 1 < cLine) (I : Inv X pins σ H s) (g : DGet H a y (some v)) (ry : RelV y u) (h : ∀ w' s', Inv X pins σ H s' → RelV v w' → Q w' s') :
    wpAny (model X.prog X.w) A (getItem (.ref a) u) Q E s := by
  rcases g with ⟨kvs, k, e, ey, l⟩ | ⟨kvs, k, b, e, ey, eb, l⟩
  · subst ey
    obtain ⟨z, hd, vs, rel, dd⟩ := dk_rd I.hok e
    obtain ⟨w', hw, rw'⟩ := RelO.some_of (v := v) (o := valueAt vs k) (by rw [l]; exact rel.val k)
    exact wpAny_getItem_of (kV_is ry) dd.mapOf hw (h w' _ (I.tok _) rw')
  · subst ey
    cases (show u = Value.ref b from ry)
    obtain ⟨z, hd, xs, rel, dd⟩ := dt_rd I.hok e
    obtain ⟨w', hw, rw'⟩ := RelO.some_of (v := v) (o := (atKey xs k).map (·.2)) (by rw [l]; exact rel.val k)
    obtain ⟨p, hp, hp2⟩ := Option.map_eq_some_iff.mp hw
    refine wpAny_getItem_heap (tupleKind_room_in1 hu) (key_of I.hok eb) dd hp ?_
    rw [hp2]
    exact h w' _ (I.tok _) rw'
/-- a dict's object is replaced -/
theorem d_write {h' : Heap} {t' : Nat} {ob : HO} (I : Inv X pins σ H s) (mu : Mut (H a)) (hs : Heap.SameBut a s.heap h') (he : ∃ q, h'.get? a = some q) (new : ObjOk X.prog X.w (upd H a ob) h' a ob) :
    Inv X pins σ (upd H a ob) { s with heap := h', toks := t' } :=
  I.write (x := a) (e := a) mu (.inl rfl) (fun b q hb z => (hs.2 b hb).trans z) he new
theorem dk_new {P : Program} {w : World} {H' : Hp} {h' : Heap} {kvs : List (Key × V)} {vs : List (Key × Value)} (z : kvs.length ≤ sizeLine) (hd : (a == sysModules) = false) (rel : KV kvs vs) (dd : h'.DictOf (mixKind P w) a vs) :
    ObjOk P w H' h' a (.dK kvs) := ⟨z, hd, vs, rel, dd⟩
/-- d[y] = v -/
theorem d_setItem {H' : Hp} {Q : Unit → Shared → Prop} (hu : A.units + 1 < cLine) (I : Inv X pins σ H s) (g : DPut H a y v H') (ry : RelV y u) (rv : RelV v r) (h : ∀ s', Inv X pins σ H' s' → Q () s') :
    wpAny (model X.prog X.w) A (setItem (.ref a) u r) Q E s := by
  rcases g with ⟨kvs, k, e, ey, l, eH⟩ | ⟨kvs, k, b, e, ey, eb, l, eH⟩
  · subst ey eH
    obtain ⟨z, hd, vs, rel, dd⟩ := dk_of I.hok e
    have hz : vs.length ≤ sizeLine := by rw [← rel.length]; exact z
    have hl : (putK kvs k v).length ≤ sizeLine := by have := length_putK kvs k v; omega
    refine wpAny_setItem_pairs (hsz := hz) (kV_is ry) dd fun h' dd' hs => h _ ?_
    have he : ∃ q, h'.get? a = some q := let ⟨q, _, _, hq, _⟩ := dd'; ⟨q, hq⟩
    exact d_write I (by rw [e]; exact True.intro) hs he (dk_new hl hd (rel.put k rv) dd')
  · subst ey eH
    cases (show u = Value.ref b from ry)
    obtain ⟨z, hd, xs, rel, dd⟩ := dt_of I.hok e
    have hz : xs.length ≤ sizeLine := by rw [← Paired.length rel]; exact z
    have hl : (putK kvs k v).length ≤ sizeLine := by have := length_putK kvs k v; omega
    refine wpAny_setItem_heap (hsz := hz) (tupleKind_room_in1 hu) (key_of I.hok eb) dd fun h' dd' hs => h _ ?_
    obtain ⟨q, es, ep, hq, h2, h3, h4, _, h5⟩ := dd'
    refine d_write I (by rw [e]; exact True.intro) hs ⟨q, hq⟩ ⟨hl, hd, _, (rel.put k eb rv).keeps fun c ys ec => ?_, q, es, ep, hq, h2, h3, h4, h5⟩
    rw [upd_ne (ne_of ec e (fun z => nomatch z))]
    exact ec
end

section
variable {X : Cx} {pins : List (Addr × Obj)} {σ : St} {H : Hp} {s : Shared} {a : Addr} {kvs : List (Key × V)} {k : Key} {u : Value} {A : Around} {E : Value → Shared → Prop}
end


/-! ### readings and rules -/
/-- the element of a subscription, not a slice -/
def NoSl (i : Expr) : Prop := ∀ ov iv, subscripted i false ov iv = operate [ov, iv] (getItem ov iv)
theorem subD_of {prog : Program} {w : World} {A : Around} {E : Value → Shared → Prop} {s : Shared} {env : Env} {value slice : Expr} {pos : Pos} {T id : String} {Q : Value → Shared → Prop}
    (hl : typeLookup (.type T) "__getitem__" = pure (some (.builtin id))) (hs : NoSl slice)
    (h : wpAny (model prog w) A (eval value env) (fun o s₁ => wpAny (model prog w) A (eval slice env) (fun i s₂ => s₂.TypeIs o T ∧ wpAny (model prog w) A (getItem o i) Q E s₂) E s₁) E s) :
    wpAny (model prog w) A (eval (.Subscript value slice pos) env) Q E s := by
  refine Subscript_ (wpAny_mono h (fun o s₁ h₁ => wpAny_mono h₁ (fun i s₂ h₂ => ?_) fun _ _ x => x) fun _ _ x => x)
  obtain ⟨hT, h₂⟩ := h₂
  unfold subscriptTail
  refine wpAny_bind ?_
  rw [getitemInPython_of_ne hT.not_modules]
  refine wpAny_bind (wpAny_specialOf hT hl ?_)
  have fin : wpAny (model prog w) A (subscripted slice false o i) (fun r s₃ => wpAny (model prog w) A (letTemporaryGo value o r >>= fun _ => pure r) Q E s₃) E s₂ := by
    rw [hs o i]
    exact wpAny_operating (wpAny_mono h₂ (fun r s₃ h₃ => wpAny_bind (wpAny_letTemporaryGo (wpAny_pure h₃))) fun _ _ x => x)
  first
    | exact wpAny_pure (wpAny_bind fin)
    | exact wpAny_bind (wpAny_pure (wpAny_bind fin))
    | exact wpAny_bind fin

theorem dict_typeIs {X : Cx} {pins : List (Addr × Obj)} {σ : St} {H : Hp} {s : Shared} {a : Addr} {y : V} {o : Option V} (I : Inv X pins σ H s) (g : DGet H a y o) : s.TypeIs (.ref a) "dict" := by
  rcases g with ⟨kvs, k, e, _, _⟩ | ⟨kvs, k, b, e, _, _, _⟩
  · obtain ⟨_, _, vs, _, dd⟩ := dk_rd I.hok e
    exact dd.typeIs
  · obtain ⟨_, _, xs, _, dd⟩ := dt_rd I.hok e
    exact dd.typeIs
/-- d[y] -/
def tDGet (td ty : TE) : TE := fun σ H Q => td σ H fun x H1 => ty σ H1 fun y H2 => ∃ a v, x = .ref a ∧ DGet H2 a y (some v) ∧ Q v H2
/-- d[y] = v -/
def sDPut (td ty tv : TE) : TS := fun D σ H => tv σ H fun v H1 => td σ H1 fun x H2 => ty σ H2 fun y H3 => ∃ a H4, x = .ref a ∧ DPut H3 a y v H4 ∧ D.nx σ H4
section
variable {X : Cx} {o i e value : Expr} {pos pos' tpos : Pos} {td ty tv : TE}
theorem pe_dget (hu : X.A.units + 1 < cLine) (ho : PE X o td) (hi : PE X i ty) (hs : NoSl i) : PE X (.Subscript o i pos) (tDGet td ty) := by
  intro pins s σ H Q I h
  refine subD_of PySem.F.slot_dict_getitem.lookup hs (thn (ho pins s σ H _ I h) fun u s1 ⟨x, H1, I1, rx, q1⟩ => thn (hi pins s1 σ H1 _ I1 q1) fun iv s2 ⟨y, H2, I2, ry, a, v, ex, g, q2⟩ => ?_)
  subst ex
  obtain rfl : u = Value.ref a := rx
  exact ⟨dict_typeIs I2 g, d_getItem hu I2 g ry fun w' s3 I3 rw' => ⟨v, H2, I3, rw', q2⟩⟩
theorem ps_dput (hu : X.A.units + 1 < cLine) (ho : PE X o td) (hi : PE X i ty) (hv : PE X value tv) (hs : swapsWith value (some (.Subscript o i pos')) pos.line X.env = pure false) :
    PS X (.Assign [.Subscript o i pos'] value pos) (sDPut td ty tv) := by
  intro pins s σ H D I h
  refine wpAny_Assign_Subscript (thn (hv pins s σ H _ I h) fun r s1 ⟨v, H1, I1, rv, q1⟩ => thn (ho pins s1 σ H1 _ I1 q1) fun u s2 ⟨x, H2, I2, rx, q2⟩ => thn (hi pins s2 σ H2 _ I2 q2) fun iv s3 ⟨y, H3, I3, ry, a, H4, ex, g, q3⟩ => ?_) hs
  subst ex
  obtain rfl : u = Value.ref a := rx
  exact d_setItem hu I3 g ry rv fun s4 I4 => ⟨σ, H4, I4, q3⟩
end


/-! ### displays -/
theorem dt_empty {P : Program} {w : World} {H : Hp} (h : Heap) (hb : sysModules < h.objs.size) : ObjOk P w H (h.push { cls := .type "dict", data := .dict #[] }) h.objs.size (.dT []) :=
  ⟨Nat.zero_le _, beq_eq_false_iff_ne.mpr (Ne.symm (Nat.ne_of_lt hb)), [], .nil, _, #[], 0, Heap.get?_push_size _ rfl, ⟨rfl, rfl, rfl⟩, rfl, rfl, List.nodup_nil⟩
def tDNewT : TE := fun _ H Q => ∀ p, H p = none → Q (.ref p) (upd H p (.dT []))
section
variable {X : Cx} {pos : Pos}
theorem pe_dnewT : PE X (.Dict [] [] pos) tDNewT := fun pins s σ H Q I h =>
  wpAny_Dict_empty ⟨.ref s.heap.objs.size, _, I.laid (a := s.heap.objs.size) (o := .dT []) (t' := s.toks) (fun _ _ q => Heap.get?_push_of_some _ q) (Nat.le_refl _) (dt_empty s.heap I.big), rfl, h _ (I.hok.fresh (Nat.le_refl _))⟩
end
end L2
namespace L2
open PySem
/-! ### readings, step by step -/
abbrev rAddI : R2 := rI0 fun i j => .int (i + j)
abbrev rSubI : R2 := rI0 fun i j => .int (i - j)
abbrev rMulI : R2 := rI CMul fun i j => .int (i * j)
abbrev rDivI : R2 := rI CDiv fun i j => .int (i / j)
abbrev rModI : R2 := rI (fun _ j => 0 < j) fun i j => .int (i % j)
abbrev rPowI : R2 := rI CPow fun i j => .int (i ^ j.toNat)
abbrev rLtI : R2 := rI0 fun i j => .bl (decide (i < j))
abbrev rLeI : R2 := rI0 fun i j => .bl (decide (i ≤ j))
abbrev rGtI : R2 := rI0 fun i j => .bl (decide (j < i))
abbrev rGeI : R2 := rI0 fun i j => .bl (decide (j ≤ i))
abbrev rNegI : V → Hp → VK → Prop := rU fun i => .int (-i)
abbrev XE0 : XK := fun _ _ _ => False
def rLen (K : PySem.W.Frag) : List V → Hp → VK → Prop := fun xs H Q => ∃ p ys, xs = [.ref p] ∧ (SqL K H p ys ∨ SqT K H p ys) ∧ Q (.int ys.length) H
def rMin2 : List V → Hp → VK → Prop := fun xs H Q => ∃ i j, xs = [.int i, .int j] ∧ Q (.int (if j < i then j else i)) H
def rMax2 : List V → Hp → VK → Prop := fun xs H Q => ∃ i j, xs = [.int i, .int j] ∧ Q (.int (if j > i then j else i)) H
/-- isinstance(x, c): what the class of x says; classes by number: int, bool, str, None's, list, tuple -/
def isiT (t : Nat) : String → Option Bool
  | "int" => if t ≤ 1 then some true else some false
  | "bool" => if t = 1 then some true else some false
  | "str" => if t = 2 then some true else some false
  | "list" => if t = 4 then some true else some false
  | "tuple" => if t = 5 then some true else some false
  | _ => none
def kdV : V → Option Nat
  | .int _ => some 0
  | .bl _ => some 1
  | .str _ => some 2
  | .non => some 3
  | _ => none
def kdO : HO → Option Nat
  | .lst _ => some 4
  | .tup _ => some 5
  | _ => none
def isiV (x : V) (c : String) : Option Bool := (kdV x).bind fun t => isiT t c
def isiO (o : HO) (c : String) : Option Bool := (kdO o).bind fun t => isiT t c
def rIsi : List V → Hp → VK → Prop := fun xs H Q => ∃ x c b, xs = [x, .ty c] ∧ (isiV x c = some b ∨ ∃ a o, x = .ref a ∧ H a = some o ∧ isiO o c = some b) ∧ Q (.bl b) H
def rNeL0 : R2 := fun x y H Q => ∃ a b xs, x = .ref a ∧ y = .ref b ∧ H a = some (.lst xs) ∧ H b = some (.lst []) ∧ Q (.bl (!xs.isEmpty)) H
def rIsN : R2 := fun x y H Q => y = .non ∧ Q (.bl (decide (x = .non))) H
def rNotN : R2 := fun x y H Q => y = .non ∧ Q (.bl (!decide (x = .non))) H
/-- an item of a list or of a tuple -/
def rIx2 (K : PySem.W.Frag) : R2 := fun x y H Q => rIxL K x y H Q ∨ rIxT K x y H Q
/-- isinstance(x, (c, d)) -/
def rIsiT : List V → Hp → VK → Prop := fun xs H Q => ∃ x p c d b e, xs = [x, .ref p] ∧ H p = some (.tup [.ty c, .ty d]) ∧ (isiV x c = some b ∧ isiV x d = some e ∨ ∃ a o, x = .ref a ∧ H a = some o ∧ isiO o c = some b ∧ isiO o d = some e) ∧ Q (.bl (b || e)) H
/-- int(b) -/
def rIntB : List V → Hp → VK → Prop := fun xs H Q => ∃ k, xs = [.bl k] ∧ Q (.int (if k then 1 else 0)) H
/-- list(x) -/
def rListL (K : PySem.W.Frag) : List V → Hp → VK → Prop := fun xs H Q => ∃ p ys, xs = [.ref p] ∧ SqL K H p ys ∧ ∀ l, H l = none → Q (.ref l) (upd H l (.lst ys))
def rSumL (K : PySem.W.Frag) : List V → Hp → VK → Prop := fun xs H Q => ∃ (a : Addr) (ns : List Int), xs = [.ref a] ∧ SqL K H a (ns.map V.int) ∧ Q (.int ns.sum) H
def rMinL (K : PySem.W.Frag) : List V → Hp → VK → Prop := fun xs H Q => ∃ (a : Addr) (ns : List Int), xs = [.ref a] ∧ SqL K H a (ns.map V.int) ∧ 0 < ns.length ∧ ∀ M, M ∈ ns → (∀ x, x ∈ ns → M ≤ x) → Q (.int M) H
def rMaxL (K : PySem.W.Frag) : List V → Hp → VK → Prop := fun xs H Q => ∃ (a : Addr) (ns : List Int), xs = [.ref a] ∧ SqL K H a (ns.map V.int) ∧ 0 < ns.length ∧ ∀ M, M ∈ ns → (∀ x, x ∈ ns → x ≤ M) → Q (.int M) H
/-- a product of two numbers of a few hundred bits -/
def CBig (i j : Int) : Prop := i.natAbs < 2 ^ 500 ∧ j.natAbs < 2 ^ 500
abbrev rMulB : R2 := rI CBig fun i j => .int (i * j)
/-! ### a list comprehension -/
section
variable {K : PySem.W.Frag} {D : Ends} {σ : St} {H : Hp} {Q : VK} {t u : TS} {ta tb tc : TE} {c c' : TT} {i : Nat} {v x y : V} {tl : TA} {R : Bool → Hp → Prop} {RA : List V → Hp → Prop}
theorem w_seq (h : t { D with nx := u D } σ H) : tSeq t u D σ H := h
theorem w_seqA {g : TG} (h : tAsg ta g { D with nx := u D } σ H) : tSeq (tAsg ta g) u D σ H := h
theorem w_seqD (h : tDrop ta { D with nx := u D } σ H) : tSeq (tDrop ta) u D σ H := h
/-- an if with more behind it: M is what both ways reach -/
theorem w_seqI {e : TS} (M : St → Hp → Prop) (h2 : ∀ σ H, M σ H → u D σ H) (h1 : (∀ σ H, M σ H → u D σ H) → tIfS c t e { D with nx := u D } σ H) : tSeq (tIfS c t e) u D σ H := h1 h2
theorem w_next (h : D.nx σ H) : tNext D σ H := h
theorem w_var (e : σ[i]? = some (some v)) (h : Q v H) : tVar i σ H Q := ⟨v, e, h⟩
theorem w_c (h : Q v H) : tC v σ H Q := h
theorem w_ret (h : ta σ H D.rt) : tRet ta D σ H := h
theorem w_drop (h : ta σ H fun _ H1 => D.nx σ H1) : tDrop ta D σ H := h
theorem w_asg {g : TG} (h : ta σ H fun x H1 => g x σ H1 D.nx) : tAsg ta g D σ H := h
theorem w_name {R : St → Hp → Prop} (h : R (σ.set i (some v)) H) : gName i v σ H R := h
theorem w_test (h : ta σ H fun x H' => ∃ k, x = .bl k ∧ R k H') : tTest ta σ H R := h
theorem w_tB (h : ta σ H fun x H' => ∃ k, x = .bl k ∧ R k H') : tB ta σ H R := h
theorem w_bl {b : Bool} {R : Bool → Prop} (h : R b) : ∃ k, V.bl b = .bl k ∧ R k := ⟨b, rfl, h⟩
theorem w_ifS (h : c σ H fun b H1 => if b = true then t D σ H1 else u D σ H1) : tIfS c t u D σ H := h
theorem w_op {r : R2} (h : ta σ H fun x H1 => tb σ H1 fun y H2 => r x y H2 Q) : tOp r ta tb σ H Q := h
theorem w_un {r : V → Hp → VK → Prop} (h : ta σ H fun x H1 => r x H1 Q) : tUn r ta σ H Q := h
theorem w_u {g : Int → V} {i : Int} (h : Q (g i) H) : rU g (.int i) H Q := ⟨i, rfl, h⟩
theorem w_i0 {g : Int → Int → V} {i j : Int} (h : Q (g i j) H) : rI0 g (.int i) (.int j) H Q := ⟨i, j, rfl, rfl, h⟩
theorem w_i {C : Int → Int → Prop} {g : Int → Int → V} {i j : Int} (hc : C i j) (h : Q (g i j) H) : rI C g (.int i) (.int j) H Q := ⟨i, j, rfl, rfl, hc, h⟩
theorem w_eqI {i j : Int} (h : Q (.bl (decide (i = j))) H) : rEq (.int i) (.int j) H Q := by
  refine ⟨rfl, ?_⟩
  have e : decide (V.int i = V.int j) = decide (i = j) := decide_eq_decide.mpr ⟨fun q => V.int.inj q, fun q => congrArg V.int q⟩
  rw [e]; exact h
theorem w_neI {i j : Int} (h : Q (.bl (!decide (i = j))) H) : rNe (.int i) (.int j) H Q := by
  refine ⟨rfl, ?_⟩
  have e : decide (V.int i = V.int j) = decide (i = j) := decide_eq_decide.mpr ⟨fun q => V.int.inj q, fun q => congrArg V.int q⟩
  rw [e]; exact h
theorem w_eqS {i j : Str} (h : Q (.bl (decide (i = j))) H) : rEq (.str i) (.str j) H Q := by
  refine ⟨rfl, ?_⟩
  have e : decide (V.str i = V.str j) = decide (i = j) := decide_eq_decide.mpr ⟨fun q => V.str.inj q, fun q => congrArg V.str q⟩
  rw [e]; exact h
theorem w_neS {i j : Str} (h : Q (.bl (!decide (i = j))) H) : rNe (.str i) (.str j) H Q := by
  refine ⟨rfl, ?_⟩
  have e : decide (V.str i = V.str j) = decide (i = j) := decide_eq_decide.mpr ⟨fun q => V.str.inj q, fun q => congrArg V.str q⟩
  rw [e]; exact h
theorem w_and (h : c σ H fun b H1 => if b = true then c' σ H1 R else R false H1) : tAnd c c' σ H R := h
theorem w_or (h : c σ H fun b H1 => if b = true then R true H1 else c' σ H1 R) : tOr c c' σ H R := h
theorem w_not (h : c σ H fun b H1 => R (!b) H1) : tNot c σ H R := h
theorem w_andV (h : ta σ H fun x H1 => ∃ c, x = .bl c ∧ if c = true then tb σ H1 Q else Q (.bl false) H1) : tAndV ta tb σ H Q := h
theorem w_orV (h : ta σ H fun x H1 => ∃ c, x = .bl c ∧ if c = true then Q (.bl true) H1 else tb σ H1 Q) : tOrV ta tb σ H Q := h
theorem w_notV (h : ta σ H fun x H1 => ∃ c, x = .bl c ∧ Q (.bl (!c)) H1) : tNotV ta σ H Q := h
theorem w_bl2 {b : Bool} {A B : Prop} (h : if b = true then A else B) : ∃ c, V.bl b = .bl c ∧ if c = true then A else B := ⟨b, rfl, h⟩
theorem w_nil (h : RA [] H) : tNil σ H RA := h
theorem w_cons {tr : TA} (h : ta σ H fun x H1 => tr σ H1 fun xs H2 => RA (x :: xs) H2) : tCons ta tr σ H RA := h
theorem w_call {sp : Sp} {E : XK} (h : tl σ H fun vs H1 => sp (vs ++ []) H1 Q E) : tCall sp [] E tl σ H Q := h
theorem w_cb {r : List V → Hp → VK → Prop} (h : tl σ H fun vs H1 => r vs H1 Q) : tCB r tl σ H Q := h
theorem w_tup (h : tl σ H fun xs H1 => xs.length ≤ sizeLine ∧ ∀ p, H1 p = none → Q (.ref p) (upd H1 p (.tup xs))) : tTup tl σ H Q := h
theorem w_lst (h : tl σ H fun xs H1 => xs.length ≤ sizeLine ∧ ∀ p, H1 p = none → Q (.ref p) (upd H1 p (.lst xs))) : tLst tl σ H Q := h
theorem w_new {xs : List V} {A : Prop} (hl : xs.length ≤ 1000) (h : A) : xs.length ≤ sizeLine ∧ A := ⟨Nat.le_trans hl (by decide), h⟩
theorem w_len {a : Addr} {xs : List V} (hS : SqL K H a xs) (h : Q (.int xs.length) H) : rLen K [.ref a] H Q := ⟨a, xs, rfl, .inl hS, h⟩
theorem w_lenT {a : Addr} {xs : List V} (hS : SqT K H a xs) (h : Q (.int xs.length) H) : rLen K [.ref a] H Q := ⟨a, xs, rfl, .inr hS, h⟩
theorem w_min2 {i j : Int} (h : Q (.int (if j < i then j else i)) H) : rMin2 [.int i, .int j] H Q := ⟨i, j, rfl, h⟩
theorem w_max2 {i j : Int} (h : Q (.int (if j > i then j else i)) H) : rMax2 [.int i, .int j] H Q := ⟨i, j, rfl, h⟩
theorem w_isiV {x : V} {c : String} {b : Bool} (e : isiV x c = some b) (h : Q (.bl b) H) : rIsi [x, .ty c] H Q := ⟨x, c, b, rfl, .inl e, h⟩
theorem w_isiO {a : Addr} {o : HO} {c : String} {b : Bool} (ho : H a = some o) (e : isiO o c = some b) (h : Q (.bl b) H) : rIsi [.ref a, .ty c] H Q := ⟨.ref a, c, b, rfl, .inr ⟨a, o, rfl, ho, e⟩, h⟩
theorem w_neL0 {a b : Addr} {xs : List V} (h1 : H a = some (.lst xs)) (h2 : H b = some (.lst [])) (h : Q (.bl (!xs.isEmpty)) H) : rNeL0 (.ref a) (.ref b) H Q := ⟨a, b, xs, rfl, rfl, h1, h2, h⟩
theorem w_ixL {a : Addr} {xs : List V} {i : Int} (hS : SqL K H a xs) (hv : atI xs i = some v) (h : Q v H) : rIxL K (.ref a) (.int i) H Q := ⟨a, xs, i, v, rfl, rfl, hS, hv, h⟩
theorem w_ixT {a : Addr} {xs : List V} {i : Int} (hS : SqT K H a xs) (hv : atI xs i = some v) (h : Q v H) : rIxT K (.ref a) (.int i) H Q := ⟨a, xs, i, v, rfl, rfl, hS, hv, h⟩
theorem w_cat {l b : Addr} {xs zs : List V} (h1 : H l = some (.lst xs)) (h2 : H b = some (.lst zs)) (hz : xs.length + zs.length ≤ sizeLine) (h : ∀ p, H p = none → Q (.ref p) (upd H p (.lst (xs ++ zs)))) : rCat (.ref l) (.ref b) H Q :=
  ⟨l, b, xs, zs, rfl, rfl, h1, h2, hz, h⟩
theorem w_append {l : Addr} {xs : List V} (h1 : H l = some (.lst xs)) (hz : xs.length < sizeLine) (h : Q .non (upd H l (.lst (xs ++ [y])))) : rAppend (.ref l) [y] H Q := ⟨l, xs, y, rfl, rfl, h1, hz, h⟩
theorem w_pop {l : Addr} {xs : List V} (h1 : H l = some (.lst (xs ++ [y]))) (h : Q y (upd H l (.lst xs))) : rPop (.ref l) [] H Q := by
  refine ⟨l, xs ++ [y], y, rfl, rfl, h1, by simp, ?_⟩
  rw [List.dropLast_concat]; exact h
theorem w_bm {T : String} {r : V → List V → Hp → VK → Prop} (h : ta σ H fun x H1 => tyV K T x H1 ∧ tl σ H1 fun xs H2 => r x xs H2 Q) : tBM K T r ta tl σ H Q := h
theorem w_bm0 {T : String} {r : V → List V → Hp → VK → Prop} (h : ta σ H fun x H1 => tyV K T x H1 ∧ r x [] H1 Q) : tBM0 K T r ta σ H Q := h
theorem w_ty {a : Addr} {xs : List V} {A : Prop} (h1 : H a = some (.lst xs)) (h : A) : tyV K "list" (.ref a) H ∧ A := ⟨.inl ⟨rfl, xs, SqL.of h1⟩, h⟩
theorem w_for {wi : TI} {g : TG} (h : wi σ H fun J H1 => ∃ W : Nat → Nat → St → Hp → Prop, (∃ m, W 0 m σ H1) ∧ ∀ i m σ H, W i m σ H →
  (J.stop i H ∧ D.nx σ H) ∨ (J.go i H ∧ ∃ N : St → Hp → Prop, (∀ σ' H', N σ' H' → ∃ m', m' < m ∧ W (i + 1) m' σ' H') ∧ ∀ x H', J.yld i H x H' → g x σ H' fun σ2 H2 => t { D with nx := N, ct := N, bk := D.nx } σ2 H2)) : tFor wi g t D σ H := h
theorem w_while (W : Nat → St → Hp → Prop) (h0 : ∃ m, W m σ H) (hs : ∀ m σ H, W m σ H → c σ H fun b H1 => if b = true then ∃ N : St → Hp → Prop, (∀ σ' H', N σ' H' → ∃ m', m' < m ∧ W m' σ' H') ∧ t { D with nx := N, ct := N, bk := D.nx } σ H1 else D.nx σ H1) : tWhile c t D σ H := ⟨W, h0, hs⟩
theorem w_iList {RI : It → Hp → Prop} (h : ta σ H fun x H1 => ∃ a, x = .ref a ∧ (∃ xs, SqL K H1 a xs) ∧ RI (Itl K a) H1) : iList K ta σ H RI := h
theorem w_iTup {RI : It → Hp → Prop} (h : ta σ H fun x H1 => ∃ a, x = .ref a ∧ (∃ xs, SqT K H1 a xs) ∧ RI (Itt K a) H1) : iTup K ta σ H RI := h
theorem w_isL {RI : Addr → Prop} {a : Addr} {xs : List V} (hS : SqL K H a xs) (h : RI a) : ∃ b, V.ref a = .ref b ∧ (∃ xs, SqL K H b xs) ∧ RI b := ⟨a, rfl, ⟨xs, hS⟩, h⟩
theorem w_isT {RI : Addr → Prop} {a : Addr} {xs : List V} (hS : SqT K H a xs) (h : RI a) : ∃ b, V.ref a = .ref b ∧ (∃ xs, SqT K H b xs) ∧ RI b := ⟨a, rfl, ⟨xs, hS⟩, h⟩
theorem w_rng1 {RI : It → Hp → Prop} (h : tl σ H fun vs H1 => ∃ j : Int, vs = [.int j] ∧ -(2 ^ 62) ≤ j ∧ j < 2 ^ 62 ∧ RI (Itr 0 j.toNat) H1) : iRng1 tl σ H RI := h
theorem w_rng2 {RI : It → Hp → Prop} (h : tl σ H fun vs H1 => ∃ i j : Int, vs = [.int i, .int j] ∧ (-(2 ^ 62) ≤ i ∧ i < 2 ^ 62 ∧ -(2 ^ 62) ≤ j ∧ j < 2 ^ 62) ∧ RI (Itr i (j - i).toNat) H1) : iRng2 tl σ H RI := h
theorem w_isR1 {RI : Int → Prop} {j : Int} (h1 : -(2 ^ 62) ≤ j) (h2 : j < 2 ^ 62) (h : RI j) : ∃ k : Int, [V.int j] = [.int k] ∧ -(2 ^ 62) ≤ k ∧ k < 2 ^ 62 ∧ RI k := ⟨j, rfl, h1, h2, h⟩
theorem w_isR2 {RI : Int → Int → Prop} {i j : Int} (h1 : -(2 ^ 62) ≤ i ∧ i < 2 ^ 62 ∧ -(2 ^ 62) ≤ j ∧ j < 2 ^ 62) (h : RI i j) :
    ∃ a b : Int, [V.int i, V.int j] = [.int a, .int b] ∧ (-(2 ^ 62) ≤ a ∧ a < 2 ^ 62 ∧ -(2 ^ 62) ≤ b ∧ b < 2 ^ 62) ∧ RI a b := ⟨i, j, rfl, h1, h⟩
theorem w_sl {r : V → Option Int → Option Int → Hp → VK → Prop} {to tp : TO} (h : ta σ H fun x H1 => to σ H1 fun l H2 => tp σ H2 fun u H3 => r x l u H3 Q) : tSl r ta to tp σ H Q := h
theorem w_noPart {RO : Option Int → Hp → Prop} (h : RO none H) : tNoPart σ H RO := h
theorem w_part {RO : Option Int → Hp → Prop} (h : ta σ H fun x H1 => ∃ i, x = .int i ∧ RO (some i) H1) : tPart ta σ H RO := h
theorem w_int {RO : Int → Prop} {i : Int} (h : RO i) : ∃ j, V.int i = .int j ∧ RO j := ⟨i, rfl, h⟩
theorem w_slL {a : Addr} {xs : List V} {lo hi : Option Int} (hS : SqL K H a xs) (h : ∀ p, H p = none → Q (.ref p) (upd H p (.lst (cutV xs lo hi)))) : rSlL K (.ref a) lo hi H Q := ⟨a, xs, rfl, hS, h⟩
theorem w_ix2L {a : Addr} {xs : List V} {i : Int} (hS : SqL K H a xs) (hv : atI xs i = some v) (h : Q v H) : rIx2 K (.ref a) (.int i) H Q := .inl ⟨a, xs, i, v, rfl, rfl, hS, hv, h⟩
theorem w_ix2T {a : Addr} {xs : List V} {i : Int} (hS : SqT K H a xs) (hv : atI xs i = some v) (h : Q v H) : rIx2 K (.ref a) (.int i) H Q := .inr ⟨a, xs, i, v, rfl, rfl, hS, hv, h⟩
theorem w_isiTV {x : V} {p : Addr} {c d : String} {b e : Bool} (hp : H p = some (.tup [.ty c, .ty d])) (h1 : isiV x c = some b) (h2 : isiV x d = some e) (h : Q (.bl (b || e)) H) : rIsiT [x, .ref p] H Q := ⟨x, p, c, d, b, e, rfl, hp, .inl ⟨h1, h2⟩, h⟩
theorem w_isiTO {a p : Addr} {o : HO} {c d : String} {b e : Bool} (hp : H p = some (.tup [.ty c, .ty d])) (ha : H a = some o) (h1 : isiO o c = some b) (h2 : isiO o d = some e) (h : Q (.bl (b || e)) H) : rIsiT [.ref a, .ref p] H Q :=
  ⟨.ref a, p, c, d, b, e, rfl, hp, .inr ⟨a, o, rfl, ha, h1, h2⟩, h⟩
theorem w_neB {i j : Bool} (h : Q (.bl (!decide (i = j))) H) : rNe (.bl i) (.bl j) H Q := by
  refine ⟨rfl, ?_⟩
  have e : decide (V.bl i = V.bl j) = decide (i = j) := decide_eq_decide.mpr ⟨fun q => V.bl.inj q, fun q => congrArg V.bl q⟩
  rw [e]; exact h
theorem w_setL {o : Addr} {xs : List V} {k : Int} {j : Nat} {x : V} {R : Hp → Prop} (h1 : H o = some (.lst xs)) (h2 : ixN xs.length k = some j) (h : R (upd H o (.lst (xs.set j x)))) : rSetL (.ref o) (.int k) x H R := ⟨o, xs, k, j, rfl, rfl, h1, h2, h⟩
theorem w_gsub {to ti : TE} {t : TSet} {x : V} {R : St → Hp → Prop} (h : to σ H fun o H1 => ti σ H1 fun i H2 => t o i x H2 fun H3 => R σ H3) : gSub to ti t x σ H R := h
theorem w_gtup {n : Nat} {t : TGs} {a : Addr} {xs : List V} {R : St → Hp → Prop} (hS : SqT K H a xs) (hl : xs.length = n) (h : t xs σ H R) : gTup K n t (.ref a) σ H R := ⟨a, xs, rfl, hS, hl, h⟩
theorem w_gcons {t : TG} {u : TGs} {x : V} {r : List V} {R : St → Hp → Prop} (h : t x σ H fun σ' H' => u r σ' H' R) : gCons t u (x :: r) σ H R := ⟨x, r, rfl, h⟩
theorem w_gnil {R : St → Hp → Prop} (h : R σ H) : gNil [] σ H R := ⟨rfl, h⟩
theorem w_in {p : Addr} {xs : List V} {x : V} {n : Bool} (hS : SqL K H p xs) (h1 : flatV x = true) (h2 : xs.all flatV = true) (h : Q (.bl (if n then !inV x xs else inV x xs)) H) : rIn K n x (.ref p) H Q := ⟨p, xs, rfl, .inl hS, h1, h2, h⟩
theorem w_intB {k : Bool} (h : Q (.int (if k then 1 else 0)) H) : rIntB [.bl k] H Q := ⟨k, rfl, h⟩
theorem w_listL {a : Addr} {ys : List V} (hS : SqL K H a ys) (h : ∀ l, H l = none → Q (.ref l) (upd H l (.lst ys))) : rListL K [.ref a] H Q := ⟨a, ys, rfl, hS, h⟩
theorem w_sumL {a : Addr} {ns : List Int} (hS : SqL K H a (ns.map V.int)) (h : Q (.int ns.sum) H) : rSumL K [.ref a] H Q := ⟨a, ns, rfl, hS, h⟩
theorem w_minL {a : Addr} {ns : List Int} (hS : SqL K H a (ns.map V.int)) (h0 : 0 < ns.length) (h : ∀ M, M ∈ ns → (∀ x, x ∈ ns → M ≤ x) → Q (.int M) H) : rMinL K [.ref a] H Q := ⟨a, ns, rfl, hS, h0, h⟩
theorem w_maxL {a : Addr} {ns : List Int} (hS : SqL K H a (ns.map V.int)) (h0 : 0 < ns.length) (h : ∀ M, M ∈ ns → (∀ x, x ∈ ns → x ≤ M) → Q (.int M) H) : rMaxL K [.ref a] H Q := ⟨a, ns, rfl, hS, h0, h⟩
theorem w_isN (h : Q (.bl (decide (x = .non))) H) : rIsN x .non H Q := ⟨rfl, h⟩
theorem w_notN (h : Q (.bl (!decide (x = .non))) H) : rNotN x .non H Q := ⟨rfl, h⟩
theorem w_if {p : Prop} [Decidable p] {A B : Prop} (h1 : p → A) (h2 : ¬ p → B) : if decide p = true then A else B := by
  by_cases h : p
  · rw [decide_eq_true h]; exact h1 h
  · rw [decide_eq_false h]; exact h2 h
theorem w_ifN {p : Prop} [Decidable p] {A B : Prop} (h1 : ¬ p → A) (h2 : p → B) : if (!decide p) = true then A else B := by
  by_cases h : p
  · rw [decide_eq_true h]; exact h2 h
  · rw [decide_eq_false h]; exact h1 h
theorem w_ifT {p : Prop} [Decidable p] {A B : Prop} (c : p) (h : A) : if decide p = true then A else B := w_if (fun _ => h) (fun z => absurd c z)
theorem w_ifF {p : Prop} [Decidable p] {A B : Prop} (c : ¬ p) (h : B) : if decide p = true then A else B := w_if (fun z => absurd z c) (fun _ => h)
theorem w_ifNT {p : Prop} [Decidable p] {A B : Prop} (c : p) (h : B) : if (!decide p) = true then A else B := w_ifN (fun z => absurd c z) (fun _ => h)
theorem w_ifNF {p : Prop} [Decidable p] {A B : Prop} (c : ¬ p) (h : A) : if (!decide p) = true then A else B := w_ifN (fun _ => h) (fun z => absurd z c)
theorem w_tt {A B : Prop} (h : A) : if true = true then A else B := by rw [if_pos rfl]; exact h
theorem w_ff {A B : Prop} (h : B) : if false = true then A else B := by rw [if_neg Bool.false_ne_true]; exact h
theorem w_nt {A B : Prop} (h : B) : if (!true) = true then A else B := w_ff h
theorem w_nf {A B : Prop} (h : A) : if (!false) = true then A else B := w_tt h
theorem w_emp {xs : List V} {A B : Prop} (h : B) : if (xs ++ [y]).isEmpty = true then A else B := by
  have e : (xs ++ [y]).isEmpty = false := by cases xs <;> rfl
  rw [e]; exact w_ff h
theorem w_nemp {xs : List V} {A B : Prop} (h : A) : if (!(xs ++ [y]).isEmpty) = true then A else B := by
  have e : (xs ++ [y]).isEmpty = false := by cases xs <;> rfl
  rw [e]; exact w_tt h
end
/-! ### heaps -/
theorem same_new {H : Hp} {p : Addr} (h : H p = none) (o : HO) : Same H (upd H p o) := fun b u q => by rw [upd_ne (ne_of_none q h)]; exact q
theorem same_upd {H H1 : Hp} {r : Addr} {o : HO} (g : Same H H1) (h : H r = none) : Same H (upd H1 r o) := fun b u q => by rw [upd_ne (ne_of_none q h)]; exact g b u q
theorem at_int {ns : List Int} {k : Int} (h0 : 0 ≤ k) (h : k < (ns.length : Int)) : ∃ v : Int, ns[k.toNat]? = some v ∧ atI (ns.map V.int) k = some (.int v) := by
  have hk : k.toNat < ns.length := by omega
  have ek : k = ((k.toNat : Nat) : Int) := by omega
  have q : atI (ns.map V.int) ((k.toNat : Nat) : Int) = some (.int ns[k.toNat]) := atI_nat (by rw [List.getElem?_map, List.getElem?_eq_getElem hk] <;> rfl)
  rw [← ek] at q
  exact ⟨ns[k.toNat], List.getElem?_eq_getElem hk, q⟩
theorem menu {ms : List Int} {k : Int} {C : Int → Prop} (hC : ∀ m ∈ ms, C m) (h0 : 0 ≤ k) (h1 : k < (ms.length : Int)) : ∃ v : Int, atI (ms.map V.int) k = some (.int v) ∧ C v := by
  obtain ⟨v, h2, h3⟩ := at_int h0 h1
  exact ⟨v, h3, hC v (List.mem_of_getElem? h2)⟩
theorem at0 {x : V} {xs : List V} : atI (x :: xs) 0 = some x := atI_nat (j := 0) rfl
theorem big {n : Nat} (h : n ≤ 100000) : n ≤ sizeLine := Nat.le_trans h (by decide)
theorem Same.seqT {K : PySem.W.Frag} {H H' : Hp} {a : Addr} {xs : List V} (e : Same H H') (h : SqT K H a xs) : SqT K H' a xs := by
  rcases h with (h | ⟨o, h⟩) | h
  · exact .inl (.inl (e _ _ h))
  · exact .inl (.inr ⟨o, e _ _ h⟩)
  · exact .inr h
/-- a cut of a list of ints -/
def cutI (ns : List Int) (lo hi : Option Int) : List Int := (ns.drop (HT.sIx ns.length 0 lo)).take (HT.sIx ns.length ns.length hi - HT.sIx ns.length 0 lo)
theorem cut_ints (ns : List Int) (lo hi : Option Int) : cutV (ns.map V.int) lo hi = (cutI ns lo hi).map V.int := by
  unfold cutV cutI
  rw [List.length_map, ← List.map_drop, ← List.map_take]
theorem cutI_len (ns : List Int) (lo hi : Option Int) : (cutI ns lo hi).length ≤ ns.length := by
  unfold cutI; rw [List.length_take, List.length_drop]; omega
theorem sIx_pos {n d : Nat} {k : Int} (h : 0 ≤ k) : HT.sIx n d (some k) = min k.toNat n := by
  show (if k < 0 then _ else _) = _
  rw [if_neg (by omega)]
theorem cutI_to {ns : List Int} {k : Int} (h : 0 ≤ k) : cutI ns none (some k) = ns.take k.toNat := by
  unfold cutI
  rw [sIx_pos h]
  show (ns.drop 0).take (min k.toNat ns.length - 0) = _
  rw [List.drop_zero, Nat.sub_zero]
  by_cases c : k.toNat ≤ ns.length
  · rw [Nat.min_eq_left c]
  · rw [Nat.min_eq_right (by omega), List.take_of_length_le (Nat.le_refl _), List.take_of_length_le (by omega)]
theorem cutI_both {ns : List Int} {i j : Int} (h : 0 ≤ i) (hij : i ≤ j) (hj : j ≤ ns.length) : cutI ns (some i) (some j) = (ns.drop i.toNat).take (j.toNat - i.toNat) := by
  unfold cutI
  rw [sIx_pos h, sIx_pos (by omega), Nat.min_eq_left (by omega), Nat.min_eq_left (by omega)]
/-- a tuple of ints -/
def IsT (H : Hp) (v : V) (ns : List Int) : Prop := ∃ a, v = .ref a ∧ H a = some (.tup (ns.map V.int))
abbrev Ts (H : Hp) : List V → List (List Int) → Prop := Paired (IsT H)
theorem IsT.mono {H H' : Hp} {v : V} {ns : List Int} (h : IsT H v ns) (k : ∀ b xs, H b = some (.tup xs) → H' b = some (.tup xs)) : IsT H' v ns := by
  obtain ⟨a, e, q⟩ := h
  exact ⟨a, e, k a _ q⟩
theorem Ts.mono {H H' : Hp} : ∀ {vs : List V} {ns : List (List Int)}, Ts H vs ns → (∀ b xs, H b = some (.tup xs) → H' b = some (.tup xs)) → Ts H' vs ns
  | _, _, .nil, _ => Paired.nil
  | _, _, .cons h r, k => Paired.cons (h.mono k) (Ts.mono r k)
theorem Ts.append {H : Hp} : ∀ {vs us : List V} {ns ms : List (List Int)}, Ts H vs ns → Ts H us ms → Ts H (vs ++ us) (ns ++ ms)
  | _, _, _, _, .nil, s => s
  | _, _, _, _, .cons h r, s => Paired.cons h (Ts.append r s)
theorem Ts.length {H : Hp} : ∀ {vs : List V} {ns : List (List Int)}, Ts H vs ns → vs.length = ns.length
  | _, _, .nil => rfl
  | _, _, .cons _ r => by rw [List.length_cons, List.length_cons, Ts.length r]
theorem Ts.get {H : Hp} : ∀ {vs : List V} {ns : List (List Int)} {i : Nat} {v : V}, Ts H vs ns → vs[i]? = some v → ∃ n, ns[i]? = some n ∧ IsT H v n
  | _, _, _, _, .nil, e => by simp at e
  | _, _, 0, _, .cons h _, e => by simp at e; subst e; exact ⟨_, rfl, h⟩
  | _, _, i + 1, v, .cons _ r, e => by
    obtain ⟨n, h1, h2⟩ := Ts.get (i := i) (v := v) r (by simpa using e)
    exact ⟨n, by simpa using h1, h2⟩
/-- a tuple of any things -/
def IsU (H : Hp) (v : V) (xs : List V) : Prop := ∃ a, v = .ref a ∧ H a = some (.tup xs)
abbrev Us (H : Hp) : List V → List (List V) → Prop := Paired (IsU H)
theorem IsU.mono {H H' : Hp} {v : V} {xs : List V} (h : IsU H v xs) (k : ∀ b xs, H b = some (.tup xs) → H' b = some (.tup xs)) : IsU H' v xs := by
  obtain ⟨a, e, q⟩ := h
  exact ⟨a, e, k a _ q⟩
theorem Us.mono {H H' : Hp} : ∀ {vs : List V} {ns : List (List V)}, Us H vs ns → (∀ b xs, H b = some (.tup xs) → H' b = some (.tup xs)) → Us H' vs ns
  | _, _, .nil, _ => Paired.nil
  | _, _, .cons h r, k => Paired.cons (h.mono k) (Us.mono r k)
theorem Us.append {H : Hp} : ∀ {vs us : List V} {ns ms : List (List V)}, Us H vs ns → Us H us ms → Us H (vs ++ us) (ns ++ ms)
  | _, _, _, _, .nil, s => s
  | _, _, _, _, .cons h r, s => Paired.cons h (Us.append r s)
theorem Us.length {H : Hp} : ∀ {vs : List V} {ns : List (List V)}, Us H vs ns → vs.length = ns.length
  | _, _, .nil => rfl
  | _, _, .cons _ r => by rw [List.length_cons, List.length_cons, Us.length r]
theorem Us.get {H : Hp} : ∀ {vs : List V} {ns : List (List V)} {i : Nat} {v : V}, Us H vs ns → vs[i]? = some v → ∃ n, ns[i]? = some n ∧ IsU H v n
  | _, _, _, _, .nil, e => by simp at e
  | _, _, 0, _, .cons h _, e => by simp at e; subst e; exact ⟨_, rfl, h⟩
  | _, _, i + 1, v, .cons _ r, e => by
    obtain ⟨n, h1, h2⟩ := Us.get (i := i) (v := v) r (by simpa using e)
    exact ⟨n, by simpa using h1, h2⟩
theorem snoc_us {H : Hp} {vs : List V} {ns : List (List V)} {q : Addr} {n : List V} (r : Us H vs ns) (h : H q = some (.tup n)) : Us H (vs ++ [.ref q]) (ns ++ [n]) := r.append (.cons ⟨q, rfl, h⟩ .nil)
theorem Same.tups {H H' : Hp} (e : Same H H') : ∀ b xs, H b = some (.tup xs) → H' b = some (.tup xs) := fun b xs h => e b _ h
/-- a list is written: the tuples stay -/
theorem tups_upd {H : Hp} {l : Addr} {xs ys : List V} (h : H l = some (.lst xs)) : ∀ b zs, H b = some (.tup zs) → upd H l (.lst ys) b = some (.tup zs) := fun b zs q => by
  rw [upd_ne (ne_of q h (fun z => by cases z))]; exact q
section
variable {K : PySem.W.Frag} {H : Hp} {Q : VK}
/-! ### a new thing, the heap behind it a letter -/
def NewTp (Q : VK) (xs : List V) (H : Hp) : Prop := xs.length ≤ sizeLine ∧ ∀ p, H p = none → Q (.ref p) (upd H p (.tup xs))
def NewLs (Q : VK) (xs : List V) (H : Hp) : Prop := xs.length ≤ sizeLine ∧ ∀ p, H p = none → Q (.ref p) (upd H p (.lst xs))
theorem w_tupM {tl : TA} {σ : St} (h : tl σ H fun xs H1 => NewTp Q xs H1) : tTup tl σ H Q := h
theorem w_lstM {tl : TA} {σ : St} (h : tl σ H fun xs H1 => NewLs Q xs H1) : tLst tl σ H Q := h
theorem w_newT {xs : List V} (hl : xs.length ≤ 1000) (h : ∀ p H', Same H H' → H p = none → H' p = some (.tup xs) → Q (.ref p) H') : NewTp Q xs H :=
  ⟨Nat.le_trans hl (by decide), fun p hp => h p _ (same_new hp _) hp upd_same⟩
theorem w_newL {xs : List V} (hl : xs.length ≤ 1000) (h : ∀ p H', Same H H' → H p = none → H' p = some (.lst xs) → Q (.ref p) H') : NewLs Q xs H :=
  ⟨Nat.le_trans hl (by decide), fun p hp => h p _ (same_new hp _) hp upd_same⟩
theorem w_slA {a : Addr} {ns : List Int} {lo hi : Option Int} (hS : SqL K H a (ns.map V.int)) (h : ∀ p H', Same H H' → H p = none → H' p = some (.lst ((cutI ns lo hi).map V.int)) → Q (.ref p) H') : rSlL K (.ref a) lo hi H Q :=
  w_slL hS fun p hp => h p _ (same_new hp _) hp (by rw [upd_same, cut_ints])
theorem w_listA {a : Addr} {ys : List V} (hS : SqL K H a ys) (h : ∀ p H', Same H H' → H p = none → H' p = some (.lst ys) → Q (.ref p) H') : rListL K [.ref a] H Q := w_listL hS fun p hp => h p _ (same_new hp _) hp upd_same
theorem w_catA {l b : Addr} {xs zs : List V} (h1 : H l = some (.lst xs)) (h2 : H b = some (.lst zs)) (hz : xs.length + zs.length ≤ sizeLine) (h : ∀ p H', Same H H' → H p = none → H' p = some (.lst (xs ++ zs)) → Q (.ref p) H') : rCat (.ref l) (.ref b) H Q :=
  w_cat h1 h2 hz fun p hp => h p _ (same_new hp _) hp upd_same
end
/-- a list or a tuple -/
def cont (tp : Bool) (zs : List V) : HO := if tp then .tup zs else .lst zs
theorem cont_list (tp : Bool) (zs : List V) : isiO (cont tp zs) "list" = some (!tp) := by cases tp <;> rfl
theorem cont_tuple (tp : Bool) (zs : List V) : isiO (cont tp zs) "tuple" = some tp := by cases tp <;> rfl
theorem w_lenC {K : PySem.W.Frag} {H : Hp} {Q : VK} {a : Addr} {tp : Bool} {zs : List V} (h1 : H a = some (cont tp zs)) (h : Q (.int zs.length) H) : rLen K [.ref a] H Q := by
  cases tp with
  | true => exact w_lenT (SqT.of h1) h
  | false => exact w_len (SqL.of h1) h
theorem w_ixC {K : PySem.W.Frag} {H : Hp} {Q : VK} {a : Addr} {tp : Bool} {zs : List V} {i : Int} {v : V} (h1 : H a = some (cont tp zs)) (hv : atI zs i = some v) (h : Q v H) : rIx2 K (.ref a) (.int i) H Q := by
  cases tp with
  | true => exact w_ix2T (SqT.of h1) hv h
  | false => exact w_ix2L (SqL.of h1) hv h
theorem at_nat {zs : List V} {i : Nat} {v : V} (h : zs[i]? = some v) : atI zs (0 + (i : Int)) = some v := by
  rw [Int.zero_add]; exact atI_nat h
/-- all but t is as it was, there may be more -/
def Kp (t : Addr) (H H' : Hp) : Prop := ∀ b o, b ≠ t → H b = some o → H' b = some o
theorem Kp.trans {t : Addr} {H H1 H2 : Hp} (a : Kp t H H1) (b : Kp t H1 H2) : Kp t H H2 := fun c o n h => b c o n (a c o n h)
theorem Same.kp {t : Addr} {H H' : Hp} (e : Same H H') : Kp t H H' := fun b o _ h => e b o h
theorem kp_upd {t : Addr} {H : Hp} {o : HO} : Kp t H (upd H t o) := fun b u n h => by rw [upd_ne n]; exact h
/-- a new tuple, put onto a list -/
theorem push_keep {H : Hp} {d q : Addr} {ds us : List V} {o : HO} (hq : H q = none) : ∀ b x, b ≠ d → H b = some x → upd (upd H q o) d (.lst us) b = some x := fun b x hb hx => by
  rw [upd_ne hb, upd_ne (ne_of_none hx hq)]; exact hx
theorem push_tups {H : Hp} {d q : Addr} {ds us : List V} {o : HO} (hd : H d = some (.lst ds)) (hq : H q = none) : ∀ b zs, H b = some (.tup zs) → upd (upd H q o) d (.lst us) b = some (.tup zs) := fun b zs hb =>
  push_keep (ds := ds) hq b _ (ne_of hb hd (fun z => by cases z)) hb
theorem push_new {H : Hp} {d q : Addr} {ds us : List V} {o : HO} (hd : H d = some (.lst ds)) (hq : H q = none) : upd (upd H q o) d (.lst us) q = some o := by
  rw [upd_ne (ne_of_none hd hq).symm]; exact upd_same
end L2
namespace L2
open PySem
/-! ### an object with an int (length) and a dict of pairs (parts): readings -/
def flds (n : Int) (d : Addr) : List (Str × V) := putF "parts" (.ref d) (putF "length" (.int n) [])
/-- it stands at p: its int, its dict at d -/
def Ob (C : Addr) (H : Hp) (p : Addr) (n : Int) (d : Addr) : Prop := ∃ dx, H p = some (.ins C dx (flds n d))
def keyOf (i j : Int) : List Key := [.inl i, .inl j]
structure Txt (K : PySem.W.Frag) (C : Addr) : Prop where
  cl : Cls K C
  nL : NoAttr K C "length"
  nP : NoAttr K C "parts"
theorem fl_ne : ¬ (("length" : Str) = "parts") := by decide +kernel
theorem flds_len (n : Int) (d : Addr) : (flds n d).lookup ("length" : Str) = some (.int n) := by
  unfold flds; rw [lookup_putF, if_neg fl_ne, lookup_putF, if_pos rfl]
theorem flds_par (n : Int) (d : Addr) : (flds n d).lookup ("parts" : Str) = some (.ref d) := by
  unfold flds; rw [lookup_putF, if_pos rfl]
theorem flds_no (n : Int) (d : Addr) {m : Str} (h : ¬ m = "parts" ∧ ¬ m = "length") : (flds n d).lookup m = none := by
  unfold flds; rw [lookup_putF, if_neg h.1, lookup_putF, if_neg h.2]; rfl
/-- an item of a dict; the item stored -/
def DGE (Q : VK) (x y : V) (H : Hp) : Prop := ∃ a v, x = .ref a ∧ DGet H a y (some v) ∧ Q v H
def DPE (R : Hp → Prop) (x y v : V) (H : Hp) : Prop := ∃ a H4, x = .ref a ∧ DPut H a y v H4 ∧ R H4
/-- a op b op c op d -/
def tChain3 (r r' r2 : R2) (ta tb tc td : TE) : TE := fun σ H Q => ta σ H fun x H1 => tb σ H1 fun y H2 => r x y H2 fun z H3 => ∃ k, z = .bl k ∧
  (if k = true then tc σ H3 fun w' H4 => r' y w' H4 fun z2 H5 => ∃ k2, z2 = .bl k2 ∧ (if k2 = true then td σ H5 fun u H6 => r2 w' u H6 Q else Q (.bl false) H5) else Q (.bl false) H3)
/-- a list from its end -/
def Itv (K : PySem.W.Frag) (a : Addr) (n : Nat) : It := ⟨fun i H => i < n ∧ ∃ xs, SqL K H a xs ∧ xs.length = n, fun i H x H' => H' = H ∧ ∀ xs, SqL K H a xs → xs[n - 1 - i]? = some x, fun i _ => n ≤ i⟩
def iRev (K : PySem.W.Frag) (tl : TA) : TI := fun σ H R => tl σ H fun vs H1 => ∃ a xs, vs = [.ref a] ∧ SqL K H1 a xs ∧ R (Itv K a xs.length) H1
/-- [e for x in it], one free name (in slot j outside, in slot 1 within) -/
def tLCF (wi : TI) (j : Nat) (te : TE) : TE := fun σ H Q => wi σ H fun J H1 => ∀ r, H1 r = none → ∃ W : Nat → Nat → Hp → Prop, (∃ m, W 0 m (upd H1 r (.lst []))) ∧ ∀ i m H2, W i m H2 →
  (J.stop i H2 ∧ Q (.ref r) H2) ∨ (J.go i H2 ∧ ∀ x H3, J.yld i H2 x H3 → te [some x, (σ[j]?).join] H3 fun v H6 => ∃ ys, H6 r = some (.lst ys) ∧ ys.length < sizeLine ∧ ∃ m', m' < m ∧ W (i + 1) m' (upd H6 r (.lst (ys ++ [v]))))
section
variable {K : PySem.W.Frag} {C : Addr} {D : Ends} {σ : St} {H : Hp} {Q : VK} {to ta tb tc td tk tv : TE} {tl : TA}
theorem w_fld {f : Str} (h : ta σ H fun x H1 => ∃ a C dx fs v, x = .ref a ∧ H1 a = some (.ins C dx fs) ∧ Cls K C ∧ NoAttr K C f ∧ fs.lookup f = some v ∧ Q v H1) : tFld K ta f σ H Q := h
theorem w_obL {p d : Addr} {n : Int} {R : V → Prop} (hO : Ob C H p n d) (T : Txt K C) (h : R (.int n)) : ∃ a C dx fs v, V.ref p = .ref a ∧ H a = some (.ins C dx fs) ∧ Cls K C ∧ NoAttr K C "length" ∧ fs.lookup ("length" : Str) = some v ∧ R v := by
  obtain ⟨dx, e⟩ := hO
  exact ⟨p, C, dx, _, _, rfl, e, T.cl, T.nL, flds_len n d, h⟩
theorem w_obP {p d : Addr} {n : Int} {R : V → Prop} (hO : Ob C H p n d) (T : Txt K C) (h : R (.ref d)) : ∃ a C dx fs v, V.ref p = .ref a ∧ H a = some (.ins C dx fs) ∧ Cls K C ∧ NoAttr K C "parts" ∧ fs.lookup ("parts" : Str) = some v ∧ R v := by
  obtain ⟨dx, e⟩ := hO
  exact ⟨p, C, dx, _, _, rfl, e, T.cl, T.nP, flds_par n d, h⟩
theorem w_mth {m : Str} {sp : Sp} {E : XK} (h : to σ H fun x H1 => ∃ a dx fs, x = .ref a ∧ H1 a = some (.ins C dx fs) ∧ fs.lookup m = none ∧ tl σ H1 fun vs H2 => sp (x :: (vs ++ [])) H2 Q E) : tMeth C m sp [] E to tl σ H Q := h
theorem w_obM {p d : Addr} {n : Int} {m : Str} {A : Prop} (hO : Ob C H p n d) (hm : ¬ m = "parts" ∧ ¬ m = "length") (h : A) : ∃ a dx fs, V.ref p = .ref a ∧ H a = some (.ins C dx fs) ∧ fs.lookup m = none ∧ A := by
  obtain ⟨dx, e⟩ := hO
  exact ⟨p, dx, _, rfl, e, flds_no n d hm, h⟩
theorem w_dget (h : ta σ H fun x H1 => tb σ H1 fun y H2 => DGE Q x y H2) : tDGet ta tb σ H Q := h
theorem w_dput (h : tv σ H fun v H1 => ta σ H1 fun x H2 => tb σ H2 fun y H3 => DPE (D.nx σ) x y v H3) : sDPut ta tb tv D σ H := h
theorem w_dge {d b : Addr} {kvs : List (List Key × V)} {i j : Int} {v : V} (h1 : H d = some (.dT kvs)) (h2 : H b = some (.tup [.int i, .int j])) (hv : valV kvs (keyOf i j) = some v) (h : Q v H) : DGE Q (.ref d) (.ref b) H :=
  ⟨d, v, rfl, .inr ⟨kvs, keyOf i j, b, .inl h1, rfl, h2, hv.symm⟩, h⟩
theorem w_dpe {d b : Addr} {kvs : List (List Key × V)} {i j : Int} {v : V} {R : Hp → Prop} (h1 : H d = some (.dT kvs)) (h2 : H b = some (.tup [.int i, .int j])) (hl : kvs.length ≤ 1000) (h : R (upd H d (.dT (putK kvs (keyOf i j) v)))) : DPE R (.ref d) (.ref b) v H :=
  ⟨d, _, rfl, .inr ⟨kvs, keyOf i j, b, h1, rfl, h2, small1000 hl, rfl⟩, h⟩
theorem w_sfld {f : Str} (h : tv σ H fun y H1 => ta σ H1 fun x H2 => ∃ a C dx fs, x = .ref a ∧ H2 a = some (.ins C dx fs) ∧ Cls K C ∧ NoAttr K C f ∧ fs.length < 1000 ∧ D.nx σ (upd H2 a (.ins C dx (putF f y fs)))) : sFld K ta tv f D σ H := h
theorem w_dnew (h : ∀ p, H p = none → Q (.ref p) (upd H p (.dT []))) : tDNewT σ H Q := h
theorem w_mk {sp : Sp} {E : XK} (h : tl σ H fun vs H1 => ∀ x dx, H1 x = none → H1 dx = none → dx ≠ x →
  sp (.ref x :: (vs ++ [])) (upd (upd H1 dx (.own x)) x (.ins C dx [])) (fun v H2 => v = .non ∧ Q (.ref x) H2) E) : tMake C sp [] E tl σ H Q := h
theorem w_chain {r r' : R2} (h : ta σ H fun x H1 => tb σ H1 fun y H2 => r x y H2 fun z H3 => ∃ k, z = .bl k ∧ (if k = true then tc σ H3 fun w' H4 => r' y w' H4 Q else Q (.bl false) H3)) : tChain r r' ta tb tc σ H Q := h
theorem w_chain3 {r r' r2 : R2} (h : ta σ H fun x H1 => tb σ H1 fun y H2 => r x y H2 fun z H3 => ∃ k, z = .bl k ∧
  (if k = true then tc σ H3 fun w' H4 => r' y w' H4 fun z2 H5 => ∃ k2, z2 = .bl k2 ∧ (if k2 = true then td σ H5 fun u H6 => r2 w' u H6 Q else Q (.bl false) H5) else Q (.bl false) H3)) : tChain3 r r' r2 ta tb tc td σ H Q := h
theorem w_rev {RI : It → Hp → Prop} (h : tl σ H fun vs H1 => ∃ a xs, vs = [.ref a] ∧ SqL K H1 a xs ∧ RI (Itv K a xs.length) H1) : iRev K tl σ H RI := h
theorem w_lcf {wi : TI} {j : Nat} {te : TE} (h : wi σ H fun J H1 => ∀ r, H1 r = none → ∃ W : Nat → Nat → Hp → Prop, (∃ m, W 0 m (upd H1 r (.lst []))) ∧ ∀ i m H2, W i m H2 →
  (J.stop i H2 ∧ Q (.ref r) H2) ∨ (J.go i H2 ∧ ∀ x H3, J.yld i H2 x H3 → te [some x, (σ[j]?).join] H3 fun v H6 => ∃ ys, H6 r = some (.lst ys) ∧ ys.length < sizeLine ∧ ∃ m', m' < m ∧ W (i + 1) m' (upd H6 r (.lst (ys ++ [v]))))) : tLCF wi j te σ H Q := h
end
theorem for_rev {K : PySem.W.Frag} {a : Addr} {xs : List V} {g : TG} {tb : TS} {D : Ends} {σ : St} {H : Hp} (Pv : Nat → St → Hp → Prop) (h0 : Pv 0 σ H) (hl : ∀ i σ H, i ≤ xs.length → Pv i σ H → SqL K H a xs)
    (hs : ∀ i x σ H, i < xs.length → xs[xs.length - 1 - i]? = some x → Pv i σ H → g x σ H fun σ2 H2 => tb { D with nx := Pv (i + 1), ct := Pv (i + 1), bk := D.nx } σ2 H2) (hd : ∀ σ H, Pv xs.length σ H → D.nx σ H) :
    ∃ W : Nat → Nat → St → Hp → Prop, (∃ m, W 0 m σ H) ∧ ∀ i m σ H, W i m σ H →
      ((Itv K a xs.length).stop i H ∧ D.nx σ H) ∨ ((Itv K a xs.length).go i H ∧ ∃ N : St → Hp → Prop, (∀ σ' H', N σ' H' → ∃ m', m' < m ∧ W (i + 1) m' σ' H') ∧ ∀ x H', (Itv K a xs.length).yld i H x H' → g x σ H' fun σ2 H2 => tb { D with nx := N, ct := N, bk := D.nx } σ2 H2) := by
  refine ⟨fun i m σ H => m = xs.length - i ∧ i ≤ xs.length ∧ Pv i σ H, ⟨xs.length, by simp, Nat.zero_le _, h0⟩, ?_⟩
  rintro i m σ H ⟨rfl, hi, p⟩
  have q := hl i σ H hi p
  by_cases hlt : i < xs.length
  · refine .inr ⟨⟨hlt, xs, q, rfl⟩, Pv (i + 1), fun σ' H' p' => ⟨xs.length - (i + 1), by omega, rfl, hlt, p'⟩, fun x H' y => ?_⟩
    obtain ⟨e, y⟩ := y
    subst e
    exact hs i x σ _ hlt (y xs q) p
  · have e : i = xs.length := by omega
    subst e
    exact .inl ⟨Nat.le_refl _, hd σ H p⟩
/-- the comprehension, turn by turn: n turns, at turn i an x with X i x comes; Pv i ys H: ys are made -/
theorem lcf_by {J : It} {r : Addr} {n : Nat} {te : TE} {H : Hp} {Q : VK} {τ : Option V} (hz : n ≤ 1000) (Pv : Nat → List V → Hp → Prop) (X : Nat → V → Prop)
    (h0 : Pv 0 [] (upd H r (.lst []))) (hr0 : ∀ i ys H, Pv i ys H → H r = some (.lst ys) ∧ ys.length = i)
    (hgo : ∀ i ys H, i < n → Pv i ys H → J.go i H ∧ ∀ x H3, J.yld i H x H3 → H3 = H ∧ X i x) (hstop : ∀ ys H, Pv n ys H → J.stop n H)
    (hs : ∀ i x ys H (N : VK), i < n → X i x → Pv i ys H → (∀ v H2, H2 r = some (.lst ys) → Pv (i + 1) (ys ++ [v]) (upd H2 r (.lst (ys ++ [v]))) → N v H2) → te [some x, τ] H N) (hd : ∀ ys H, Pv n ys H → Q (.ref r) H) :
    ∃ W : Nat → Nat → Hp → Prop, (∃ m, W 0 m (upd H r (.lst []))) ∧ ∀ i m H2, W i m H2 →
      (J.stop i H2 ∧ Q (.ref r) H2) ∨ (J.go i H2 ∧ ∀ x H3, J.yld i H2 x H3 → te [some x, τ] H3 fun v H6 => ∃ ys, H6 r = some (.lst ys) ∧ ys.length < sizeLine ∧ ∃ m', m' < m ∧ W (i + 1) m' (upd H6 r (.lst (ys ++ [v])))) := by
  refine ⟨fun i m H => m = n - i ∧ i ≤ n ∧ ∃ ys, Pv i ys H, ⟨n, by simp, Nat.zero_le _, _, h0⟩, ?_⟩
  rintro i m H2 ⟨rfl, hi, ys, p⟩
  by_cases hlt : i < n
  · obtain ⟨g, y⟩ := hgo i ys H2 hlt p
    refine .inr ⟨g, fun x H3 hy => ?_⟩
    obtain ⟨rfl, hx⟩ := y x H3 hy
    refine hs i x ys H3 _ hlt hx p fun v H6 e6 p6 => ?_
    have := (hr0 i ys _ p).2
    exact ⟨_, e6, small1000 (by omega), n - (i + 1), by omega, rfl, hlt, _, p6⟩
  · have e : i = n := by omega
    subst e
    exact .inl ⟨hstop _ _ p, hd _ _ p⟩
end L2
namespace L2
open PySem PySem.Spec PySem.SeqAt PyProof.Rows
section
variable {X : Cx}
theorem call_len' : CallR X (.builtin "len") (rLen X.K) := call_len_seq
theorem call_min2' (hc : X.calm = true) : CallR X (.builtin "min") rMin2 := call_min2 hc
theorem call_max2' (hc : X.calm = true) : CallR X (.builtin "max") rMax2 := call_max2 hc
theorem call_intB : CallR X (.type "int") rIntB := fun pins s σ H xs us Q I r h => call_int1 pins s σ H xs us Q I r (.inr h)
theorem call_listL : CallR X (.type "list") (rListL X.K) := fun pins s σ H xs us Q I r h => by
  obtain ⟨p, ys, e, hS, q⟩ := h
  exact call_list_of pins s σ H xs us Q I r ⟨p, ys, e, .inl hS, q⟩
theorem list_items {pins : List (Addr × Obj)} {σ : St} {H : Hp} {s : Shared} {a : Addr} {ns : List Int} (I : Inv X pins σ H s) (hS : SqL X.K H a (ns.map V.int)) :
    ∃ xs : Array (Int × Tok), s.heap.IsList a (intItems xs) ∧ ns = xs.toList.map (·.1) := by
  obtain ⟨its, rv, pl, hz⟩ := I.list hS
  have hi : IntsAre its ns := intsAre_of rv
  obtain ⟨xs, hx⟩ := hi.allInts.items
  refine ⟨xs, hx ▸ pl.isList, ?_⟩
  rw [← nums_intItems, ← hx]
  exact (show numsOf its.toArray.toList = ns from hi.numsOf).symm
theorem call_sumL (hc : X.calm = true) : CallR X (.builtin "sum") (rSumL X.K) := by
  intro pins s σ H xs us Q I r h
  obtain ⟨a, ns, rfl, hS, q⟩ := h
  obtain ⟨u, rfl, ru⟩ := vals1 r
  cases ru
  obtain ⟨xs, hl, e1⟩ := list_items I hS
  refine sum_intListG (I.ok.hd hc) hl fun h' tk t' hk => ?_
  have e2 : preSum (numAt xs) xs.size = ns.sum := by
    rw [preSum_eq, List.take_of_length_le (by simp), e1]
  rw [e2]
  exact ⟨.int ns.sum, H, I.kept hk, ⟨_, rfl⟩, q⟩
theorem call_minL (hc : X.calm = true) : CallR X (.builtin "min") (rMinL X.K) := by
  intro pins s σ H xs us Q I r h
  obtain ⟨a, ns, rfl, hS, h0, q⟩ := h
  obtain ⟨u, rfl, ru⟩ := vals1 r
  cases ru
  obtain ⟨xs, hl, hns⟩ := list_items I hS
  have hsz : 0 < xs.size := by
    have h3 := h0; rw [hns, List.length_map, Array.length_toList] at h3; exact h3
  refine min_intList (I.ok.hd hc) hl hsz fun v h' tk hv hk => ?_
  obtain ⟨t, rfl⟩ := intItems_at hv
  obtain ⟨h1, h2⟩ := argBest_lt (numAt xs) (xs.size - 1)
  refine ⟨.int _, H, I.kept hk, ⟨t, rfl⟩, q _ ?_ fun x hx => ?_⟩
  · rw [hns, numAt_eq]; exact getD_mem (by rw [List.length_map, Array.length_toList]; omega)
  · rw [hns] at hx
    obtain ⟨j, hj, rfl⟩ := mem_getD hx
    rw [List.length_map, Array.length_toList] at hj
    rw [← numAt_eq]; exact h2 j (by omega)
theorem call_maxL (hc : X.calm = true) : CallR X (.builtin "max") (rMaxL X.K) := by
  intro pins s σ H xs us Q I r h
  obtain ⟨a, ns, rfl, hS, h0, q⟩ := h
  obtain ⟨u, rfl, ru⟩ := vals1 r
  cases ru
  obtain ⟨xs, hl, hns⟩ := list_items I hS
  have hsz : 0 < xs.size := by
    have h3 := h0; rw [hns, List.length_map, Array.length_toList] at h3; exact h3
  refine max_intList (I.ok.hd hc) hl hsz fun v h' tk hv hk => ?_
  obtain ⟨t, rfl⟩ := intItems_at hv
  obtain ⟨h1, h2⟩ := argBest_gt (numAt xs) (xs.size - 1)
  refine ⟨.int _, H, I.kept hk, ⟨t, rfl⟩, q _ ?_ fun x hx => ?_⟩
  · rw [hns, numAt_eq]; exact getD_mem (by rw [List.length_map, Array.length_toList]; omega)
  · rw [hns] at hx
    obtain ⟨j, hj, rfl⟩ := mem_getD hx
    rw [List.length_map, Array.length_toList] at hj
    rw [← numAt_eq]; exact h2 j (by omega)
theorem bits_500 {k : Int} (h : k.natAbs < 2 ^ 500) : Builtin.Int.intBits k ≤ 2 ^ 20 := by
  unfold Builtin.Int.intBits
  split
  · exact Nat.zero_le _
  · rename_i hz
    have hz' : k.natAbs ≠ 0 := by
      have : k ≠ 0 := by simpa using hz
      omega
    have := (Nat.log2_lt hz').mpr h
    have e : (2 : Nat) ^ 20 = 1048576 := by decide
    omega
theorem op_mulB : OpR X (binaryOp .Mult) rMulB := opI fun _ _ _ _ _ _ _ hc q => mul_int q (IntMulOk.of_bits (bits_500 hc.1) (bits_500 hc.2))
/-! ### isinstance -/
def tyN : Nat → String
  | 0 => "int"
  | 1 => "bool"
  | 2 => "str"
  | 3 => "NoneType"
  | 4 => "list"
  | _ => "tuple"
theorem isiT_kit {t : Nat} {c : String} {b : Bool} (ht : t < 6) (e : isiT t c = some b) (K : PySem.W.Frag) : PySem.W.kitOne K (.type (tyN t)) (.type c) = some b := by
  unfold isiT at e
  split at e <;> (try split at e) <;> cases e <;> (match t, ht with
    | 0, _ => first | (exfalso; omega) | kernel_rfl
    | 1, _ => first | (exfalso; omega) | kernel_rfl
    | 2, _ => first | (exfalso; omega) | kernel_rfl
    | 3, _ => first | (exfalso; omega) | kernel_rfl
    | 4, _ => first | (exfalso; omega) | kernel_rfl
    | 5, _ => first | (exfalso; omega) | kernel_rfl)
theorem isiV_ty {x : V} {c : String} {b : Bool} (e : isiV x c = some b) : ∃ t, ((∃ i, x = .int i ∧ t = .type "int") ∨ (∃ i, x = .bl i ∧ t = .type "bool") ∨ (∃ i, x = .str i ∧ t = .type "str") ∨ (x = .non ∧ t = .type "NoneType")) ∧ ∀ (K : PySem.W.Frag) (d : String) (b' : Bool), isiV x d = some b' → PySem.W.kitOne K t (.type d) = some b' := by
  cases x with
  | int i => exact ⟨_, .inl ⟨i, rfl, rfl⟩, fun K d b' h => isiT_kit (t := 0) (by decide) h K⟩
  | bl i => exact ⟨_, .inr (.inl ⟨i, rfl, rfl⟩), fun K d b' h => isiT_kit (t := 1) (by decide) h K⟩
  | str i => exact ⟨_, .inr (.inr (.inl ⟨i, rfl, rfl⟩)), fun K d b' h => isiT_kit (t := 2) (by decide) h K⟩
  | non => exact ⟨_, .inr (.inr (.inr ⟨rfl, rfl⟩)), fun K d b' h => isiT_kit (t := 3) (by decide) h K⟩
  | _ => cases e
theorem isiO_ty {o : HO} {c : String} {b : Bool} (e : isiO o c = some b) : ∃ t, ((∃ xs, o = .lst xs ∧ t = .type "list") ∨ ∃ xs, o = .tup xs ∧ t = .type "tuple") ∧ ∀ (K : PySem.W.Frag) (d : String) (b' : Bool), isiO o d = some b' → PySem.W.kitOne K t (.type d) = some b' := by
  cases o with
  | lst xs => exact ⟨_, .inl ⟨xs, rfl, rfl⟩, fun K d b' h => isiT_kit (t := 4) (by decide) h K⟩
  | tup xs => exact ⟨_, .inr ⟨xs, rfl, rfl⟩, fun K d b' h => isiT_kit (t := 5) (by decide) h K⟩
  | _ => cases e
theorem call_isi : CallR X (.builtin "isinstance") rIsi := by
  intro pins s σ H xs us Q I r h
  obtain ⟨x, c, b, rfl, e, q⟩ := h
  obtain ⟨u, v, rfl, rx, rv⟩ := vals2 r
  cases (show v = Value.type c from rv)
  have fin : ∀ tk, EP X pins σ Q (.bool b) { s with toks := tk } := fun tk => ⟨.bl b, H, I.tok tk, rfl, q⟩
  rcases e with e | ⟨a, o, rfl, ho, e⟩
  · obtain ⟨t, h1, h2⟩ := isiV_ty e
    rcases h1 with ⟨i, rfl, rfl⟩ | ⟨i, rfl, rfl⟩ | ⟨i, rfl, rfl⟩ | ⟨rfl, rfl⟩
    · exact isinst_ok I rx (.int _) (h2 _ _ _ e) fin
    · exact isinst_ok I rx (.bl _) (h2 _ _ _ e) fin
    · exact isinst_ok I rx (.str _) (h2 _ _ _ e) fin
    · exact isinst_ok I rx .non (h2 _ _ _ e) fin
  · obtain ⟨t, h1, h2⟩ := isiO_ty e
    rcases h1 with ⟨xs, rfl, rfl⟩ | ⟨xs, rfl, rfl⟩
    · exact isinst_ok I rx (.lst ho) (h2 _ _ _ e) fin
    · exact isinst_ok I rx (.tup ho) (h2 _ _ _ e) fin
theorem ix_seq' : IxR X (rIx2 X.K) := ix_list.or ix_tup
theorem isinT_ok {pins : List (Addr × Obj)} {σ : St} {H : Hp} {s : Shared} {Q : Value → Shared → Prop} {E : Value → Shared → Prop} {x : V} {u t : Value} {tp : Addr} {dd : Option Addr} {its : List Value} {n : Nat} {sl : Array (Option Value)} {b : Bool} (I : Inv X pins σ H s) (rx : RelV x u)
    (ty : (∃ i, x = .int i ∧ t = .type "int") ∨ (∃ i, x = .bl i ∧ t = .type "bool") ∨ (∃ i, x = .str i ∧ t = .type "str") ∨ (x = .non ∧ t = .type "NoneType") ∨ (∃ a xs, x = .ref a ∧ H a = some (.lst xs) ∧ t = .type "list") ∨ (∃ a xs, x = .ref a ∧ H a = some (.tup xs) ∧ t = .type "tuple"))
    (htp : s.heap.get? tp = some ⟨.type "tuple", dd, .seq its.toArray n, sl⟩) (e : PySem.W.kitAny X.K t its = some b) (h : ∀ tk, Q (.bool b) { s with toks := tk }) : wpAny (model X.prog X.w) X.A (call (.builtin "isinstance") [u, .ref tp]) Q E s := by
  rcases ty with ⟨i, rfl, rfl⟩ | ⟨i, rfl, rfl⟩ | ⟨i, rfl, rfl⟩ | ⟨rfl, rfl⟩ | ⟨a, xs, rfl, ha, rfl⟩ | ⟨a, xs, rfl, ha, rfl⟩
  · obtain ⟨tk, q⟩ := (show ∃ t, u = Value.int i t from rx); cases q; exact PySem.W.kia_tup PySem.W.kitx_int I.kIn True.intro htp e (fun z => nomatch z) h
  · cases (show u = Value.bool i from rx); exact PySem.W.kia_tup PySem.W.kitx_bool I.kIn True.intro htp e (fun z => nomatch z) h
  · obtain ⟨tk, q⟩ := (show ∃ t, u = Value.str i t from rx); cases q; exact PySem.W.kia_tup PySem.W.kitx_str I.kIn True.intro htp e (fun z => nomatch z) h
  · cases (show u = Value.none from rx); exact PySem.W.kia_tup PySem.W.kitx_none I.kIn True.intro htp e (fun z => nomatch z) h
  · cases (show u = Value.ref a from rx)
    obtain ⟨_, _, n', _, h1⟩ := (show ObjOk X.prog X.w H s.heap a (.lst xs) from I.hok a _ ha)
    exact PySem.W.kia_tup PySem.W.kitx_list I.kIn ⟨_, h1, rfl⟩ htp e (fun z => nomatch z) h
  · cases (show u = Value.ref a from rx)
    obtain ⟨_, _, _, p⟩ := (show ObjOk X.prog X.w H s.heap a (.tup xs) from I.hok a _ ha)
    obtain ⟨o, h1, h2, _⟩ := p
    exact PySem.W.kia_tup PySem.W.kitx_tuple I.kIn ⟨o, h1, h2⟩ htp e (fun z => nomatch z) h
theorem kitAny_two {K : PySem.W.Frag} {t : Value} {c d : String} {b e : Bool} (h1 : PySem.W.kitOne K t (.type c) = some b) (h2 : PySem.W.kitOne K t (.type d) = some e) : PySem.W.kitAny K t [.type c, .type d] = some (b || e) := by
  unfold PySem.W.kitAny
  rw [h1]
  cases b with
  | true => rfl
  | false =>
    show PySem.W.kitAny K t [.type d] = some (false || e)
    unfold PySem.W.kitAny
    rw [h2]
    cases e <;> rfl
theorem call_isiT : CallR X (.builtin "isinstance") rIsiT := by
  intro pins s σ H xs us Q I r h
  obtain ⟨x, p, c, d, b, e, rfl, hp, hx, q⟩ := h
  obtain ⟨u, v, rfl, rx, rv⟩ := vals2 r
  cases (show v = Value.ref p from rv)
  obtain ⟨_, its, rt, o, ho, hcls, n, hdat⟩ := (show ObjOk X.prog X.w H s.heap p (.tup [.ty c, .ty d]) from I.hok p _ hp)
  obtain ⟨u1, u2, rfl, r1, r2⟩ := vals2 rt
  cases (show u1 = Value.type c from r1)
  cases (show u2 = Value.type d from r2)
  obtain ⟨cls, dd, data, sl⟩ := o
  simp only at hcls hdat
  subst hcls hdat
  have fin : ∀ tk, EP X pins σ Q (.bool (b || e)) { s with toks := tk } := fun tk => ⟨.bl (b || e), H, I.tok tk, rfl, q⟩
  rcases hx with ⟨h1, h2⟩ | ⟨a, o, rfl, ha, h1, h2⟩
  · obtain ⟨t, ht, hk⟩ := isiV_ty h1
    refine isinT_ok I rx ?_ ho (kitAny_two (hk _ _ _ h1) (hk _ _ _ h2)) fin
    rcases ht with z | z | z | z
    · exact .inl z
    · exact .inr (.inl z)
    · exact .inr (.inr (.inl z))
    · exact .inr (.inr (.inr (.inl z)))
  · obtain ⟨t, ht, hk⟩ := isiO_ty h1
    refine isinT_ok I rx ?_ ho (kitAny_two (hk _ _ _ h1) (hk _ _ _ h2)) fin
    rcases ht with ⟨xs, rfl, rfl⟩ | ⟨xs, rfl, rfl⟩
    · exact .inr (.inr (.inr (.inr (.inl ⟨a, xs, rfl, ha, rfl⟩))))
    · exact .inr (.inr (.inr (.inr (.inr ⟨a, xs, rfl, ha, rfl⟩))))
/-! ### two tuples of ints; a list and the empty one -/
theorem op_neL0 (hu : X.A.units < cLine) : OpR X (compareOp .NotEq) rNeL0 := by
  intro pins s σ H x y v u Q I rx ry h
  obtain ⟨a, b, xs, rfl, rfl, ha, hb, q⟩ := h
  cases rx
  cases ry
  obtain ⟨_, its, n, r1, hl1, e1⟩ := I.lstM ha
  obtain ⟨_, its2, n2, r2, hl2, e2⟩ := I.lstM hb
  cases r2
  have L1 : s.heap.IsList a its.toArray := ⟨_, e1, rfl, n, rfl⟩
  have L2 : s.heap.IsList b #[] := ⟨_, e2, rfl, n2, rfl⟩
  cases r1 with
  | nil => exact SeqAt.RcNeAt.lists (e := fun _ => true) L1 L2 rfl hu (fun j h1 _ => absurd h1 (by simp)) _ _ _ _ ⟨.bl false, H, I, rfl, q⟩
  | cons r t => exact SeqAt.RcNeAt.lists_lengths L1 L2 (by simp) hu _ _ _ _ ⟨.bl true, H, I, rfl, q⟩
end
/-! ### defs of the text -/
/-- a def as the top lays it -/
def FunD (K : PySem.W.Frag) (mg : Str → Option Value) (x : Str) (st : Stmt) (ps : List Str) : Prop :=
  ∃ (f : Addr) (fd : FuncData), Fun K x x st f fd ∧ Binds K fd ps [] ∧ mg x = some (.ref f)
/-- a def that keeps its promise -/
def FnD (P : Program) (w : World) (K : PySem.W.Frag) (mg : Str → Option Value) (base : Heap) (x : Str) (k : Nat) (ps : List Str) (sp : Sp) : Prop :=
  ∃ (f : Addr) (fd : FuncData), FnOk P w K mg base CX0 k f fd ps sp ∧ Binds K fd ps [] ∧ PySem.W.keepIn K (.ref f) = true ∧ mg x = some (.ref f)
section
variable {P : Program} {w : World} {K : PySem.W.Frag} {mg : Str → Option Value} {base : Heap}
theorem fnD_of {x : Str} {st : Stmt} {N ps : List Str} {k : Nat} {sp : Sp} (F : FunD K mg x st ps) (S : FnScope N ps (defScope st)) (len : ∀ vs H Q E, sp vs H Q E → vs.length = ps.length)
    (hbody : ∀ (f : Addr) (cdv : Value) (A : Around) (outer : List Env) (s : Shared) (H : Hp) (vs : List V) (Q : VK) (E : XK), Room k (A.deeper (envOfC x (defScope st) s.heap.objs.size f cdv)) → sp vs H Q E →
      ∃ t, PSs (cxOf CX0 P w K mg base N x (defScope st) f cdv A outer s H E).nox (defBody st) t ∧ t { nx := fun _ H' => Q .non H', rt := Q } (start N vs) H) : FnD P w K mg base x (k + 1) ps sp := by
  obtain ⟨f, fd, F, b, m⟩ := F
  exact ⟨f, fd, F.ok S len fun cdv A outer s H vs Q E hr h => hbody f cdv A outer s H vs Q E hr h, b, F.kp, m⟩
theorem funD_mk {x : Str} {st : Stmt} {ps : List Str} {f : Addr} {oc : Value} {od an : Option Addr} {osl : Array (Option Value)} {kV doc pm cdv ct : Value} {h : Heap} (KX : K.In h) (G : h.Ns mainGlobals mg)
    (a : PySem.W.nsIn K mainGlobals x = some (some (.ref f)))
    (l : K.lookup f = some ⟨oc, od, .func (PySem.W.fnOf x x (defArgs st) (defBody st) (defScope st) .none kV doc pm an cdv ct), osl⟩)
    (c : PySem.W.codeIn K cdv x = true) (k : PySem.W.keepIn K (.ref f) = true)
    (hb : ∀ (kV doc pm : Value) (an : Option Addr) (cdv ct : Value) (us : List Value), us.length = ps.length → bindArgs (PySem.W.fnOf x x (defArgs st) (defBody st) (defScope st) .none kV doc pm an cdv ct) ⟨us, []⟩ = pure (ps.zip us)) :
    FunD K mg x st ps :=
  have F := fun_mk (st := st) l c k
  ⟨f, _, F, F.binds hb, PySem.W.mg_of KX G a⟩
theorem FnD.up {x : Str} {j k : Nat} {ps : List Str} {sp : Sp} (F : FnD P w K mg base x j ps sp) (h : j ≤ k) : FnD P w K mg base x k ps sp := by
  obtain ⟨f, fd, F, r⟩ := F
  exact ⟨f, fd, F.mono h, r⟩
theorem FnD.none {x : Str} {st : Stmt} {ps : List Str} {sp : Sp} (F : FunD K mg x st ps) (no : ∀ vs H Q E, ¬ sp vs H Q E) : FnD P w K mg base x 0 ps sp := by
  obtain ⟨f, fd, F, b, m⟩ := F
  exact ⟨f, fd, ⟨fun vs H Q E h => absurd h (no vs H Q E), fun A outer s H args us vs Q E _ _ _ _ h => absurd h (no vs H Q E)⟩, b, F.kp, m⟩
end
section
variable {X : Cx} {x : Str} {j k : Nat} {ps : List Str} {sp : Sp} {e : Expr} {es : List Expr} {t : TA} {p pos : Pos}
theorem pe_fn (F : FnD X.prog X.w X.K X.mg X.base x j ps sp) (hjk : j ≤ k) (hr : Room k X.A) (hg : Gl X x) (ha : PA X (e :: es) t) (hdb : (x == ("__debug__" : Str)) = false := by decide)
    (he : starEach (e :: es) X.env = (false, eval e X.env) :: starEach es X.env := by rfl) (hpl : (backTo pos (starEach es X.env)).any (·.1) = false := by rfl) :
    PE X (.Call (.Name x p) (e :: es) [] pos) (tCall sp [] XE0 t) := by
  obtain ⟨f, fd, F, b, kp, m⟩ := F
  exact pe_call (F.mono hjk) hr hg m kp b .nil pass0 ha hdb he hpl
end
end L2
namespace L2
open PySem PySem.Spec PySem.SeqAt PyProof.Rows
/-! ### a list comprehension: one for, at most one if, no free names -/
section
variable {X : Cx} {pins : List (Addr × Obj)} {σ : St} {H : Hp} {s : Shared}
/-- the tests behind a comprehension's for -/
abbrev tests (ifs : List Expr) (ev : Env) : Sem Bool := forIn ifs true fun c r => if r = true then (do let ok ← isTrue c ev (eval c ev); pure (ForInStep.yield ok)) else pure (ForInStep.yield r)
/-- the loop of a comprehension, turn by turn, its target any -/
theorem comp_loop {P : Program} {w : World} {A : Around} {R : Result → Shared → Prop} {s0 : Shared} {elt tg it0 : Expr} {ifs : List Expr} {sc : Scope} {ps : Pos} {it acc : Value} {ev : Env} (J : Nat → Shared → Prop)
    (turn : ∀ n s1, J n s1 → wpAny (model P w) A (pyNext it) (fun r s2 => match r with
      | none => R (.ok .next) s2
      | some v => wpAny (model P w) A (letOwnedTupleGo tg it v) (fun _ s3 => wpAny (model P w) A (assign tg ev v) (fun _ s4 => wpAny (model P w) A (tests ifs ev) (fun ok s5 =>
          if ok = true then wpAny (model P w) A (eval elt ev) (fun y s6 => wpAny (model P w) A (call (.builtin "list.append") [acc, y]) (fun _ s7 => ∃ m, m < n ∧ J m s7) (fun _ _ => False) s6) (fun _ _ => False) s5
          else ∃ m, m < n ∧ J m s5) (fun _ _ => False) s4) (fun _ _ => False) s3) (fun _ _ => False) s2) (fun _ _ => False) s1)
    (n : Nat) (h : J n s0) : codeAny (model P w) A (.compLoop (.ListComp elt [⟨tg, it0, ifs, 0⟩] sc ps) 0 it acc ev) R s0 := by
  refine codeAny_loop rfl J (fun n s1 hJ => ?_) n h
  show wpAny (model P w) A ((compTurn (.ListComp elt [⟨tg, it0, ifs, 0⟩] sc ps) 0 it acc ev).onRaise (fun e => do noteFrame e ev; theTreesLotGoes e)) _ _ s1
  refine wpAny_noted ?_
  rw [compTurn_list]
  refine wpAny_bind (wpAny_standAt (wpAny_bind (wpAny_mono (turn n s1 hJ) (fun r s2 h2 => ?_) fun _ _ z => z.elim)))
  cases r with
  | none => exact wpAny_pure h2
  | some v =>
    refine wpAny_bind (wpAny_mono h2 (fun _ s3 h3 => wpAny_bind (wpAny_mono h3 (fun _ s4 h4 => wpAny_bind (wpAny_mono h4 (fun ok s5 h5 => ?_) fun _ _ z => z.elim)) fun _ _ z => z.elim)) fun _ _ z => z.elim)
    cases ok with
    | false => exact wpAny_pure ⟨rfl, h5⟩
    | true => exact wpAny_bind (wpAny_bind (wpAny_mono h5 (fun y s6 h6 => wpAny_bind (wpAny_mono h6 (fun _ s7 h7 => wpAny_pure (wpAny_pure ⟨rfl, h7⟩)) fun _ _ z => z.elim)) fun _ _ z => z.elim))
/-- what a comprehension's own scope must be -/
structure LcScope (N : List Str) (scope : Scope) : Prop where
  kind : scope.kind = .function
  own : ∀ x ∈ scope.names, x.2 ≠ .cell ∧ x.2 ≠ .free
  loc : ∀ x ∈ scope.names, x.2 = .local → scope.names.lookup x.1 = some .local
end
end L2
namespace L2
open PySem PySem.Spec PySem.SeqAt PyProof.Rows
section
variable {X : Cx} {a b c d : Expr} {ta tb tc td : TE} {pos : Pos}
/-- a op b op c op d -/
theorem pe_chain3 {op op' op2 : CmpOp} {r r' r2 : R2} (ho : OpR X (compareOp op) r) (ho' : OpR X (compareOp op') r') (ho2 : OpR X (compareOp op2) r2) (ha : PE X a ta) (hb : PE X b tb) (hc : PE X c tc) (hd : PE X d td)
    (hm : lastMarks [op, op', op2] [b, c, d] = false := by with_unfolding_all rfl) : PE X (.Compare a [op, op', op2] [b, c, d] pos) (tChain3 r r' r2 ta tb tc td) := by
  intro pins s σ H Q I h
  refine Compare_chain (thn (ha pins s σ H _ I h) fun v s1 ⟨x, H1, I1, r1, q1⟩ => chain_link (thn (hb pins s1 σ H1 _ I1 q1) fun u s2 ⟨y, H2, I2, ry, q2⟩ =>
    thn (ho pins s2 σ H2 x y v u _ I2 r1 ry q2) fun d1 s3 ⟨z, H3, I3, r3, k, e, q3⟩ => ?_)) hm
  subst e
  cases r3
  refine wpAny_truthy_bool ?_
  cases k with
  | false => exact ite_ff ⟨.bl false, H3, I3, rfl, q3⟩
  | true =>
    refine ite_tt (chain_link (thn (hc pins s3 σ H3 _ I3 q3) fun w' s4 ⟨z', H4, I4, r4, q4⟩ => thn (ho' pins s4 σ H4 y z' u w' _ I4 ry r4 q4) fun d2 s5 ⟨z2, H5, I5, r5, k2, e2, q5⟩ => ?_))
    subst e2
    cases r5
    refine wpAny_truthy_bool ?_
    cases k2 with
    | false => exact ite_ff ⟨.bl false, H5, I5, rfl, q5⟩
    | true => exact ite_tt (chain_last (thn (hd pins s5 σ H5 _ I5 q5) fun w2 s6 ⟨z3, H6, I6, r6, q6⟩ => ho2 pins s6 σ H6 z' z3 w' w2 Q I6 r4 r6 q6))
end
/-! ### reversed(l) -/
theorem turn_rev {P : Program} {w : World} {K : PySem.W.Frag} {tg : Expr} (a it : Addr) (n : Nat) : Turn P w K tg (Itv K a n) [it] it (fun i h => i ≤ n ∧ h.IsRevIter it a ((n : Int) - 1 - (i : Int))) where
  mem := by simp
  obj := fun i h st b hb => by
    have e : b = it := by simpa using hb
    subst e
    obtain ⟨_, o, e, c, d⟩ := st
    exact ⟨o, e, fun v z => by rw [d] at z; cases z⟩
  keep := fun i h h' st k => ⟨st.1, st.2.at fun o e => k it (by simp) o e⟩
  item := by
    intro X hP hw hK hc i pins s σ H E I hf st hg
    subst hP hw hK
    obtain ⟨hi, xs, hq, hn⟩ := hg
    obtain ⟨its, rv, p, hz⟩ := I.list hq
    have hlt : n - 1 - i < xs.length := by omega
    have hx : xs[n - 1 - i]? = some xs[n - 1 - i] := List.getElem?_eq_getElem hlt
    obtain ⟨u, hu, ru⟩ := rv.get hx
    obtain ⟨f0, f1, f2, f3, f4, f5⟩ := hf it (by simp)
    have e : (n : Int) - 1 - (i : Int) = ((n - 1 - i : Nat) : Int) := by omega
    have st2 := st.2
    rw [e] at st2
    refine wpAny_pyNext_rev_item st2 p.isList (x := u) (by simpa using hu) fun h' st' sb => ?_
    have e2 : ((n - 1 - i : Nat) : Int) - 1 = (n : Int) - 1 - ((i + 1 : Nat) : Int) := by omega
    rw [e2] at st'
    have I1 : Inv X pins σ H { s with heap := h' } := I.turned (t' := s.toks) (fun b o hb e => (sb.2 b hb).trans e) f0 f1 f3 f4 f5
    obtain ⟨o, e, c, d⟩ := id st'
    exact ⟨u, rfl, go_of (s := { s with heap := h' }) e c d (by decide) ⟨xs[n - 1 - i], H, I1, ru, ⟨rfl, fun ys hy => by rw [I.list_inj hy hq]; exact hx⟩, ⟨hi, st'⟩, fun b hb => (hf b hb).1⟩⟩
  done := by
    intro X hP hw hK hc i pins s σ H E I hf st hg
    subst hP hw hK
    have hg : n ≤ i := hg
    obtain ⟨f0, f1, f2, f3, f4, f5⟩ := hf it (by simp)
    have st2 := st.2
    have e : (n : Int) - 1 - (i : Int) = -1 := by have := st.1; omega
    rw [e] at st2
    exact wpAny_pyNext_rev_end (I.ok.hd hc) st2 fun h' eb => ⟨rfl, I.turned (t' := s.toks) (fun b o hb e => eb b o hb e) f0 f1 f3 f4 f5⟩
  self := fun _ _ _ _ _ st h => wpAny_pyIter_revIter st.2 h
section
variable {X : Cx} {tg : Expr}
theorem pi_rev {e : Expr} {t : TA} {p pos : Pos} (hg : Gl X "reversed") (hm : X.mg "reversed" = none) (ha : PA X [e] t) (hs : starEach [e] X.env = [(false, eval e X.env)] := by rfl) : PI X tg (.Call (.Name "reversed" p) [e] [] pos) (iRev X.K t) := by
  intro pins s σ H R I h
  refine Call_ (ld_blt I hg hm boot_reversed (PyProof.Rows.callWith_type1 (thn (ha pos pins s σ H _ I h) fun us s1 ⟨vs, H1, I1, r1, q1⟩ => ?_) hs rfl))
  obtain ⟨a, xs, e, hq, q⟩ := q1
  subst e
  cases r1 with
  | cons r rr =>
    cases rr
    cases r
    obtain ⟨its, rv, pl, hz⟩ := I1.list hq
    refine call_reversed_list pl.isList ?_
    have hl : ((its.toArray.size : Nat) : Int) - 1 = (xs.length : Int) - 1 - ((0 : Nat) : Int) := by rw [List.size_toArray, rv.length]; omega
    rw [hl]
    have it0 : (s1.heap.push (revObj a ((xs.length : Int) - 1 - ((0 : Nat) : Int)))).IsRevIter s1.heap.objs.size a ((xs.length : Int) - 1 - ((0 : Nat) : Int)) := ⟨_, Heap.get?_push_size _ rfl, rfl, rfl⟩
    refine wpAny_pyIter_revIter (s := { s1 with heap := s1.heap.push (revObj a ((xs.length : Int) - 1 - ((0 : Nat) : Int))) }) it0 ?_
    refine ⟨s1.heap.objs.size, [s1.heap.objs.size], _, _, H1, rfl, I1.kept (t' := s1.toks) fun b o e => Heap.get?_push_of_some _ e, turn_rev a _ xs.length, ⟨Nat.zero_le _, it0⟩, fun b hb => ?_, q⟩
    have e : b = s1.heap.objs.size := by simpa using hb
    subst e
    exact I1.fpOk (Nat.le_refl _) (I1.hok.fresh (Nat.le_refl _))
end
/-! ### lists by their lengths -/
theorem len0 {α : Type} {us : List α} {n : Nat} (hl : us.length = n + 1) : ∃ a vs, us = a :: vs ∧ vs.length = n := by
  cases us with
  | nil => cases hl
  | cons a vs => exact ⟨a, vs, rfl, Nat.succ.inj hl⟩
theorem len1 {α : Type} {us : List α} (hl : us.length = 1) : ∃ a, us = [a] := by
  obtain ⟨a, vs, rfl, h⟩ := len0 hl
  cases vs with
  | nil => exact ⟨a, rfl⟩
  | cons b vs => cases h
theorem len2 {α : Type} {us : List α} (hl : us.length = 2) : ∃ a b, us = [a, b] := by
  obtain ⟨a, vs, rfl, h⟩ := len0 hl
  obtain ⟨b, rfl⟩ := len1 h
  exact ⟨a, b, rfl⟩
theorem len3 {α : Type} {us : List α} (hl : us.length = 3) : ∃ a b c, us = [a, b, c] := by
  obtain ⟨a, vs, rfl, h⟩ := len0 hl
  obtain ⟨b, c, rfl⟩ := len2 h
  exact ⟨a, b, c, rfl⟩
theorem len4 {α : Type} {us : List α} (hl : us.length = 4) : ∃ a b c d, us = [a, b, c, d] := by
  obtain ⟨a, vs, rfl, h⟩ := len0 hl
  obtain ⟨b, c, d, rfl⟩ := len3 h
  exact ⟨a, b, c, d, rfl⟩
theorem len5 {α : Type} {us : List α} (hl : us.length = 5) : ∃ a b c d e, us = [a, b, c, d, e] := by
  obtain ⟨a, vs, rfl, h⟩ := len0 hl
  obtain ⟨b, c, d, e, rfl⟩ := len4 h
  exact ⟨a, b, c, d, e, rfl⟩
/-! ### methods -/
def FunM (K : PySem.W.Frag) (C : Addr) (x qual : Str) (st : Stmt) (ps : List Str) : Prop := ∃ (f : Addr) (fd : FuncData), Fun K x qual st f fd ∧ Binds K fd ps [] ∧ Meth K C x f
def MthD (P : Program) (w : World) (K : PySem.W.Frag) (mg : Str → Option Value) (base : Heap) (C : Addr) (x : Str) (k : Nat) (ps : List Str) (sp : Sp) : Prop :=
  ∃ (f : Addr) (fd : FuncData), FnOk P w K mg base CX0 k f fd ps sp ∧ Binds K fd ps [] ∧ Meth K C x f
def FunI (K : PySem.W.Frag) (mg : Str → Option Value) (C : Addr) (cx qual : Str) (st : Stmt) (ps : List Str) : Prop := ∃ (f : Addr) (fd : FuncData), Fun K "__init__" qual st f fd ∧ Binds K fd ps [] ∧ Mk K C f ∧ mg cx = some (.ref C)
def MkD (P : Program) (w : World) (K : PySem.W.Frag) (mg : Str → Option Value) (base : Heap) (C : Addr) (cx : Str) (k : Nat) (ps : List Str) (sp : Sp) : Prop :=
  ∃ (f : Addr) (fd : FuncData), FnOk P w K mg base CX0 k f fd ps sp ∧ Binds K fd ps [] ∧ Mk K C f ∧ mg cx = some (.ref C)
section
variable {P : Program} {w : World} {K : PySem.W.Frag} {mg : Str → Option Value} {base : Heap} {C : Addr}
theorem mthD_of {x qual : Str} {st : Stmt} {N ps : List Str} {k : Nat} {sp : Sp} (F : FunM K C x qual st ps) (S : FnScope N ps (defScope st)) (len : ∀ vs H Q E, sp vs H Q E → vs.length = ps.length)
    (hbody : ∀ (f : Addr) (cdv : Value) (A : Around) (outer : List Env) (s : Shared) (H : Hp) (vs : List V) (Q : VK) (E : XK), Room k (A.deeper (envOfC qual (defScope st) s.heap.objs.size f cdv)) → sp vs H Q E →
      ∃ t, PSs (cxOf CX0 P w K mg base N qual (defScope st) f cdv A outer s H E).nox (defBody st) t ∧ t { nx := fun _ H' => Q .non H', rt := Q } (start N vs) H) : MthD P w K mg base C x (k + 1) ps sp := by
  obtain ⟨f, fd, F, b, m⟩ := F
  exact ⟨f, fd, F.ok S len fun cdv A outer s H vs Q E hr h => hbody f cdv A outer s H vs Q E hr h, b, m⟩
theorem mkD_of {cx qual : Str} {st : Stmt} {N ps : List Str} {k : Nat} {sp : Sp} (F : FunI K mg C cx qual st ps) (S : FnScope N ps (defScope st)) (len : ∀ vs H Q E, sp vs H Q E → vs.length = ps.length)
    (hbody : ∀ (f : Addr) (cdv : Value) (A : Around) (outer : List Env) (s : Shared) (H : Hp) (vs : List V) (Q : VK) (E : XK), Room k (A.deeper (envOfC qual (defScope st) s.heap.objs.size f cdv)) → sp vs H Q E →
      ∃ t, PSs (cxOf CX0 P w K mg base N qual (defScope st) f cdv A outer s H E).nox (defBody st) t ∧ t { nx := fun _ H' => Q .non H', rt := Q } (start N vs) H) : MkD P w K mg base C cx (k + 1) ps sp := by
  obtain ⟨f, fd, F, b, m⟩ := F
  exact ⟨f, fd, F.ok S len fun cdv A outer s H vs Q E hr h => hbody f cdv A outer s H vs Q E hr h, b, m⟩
theorem funM_mk {x qual : Str} {st : Stmt} {ps : List Str} {f : Addr} {oc : Value} {od an : Option Addr} {osl : Array (Option Value)} {kV doc pm cdv ct : Value}
    (a : PySem.W.findIn K (.ref C) x = some (some (.ref f))) (i : PySem.W.isFn K (.ref f) = true)
    (l : K.lookup f = some ⟨oc, od, .func (PySem.W.fnOf x qual (defArgs st) (defBody st) (defScope st) .none kV doc pm an cdv ct), osl⟩)
    (c : PySem.W.codeIn K cdv qual = true) (k : PySem.W.keepIn K (.ref f) = true)
    (hb : ∀ (kV doc pm : Value) (an : Option Addr) (cdv ct : Value) (us : List Value), us.length = ps.length → bindArgs (PySem.W.fnOf x qual (defArgs st) (defBody st) (defScope st) .none kV doc pm an cdv ct) ⟨us, []⟩ = pure (ps.zip us)) :
    FunM K C x qual st ps :=
  have F := fun_mk (st := st) l c k
  ⟨f, _, F, F.binds hb, a, i, k⟩
theorem funI_mk {cx qual : Str} {st : Stmt} {ps : List Str} {f : Addr} {oc : Value} {od an : Option Addr} {osl : Array (Option Value)} {kV doc pm cdv ct : Value}
    (m : mg cx = some (.ref C)) (mk : PySem.W.makesIn K C = true) (kc : PySem.W.keepIn K (.ref C) = true) (a : PySem.W.findIn K (.ref C) "__init__" = some (some (.ref f))) (i : PySem.W.isFn K (.ref f) = true)
    (l : K.lookup f = some ⟨oc, od, .func (PySem.W.fnOf "__init__" qual (defArgs st) (defBody st) (defScope st) .none kV doc pm an cdv ct), osl⟩)
    (c : PySem.W.codeIn K cdv qual = true) (k : PySem.W.keepIn K (.ref f) = true)
    (hb : ∀ (kV doc pm : Value) (an : Option Addr) (cdv ct : Value) (us : List Value), us.length = ps.length → bindArgs (PySem.W.fnOf "__init__" qual (defArgs st) (defBody st) (defScope st) .none kV doc pm an cdv ct) ⟨us, []⟩ = pure (ps.zip us)) :
    FunI K mg C cx qual st ps :=
  have F := fun_mk (st := st) l c k
  ⟨f, _, F, F.binds hb, ⟨mk, a, i, kc⟩, m⟩
theorem MthD.up {x : Str} {j k : Nat} {ps : List Str} {sp : Sp} (F : MthD P w K mg base C x j ps sp) (h : j ≤ k) : MthD P w K mg base C x k ps sp := by
  obtain ⟨f, fd, F, r⟩ := F
  exact ⟨f, fd, F.mono h, r⟩
theorem MthD.none {x qual : Str} {st : Stmt} {ps : List Str} {sp : Sp} (F : FunM K C x qual st ps) (no : ∀ vs H Q E, ¬ sp vs H Q E) : MthD P w K mg base C x 0 ps sp := by
  obtain ⟨f, fd, F, b, m⟩ := F
  exact ⟨f, fd, ⟨fun vs H Q E h => absurd h (no vs H Q E), fun A outer s H args us vs Q E _ _ _ _ h => absurd h (no vs H Q E)⟩, b, m⟩
end
section
variable {X : Cx} {C : Addr} {x : Str} {j k : Nat} {ps : List Str} {sp : Sp} {o e : Expr} {es : List Expr} {ta : TE} {t : TA} {p pos apos : Pos}
theorem pe_mth {pl : Sem Bool} (F : MthD X.prog X.w X.K X.mg X.base C x j ps sp) (hjk : j ≤ k) (hr : Room k X.A) (T : Txt X.K C) (ho : PE X o ta) (ha : PA X (e :: es) t)
    (hst : starEach (e :: es) X.env = (false, eval e X.env) :: starEach es X.env := by rfl) (hpl : (backTo pos (starEach es X.env)).any (·.1) = false := by rfl)
    (ht : eval (.Call (.Attribute o x apos) (e :: es) [] pos) X.env = (do
      let ov ← eval o X.env
      standAt apos.atName
      let (f, first) ← holding [ov] (getMethod ov x pl)
      callWith pos f first (backTo pos (starEach (e :: es) X.env)) (backToKw pos (keywordEach [] X.env))) := by rfl) :
    PE X (.Call (.Attribute o x apos) (e :: es) [] pos) (tMeth C x sp [] XE0 ta t) := by
  obtain ⟨f, fd, F, b, m⟩ := F
  exact pe_meth (pl := pl) ho T.cl m (F.mono hjk) hr b .nil pass0 ha hst hpl ht
theorem pe_mth0 {pl : Sem Bool} (F : MthD X.prog X.w X.K X.mg X.base C x j ps sp) (hjk : j ≤ k) (hr : Room k X.A) (T : Txt X.K C) (ho : PE X o ta)
    (ht : eval (.Call (.Attribute o x apos) [] [] pos) X.env = (do
      let ov ← eval o X.env
      standAt apos.atName
      let (f, first) ← holding [ov] (getMethod ov x pl)
      callWith pos f first (backTo pos (starEach [] X.env)) (backToKw pos (keywordEach [] X.env))) := by rfl) :
    PE X (.Call (.Attribute o x apos) [] [] pos) (tMeth C x sp [] XE0 ta tNil) := by
  obtain ⟨f, fd, F, b, m⟩ := F
  exact pe_meth0 (pl := pl) ho T.cl m (F.mono hjk) hr b .nil pass0 ht
theorem pe_mk (F : MkD X.prog X.w X.K X.mg X.base C x j ps sp) (hjk : j + 1 ≤ k) (hr : Room k X.A) (hg : Gl X x) (ha : PA X (e :: es) t) (hdb : (x == ("__debug__" : Str)) = false := by decide)
    (he : starEach (e :: es) X.env = (false, eval e X.env) :: starEach es X.env := by rfl) (hpl : (backTo pos (starEach es X.env)).any (·.1) = false := by rfl) :
    PE X (.Call (.Name x p) (e :: es) [] pos) (tMake C sp [] XE0 t) := by
  obtain ⟨f, fd, F, b, m, hm⟩ := F
  exact pe_make m F (hr.mono hjk) hg hm b .nil pass0 ha hdb he hpl
end
end L2
namespace L2
open PySem PySem.Spec PySem.SeqAt PyProof.Rows
/-! ### a list comprehension: one for over a name, one free name -/
def cxF (X : Cx) (x y : Str) (scope : Scope) (c C : Addr) (fp : List Addr) (s : Shared) (H : Hp) : Cx :=
  { X with N := [x, y], s₀ := s, H₀ := H, env := compEnvC scope [(y, c)] C X.env, outer := X.stack, ex := fp, fn := fun _ => false, pn := [], xe := fun _ _ => False }
/-- its own scope: x is its local, y its one free name -/
structure LcF (x y : Str) (scope : Scope) : Prop where
  kind : scope.kind = .function
  lx : scope.names.lookup x = some .local
  ne : x ≠ y
  own : ∀ z ∈ scope.names, z.2 ≠ .cell ∧ (z.2 = .free → z.1 = y)
  loc : ∀ z ∈ scope.names, z.2 = .local → scope.names.lookup z.1 = some .local
theorem lk_one {y z : Str} {c b : Addr} (h : ([(y, c)] : List (Str × Addr)).lookup z = some b) : z = y ∧ b = c := by
  have m := PySem.mem_of_lookup h
  have e := List.mem_singleton.mp m
  injection e with e1 e2
  exact ⟨e1, e2⟩
theorem lk_self (y : Str) (c : Addr) : ([(y, c)] : List (Str × Addr)).lookup y = some c := by
  show (match y == y with | true => some c | false => _) = _
  rw [beq_self_eq_true]
theorem relabel_free {x y z : Str} {scope : Scope} {env : Env} (S : LcF x y scope) (h : (relabel scope env).names.lookup z = some .cell ∨ (relabel scope env).names.lookup z = some .free) : z = y := by
  have go : ∀ k, (k = NameKind.cell ∨ k = NameKind.free) → (relabel scope env).names.lookup z = some k → z = y := fun k hk h => by
    have m := PySem.mem_of_lookup h
    obtain ⟨⟨n, k'⟩, m1, e⟩ := List.mem_map.mp (show (z, k) ∈ scope.names.map _ from m)
    have o := S.own _ m1
    by_cases f : k' = .free
    · have : n = z := by
        dsimp only at e
        split at e <;> (injection e)
      rw [← this]; exact o.2 f
    · have c0 : (k' == NameKind.free && env.scope.kind == .function && env.kindOf n == some .cell) = false := by
        have : (k' == NameKind.free) = false := by simpa using f
        rw [this]; rfl
      dsimp only at e
      rw [c0] at e
      injection e with e1 e2
      subst e2
      rcases hk with hk | hk
      · exact absurd hk o.1
      · exact absurd hk f
  rcases h with h | h
  · exact go _ (.inl rfl) h
  · exact go _ (.inr rfl) h
section
variable {X : Cx} {pins : List (Addr × Obj)} {σ : St} {H : Hp} {s : Shared} {x y : Str} {scope : Scope} {c : Addr} {j : Nat}
theorem inv_blockF {fp : List Addr} {s4 : Shared} (I : Inv X pins σ H s) (S : LcF x y scope) (hj : X.N[j]? = some y) (hv : X.env.kindOf y = some .cell) (hc : X.env.cells.lookup y = some c)
    (hk : (compEnvC scope [(y, c)] s.heap.objs.size X.env).kindOf y = some .cell)
    (hf : ∀ b ∈ fp, FpOk X pins H b) (ho : ∀ b ∈ fp, ∃ o, s.heap.get? b = some o) (ns : s4.heap.Ns s.heap.objs.size fun _ => none) (os : s4.os = s.os) (gb : AllBare s4.gens) (k : ∀ b o, s.heap.get? b = some o → s4.heap.get? b = some o) :
    Inv (cxF X x y scope c s.heap.objs.size fp s H) [] [none, (σ[j]?).join] H s4 := by
  have cell : ∀ z b, (compEnvC scope [(y, c)] s.heap.objs.size X.env).cells.lookup z = some b → X.env.cells.lookup z = some b := fun z b e => by
    obtain ⟨e1, e2⟩ := lk_one (show ([(y, c)] : List (Str × Addr)).lookup z = some b from e)
    rw [e1, e2]; exact hc
  refine ⟨⟨I.ok.mod, S.kind, I.ok.glob, I.ok.blt, Nat.le_refl _, fun z z' b h1 h2 => ?_, fun z h => ?_, fun z b h _ => absurd (show false = true from h) Bool.false_ne_true, I.ok.hd, I.ok.frames, .inl rfl, fun b hb => ⟨?_, fun z b' h => ?_⟩, I.bs, Nat.le_trans I.ok.bsz I.sz, fun b o e hb => ?_, fun b hb => ?_, I.stack, I.stkFree⟩,
    os, gb, Un.kept k, ⟨_, ns, fun i z v h1 h2 h3 => ?_⟩, fun z b h => ?_, I.hok.fresh (Nat.le_refl _), fun z b h => I.freeC z b (cell z b h), fun p hp => absurd hp (by show p ∉ ([] : List (Addr × Obj)) ++ []; simp), I.hok.kept k, ?_⟩
  · exact ((lk_one (show ([(y, c)] : List (Str × Addr)).lookup z = some b from h1)).1).trans ((lk_one (show ([(y, c)] : List (Str × Addr)).lookup z' = some b from h2)).1).symm
  · have e := relabel_free S (show (relabel scope X.env).names.lookup z = some .cell ∨ (relabel scope X.env).names.lookup z = some .free from h)
    subst e
    exact ⟨c, lk_self _ c⟩
  · obtain ⟨o, e⟩ := ho b hb
    exact Nat.ne_of_lt (Heap.lt_size e)
  · exact (hf b hb).2.2.2.2.1 z b' (cell z b' h)
  · rcases (hf b hb).2.2.2.1 with z | z
    · exact I.ok.noex b o e z
    · exact absurd (Nat.lt_of_lt_of_le (Heap.lt_size e) (Nat.le_trans I.ok.bsz z)) (Nat.lt_irrefl _)
  · intro z
    rcases List.mem_cons.mp (I.stkSub b z) with z | z
    · exact (hf b hb).2.1 z
    · exact (hf b hb).2.2.1 z
  · match i, h1, h2 with
    | 0, h1, h2 => cases h2
    | 1, h1, h2 =>
      have h1 : some y = some z := h1
      cases h1
      have h2 : some ((σ[j]?).join) = some (some v) := h2
      have h2 := Option.some.inj h2
      have h4 : σ[j]? = some (some v) := by
        cases q : σ[j]? with
        | none => rw [q] at h2; cases h2
        | some w => rw [q] at h2; exact congrArg some h2
      obtain ⟨m, _, hl⟩ := I.loc
      obtain ⟨u, ru, lk⟩ := hl j y v hj h4 (.inr (.inl hv))
      refine ⟨u, ru, .inr ⟨.inl hk, c, lk_self y c, ?_⟩⟩
      rcases lk with ⟨z, _⟩ | ⟨_, c', hc', hcell⟩
      · rw [hv] at z; cases z
      · rw [hc] at hc'
        cases hc'
        obtain ⟨o, ho', hd⟩ := hcell
        exact ⟨o, k _ _ ho', hd⟩
    | i + 2, h1, h2 => cases h2
  · obtain ⟨v, o, ho', hd⟩ := I.cell z b (cell z b h)
    exact ⟨v, o, k _ _ ho', hd⟩
  · rfl
theorem run_blockF {elt it0 : Expr} {px ps : Pos} {E : Value → Shared → Prop} {RR : Value → Addr → Result → Shared → Prop} {J : It} {fp : List Addr} {it : Addr} {tn : Nat → Heap → Prop} {te : TE} {Q : VK}
    (I : Inv X pins σ H s) (T : Turn X.prog X.w X.K (.Name x px) J fp it tn) (st : tn 0 s.heap) (hf : ∀ b ∈ fp, FpOk X pins H b) (hcalm : X.calm = true) (S : LcF x y scope) (hj : X.N[j]? = some y) (hv : X.env.kindOf y = some .cell) (hc : X.env.cells.lookup y = some c)
    (hk : ∀ C, (compEnvC scope [(y, c)] C X.env).kindOf y = some .cell)
    (he : ∀ C s H, PE (cxF X x y scope c C fp s H) elt te)
    (rd : ∀ r, H r = none → ∃ W : Nat → Nat → Hp → Prop, (∃ m, W 0 m (upd H r (.lst []))) ∧ ∀ i m H2, W i m H2 →
      (J.stop i H2 ∧ Q (.ref r) H2) ∨ (J.go i H2 ∧ ∀ x H3, J.yld i H2 x H3 → te [some x, (σ[j]?).join] H3 fun v H6 => ∃ ys, H6 r = some (.lst ys) ∧ ys.length < sizeLine ∧ ∃ m', m' < m ∧ W (i + 1) m' (upd H6 r (.lst (ys ++ [v])))))
    (fin : ∀ (r C : Addr) (H' : Hp) (s' : Shared), Inv X pins σ H' s' → FpOk X pins H' C → (∃ m o, s'.heap.Ns C m ∧ s'.heap.get? C = some o ∧ ∀ v, o.data ≠ .cell v) → Q (.ref r) H' → RR (.ref r) C (.ok .next) s') :
    wpAny (model X.prog X.w) X.A (newList []) (fun acc s3 => wpAny (model X.prog X.w) X.A (newFunctionEnv scope X.env.globals [(y, c)] [] X.env.qual none .none (some X.env)) (fun cenv s4 =>
      codeAny (model X.prog X.w) X.A (.compStart (.ListComp elt [⟨.Name x px, it0, [], 0⟩] scope ps) 0 (.ref it) acc { cenv with scope := relabel scope X.env }) (RR acc cenv.locals) s4) E s3) E s := by
  have hn : H s.heap.objs.size = none := I.hok.fresh (Nat.le_refl _)
  obtain ⟨W, ⟨m0, w0⟩, turn⟩ := rd _ hn
  refine wpAny_newObj_type (hd := by size_fits) ?_
  have I3 := I.laid (a := s.heap.objs.size) (o := .lst []) (t' := s.toks) (h' := s.heap.push { cls := .type "list", dict := none, data := .seq ([] : List Value).toArray }) (fun b u e => Heap.get?_push_of_some _ e) (Nat.le_refl _)
    ⟨Nat.zero_le _, [], 0, .nil, Heap.get?_push_size _ rfl⟩
  generalize hh3 : s.heap.push { cls := .type "list", dict := none, data := .seq ([] : List Value).toArray } = h3 at I3 ⊢
  have k3 : ∀ b o, s.heap.get? b = some o → h3.get? b = some o := fun b o e => by rw [← hh3]; exact Heap.get?_push_of_some _ e
  refine wpAny_newFunctionEnv (fun z hz => (S.own z hz).1) (by intro y hy; simp at hy) (fun h4 ns4 sb4 => ?_) S.kind
  dsimp only at ns4 sb4 ⊢
  have k4 : ∀ b o, h3.get? b = some o → h4.get? b = some o := fun b o e => sb4.extBut b o (Nat.ne_of_lt (Heap.lt_size e)) (Heap.get?_push_of_some _ e)
  have hobj := T.obj _ _ st
  have hf3 : ∀ b ∈ fp, FpOk X pins (upd H s.heap.objs.size (.lst [])) b := fun b hb => by
    obtain ⟨o, e, _⟩ := hobj b hb
    exact ⟨by rw [upd_ne (Nat.ne_of_lt (Heap.lt_size e))]; exact (hf b hb).1, (hf b hb).2⟩
  have I3 : Inv X pins σ (upd H s.heap.objs.size (.lst [])) { s with heap := h3, toks := s.toks } := I3
  generalize hr : s.heap.objs.size = r at *
  have ns' : h4.Ns h3.objs.size (fun _ => none) := by simpa using ns4
  have J0 := inv_blockF (fp := fp) (s4 := { s with heap := h4, toks := s.toks + ([] : List (Str × Value)).length }) I3 S hj hv hc (hk _) hf3 (fun b hb => by
    obtain ⟨o, e, _⟩ := hobj b hb
    exact ⟨o, k3 b o e⟩) ns' rfl I3.bare k4
  have st4 : tn 0 h4 := T.keep _ _ _ st fun b hb o e => k4 b o (k3 b o e)
  generalize hX' : cxF X x y scope c h3.objs.size fp { s with heap := h3, toks := s.toks } (upd H r (.lst [])) = X' at *
  have p1 : X'.prog = X.prog := by rw [← hX']; rfl
  have p2 : X'.w = X.w := by rw [← hX']; rfl
  have p3 : X'.K = X.K := by rw [← hX']; rfl
  have p4 : X'.calm = true := by rw [← hX']; exact hcalm
  have p5 : X'.A = X.A := by rw [← hX']; rfl
  have stat : ∀ {H' : Hp}, (∀ b ∈ fp, H' b = none) → ∀ b ∈ fp, FpOk X' [] H' b := by
    rw [← hX']
    rw [← hX'] at J0
    exact fun hn b hb => ⟨hn b hb, (J0.ok.exf b hb).1, J0.ok.exfs b hb, .inl hb, (J0.ok.exf b hb).2, fun p hp => absurd hp (by show p ∉ ([] : List (Addr × Obj)) ++ []; simp)⟩
  have hpg : PG X' (.Name x px) (gName 0) := by
    rw [← hX']
    exact pg_name (i := 0) (by show List.Nodup [x, y]; simp [S.ne]) rfl (.inl (lookup_relabel_local S.lx)) (.inr (lookup_relabel_local S.lx))
  have hel : PE X' elt te := by rw [← hX']; exact he _ _ _
  have henv : X'.env = compEnvC scope [(y, c)] h3.objs.size X.env := by rw [← hX']; rfl
  have hxe : X'.xe = fun _ _ => False := by rw [← hX']; rfl
  have back0 : ∀ {σ' : St} {H' : Hp} {s' : Shared}, Inv X' [] σ' H' s' → Inv X pins σ H' s' := by
    rw [← hX']
    exact fun I6 => I3.call' I6.os I6.base I6.hok I6.bare fun b hb => ⟨(hf3 b hb).2.2.2.1, (hf3 b hb).2.1, (hf3 b hb).2.2.2.2.1, (hf3 b hb).2.2.2.2.2⟩
  have locals : ∀ {σ' : St} {H' : Hp} {s' : Shared}, Inv X' [] σ' H' s' → (∃ m, s'.heap.Ns h3.objs.size m) ∧ H' h3.objs.size = none := by
    rw [← hX']
    exact fun I6 => ⟨let ⟨m, hm, _⟩ := I6.loc; ⟨m, hm⟩, I6.free⟩
  have loop : codeAny (model X.prog X.w) X.A (.compLoop (.ListComp elt [⟨.Name x px, it0, [], 0⟩] scope ps) 0 (.ref it) (.ref r) (compEnvC scope [(y, c)] h3.objs.size X.env)) (RR (.ref r) h3.objs.size) { s with heap := h4, toks := s.toks + ([] : List (Str × Value)).length } := by
    refine comp_loop (fun n s' => ∃ i o H', Inv X' [] [o, (σ[j]?).join] H' s' ∧ tn i s'.heap ∧ (∀ b ∈ fp, H' b = none) ∧ W i n H') ?_ m0 ⟨0, none, _, J0, st4, fun b hb => (hf3 b hb).1, w0⟩
    rintro n s5 ⟨i, o5, H5, I5, st5, fr5, w5⟩
    rcases turn i n H5 w5 with ⟨stop, q⟩ | ⟨go, step⟩
    · have d := T.done X' p1 p2 p3 p4 i [] s5 _ H5 (fun _ _ => False) I5 (stat fr5) st5 stop
      rw [p5] at d
      refine wpAny_mono d (fun rr s6 h6 => ?_) fun _ _ z => z
      obtain ⟨hrr, I6⟩ := h6
      subst hrr
      obtain ⟨⟨m, hm⟩, hfr⟩ := locals I6
      obtain ⟨o, es, ep, ho, hd, _⟩ := id hm
      exact fin r h3.objs.size H5 s6 (back0 I6) (I3.fpOk (Nat.le_refl _) hfr) ⟨m, o, hm, ho, fun v z => by rw [hd] at z; cases z⟩ q
    · have d := T.item X' p1 p2 p3 p4 i [] s5 _ H5 (fun _ _ => False) I5 (stat fr5) st5 go
      rw [p5] at d
      refine wpAny_mono d (fun rr s6 h6 => ?_) fun _ _ z => z
      obtain ⟨u, hrr, h6⟩ := h6
      subst hrr
      refine wpAny_mono h6 (fun _ s7 h7 => ?_) fun _ _ z => z
      obtain ⟨xv, H7, I7, r7, y7, st7, fr7⟩ := h7
      have I7' := I7.pinned (stat fr7) (T.obj _ _ st7)
      have a8 := hpg _ s7 _ H7 xv u (fun σ2 H4 => σ2 = [some xv, (σ[j]?).join] ∧ H4 = H7) I7' r7 ⟨rfl, rfl⟩
      rw [p1, p2, p5, henv, hxe] at a8
      refine wpAny_mono a8 (fun _ s8 h8 => ?_) fun _ _ z => z
      obtain ⟨σ8, H8, I8, e8, e8'⟩ := h8
      subst e8 e8'
      refine wpAny_tests_nil ?_
      show wpAny (model X.prog X.w) X.A (eval elt (compEnvC scope [(y, c)] h3.objs.size X.env)) _ _ s8
      have a9 := hel _ s8 _ H8 _ I8 (step xv H8 y7)
      rw [p1, p2, p5, henv, hxe] at a9
      refine wpAny_mono a9 (fun yv s10 h10 => ?_) fun _ _ z => z
      obtain ⟨v, H10, I10, rv, ys, hr10, hz, n10⟩ := h10
      have a11 := mt_append (X := X') _ s10 _ H10 (.ref r) [v] (.ref r) [yv] (fun _ H' => H' = upd H10 r (.lst (ys ++ [v]))) I10 rfl (.cons rv .nil) ⟨r, ys, v, rfl, rfl, hr10, hz, rfl⟩
      rw [p1, p2, p5, hxe] at a11
      refine wpAny_mono a11 (fun _ s11 h11 => ?_) fun _ _ z => z
      obtain ⟨_, H11, I11, _, e11⟩ := h11
      subst e11
      obtain ⟨m', hm, w8⟩ := n10
      refine ⟨m', hm, i + 1, _, _, I11.unpinned, T.keep _ _ _ st7 fun b hb o e => (I11.pin (b, o) (List.mem_append_right _ (List.mem_append_right _ (mem_pinsAt hb e)))).1, fun b hb => ?_, w8⟩
      obtain ⟨o, e, d⟩ := T.obj _ _ st7 b hb
      exact (I11.pin (b, o) (List.mem_append_right _ (List.mem_append_right _ (mem_pinsAt hb e)))).2.1
  exact codeAny_compStart_list loop (T.self _ _ _ _ _ st4 loop)
/-- [e for x in it], y its one free name -/
theorem pe_lcF {elt it0 : Expr} {px ps : Pos} {wi : TI} {te : TE} (S : LcF x y scope) (hcalm : X.calm = true) (hj : X.N[j]? = some y) (hv : X.env.kindOf y = some .cell) (hc : X.env.cells.lookup y = some c) (hclos : closureFor scope X.env = pure [(y, c)])
    (hk : ∀ C, (compEnvC scope [(y, c)] C X.env).kindOf y = some .cell) (hi : PI X (.Name x px) it0 wi) (he : ∀ fp C s H, PE (cxF X x y scope c C fp s H) elt te)
    (hs : ∀ x, foldedSetIterable it0 X.env x = pure x := by intro _; rfl) : PE X (.ListComp elt [⟨.Name x px, it0, [], 0⟩] scope ps) (tLCF wi j te) := by
  intro pins s σ H Q I hw
  rw [eval_ListComp]
  refine wpAny_comprehension_free (use := none) rfl hs hclos S.kind S.loc (thn (hi pins s σ H _ I hw) fun v s1 h1 => thn h1 fun itv s2 h2 => ?_)
  obtain ⟨it, fp, tn, J, H2, e, I2, T, st, hf, rd⟩ := h2
  subst e
  refine run_blockF (RR := fun acc C => compPost (model X.prog X.w) X.A X.xe none (EP X pins σ Q) acc C) I2 T st hf hcalm S hj hv hc hk (he fp) rd ?_
  intro r C H' s' IX fc hC q
  obtain ⟨m, o, hm, ho, hd⟩ := hC
  refine ⟨m, hm, fun h' sb => ⟨.ref r, H', ?_, rfl, q⟩⟩
  exact IX.turned (t' := s'.toks) (fun b u hb e => sb.extBut b u hb e) fc.1 fc.2.1 fc.2.2.2.1 fc.2.2.2.2.1 fc.2.2.2.2.2
end
end L2
local macro_rules | `(tactic| walk_at "rd_go") => `(tactic| (first
    | with_reducible refine L2.w_seq ?_
    | with_reducible refine L2.w_asg ?_
    | with_reducible refine L2.w_name ?_
    | with_reducible refine L2.w_ifS ?_
    | with_reducible refine L2.w_ret ?_
    | with_reducible refine L2.w_drop ?_
    | with_reducible refine L2.w_next ?_
    | with_reducible refine L2.w_test ?_
    | with_reducible refine L2.w_tB ?_
    | with_reducible refine L2.w_op ?_
    | with_reducible refine L2.w_un ?_
    | with_reducible refine L2.w_u ?_
    | (with_reducible refine' L2.w_var ?e0 ?_; (case e0 => with_unfolding_all exact rfl))
    | with_reducible refine L2.w_c ?_
    | with_reducible refine L2.w_i0 ?_
    | (with_reducible refine' L2.w_i ?e0 ?_; (case e0 => with_unfolding_all first | exact ⟨by decide, by decide⟩ | (show (0 : Int) < _; decide) | (show (0 : Int) < _; assumption) | exact Or.inl ⟨by decide, by decide⟩ | exact Or.inr ⟨by decide, by decide⟩ | exact ⟨by decide, by decide, by decide⟩))
    | with_reducible refine L2.w_eqI ?_
    | with_reducible refine L2.w_neI ?_
    | with_reducible refine L2.w_eqS ?_
    | with_reducible refine L2.w_neS ?_
    | with_reducible refine L2.w_and ?_
    | with_reducible refine L2.w_or ?_
    | with_reducible refine L2.w_not ?_
    | with_reducible refine L2.w_andV ?_
    | with_reducible refine L2.w_orV ?_
    | with_reducible refine L2.w_notV ?_
    | with_reducible refine L2.w_bl2 ?_
    | with_reducible refine L2.w_bl ?_
    | with_reducible refine L2.w_nil ?_
    | with_reducible refine L2.w_cons ?_
    | with_reducible refine L2.w_call ?_
    | with_reducible refine L2.w_cb ?_
    | with_reducible refine L2.w_tup ?_
    | with_reducible refine L2.w_lst ?_
    | with_reducible refine L2.w_bm ?_
    | with_reducible refine L2.w_bm0 ?_
    | with_reducible refine L2.w_sl ?_
    | with_reducible refine L2.w_noPart ?_
    | with_reducible refine L2.w_part ?_
    | with_reducible refine L2.w_int ?_
    | with_reducible refine L2.w_min2 ?_
    | with_reducible refine L2.w_max2 ?_
    | with_reducible refine L2.w_intB ?_
    | with_reducible refine L2.w_neB ?_
    | with_reducible refine L2.w_gsub ?_
    | with_reducible refine L2.w_gcons ?_
    | with_reducible refine L2.w_gnil ?_
    | with_reducible refine L2.w_isN ?_
    | with_reducible refine L2.w_notN ?_
    | with_reducible refine L2.w_for ?_
    | with_reducible refine L2.w_iList ?_
    | with_reducible refine L2.w_iTup ?_
    | with_reducible refine L2.w_rng1 ?_
    | with_reducible refine L2.w_rng2 ?_
    | (with_reducible refine' L2.w_isiV ?e0 ?_; (case e0 => with_unfolding_all exact rfl))
    | (with_reducible refine' L2.w_isiO ?e0 ?e1 ?_; (case e0 => assumption); (case e1 => with_unfolding_all exact rfl))
    | with_reducible refine L2.w_tt ?_
    | with_reducible refine L2.w_ff ?_
    | with_reducible refine L2.w_nt ?_
    | with_reducible refine L2.w_nf ?_
    | (with_reducible refine' L2.w_len ?e0 ?_; (case e0 => assumption))
    | (with_reducible refine' L2.w_lenT ?e0 ?_; (case e0 => assumption))
    | (with_reducible refine' L2.w_ixT ?e0 ?e1 ?_; (case e0 => assumption); (case e1 => with_unfolding_all exact rfl))
    | with_reducible refine L2.w_emp ?_
    | with_reducible refine L2.w_nemp ?_
    | (with_reducible refine' L2.w_isL ?e0 ?_; (case e0 => assumption))
    | (with_reducible refine' L2.w_isT ?e0 ?_; (case e0 => assumption))))
local macro_rules | `(tactic| walk_at "rd_gos") => `(tactic| (first
    | with_reducible refine L2.w_seqA ?_
    | with_reducible refine L2.w_seqD ?_
    | with_reducible refine L2.w_asg ?_
    | with_reducible refine L2.w_name ?_
    | with_reducible refine L2.w_ifS ?_
    | with_reducible refine L2.w_ret ?_
    | with_reducible refine L2.w_drop ?_
    | with_reducible refine L2.w_next ?_
    | with_reducible refine L2.w_test ?_
    | with_reducible refine L2.w_tB ?_
    | with_reducible refine L2.w_op ?_
    | with_reducible refine L2.w_un ?_
    | with_reducible refine L2.w_u ?_
    | (with_reducible refine' L2.w_var ?e0 ?_; (case e0 => with_unfolding_all exact rfl))
    | with_reducible refine L2.w_c ?_
    | with_reducible refine L2.w_i0 ?_
    | (with_reducible refine' L2.w_i ?e0 ?_; (case e0 => with_unfolding_all first | exact ⟨by decide, by decide⟩ | (show (0 : Int) < _; decide) | (show (0 : Int) < _; assumption) | exact Or.inl ⟨by decide, by decide⟩ | exact Or.inr ⟨by decide, by decide⟩ | exact ⟨by decide, by decide, by decide⟩))
    | with_reducible refine L2.w_eqI ?_
    | with_reducible refine L2.w_neI ?_
    | with_reducible refine L2.w_eqS ?_
    | with_reducible refine L2.w_neS ?_
    | with_reducible refine L2.w_and ?_
    | with_reducible refine L2.w_or ?_
    | with_reducible refine L2.w_not ?_
    | with_reducible refine L2.w_andV ?_
    | with_reducible refine L2.w_orV ?_
    | with_reducible refine L2.w_notV ?_
    | with_reducible refine L2.w_bl2 ?_
    | with_reducible refine L2.w_bl ?_
    | with_reducible refine L2.w_nil ?_
    | with_reducible refine L2.w_cons ?_
    | with_reducible refine L2.w_call ?_
    | with_reducible refine L2.w_cb ?_
    | with_reducible refine L2.w_tup ?_
    | with_reducible refine L2.w_lst ?_
    | with_reducible refine L2.w_bm ?_
    | with_reducible refine L2.w_bm0 ?_
    | with_reducible refine L2.w_sl ?_
    | with_reducible refine L2.w_noPart ?_
    | with_reducible refine L2.w_part ?_
    | with_reducible refine L2.w_int ?_
    | with_reducible refine L2.w_min2 ?_
    | with_reducible refine L2.w_max2 ?_
    | with_reducible refine L2.w_intB ?_
    | with_reducible refine L2.w_neB ?_
    | with_reducible refine L2.w_gsub ?_
    | with_reducible refine L2.w_gcons ?_
    | with_reducible refine L2.w_gnil ?_
    | with_reducible refine L2.w_isN ?_
    | with_reducible refine L2.w_notN ?_
    | with_reducible refine L2.w_for ?_
    | with_reducible refine L2.w_iList ?_
    | with_reducible refine L2.w_iTup ?_
    | with_reducible refine L2.w_rng1 ?_
    | with_reducible refine L2.w_rng2 ?_
    | (with_reducible refine' L2.w_isiV ?e0 ?_; (case e0 => with_unfolding_all exact rfl))
    | (with_reducible refine' L2.w_isiO ?e0 ?e1 ?_; (case e0 => assumption); (case e1 => with_unfolding_all exact rfl))
    | with_reducible refine L2.w_tt ?_
    | with_reducible refine L2.w_ff ?_
    | with_reducible refine L2.w_nt ?_
    | with_reducible refine L2.w_nf ?_
    | (with_reducible refine' L2.w_len ?e0 ?_; (case e0 => assumption))
    | (with_reducible refine' L2.w_lenT ?e0 ?_; (case e0 => assumption))
    | (with_reducible refine' L2.w_ixT ?e0 ?e1 ?_; (case e0 => assumption); (case e1 => with_unfolding_all exact rfl))
    | with_reducible refine L2.w_emp ?_
    | with_reducible refine L2.w_nemp ?_
    | (with_reducible refine' L2.w_isL ?e0 ?_; (case e0 => assumption))
    | (with_reducible refine' L2.w_isT ?e0 ?_; (case e0 => assumption))))
local macro_rules | `(tactic| walk_at "rd_gox") => `(tactic| (first
    | with_reducible refine L2.w_seq ?_
    | with_reducible refine L2.w_asg ?_
    | with_reducible refine L2.w_name ?_
    | with_reducible refine L2.w_ifS ?_
    | with_reducible refine L2.w_ret ?_
    | with_reducible refine L2.w_drop ?_
    | with_reducible refine L2.w_next ?_
    | with_reducible refine L2.w_test ?_
    | with_reducible refine L2.w_tB ?_
    | with_reducible refine L2.w_op ?_
    | with_reducible refine L2.w_un ?_
    | with_reducible refine L2.w_u ?_
    | (with_reducible refine' L2.w_var ?e0 ?_; (case e0 => with_unfolding_all exact rfl))
    | with_reducible refine L2.w_c ?_
    | with_reducible refine L2.w_i0 ?_
    | (with_reducible refine' L2.w_i ?e0 ?_; (case e0 => with_unfolding_all first | exact ⟨by decide, by decide⟩ | (show (0 : Int) < _; decide) | (show (0 : Int) < _; assumption) | exact Or.inl ⟨by decide, by decide⟩ | exact Or.inr ⟨by decide, by decide⟩ | exact ⟨by decide, by decide, by decide⟩))
    | with_reducible refine L2.w_eqI ?_
    | with_reducible refine L2.w_neI ?_
    | with_reducible refine L2.w_eqS ?_
    | with_reducible refine L2.w_neS ?_
    | with_reducible refine L2.w_and ?_
    | with_reducible refine L2.w_or ?_
    | with_reducible refine L2.w_not ?_
    | with_reducible refine L2.w_andV ?_
    | with_reducible refine L2.w_orV ?_
    | with_reducible refine L2.w_notV ?_
    | with_reducible refine L2.w_bl2 ?_
    | with_reducible refine L2.w_bl ?_
    | with_reducible refine L2.w_nil ?_
    | with_reducible refine L2.w_cons ?_
    | with_reducible refine L2.w_call ?_
    | with_reducible refine L2.w_cb ?_
    | with_reducible refine L2.w_tup ?_
    | with_reducible refine L2.w_lst ?_
    | with_reducible refine L2.w_bm ?_
    | with_reducible refine L2.w_bm0 ?_
    | with_reducible refine L2.w_sl ?_
    | with_reducible refine L2.w_noPart ?_
    | with_reducible refine L2.w_part ?_
    | with_reducible refine L2.w_int ?_
    | with_reducible refine L2.w_min2 ?_
    | with_reducible refine L2.w_max2 ?_
    | with_reducible refine L2.w_intB ?_
    | with_reducible refine L2.w_neB ?_
    | with_reducible refine L2.w_gsub ?_
    | with_reducible refine L2.w_gcons ?_
    | with_reducible refine L2.w_gnil ?_
    | with_reducible refine L2.w_isN ?_
    | with_reducible refine L2.w_notN ?_
    | with_reducible refine L2.w_for ?_
    | with_reducible refine L2.w_iList ?_
    | with_reducible refine L2.w_iTup ?_
    | with_reducible refine L2.w_rng1 ?_
    | with_reducible refine L2.w_rng2 ?_
    | (with_reducible refine' L2.w_isiV ?e0 ?_; (case e0 => with_unfolding_all exact rfl))
    | (with_reducible refine' L2.w_isiO ?e0 ?e1 ?_; (case e0 => assumption); (case e1 => with_unfolding_all exact rfl))
    | with_reducible refine L2.w_tt ?_
    | with_reducible refine L2.w_ff ?_
    | with_reducible refine L2.w_nt ?_
    | with_reducible refine L2.w_nf ?_
    | (with_reducible refine' L2.w_len ?e0 ?_; (case e0 => assumption))
    | (with_reducible refine' L2.w_lenT ?e0 ?_; (case e0 => assumption))
    | (with_reducible refine' L2.w_ixL ?e0 ?e1 ?_; (case e0 => assumption); (case e1 => assumption))
    | (with_reducible refine' L2.w_ixT ?e0 ?e1 ?_; (case e0 => assumption); (case e1 => with_unfolding_all exact rfl))
    | with_reducible refine L2.w_emp ?_
    | with_reducible refine L2.w_nemp ?_
    | (with_reducible refine' L2.w_isL ?e0 ?_; (case e0 => assumption))
    | (with_reducible refine' L2.w_isT ?e0 ?_; (case e0 => assumption))))
local macro_rules | `(tactic| walk_at "rd_goxs") => `(tactic| (first
    | with_reducible refine L2.w_seqA ?_
    | with_reducible refine L2.w_seqD ?_
    | with_reducible refine L2.w_asg ?_
    | with_reducible refine L2.w_name ?_
    | with_reducible refine L2.w_ifS ?_
    | with_reducible refine L2.w_ret ?_
    | with_reducible refine L2.w_drop ?_
    | with_reducible refine L2.w_next ?_
    | with_reducible refine L2.w_test ?_
    | with_reducible refine L2.w_tB ?_
    | with_reducible refine L2.w_op ?_
    | with_reducible refine L2.w_un ?_
    | with_reducible refine L2.w_u ?_
    | (with_reducible refine' L2.w_var ?e0 ?_; (case e0 => with_unfolding_all exact rfl))
    | with_reducible refine L2.w_c ?_
    | with_reducible refine L2.w_i0 ?_
    | (with_reducible refine' L2.w_i ?e0 ?_; (case e0 => with_unfolding_all first | exact ⟨by decide, by decide⟩ | (show (0 : Int) < _; decide) | (show (0 : Int) < _; assumption) | exact Or.inl ⟨by decide, by decide⟩ | exact Or.inr ⟨by decide, by decide⟩ | exact ⟨by decide, by decide, by decide⟩))
    | with_reducible refine L2.w_eqI ?_
    | with_reducible refine L2.w_neI ?_
    | with_reducible refine L2.w_eqS ?_
    | with_reducible refine L2.w_neS ?_
    | with_reducible refine L2.w_and ?_
    | with_reducible refine L2.w_or ?_
    | with_reducible refine L2.w_not ?_
    | with_reducible refine L2.w_andV ?_
    | with_reducible refine L2.w_orV ?_
    | with_reducible refine L2.w_notV ?_
    | with_reducible refine L2.w_bl2 ?_
    | with_reducible refine L2.w_bl ?_
    | with_reducible refine L2.w_nil ?_
    | with_reducible refine L2.w_cons ?_
    | with_reducible refine L2.w_call ?_
    | with_reducible refine L2.w_cb ?_
    | with_reducible refine L2.w_tup ?_
    | with_reducible refine L2.w_lst ?_
    | with_reducible refine L2.w_bm ?_
    | with_reducible refine L2.w_bm0 ?_
    | with_reducible refine L2.w_sl ?_
    | with_reducible refine L2.w_noPart ?_
    | with_reducible refine L2.w_part ?_
    | with_reducible refine L2.w_int ?_
    | with_reducible refine L2.w_min2 ?_
    | with_reducible refine L2.w_max2 ?_
    | with_reducible refine L2.w_intB ?_
    | with_reducible refine L2.w_neB ?_
    | with_reducible refine L2.w_gsub ?_
    | with_reducible refine L2.w_gcons ?_
    | with_reducible refine L2.w_gnil ?_
    | with_reducible refine L2.w_isN ?_
    | with_reducible refine L2.w_notN ?_
    | with_reducible refine L2.w_for ?_
    | with_reducible refine L2.w_iList ?_
    | with_reducible refine L2.w_iTup ?_
    | with_reducible refine L2.w_rng1 ?_
    | with_reducible refine L2.w_rng2 ?_
    | (with_reducible refine' L2.w_isiV ?e0 ?_; (case e0 => with_unfolding_all exact rfl))
    | (with_reducible refine' L2.w_isiO ?e0 ?e1 ?_; (case e0 => assumption); (case e1 => with_unfolding_all exact rfl))
    | with_reducible refine L2.w_tt ?_
    | with_reducible refine L2.w_ff ?_
    | with_reducible refine L2.w_nt ?_
    | with_reducible refine L2.w_nf ?_
    | (with_reducible refine' L2.w_len ?e0 ?_; (case e0 => assumption))
    | (with_reducible refine' L2.w_lenT ?e0 ?_; (case e0 => assumption))
    | (with_reducible refine' L2.w_ixL ?e0 ?e1 ?_; (case e0 => assumption); (case e1 => assumption))
    | (with_reducible refine' L2.w_ixT ?e0 ?e1 ?_; (case e0 => assumption); (case e1 => with_unfolding_all exact rfl))
    | with_reducible refine L2.w_emp ?_
    | with_reducible refine L2.w_nemp ?_
    | (with_reducible refine' L2.w_isL ?e0 ?_; (case e0 => assumption))
    | (with_reducible refine' L2.w_isT ?e0 ?_; (case e0 => assumption))))
local macro_rules | `(tactic| walk_at "rd_goa") => `(tactic| (first
    | with_reducible refine L2.w_seq ?_
    | with_reducible refine L2.w_asg ?_
    | with_reducible refine L2.w_name ?_
    | with_reducible refine L2.w_ifS ?_
    | with_reducible refine L2.w_ret ?_
    | with_reducible refine L2.w_drop ?_
    | with_reducible refine L2.w_next ?_
    | with_reducible refine L2.w_test ?_
    | with_reducible refine L2.w_tB ?_
    | with_reducible refine L2.w_op ?_
    | with_reducible refine L2.w_un ?_
    | with_reducible refine L2.w_u ?_
    | (with_reducible refine' L2.w_var ?e0 ?_; (case e0 => with_unfolding_all exact rfl))
    | with_reducible refine L2.w_c ?_
    | with_reducible refine L2.w_i0 ?_
    | (with_reducible refine' L2.w_i ?e0 ?_; (case e0 => with_unfolding_all first | exact ⟨by decide, by decide⟩ | (show (0 : Int) < _; decide) | (show (0 : Int) < _; assumption) | exact Or.inl ⟨by decide, by decide⟩ | exact Or.inr ⟨by decide, by decide⟩ | exact ⟨by decide, by decide, by decide⟩))
    | with_reducible refine L2.w_eqI ?_
    | with_reducible refine L2.w_neI ?_
    | with_reducible refine L2.w_eqS ?_
    | with_reducible refine L2.w_neS ?_
    | with_reducible refine L2.w_and ?_
    | with_reducible refine L2.w_or ?_
    | with_reducible refine L2.w_not ?_
    | with_reducible refine L2.w_andV ?_
    | with_reducible refine L2.w_orV ?_
    | with_reducible refine L2.w_notV ?_
    | with_reducible refine L2.w_bl2 ?_
    | with_reducible refine L2.w_bl ?_
    | with_reducible refine L2.w_nil ?_
    | with_reducible refine L2.w_cons ?_
    | with_reducible refine L2.w_call ?_
    | with_reducible refine L2.w_cb ?_
    | with_reducible refine L2.w_tupM ?_
    | with_reducible refine L2.w_lstM ?_
    | with_reducible refine L2.w_bm ?_
    | with_reducible refine L2.w_bm0 ?_
    | with_reducible refine L2.w_sl ?_
    | with_reducible refine L2.w_noPart ?_
    | with_reducible refine L2.w_part ?_
    | with_reducible refine L2.w_int ?_
    | with_reducible refine L2.w_min2 ?_
    | with_reducible refine L2.w_max2 ?_
    | with_reducible refine L2.w_intB ?_
    | with_reducible refine L2.w_neB ?_
    | with_reducible refine L2.w_gsub ?_
    | with_reducible refine L2.w_gcons ?_
    | with_reducible refine L2.w_gnil ?_
    | with_reducible refine L2.w_isN ?_
    | with_reducible refine L2.w_notN ?_
    | with_reducible refine L2.w_for ?_
    | with_reducible refine L2.w_iList ?_
    | with_reducible refine L2.w_iTup ?_
    | with_reducible refine L2.w_rng1 ?_
    | with_reducible refine L2.w_rng2 ?_
    | (with_reducible refine' L2.w_isiV ?e0 ?_; (case e0 => with_unfolding_all exact rfl))
    | (with_reducible refine' L2.w_isiO ?e0 ?e1 ?_; (case e0 => assumption); (case e1 => with_unfolding_all exact rfl))
    | with_reducible refine L2.w_tt ?_
    | with_reducible refine L2.w_ff ?_
    | with_reducible refine L2.w_nt ?_
    | with_reducible refine L2.w_nf ?_
    | (with_reducible refine' L2.w_len ?e0 ?_; (case e0 => assumption))
    | (with_reducible refine' L2.w_lenT ?e0 ?_; (case e0 => assumption))
    | (with_reducible refine' L2.w_ixT ?e0 ?e1 ?_; (case e0 => assumption); (case e1 => with_unfolding_all exact rfl))
    | with_reducible refine L2.w_emp ?_
    | with_reducible refine L2.w_nemp ?_
    | (with_reducible refine' L2.w_isL ?e0 ?_; (case e0 => assumption))
    | (with_reducible refine' L2.w_isT ?e0 ?_; (case e0 => assumption))))
local macro_rules | `(tactic| walk_at "rd_goas") => `(tactic| (first
    | with_reducible refine L2.w_seqA ?_
    | with_reducible refine L2.w_seqD ?_
    | with_reducible refine L2.w_asg ?_
    | with_reducible refine L2.w_name ?_
    | with_reducible refine L2.w_ifS ?_
    | with_reducible refine L2.w_ret ?_
    | with_reducible refine L2.w_drop ?_
    | with_reducible refine L2.w_next ?_
    | with_reducible refine L2.w_test ?_
    | with_reducible refine L2.w_tB ?_
    | with_reducible refine L2.w_op ?_
    | with_reducible refine L2.w_un ?_
    | with_reducible refine L2.w_u ?_
    | (with_reducible refine' L2.w_var ?e0 ?_; (case e0 => with_unfolding_all exact rfl))
    | with_reducible refine L2.w_c ?_
    | with_reducible refine L2.w_i0 ?_
    | (with_reducible refine' L2.w_i ?e0 ?_; (case e0 => with_unfolding_all first | exact ⟨by decide, by decide⟩ | (show (0 : Int) < _; decide) | (show (0 : Int) < _; assumption) | exact Or.inl ⟨by decide, by decide⟩ | exact Or.inr ⟨by decide, by decide⟩ | exact ⟨by decide, by decide, by decide⟩))
    | with_reducible refine L2.w_eqI ?_
    | with_reducible refine L2.w_neI ?_
    | with_reducible refine L2.w_eqS ?_
    | with_reducible refine L2.w_neS ?_
    | with_reducible refine L2.w_and ?_
    | with_reducible refine L2.w_or ?_
    | with_reducible refine L2.w_not ?_
    | with_reducible refine L2.w_andV ?_
    | with_reducible refine L2.w_orV ?_
    | with_reducible refine L2.w_notV ?_
    | with_reducible refine L2.w_bl2 ?_
    | with_reducible refine L2.w_bl ?_
    | with_reducible refine L2.w_nil ?_
    | with_reducible refine L2.w_cons ?_
    | with_reducible refine L2.w_call ?_
    | with_reducible refine L2.w_cb ?_
    | with_reducible refine L2.w_tupM ?_
    | with_reducible refine L2.w_lstM ?_
    | with_reducible refine L2.w_bm ?_
    | with_reducible refine L2.w_bm0 ?_
    | with_reducible refine L2.w_sl ?_
    | with_reducible refine L2.w_noPart ?_
    | with_reducible refine L2.w_part ?_
    | with_reducible refine L2.w_int ?_
    | with_reducible refine L2.w_min2 ?_
    | with_reducible refine L2.w_max2 ?_
    | with_reducible refine L2.w_intB ?_
    | with_reducible refine L2.w_neB ?_
    | with_reducible refine L2.w_gsub ?_
    | with_reducible refine L2.w_gcons ?_
    | with_reducible refine L2.w_gnil ?_
    | with_reducible refine L2.w_isN ?_
    | with_reducible refine L2.w_notN ?_
    | with_reducible refine L2.w_for ?_
    | with_reducible refine L2.w_iList ?_
    | with_reducible refine L2.w_iTup ?_
    | with_reducible refine L2.w_rng1 ?_
    | with_reducible refine L2.w_rng2 ?_
    | (with_reducible refine' L2.w_isiV ?e0 ?_; (case e0 => with_unfolding_all exact rfl))
    | (with_reducible refine' L2.w_isiO ?e0 ?e1 ?_; (case e0 => assumption); (case e1 => with_unfolding_all exact rfl))
    | with_reducible refine L2.w_tt ?_
    | with_reducible refine L2.w_ff ?_
    | with_reducible refine L2.w_nt ?_
    | with_reducible refine L2.w_nf ?_
    | (with_reducible refine' L2.w_len ?e0 ?_; (case e0 => assumption))
    | (with_reducible refine' L2.w_lenT ?e0 ?_; (case e0 => assumption))
    | (with_reducible refine' L2.w_ixT ?e0 ?e1 ?_; (case e0 => assumption); (case e1 => with_unfolding_all exact rfl))
    | with_reducible refine L2.w_emp ?_
    | with_reducible refine L2.w_nemp ?_
    | (with_reducible refine' L2.w_isL ?e0 ?_; (case e0 => assumption))
    | (with_reducible refine' L2.w_isT ?e0 ?_; (case e0 => assumption))))
local macro_rules | `(tactic| walk_at "rd_got") => `(tactic| (first
    | with_reducible refine L2.w_fld ?_
    | (with_reducible refine' L2.w_obL ?e0 ?e1 ?_; (case e0 => assumption); (case e1 => assumption))
    | (with_reducible refine' L2.w_obP ?e0 ?e1 ?_; (case e0 => assumption); (case e1 => assumption))
    | with_reducible refine L2.w_mth ?_
    | (with_reducible refine' L2.w_obM ?e0 ?e1 ?_; (case e0 => assumption); (case e1 => exact ⟨by decide +kernel, by decide +kernel⟩))
    | with_reducible refine L2.w_dget ?_
    | with_reducible refine L2.w_dput ?_
    | with_reducible refine L2.w_chain ?_
    | with_reducible refine L2.w_chain3 ?_
    | with_reducible refine L2.w_lcf ?_
    | with_reducible refine L2.w_seq ?_
    | with_reducible refine L2.w_asg ?_
    | with_reducible refine L2.w_name ?_
    | with_reducible refine L2.w_ifS ?_
    | with_reducible refine L2.w_ret ?_
    | with_reducible refine L2.w_drop ?_
    | with_reducible refine L2.w_next ?_
    | with_reducible refine L2.w_test ?_
    | with_reducible refine L2.w_tB ?_
    | with_reducible refine L2.w_op ?_
    | with_reducible refine L2.w_un ?_
    | with_reducible refine L2.w_u ?_
    | (with_reducible refine' L2.w_var ?e0 ?_; (case e0 => with_unfolding_all exact rfl))
    | with_reducible refine L2.w_c ?_
    | with_reducible refine L2.w_i0 ?_
    | (with_reducible refine' L2.w_i ?e0 ?_; (case e0 => with_unfolding_all first | exact ⟨by decide, by decide⟩ | (show (0 : Int) < _; decide) | (show (0 : Int) < _; assumption) | exact Or.inl ⟨by decide, by decide⟩ | exact Or.inr ⟨by decide, by decide⟩ | exact ⟨by decide, by decide, by decide⟩))
    | with_reducible refine L2.w_eqI ?_
    | with_reducible refine L2.w_neI ?_
    | with_reducible refine L2.w_eqS ?_
    | with_reducible refine L2.w_neS ?_
    | with_reducible refine L2.w_and ?_
    | with_reducible refine L2.w_or ?_
    | with_reducible refine L2.w_not ?_
    | with_reducible refine L2.w_andV ?_
    | with_reducible refine L2.w_orV ?_
    | with_reducible refine L2.w_notV ?_
    | with_reducible refine L2.w_bl2 ?_
    | with_reducible refine L2.w_bl ?_
    | with_reducible refine L2.w_nil ?_
    | with_reducible refine L2.w_cons ?_
    | with_reducible refine L2.w_call ?_
    | with_reducible refine L2.w_cb ?_
    | with_reducible refine L2.w_tupM ?_
    | with_reducible refine L2.w_lstM ?_
    | with_reducible refine L2.w_bm ?_
    | with_reducible refine L2.w_bm0 ?_
    | with_reducible refine L2.w_sl ?_
    | with_reducible refine L2.w_noPart ?_
    | with_reducible refine L2.w_part ?_
    | with_reducible refine L2.w_int ?_
    | with_reducible refine L2.w_min2 ?_
    | with_reducible refine L2.w_max2 ?_
    | with_reducible refine L2.w_intB ?_
    | with_reducible refine L2.w_neB ?_
    | with_reducible refine L2.w_gsub ?_
    | with_reducible refine L2.w_gcons ?_
    | with_reducible refine L2.w_gnil ?_
    | with_reducible refine L2.w_isN ?_
    | with_reducible refine L2.w_notN ?_
    | with_reducible refine L2.w_for ?_
    | with_reducible refine L2.w_iList ?_
    | with_reducible refine L2.w_iTup ?_
    | with_reducible refine L2.w_rng1 ?_
    | with_reducible refine L2.w_rng2 ?_
    | (with_reducible refine' L2.w_isiV ?e0 ?_; (case e0 => with_unfolding_all exact rfl))
    | (with_reducible refine' L2.w_isiO ?e0 ?e1 ?_; (case e0 => assumption); (case e1 => with_unfolding_all exact rfl))
    | with_reducible refine L2.w_tt ?_
    | with_reducible refine L2.w_ff ?_
    | with_reducible refine L2.w_nt ?_
    | with_reducible refine L2.w_nf ?_
    | (with_reducible refine' L2.w_len ?e0 ?_; (case e0 => assumption))
    | (with_reducible refine' L2.w_lenT ?e0 ?_; (case e0 => assumption))
    | (with_reducible refine' L2.w_ixT ?e0 ?e1 ?_; (case e0 => assumption); (case e1 => with_unfolding_all exact rfl))
    | with_reducible refine L2.w_emp ?_
    | with_reducible refine L2.w_nemp ?_
    | (with_reducible refine' L2.w_isL ?e0 ?_; (case e0 => assumption))
    | (with_reducible refine' L2.w_isT ?e0 ?_; (case e0 => assumption))))
local macro_rules | `(tactic| walk_at "rd_gots") => `(tactic| (first
    | with_reducible refine L2.w_fld ?_
    | (with_reducible refine' L2.w_obL ?e0 ?e1 ?_; (case e0 => assumption); (case e1 => assumption))
    | (with_reducible refine' L2.w_obP ?e0 ?e1 ?_; (case e0 => assumption); (case e1 => assumption))
    | with_reducible refine L2.w_mth ?_
    | (with_reducible refine' L2.w_obM ?e0 ?e1 ?_; (case e0 => assumption); (case e1 => exact ⟨by decide +kernel, by decide +kernel⟩))
    | with_reducible refine L2.w_dget ?_
    | with_reducible refine L2.w_dput ?_
    | with_reducible refine L2.w_chain ?_
    | with_reducible refine L2.w_chain3 ?_
    | with_reducible refine L2.w_lcf ?_
    | with_reducible refine L2.w_seqA ?_
    | with_reducible refine L2.w_seqD ?_
    | with_reducible refine L2.w_asg ?_
    | with_reducible refine L2.w_name ?_
    | with_reducible refine L2.w_ifS ?_
    | with_reducible refine L2.w_ret ?_
    | with_reducible refine L2.w_drop ?_
    | with_reducible refine L2.w_next ?_
    | with_reducible refine L2.w_test ?_
    | with_reducible refine L2.w_tB ?_
    | with_reducible refine L2.w_op ?_
    | with_reducible refine L2.w_un ?_
    | with_reducible refine L2.w_u ?_
    | (with_reducible refine' L2.w_var ?e0 ?_; (case e0 => with_unfolding_all exact rfl))
    | with_reducible refine L2.w_c ?_
    | with_reducible refine L2.w_i0 ?_
    | (with_reducible refine' L2.w_i ?e0 ?_; (case e0 => with_unfolding_all first | exact ⟨by decide, by decide⟩ | (show (0 : Int) < _; decide) | (show (0 : Int) < _; assumption) | exact Or.inl ⟨by decide, by decide⟩ | exact Or.inr ⟨by decide, by decide⟩ | exact ⟨by decide, by decide, by decide⟩))
    | with_reducible refine L2.w_eqI ?_
    | with_reducible refine L2.w_neI ?_
    | with_reducible refine L2.w_eqS ?_
    | with_reducible refine L2.w_neS ?_
    | with_reducible refine L2.w_and ?_
    | with_reducible refine L2.w_or ?_
    | with_reducible refine L2.w_not ?_
    | with_reducible refine L2.w_andV ?_
    | with_reducible refine L2.w_orV ?_
    | with_reducible refine L2.w_notV ?_
    | with_reducible refine L2.w_bl2 ?_
    | with_reducible refine L2.w_bl ?_
    | with_reducible refine L2.w_nil ?_
    | with_reducible refine L2.w_cons ?_
    | with_reducible refine L2.w_call ?_
    | with_reducible refine L2.w_cb ?_
    | with_reducible refine L2.w_tupM ?_
    | with_reducible refine L2.w_lstM ?_
    | with_reducible refine L2.w_bm ?_
    | with_reducible refine L2.w_bm0 ?_
    | with_reducible refine L2.w_sl ?_
    | with_reducible refine L2.w_noPart ?_
    | with_reducible refine L2.w_part ?_
    | with_reducible refine L2.w_int ?_
    | with_reducible refine L2.w_min2 ?_
    | with_reducible refine L2.w_max2 ?_
    | with_reducible refine L2.w_intB ?_
    | with_reducible refine L2.w_neB ?_
    | with_reducible refine L2.w_gsub ?_
    | with_reducible refine L2.w_gcons ?_
    | with_reducible refine L2.w_gnil ?_
    | with_reducible refine L2.w_isN ?_
    | with_reducible refine L2.w_notN ?_
    | with_reducible refine L2.w_for ?_
    | with_reducible refine L2.w_iList ?_
    | with_reducible refine L2.w_iTup ?_
    | with_reducible refine L2.w_rng1 ?_
    | with_reducible refine L2.w_rng2 ?_
    | (with_reducible refine' L2.w_isiV ?e0 ?_; (case e0 => with_unfolding_all exact rfl))
    | (with_reducible refine' L2.w_isiO ?e0 ?e1 ?_; (case e0 => assumption); (case e1 => with_unfolding_all exact rfl))
    | with_reducible refine L2.w_tt ?_
    | with_reducible refine L2.w_ff ?_
    | with_reducible refine L2.w_nt ?_
    | with_reducible refine L2.w_nf ?_
    | (with_reducible refine' L2.w_len ?e0 ?_; (case e0 => assumption))
    | (with_reducible refine' L2.w_lenT ?e0 ?_; (case e0 => assumption))
    | (with_reducible refine' L2.w_ixT ?e0 ?e1 ?_; (case e0 => assumption); (case e1 => with_unfolding_all exact rfl))
    | with_reducible refine L2.w_emp ?_
    | with_reducible refine L2.w_nemp ?_
    | (with_reducible refine' L2.w_isL ?e0 ?_; (case e0 => assumption))
    | (with_reducible refine' L2.w_isT ?e0 ?_; (case e0 => assumption))))
local macro_rules | `(tactic| walk_at "rd_goax") => `(tactic| (first
    | with_reducible refine L2.w_seq ?_
    | with_reducible refine L2.w_asg ?_
    | with_reducible refine L2.w_name ?_
    | with_reducible refine L2.w_ifS ?_
    | with_reducible refine L2.w_ret ?_
    | with_reducible refine L2.w_drop ?_
    | with_reducible refine L2.w_next ?_
    | with_reducible refine L2.w_test ?_
    | with_reducible refine L2.w_tB ?_
    | with_reducible refine L2.w_op ?_
    | with_reducible refine L2.w_un ?_
    | with_reducible refine L2.w_u ?_
    | (with_reducible refine' L2.w_var ?e0 ?_; (case e0 => with_unfolding_all exact rfl))
    | with_reducible refine L2.w_c ?_
    | with_reducible refine L2.w_i0 ?_
    | (with_reducible refine' L2.w_i ?e0 ?_; (case e0 => with_unfolding_all first | exact ⟨by decide, by decide⟩ | (show (0 : Int) < _; decide) | (show (0 : Int) < _; assumption) | exact Or.inl ⟨by decide, by decide⟩ | exact Or.inr ⟨by decide, by decide⟩ | exact ⟨by decide, by decide, by decide⟩))
    | with_reducible refine L2.w_eqI ?_
    | with_reducible refine L2.w_neI ?_
    | with_reducible refine L2.w_eqS ?_
    | with_reducible refine L2.w_neS ?_
    | with_reducible refine L2.w_and ?_
    | with_reducible refine L2.w_or ?_
    | with_reducible refine L2.w_not ?_
    | with_reducible refine L2.w_andV ?_
    | with_reducible refine L2.w_orV ?_
    | with_reducible refine L2.w_notV ?_
    | with_reducible refine L2.w_bl2 ?_
    | with_reducible refine L2.w_bl ?_
    | with_reducible refine L2.w_nil ?_
    | with_reducible refine L2.w_cons ?_
    | with_reducible refine L2.w_call ?_
    | with_reducible refine L2.w_cb ?_
    | with_reducible refine L2.w_tupM ?_
    | with_reducible refine L2.w_lstM ?_
    | with_reducible refine L2.w_bm ?_
    | with_reducible refine L2.w_bm0 ?_
    | with_reducible refine L2.w_sl ?_
    | with_reducible refine L2.w_noPart ?_
    | with_reducible refine L2.w_part ?_
    | with_reducible refine L2.w_int ?_
    | with_reducible refine L2.w_min2 ?_
    | with_reducible refine L2.w_max2 ?_
    | with_reducible refine L2.w_intB ?_
    | with_reducible refine L2.w_neB ?_
    | with_reducible refine L2.w_gsub ?_
    | with_reducible refine L2.w_gcons ?_
    | with_reducible refine L2.w_gnil ?_
    | with_reducible refine L2.w_isN ?_
    | with_reducible refine L2.w_notN ?_
    | with_reducible refine L2.w_for ?_
    | with_reducible refine L2.w_iList ?_
    | with_reducible refine L2.w_iTup ?_
    | with_reducible refine L2.w_rng1 ?_
    | with_reducible refine L2.w_rng2 ?_
    | (with_reducible refine' L2.w_isiV ?e0 ?_; (case e0 => with_unfolding_all exact rfl))
    | (with_reducible refine' L2.w_isiO ?e0 ?e1 ?_; (case e0 => assumption); (case e1 => with_unfolding_all exact rfl))
    | with_reducible refine L2.w_tt ?_
    | with_reducible refine L2.w_ff ?_
    | with_reducible refine L2.w_nt ?_
    | with_reducible refine L2.w_nf ?_
    | (with_reducible refine' L2.w_len ?e0 ?_; (case e0 => assumption))
    | (with_reducible refine' L2.w_lenT ?e0 ?_; (case e0 => assumption))
    | (with_reducible refine' L2.w_ixL ?e0 ?e1 ?_; (case e0 => assumption); (case e1 => assumption))
    | (with_reducible refine' L2.w_ixT ?e0 ?e1 ?_; (case e0 => assumption); (case e1 => with_unfolding_all exact rfl))
    | with_reducible refine L2.w_emp ?_
    | with_reducible refine L2.w_nemp ?_
    | (with_reducible refine' L2.w_isL ?e0 ?_; (case e0 => assumption))
    | (with_reducible refine' L2.w_isT ?e0 ?_; (case e0 => assumption))))
namespace K01
def mn (a b : Int) : Int := if b < a then b else a
def mx (a b : Int) : Int := if b > a then b else a
/-- a part: sum, least, greatest, greatest running sum -/
structure Pt where
  t : Int
  l : Int
  g : Int
  r : Int
  deriving DecidableEq
def one (n : Int) : Pt := ⟨n, n, n, n⟩
def join (a b : Pt) : Pt := ⟨a.t + b.t, mn a.l b.l, mx a.g b.g, mx a.r (a.t + b.r)⟩
theorem join_assoc (a b c : Pt) : join (join a b) c = join a (join b c) := by
  unfold join mn mx
  simp only [Pt.mk.injEq]
  refine ⟨by omega, ?_, ?_, ?_⟩
  · (repeat' split) <;> omega
  · (repeat' split) <;> omega
  · (repeat' split) <;> omega
/-- the part of x and the rest -/
def ptF (x : Int) (rest : List Int) : Pt := rest.foldl (fun p n => join p (one n)) (one x)
/-- the part of some numbers -/
def pt : List Int → Pt
  | [] => one 0
  | x :: rest => ptF x rest
theorem fold_join (rest : List Int) : ∀ s u : Pt, rest.foldl (fun p n => join p (one n)) (join s u) = join s (rest.foldl (fun p n => join p (one n)) u) := by
  induction rest with
  | nil => intro s u; rfl
  | cons n rest ih => intro s u; rw [List.foldl_cons, List.foldl_cons, join_assoc, ih]
theorem pt_append {a b : List Int} (ha : a ≠ []) (hb : b ≠ []) : pt (a ++ b) = join (pt a) (pt b) := by
  cases a with
  | nil => exact absurd rfl ha
  | cons x r =>
    cases b with
    | nil => exact absurd rfl hb
    | cons y q =>
      show ptF x (r ++ y :: q) = join (ptF x r) (ptF y q)
      unfold ptF
      rw [List.foldl_append, List.foldl_cons, fold_join]
/-- what the part tells of the numbers -/
structure Tells (ns : List Int) (p : Pt) : Prop where
  t : p.t = ns.sum
  l1 : p.l ∈ ns
  l2 : ∀ x ∈ ns, p.l ≤ x
  g1 : p.g ∈ ns
  g2 : ∀ x ∈ ns, x ≤ p.g
theorem mn_cases (a b : Int) : mn a b = a ∨ mn a b = b := by unfold mn; split <;> simp
theorem mx_cases (a b : Int) : mx a b = a ∨ mx a b = b := by unfold mx; split <;> simp
theorem mn_le (a b : Int) : mn a b ≤ a ∧ mn a b ≤ b := by unfold mn; split <;> omega
theorem le_mx (a b : Int) : a ≤ mx a b ∧ b ≤ mx a b := by unfold mx; split <;> omega
theorem Tells.snoc {ns : List Int} {p : Pt} (h : Tells ns p) (n : Int) : Tells (ns ++ [n]) (join p (one n)) where
  t := by show p.t + n = _; rw [List.sum_append, h.t]; simp
  l1 := by
    show mn p.l n ∈ _
    rcases mn_cases p.l n with e | e <;> rw [e]
    · exact List.mem_append_left _ h.l1
    · simp
  l2 := fun x hx => by
    show mn p.l n ≤ x
    have q := mn_le p.l n
    rcases List.mem_append.mp hx with z | z
    · exact Int.le_trans q.1 (h.l2 x z)
    · rw [List.mem_singleton.mp z]; exact q.2
  g1 := by
    show mx p.g n ∈ _
    rcases mx_cases p.g n with e | e <;> rw [e]
    · exact List.mem_append_left _ h.g1
    · simp
  g2 := fun x hx => by
    show x ≤ mx p.g n
    have q := le_mx p.g n
    rcases List.mem_append.mp hx with z | z
    · exact Int.le_trans (h.g2 x z) q.1
    · rw [List.mem_singleton.mp z]; exact q.2
theorem tells_fold (rest : List Int) : ∀ (ns : List Int) (p : Pt), Tells ns p → Tells (ns ++ rest) (rest.foldl (fun p n => join p (one n)) p) := by
  induction rest with
  | nil => intro ns p h; rw [List.append_nil]; exact h
  | cons n rest ih =>
    intro ns p h
    have := ih (ns ++ [n]) _ (h.snoc n)
    rw [List.append_assoc] at this
    exact this
theorem tells_pt {ns : List Int} (h : ns ≠ []) : Tells ns (pt ns) := by
  cases ns with
  | nil => exact absurd rfl h
  | cons x r => exact tells_fold r [x] (one x) ⟨by simp [one], by simp [one], by simp [one], by simp [one], by simp [one]⟩
/-- the greatest of the running sums, as the loop reckons it -/
def runs (s : Int × Int) (ns : List Int) : Int × Int := ns.foldl (fun s n => (s.1 + n, mx s.2 (s.1 + n))) s
theorem runs_pt (rest : List Int) : ∀ p : Pt, runs (p.t, p.r) rest = ((rest.foldl (fun p n => join p (one n)) p).t, (rest.foldl (fun p n => join p (one n)) p).r) := by
  induction rest with
  | nil => intro p; rfl
  | cons n rest ih =>
    intro p
    have := ih (join p (one n))
    rw [List.foldl_cons]
    exact this
end K01
namespace K02
/-- the stretches from a to b, the recursion allowed n deep -/
def W : Nat → Int → Int → List (Int × Int)
  | 0, a, b => [(a, b)]
  | n + 1, a, b => if b - a < 2 then [(a, b)] else (a, b) :: (W n a ((a + b + 1) / 2) ++ W n ((a + b + 1) / 2) b)
theorem W_head (n : Nat) (a b : Int) : ∃ r, W n a b = (a, b) :: r := by
  cases n with
  | zero => exact ⟨[], rfl⟩
  | succ n =>
    unfold W
    by_cases h : b - a < 2
    · rw [if_pos h]; exact ⟨[], rfl⟩
    · rw [if_neg h]; exact ⟨_, rfl⟩
theorem W_one {n : Nat} {a b : Int} (h : b - a < 2) : W n a b = [(a, b)] := by
  cases n with
  | zero => rfl
  | succ n => unfold W; rw [if_pos h]
/-- enough depth: more makes no other -/
theorem W_more : ∀ (n m : Nat) (a b : Int), b - a ≤ n + 1 → b - a ≤ m + 1 → W n a b = W m a b
  | 0, m, a, b, h, _ => by
    rw [W_one (n := m) (by omega)]; rfl
  | n + 1, 0, a, b, _, h => by
    rw [W_one (n := n + 1) (by omega)]; rfl
  | n + 1, m + 1, a, b, h1, h2 => by
    unfold W
    by_cases h : b - a < 2
    · rw [if_pos h, if_pos h]
    · rw [if_neg h, if_neg h, W_more n m a _ (by omega) (by omega), W_more n m _ b (by omega) (by omega)]
/-- the tree over the places from a to b -/
def Tr (a b : Int) : List (Int × Int) := W (b - a).toNat a b
theorem Tr_eq {n : Nat} {a b : Int} (h : b - a ≤ n + 1) : W n a b = Tr a b := W_more _ _ _ _ h (by omega)
theorem Tr_one {a b : Int} (h : b - a < 2) : Tr a b = [(a, b)] := W_one h
theorem Tr_two {a b : Int} (h : ¬ b - a < 2) : Tr a b = (a, b) :: (Tr a ((a + b + 1) / 2) ++ Tr ((a + b + 1) / 2) b) := by
  have e : Tr a b = W ((b - a).toNat - 1 + 1) a b := by
    unfold Tr; congr 1; omega
  rw [e]
  show (if b - a < 2 then _ else _) = _
  rw [if_neg h, Tr_eq (by omega), Tr_eq (by omega)]
theorem Tr_head (a b : Int) : ∃ r, Tr a b = (a, b) :: r := W_head _ a b
/-- how many: 2 n - 1 -/
theorem Tr_len : ∀ (n : Nat) (a b : Int), a < b → b - a ≤ n → (Tr a b).length = (2 * (b - a) - 1).toNat
  | 0, a, b, h, h2 => by omega
  | n + 1, a, b, h, h2 => by
    by_cases c : b - a < 2
    · rw [Tr_one c]; simp; omega
    · rw [Tr_two c, List.length_cons, List.length_append, Tr_len n _ _ (by omega) (by omega), Tr_len n _ _ (by omega) (by omega)]
      omega
end K02
namespace K01
open PySem L2
/-! ### the promises -/
def ptL (q : Pt) : List Int := [q.t, q.l, q.g, q.r]
/-- a new tuple with this part comes back, all else as it was -/
def NewT (H : Hp) (Q : VK) (q : Pt) : Prop := ∀ (p : Addr) (H' : Hp), Same H H' → H p = none → H' p = some (.tup ((ptL q).map V.int)) → Q (.ref p) H'
def spOne : Sp := fun vs H Q _ => ∃ n : Int, vs = [.int n] ∧ NewT H Q (one n)
def spJoined (K : PySem.W.Frag) : Sp := fun vs H Q _ => ∃ (a b : Addr) (p q : Pt), vs = [.ref a, .ref b] ∧ SqT K H a ((ptL p).map V.int) ∧ SqT K H b ((ptL q).map V.int) ∧ NewT H Q (join p q)
def spPartOf (K : PySem.W.Frag) : Sp := fun vs H Q _ => ∃ (a : Addr) (ns : List Int), vs = [.ref a] ∧ SqL K H a (ns.map V.int) ∧ ns ≠ [] ∧ NewT H Q (pt ns)
def spWhole : Sp := fun vs H Q _ => ∃ i : Int, vs = [.int i] ∧ Q (.bl true) H
def spAt (K : PySem.W.Frag) : Sp := fun vs H Q _ => ∃ (a : Addr) (ns : List Int) (k : Int), vs = [.ref a, .int k] ∧ SqL K H a (ns.map V.int) ∧ 0 ≤ k ∧ ∀ v : Int, Q (.int v) H
def spFigures (K : PySem.W.Frag) : Sp := fun vs H Q _ => ∃ (a b : Addr) (ns : List Int), vs = [.ref a, .ref b] ∧ H a = some (.lst (ns.map V.int)) ∧ SqL K H b (ns.map V.int) ∧ ns.length ≤ 1000 ∧ Q (.bl true) H
def spStrung (K : PySem.W.Frag) : Sp := fun vs H Q _ => ∃ (a : Addr) (cs : List Int) (sd : Int), vs = [.ref a, .int sd] ∧ SqL K H a (cs.map V.int) ∧ cs.length ≤ 500 ∧
  ∀ (r : Addr) (ns : List Int) (H' : Hp), Same H H' → H r = none → H' r = some (.lst (ns.map V.int)) → ns.length = cs.length + 1 → Q (.ref r) H'
def spLaw (K : PySem.W.Frag) : Sp := fun vs H Q _ => ∃ (a : Addr) (ns : List Int), vs = [.ref a] ∧ SqL K H a (ns.map V.int) ∧ ns.length ≤ 63 ∧ ∀ H', Q (.bl true) H'

/-! ### the readings -/
theorem rd_one {vs : List V} {H : Hp} {Q : VK} {E : XK} (h : spOne vs H Q E) : (tRet (tTup (tCons (tVar 0) (tCons (tVar 0) (tCons (tVar 0) (tCons (tVar 0) tNil)))))) { nx := fun _ H' => Q .non H', rt := Q } (start ["number"] vs) H := by
  obtain ⟨n, rfl, q⟩ := h
  repeat walk_at "rd_go"
  refine w_new (by simp) fun p hp => ?_
  exact q p _ (same_new hp _) hp upd_same
theorem rd_joined {K : PySem.W.Frag} {vs : List V} {H : Hp} {Q : VK} {E : XK} (h : spJoined K vs H Q E) : (tRet (tTup (tCons (tOp rAddI (tOp (rIxT K) (tVar 0) (tC (.int 0))) (tOp (rIxT K) (tVar 1) (tC (.int 0)))) (tCons (tCB rMin2 (tCons (tOp (rIxT K) (tVar 0) (tC (.int 1))) (tCons (tOp (rIxT K) (tVar 1) (tC (.int 1))) tNil))) (tCons (tCB rMax2 (tCons (tOp (rIxT K) (tVar 0) (tC (.int 2))) (tCons (tOp (rIxT K) (tVar 1) (tC (.int 2))) tNil))) (tCons (tCB rMax2 (tCons (tOp (rIxT K) (tVar 0) (tC (.int 3))) (tCons (tOp rAddI (tOp (rIxT K) (tVar 0) (tC (.int 0))) (tOp (rIxT K) (tVar 1) (tC (.int 3)))) tNil))) tNil)))))) { nx := fun _ H' => Q .non H', rt := Q } (start ["one", "other"] vs) H := by
  obtain ⟨a, b, p, q, rfl, ha, hb, r⟩ := h
  have ha' : SqT K H a [.int p.t, .int p.l, .int p.g, .int p.r] := ha
  have hb' : SqT K H b [.int q.t, .int q.l, .int q.g, .int q.r] := hb
  repeat walk_at "rd_go"
  refine w_new (by simp) fun x hx => ?_
  exact r x _ (same_new hx _) hx upd_same
theorem rd_whole {vs : List V} {H : Hp} {Q : VK} {E : XK} (h : spWhole vs H Q E) : (tRet (tAndV (tCB rIsi (tCons (tVar 0) (tCons (tC (.ty "int")) tNil))) (tNotV (tCB rIsi (tCons (tVar 0) (tCons (tC (.ty "bool")) tNil)))))) { nx := fun _ H' => Q .non H', rt := Q } (start ["_law_found"] vs) H := by
  obtain ⟨i, rfl, q⟩ := h
  repeat walk_at "rd_go"
  exact q
theorem rd_at {K : PySem.W.Frag} {vs : List V} {H : Hp} {Q : VK} {E : XK} (h : spAt K vs H Q E) : (tSeq (tIfS (tTest (tOp rLtI (tVar 1) (tCB (rLen K) (tCons (tVar 0) tNil)))) (tRet (tOp (rIxL K) (tVar 0) (tVar 1))) tNext)
    (tRet (tC (.int 0)))) { nx := fun _ H' => Q .non H', rt := Q } (start ["_law_script", "_law_k"] vs) H := by
  obtain ⟨a, ns, k, rfl, hS, h0, q⟩ := h
  repeat walk_at "rd_go"
  refine w_if (fun c => ?_) (fun c => ?_)
  · rw [List.length_map] at c
    obtain ⟨v, _, hv⟩ := at_int h0 c
    repeat walk_at "rd_go"
    exact w_ixL hS hv (q v)
  · repeat walk_at "rd_go"
    exact q 0
theorem rd_figures {K : PySem.W.Frag} {vs : List V} {H : Hp} {Q : VK} {E : XK} (h : spFigures K vs H Q E) : (tSeq (tIfS (tOr (tNot (tB (tCB rIsi (tCons (tVar 0) (tCons (tC (.ty "list")) tNil))))) (tTest (tOp rNe (tCB (rLen K) (tCons (tVar 0) tNil)) (tCB (rLen K) (tCons (tVar 1) tNil))))) (tRet (tC (.bl false))) tNext)
    (tSeq (tFor (iRng1 (tCons (tCB (rLen K) (tCons (tVar 1) tNil)) tNil)) (gName 2) (tIfS (tOr (tNot (tB (tCall spWhole [] XE0 (tCons (tOp (rIxL K) (tVar 0) (tVar 2)) tNil)))) (tTest (tOp rNe (tOp (rIxL K) (tVar 0) (tVar 2)) (tOp (rIxL K) (tVar 1) (tVar 2))))) (tRet (tC (.bl false))) tNext))
    (tRet (tC (.bl true))))) { nx := fun _ H' => Q .non H', rt := Q } (start ["_law_found", "_law_due", "_law_k"] vs) H := by
  obtain ⟨a, b, ns, rfl, ha, hb, hk, q⟩ := h
  have ha' : SqL K H a (ns.map V.int) := SqL.of ha
  repeat walk_at "rd_go"
  refine w_ifN (fun c => absurd rfl c) (fun c => ?_)
  repeat walk_at "rd_go"
  rw [List.length_map]
  refine w_isR1 (by omega) (by omega) ?_
  refine for_range (lo := 0) (n := (ns.length : Int).toNat) (fun _ σ H' => H' = H ∧ ∃ o, σ = [some (.ref a), some (.ref b), o]) ⟨rfl, _, rfl⟩ ?_ ?_
  · rintro i σ H' hi ⟨rfl, o, rfl⟩
    obtain ⟨v, _, hv⟩ := at_int (ns := ns) (k := 0 + (i : Int)) (by omega) (by omega)
    repeat walk_at "rd_go"
    refine w_ixL ha' hv ?_
    repeat walk_at "rd_go"
    refine ⟨v, rfl, ?_⟩
    repeat walk_at "rd_go"
    refine w_ixL ha' hv ?_
    repeat walk_at "rd_go"
    refine w_ixL hb hv ?_
    repeat walk_at "rd_go"
    refine w_ifN (fun c => absurd rfl c) (fun c => ?_)
    repeat walk_at "rd_go"
    exact ⟨rfl, _, rfl⟩
  · rintro σ H' ⟨rfl, o, rfl⟩
    repeat walk_at "rd_go"
    exact q
theorem rd_strung {K : PySem.W.Frag} {vs : List V} {H : Hp} {Q : VK} {E : XK} (h : spStrung K vs H Q E) : (tSeq (tAsg (tLst (tCons (tOp rSubI (tOp rModI (tVar 1) (tC (.int 13))) (tC (.int 6))) tNil)) (gName 2))
    (tSeq (tAsg (tOp (rIxL K) (tLst (tCons (tC (.int 9)) (tCons (tC (.int 21)) (tCons (tC (.int 101)) tNil)))) (tOp rModI (tOp rDivI (tVar 1) (tC (.int 13))) (tC (.int 3)))) (gName 3))
    (tSeq (tFor (iRng1 (tCons (tCB (rLen K) (tCons (tVar 0) tNil)) tNil)) (gName 4) (tSeq (tAsg (tOp rSubI (tOp rModI (tOp rAddI (tOp (rIxL K) (tVar 0) (tVar 4)) (tVar 4)) (tVar 3)) (tOp rDivI (tVar 3) (tC (.int 2)))) (gName 5))
    (tSeq (tIfS (tTest (tOp rEq (tOp rModI (tOp (rIxL K) (tVar 0) (tVar 4)) (tC (.int 23))) (tC (.int 11)))) (tSeq (tAsg (tOp rModI (tOp rAddI (tOp (rIxL K) (tVar 0) (tVar 4)) (tVar 4)) (tOp rSubI (tOp rMulB (tOp rPowI (tC (.int 10)) (tC (.int 50))) (tOp rPowI (tC (.int 10)) (tC (.int 50)))) (tC (.int 1)))) (gName 6))
    (tAsg (tOp rMulI (tVar 6) (tOp (rIxL K) (tLst (tCons (tC (.int 1)) (tCons (tUn rNegI (tC (.int 1))) tNil))) (tOp rModI (tOp rDivI (tOp (rIxL K) (tVar 0) (tVar 4)) (tC (.int 23))) (tC (.int 2))))) (gName 5))) tNext)
    (tDrop (tBM K "list" rAppend (tVar 2) (tCons (tOp rMulI (tVar 5) (tOp (rIxL K) (tLst (tCons (tC (.int 1)) (tCons (tOp rPowI (tC (.int 10)) (tC (.int 12))) tNil))) (tCB rIntB (tCons (tOp rEq (tOp rModI (tOp (rIxL K) (tVar 0) (tVar 4)) (tC (.int 19))) (tC (.int 3))) tNil)))) tNil))))))
    (tRet (tVar 2))))) { nx := fun _ H' => Q .non H', rt := Q } (start ["_law_cells", "_law_seed", "_law_row", "_law_wide", "_law_k", "_law_number", "_law_far"] vs) H := by
  obtain ⟨a, cs, sd, rfl, hS, h500, q⟩ := h
  repeat walk_at "rd_go"
  refine w_new (by simp) fun r hr => ?_
  repeat walk_at "rd_go"
  refine w_new (by simp) fun l1 hl1 => ?_
  repeat walk_at "rd_go"
  obtain ⟨wd, hw, hpos⟩ := menu (ms := [9, 21, 101]) (k := sd / 13 % 3) (C := fun m => 0 < m) (by simp) (by omega) (by simp; omega)
  have hpos : (0 : Int) < wd := hpos
  refine w_ixL (SqL.of upd_same) hw ?_
  have g2 := (same_new hr (.lst [.int (sd % 13 - 6)])).trans (same_new hl1 (.lst [.int 9, .int 21, .int 101]))
  have hS2 := g2.seq hS
  repeat walk_at "rd_go"
  rw [List.length_map]
  refine w_isR1 (by omega) (by omega) ?_
  refine for_range (lo := 0) (n := (cs.length : Int).toNat) (fun i σ H' => Same H H' ∧ ∃ (ns : List Int) (o4 o5 o6 : Option V), H' r = some (.lst (ns.map V.int)) ∧ ns.length = i + 1 ∧ σ = [some (.ref a), some (.int sd), some (.ref r), some (.int wd), o4, o5, o6])
    ⟨g2, [sd % 13 - 6], _, _, _, (same_new hl1 _) _ _ upd_same, rfl, rfl⟩ ?_ ?_
  · rintro i σ H' hi ⟨g, ns, o4, o5, o6, hr', hlen, rfl⟩
    obtain ⟨v, _, hv⟩ := at_int (ns := cs) (k := 0 + (i : Int)) (by omega) (by omega)
    have hS3 := g.seq hS
    repeat walk_at "rd_go"
    refine w_ixL hS3 hv ?_
    repeat walk_at "rd_gos"
    with_reducible refine w_seqI (fun σ2 H2 => Same H H2 ∧ H2 r = some (.lst (ns.map V.int)) ∧ ∃ (nb : Int) (o6 : Option V), σ2 = [some (.ref a), some (.int sd), some (.ref r), some (.int wd), some (.int (0 + (i : Int))), some (.int nb), o6]) ?_ (fun cont => ?_)
    · rintro σ2 H2 ⟨g3, hr3, nb, o6, rfl⟩
      repeat walk_at "rd_go"
      refine w_ty hr3 ?_
      repeat walk_at "rd_go"
      refine w_new (by simp) fun l3 hl3 => ?_
      have gl3 := same_new hl3 (.lst [.int 1, .int (10 ^ Int.toNat 12)])
      repeat walk_at "rd_go"
      refine w_ixL (gl3.seq (g3.seq hS)) hv ?_
      repeat walk_at "rd_go"
      obtain ⟨f, hf, hf2⟩ := menu (ms := [1, 10 ^ Int.toNat 12]) (k := if decide (v % 19 = 3) = true then 1 else 0) (C := fun m => -(2 ^ 64) < m ∧ m < 2 ^ 64) (by decide) (by split <;> omega) (by split <;> simp)
      refine w_ixL (SqL.of upd_same) hf ?_
      refine w_i (Or.inr hf2) ?_
      repeat walk_at "rd_go"
      refine w_append (gl3 _ _ hr3) (by have := big (n := ns.length + 1) (by omega); rw [List.length_map]; omega) ?_
      repeat walk_at "rd_go"
      exact ⟨same_upd (g3.trans gl3) hr, ns ++ [nb * f], _, _, _, by rw [upd_same, List.map_append] <;> rfl, by simp; omega, rfl⟩
    · repeat walk_at "rd_go"
      refine w_ixL hS3 hv ?_
      repeat walk_at "rd_go"
      refine w_if (fun c => ?_) (fun c => ?_)
      · repeat walk_at "rd_go"
        refine w_ixL hS3 hv ?_
        repeat walk_at "rd_go"
        refine w_new (by simp) fun l2 hl2 => ?_
        have gl2 := same_new hl2 (.lst [.int 1, .int (-1)])
        repeat walk_at "rd_go"
        refine w_ixL (gl2.seq hS3) hv ?_
        repeat walk_at "rd_go"
        obtain ⟨f, hf, hf2⟩ := menu (ms := [1, -1]) (k := v / 23 % 2) (C := fun m => -(2 ^ 64) < m ∧ m < 2 ^ 64) (by decide) (by omega) (by simp; omega)
        refine w_ixL (SqL.of upd_same) hf ?_
        refine w_i (Or.inr hf2) ?_
        refine w_name ?_
        exact cont _ _ ⟨g.trans gl2, gl2 _ _ hr', _, _, rfl⟩
      · refine w_next ?_
        exact cont _ _ ⟨g, hr', _, _, rfl⟩
  · rintro σ H' ⟨g, ns, o4, o5, o6, hr', hlen, rfl⟩
    repeat walk_at "rd_go"
    exact q r ns H' g hr hr' (by omega)
end K01
namespace SL
open PySem L2 K01
/-! ### deeds, answers -/
inductive Kd where
  | set | add | swap | sum | least | greatest | reach
  deriving DecidableEq
def Kd.w : Kd → Str
  | .set => "set" | .add => "add" | .swap => "swap" | .sum => "sum" | .least => "least" | .greatest => "greatest" | .reach => "reach"
structure Deed where
  k : Kd
  x : Int
  y : Int
def Deed.v (d : Deed) : List V := [.str d.k.w, .int d.x, .int d.y]
inductive Ans where
  | none | int (i : Int) | yes
def Ans.v : Ans → V
  | .none => .non
  | .int i => .int i
  | .yes => .bl true
/-- a set, an add, a swap: the row behind it, the answer -/
def chg (ns : List Int) (d : Deed) : List Int × Ans :=
  if d.x < 0 ∨ d.x ≥ ns.length then (ns, .none) else
  match d.k with
  | .set => (ns.set d.x.toNat d.y, .int (ns.getD d.x.toNat 0))
  | .add => (ns.set d.x.toNat (ns.getD d.x.toNat 0 + d.y), .int (ns.getD d.x.toNat 0 + d.y))
  | .swap => if 0 ≤ d.y ∧ d.y < ns.length then ((ns.set d.x.toNat (ns.getD d.y.toNat 0)).set d.y.toNat (ns.getD d.x.toNat 0), .yes) else (ns, .none)
  | _ => (ns, .none)
def seg (ns : List Int) (x y : Int) : List Int := (ns.drop x.toNat).take (y.toNat - x.toNat)
/-- a sum, a least, a greatest -/
def ask (ns : List Int) (d : Deed) : Ans :=
  if d.x < 0 ∨ d.y ≤ d.x ∨ d.y > ns.length then .none else
  match d.k with
  | .sum => .int (pt (seg ns d.x d.y)).t
  | .least => .int (pt (seg ns d.x d.y)).l
  | _ => .int (pt (seg ns d.x d.y)).g
/-- the first place from i on where the running sum (t so far) is the mark or more -/
def rch : List Int → Int → Int → Int → Option Int
  | [], _, _, _ => none
  | n :: ns, i, t, m => if t + n ≥ m then some i else rch ns (i + 1) (t + n) m
def rea (ns : List Int) (d : Deed) : Ans :=
  if d.x < 0 ∨ d.x ≥ ns.length then .none else
  match rch (ns.drop d.x.toNat) d.x 0 d.y with
  | some i => .int i
  | none => .none
def act (ns : List Int) (d : Deed) : List Int × Ans :=
  match d.k with
  | .sum | .least | .greatest => (ns, ask ns d)
  | .reach => (ns, rea ns d)
  | _ => chg ns d
/-- a day: the answers, the row behind it -/
def day : List Int → List Deed → List Ans × List Int
  | ns, [] => ([], ns)
  | ns, d :: ds => ((act ns d).2 :: (day (act ns d).1 ds).1, (day (act ns d).1 ds).2)
theorem chg_len (ns : List Int) (d : Deed) : (chg ns d).1.length = ns.length := by
  unfold chg
  split
  · rfl
  · split <;> try simp
    split <;> simp
theorem act_len (ns : List Int) (d : Deed) : (act ns d).1.length = ns.length := by
  unfold act; split <;> first | rfl | exact chg_len ns d
theorem day_len : ∀ (ds : List Deed) (ns : List Int), (day ns ds).1.length = ds.length ∧ (day ns ds).2.length = ns.length
  | [], ns => ⟨rfl, rfl⟩
  | d :: ds, ns => by
    have := day_len ds (act ns d).1
    exact ⟨by show _ + 1 = _ + 1; rw [this.1], by show (day (act ns d).1 ds).2.length = _; rw [this.2, act_len]⟩
/-! ### the promises of the law's own defs -/
def spRoom (K : PySem.W.Frag) : Sp := fun vs H Q _ => ∃ (a : Addr) (ns : List Int) (m b : Int), vs = [.ref a, .int m, .int b] ∧ SqL K H a (ns.map V.int) ∧ ns.length ≤ 63 ∧ Q (.int m) H
/-- the row kept beside: the list at r is changed, all else stays -/
def But (r : Addr) (H H' : Hp) : Prop := ∀ b, b ≠ r → H' b = H b
def spChanged (K : PySem.W.Frag) : Sp := fun vs H Q _ => ∃ (r e : Addr) (ns : List Int) (d : Deed), vs = [.ref r, .ref e] ∧ H r = some (.lst (ns.map V.int)) ∧ H e = some (.tup d.v) ∧
  ∀ H', But r H H' → H' r = some (.lst ((chg ns d).1.map V.int)) → Q (chg ns d).2.v H'
def spAnswer (K : PySem.W.Frag) : Sp := fun vs H Q _ => ∃ (r e : Addr) (ns : List Int) (d : Deed), vs = [.ref r, .ref e] ∧ SqL K H r (ns.map V.int) ∧ H e = some (.tup d.v) ∧ (d.k = .sum ∨ d.k = .least ∨ d.k = .greatest) ∧
  ∀ H', Same H H' → Q (ask ns d).v H'
def spReaches (K : PySem.W.Frag) : Sp := fun vs H Q _ => ∃ (r e : Addr) (ns : List Int) (d : Deed), vs = [.ref r, .ref e, (rea ns d).v] ∧ SqL K H r (ns.map V.int) ∧ H e = some (.tup d.v) ∧ ns.length ≤ 1000 ∧ Q (.bl true) H
/-! ### the readings -/
theorem rd_changed {K : PySem.W.Frag} {vs : List V} {H : Hp} {Q : VK} {E : XK} (h : spChanged K vs H Q E) : (tSeq (tAsg (tCB (rLen K) (tCons (tVar 0) tNil)) (gName 2))
    (tSeq (tIfS (tOr (tTest (tOp rLtI (tOp (rIxT K) (tVar 1) (tC (.int 1))) (tC (.int 0)))) (tTest (tOp rGeI (tOp (rIxT K) (tVar 1) (tC (.int 1))) (tVar 2)))) (tRet (tC .non)) tNext)
    (tSeq (tIfS (tTest (tOp rEq (tOp (rIxT K) (tVar 1) (tC (.int 0))) (tC (.str "set")))) (tSeq (tAsg (tOp (rIxL K) (tVar 0) (tOp (rIxT K) (tVar 1) (tC (.int 1)))) (gName 3))
    (tSeq (tAsg (tOp (rIxT K) (tVar 1) (tC (.int 2))) (gSub (tVar 0) (tOp (rIxT K) (tVar 1) (tC (.int 1))) rSetL))
    (tRet (tVar 3)))) tNext)
    (tSeq (tIfS (tTest (tOp rEq (tOp (rIxT K) (tVar 1) (tC (.int 0))) (tC (.str "add")))) (tSeq (tAsg (tOp rAddI (tOp (rIxL K) (tVar 0) (tOp (rIxT K) (tVar 1) (tC (.int 1)))) (tOp (rIxT K) (tVar 1) (tC (.int 2)))) (gSub (tVar 0) (tOp (rIxT K) (tVar 1) (tC (.int 1))) rSetL))
    (tRet (tOp (rIxL K) (tVar 0) (tOp (rIxT K) (tVar 1) (tC (.int 1)))))) tNext)
    (tSeq (tIfS (tAnd (tTest (tOp rEq (tOp (rIxT K) (tVar 1) (tC (.int 0))) (tC (.str "swap")))) (tAnd (tTest (tOp rLeI (tC (.int 0)) (tOp (rIxT K) (tVar 1) (tC (.int 2))))) (tTest (tOp rLtI (tOp (rIxT K) (tVar 1) (tC (.int 2))) (tVar 2))))) (tSeq (tAsg (tOp (rIxL K) (tVar 0) (tOp (rIxT K) (tVar 1) (tC (.int 1)))) (gName 3))
    (tSeq (tAsg (tOp (rIxL K) (tVar 0) (tOp (rIxT K) (tVar 1) (tC (.int 2)))) (gSub (tVar 0) (tOp (rIxT K) (tVar 1) (tC (.int 1))) rSetL))
    (tSeq (tAsg (tVar 3) (gSub (tVar 0) (tOp (rIxT K) (tVar 1) (tC (.int 2))) rSetL))
    (tRet (tC (.bl true)))))) tNext)
    (tRet (tC .non))))))) { nx := fun _ H' => Q .non H', rt := Q } (start ["_law_row", "_law_deed", "_law_size", "_law_old"] vs) H := by
  obtain ⟨r, e, ns, ⟨k, x, y⟩, rfl, hr, he, q⟩ := h
  have sr : SqL K H r (ns.map V.int) := SqL.of hr
  have se : SqT K H e [.str k.w, .int x, .int y] := SqT.of he
  repeat walk_at "rd_go"
  have none_of : (chg ns ⟨k, x, y⟩ = (ns, .none)) → Q .non H := fun e => by
    have := q H (fun _ _ => rfl) (by rw [e]; exact hr)
    rw [e] at this; exact this
  refine w_if (fun c => ?_) (fun c1 => ?_)
  · repeat walk_at "rd_go"
    exact none_of (if_pos (.inl c))
  repeat walk_at "rd_go"
  rw [List.length_map]
  refine w_if (fun c => ?_) (fun c2 => ?_)
  · repeat walk_at "rd_go"
    exact none_of (if_pos (.inr c))
  repeat walk_at "rd_go"
  have hx : 0 ≤ x ∧ x < (ns.length : Int) := by omega
  have no : ¬ (x < 0 ∨ x ≥ (ns.length : Int)) := by omega
  obtain ⟨v, hv0, hv⟩ := at_int hx.1 hx.2
  have gv : ns.getD x.toNat 0 = v := by rw [List.getD_eq_getElem?_getD, hv0]; rfl
  have ixx : ∀ ms : List Int, ms.length = ns.length → ixN (ms.map V.int).length x = some x.toNat := fun ms hm => by
    unfold ixN; rw [List.length_map, hm, if_pos hx.1, if_pos hx.2]
  have mset : ∀ (ms : List Int) (j : Nat) (z : Int), (ms.map V.int).set j (.int z) = (ms.set j z).map V.int := fun ms j z => (List.map_set ..).symm
  have sev : ∀ (ys : List V), SqT K (upd H r (.lst ys)) e [.str k.w, .int x, .int y] := fun ys => SqT.of (tups_upd hr _ _ he)
  cases k with
  | set =>
    refine w_ifT rfl ?_
    repeat walk_at "rd_go"
    refine w_ixL sr hv ?_
    repeat walk_at "rd_go"
    refine w_setL hr (ixx ns rfl) ?_
    repeat walk_at "rd_go"
    have e1 : chg ns ⟨.set, x, y⟩ = (ns.set x.toNat y, .int v) := by
      unfold chg; rw [if_neg no]; show (_, Ans.int _) = _; rw [gv]
    rw [mset]
    have := q (upd H r (.lst ((ns.set x.toNat y).map V.int))) (fun b hb => upd_ne hb) (by rw [e1]; exact upd_same)
    rw [e1] at this; exact this
  | add =>
    refine w_ifF (by decide) ?_
    repeat walk_at "rd_go"
    refine w_ifT rfl ?_
    repeat walk_at "rd_go"
    refine w_ixL sr hv ?_
    repeat walk_at "rd_go"
    refine w_setL hr (ixx ns rfl) ?_
    rw [mset]
    have sev' := sev ((ns.set x.toNat (v + y)).map V.int)
    have sr' : SqL K (upd H r (.lst ((ns.set x.toNat (v + y)).map V.int))) r ((ns.set x.toNat (v + y)).map V.int) := SqL.of upd_same
    repeat walk_at "rd_go"
    refine w_ixL sr' (v := .int (v + y)) ?_ ?_
    · obtain ⟨v2, h1, h2⟩ := at_int (ns := ns.set x.toNat (v + y)) hx.1 (by simp; omega)
      rw [List.getElem?_set_self (by omega)] at h1
      rw [h2]; cases h1; rfl
    have e1 : chg ns ⟨.add, x, y⟩ = (ns.set x.toNat (v + y), .int (v + y)) := by
      unfold chg; rw [if_neg no]; show (List.set _ _ _, Ans.int _) = _; rw [gv]
    have := q (upd H r (.lst ((ns.set x.toNat (v + y)).map V.int))) (fun b hb => upd_ne hb) (by rw [e1]; exact upd_same)
    rw [e1] at this; exact this
  | swap =>
    refine w_ifF (by decide) ?_
    repeat walk_at "rd_go"
    refine w_ifF (by decide) ?_
    repeat walk_at "rd_go"
    refine w_ifT rfl ?_
    repeat walk_at "rd_go"
    refine w_if (fun c3 => ?_) (fun c3 => ?_)
    · repeat walk_at "rd_go"
      refine w_if (fun c4 => ?_) (fun c4 => ?_)
      · obtain ⟨u, hu0, hu⟩ := at_int c3 c4
        have gu : ns.getD y.toNat 0 = u := by rw [List.getD_eq_getElem?_getD, hu0]; rfl
        repeat walk_at "rd_go"
        refine w_ixL sr hv ?_
        repeat walk_at "rd_go"
        refine w_ixL sr hu ?_
        repeat walk_at "rd_go"
        refine w_setL hr (ixx ns rfl) ?_
        rw [mset]
        have sev' := sev ((ns.set x.toNat u).map V.int)
        repeat walk_at "rd_go"
        refine w_setL upd_same (j := y.toNat) (by unfold ixN; rw [List.length_map, List.length_set, if_pos c3, if_pos c4]) ?_
        rw [mset, upd_upd]
        repeat walk_at "rd_go"
        have e1 : chg ns ⟨.swap, x, y⟩ = ((ns.set x.toNat u).set y.toNat v, .yes) := by
          unfold chg; rw [if_neg no]; show (if 0 ≤ y ∧ y < (ns.length : Int) then _ else _) = _; rw [if_pos ⟨c3, c4⟩, gu, gv]
        have := q (upd H r (.lst (((ns.set x.toNat u).set y.toNat v).map V.int))) (fun b hb => upd_ne hb) (by rw [e1]; exact upd_same)
        rw [e1] at this; exact this
      · repeat walk_at "rd_go"
        refine none_of ?_
        unfold chg; rw [if_neg no]; show (if 0 ≤ y ∧ y < (ns.length : Int) then _ else _) = _; rw [if_neg (fun z => c4 z.2)]
    · repeat walk_at "rd_go"
      refine none_of ?_
      unfold chg; rw [if_neg no]; show (if 0 ≤ y ∧ y < (ns.length : Int) then _ else _) = _; rw [if_neg (fun z => c3 z.1)]
  | _ =>
    refine w_ifF (by decide) ?_
    repeat walk_at "rd_go"
    refine w_ifF (by decide) ?_
    repeat walk_at "rd_go"
    refine w_ifF (by decide) ?_
    repeat walk_at "rd_go"
    exact none_of (if_neg no)
theorem seg_cut {ns : List Int} {x y : Int} (h0 : 0 ≤ x) (h1 : x < y) (h2 : y ≤ ns.length) : cutI ns (some x) (some y) = seg ns x y := cutI_both h0 (by omega) h2
theorem seg_ne {ns : List Int} {x y : Int} (h0 : 0 ≤ x) (h1 : x < y) (h2 : y ≤ ns.length) : seg ns x y ≠ [] := fun z => by
  have := congrArg List.length z
  unfold seg at this
  rw [List.length_take, List.length_drop, List.length_nil] at this; omega
theorem rd_answer {K : PySem.W.Frag} {vs : List V} {H : Hp} {Q : VK} {E : XK} (h : spAnswer K vs H Q E) : (tSeq (tIfS (tOr (tTest (tOp rLtI (tOp (rIxT K) (tVar 1) (tC (.int 1))) (tC (.int 0)))) (tOr (tTest (tOp rLeI (tOp (rIxT K) (tVar 1) (tC (.int 2))) (tOp (rIxT K) (tVar 1) (tC (.int 1))))) (tTest (tOp rGtI (tOp (rIxT K) (tVar 1) (tC (.int 2))) (tCB (rLen K) (tCons (tVar 0) tNil)))))) (tRet (tC .non)) tNext)
    (tSeq (tAsg (tSl (rSlL K) (tVar 0) (tPart (tOp (rIxT K) (tVar 1) (tC (.int 1)))) (tPart (tOp (rIxT K) (tVar 1) (tC (.int 2))))) (gName 2))
    (tSeq (tIfS (tTest (tOp rEq (tOp (rIxT K) (tVar 1) (tC (.int 0))) (tC (.str "sum")))) (tRet (tCB (rSumL K) (tCons (tVar 2) tNil))) tNext)
    (tSeq (tIfS (tTest (tOp rEq (tOp (rIxT K) (tVar 1) (tC (.int 0))) (tC (.str "least")))) (tRet (tCB (rMinL K) (tCons (tVar 2) tNil))) tNext)
    (tRet (tCB (rMaxL K) (tCons (tVar 2) tNil))))))) { nx := fun _ H' => Q .non H', rt := Q } (start ["_law_row", "_law_deed", "_law_numbers"] vs) H := by
  obtain ⟨r, e, ns, ⟨k, x, y⟩, rfl, hr, he, hk, q⟩ := h
  have se : SqT K H e [.str k.w, .int x, .int y] := SqT.of he
  have none_of : (ask ns ⟨k, x, y⟩ = .none) → Q .non H := fun e => by
    have := q H (Same.refl H)
    rw [e] at this; exact this
  repeat walk_at "rd_go"
  refine w_if (fun c => ?_) (fun c1 => ?_)
  · repeat walk_at "rd_go"
    exact none_of (if_pos (.inl c))
  repeat walk_at "rd_go"
  refine w_if (fun c => ?_) (fun c2 => ?_)
  · repeat walk_at "rd_go"
    exact none_of (if_pos (.inr (.inl c)))
  repeat walk_at "rd_go"
  rw [List.length_map]
  refine w_if (fun c => ?_) (fun c3 => ?_)
  · repeat walk_at "rd_go"
    exact none_of (if_pos (.inr (.inr c)))
  have no : ¬ (x < 0 ∨ y ≤ x ∨ y > (ns.length : Int)) := by omega
  have hne := seg_ne (ns := ns) (x := x) (y := y) (by omega) (by omega) (by omega)
  have T := tells_pt hne
  repeat walk_at "rd_go"
  refine w_slL hr fun l hl => ?_
  rw [cut_ints, seg_cut (by omega) (by omega) (by omega)]
  have g := same_new hl (.lst ((seg ns x y).map V.int))
  have se' := g.seqT se
  have sl : SqL K (upd H l (.lst ((seg ns x y).map V.int))) l ((seg ns x y).map V.int) := SqL.of upd_same
  have h0 : 0 < (seg ns x y).length := by
    cases hz : seg ns x y with
    | nil => exact absurd hz hne
    | cons _ _ => simp
  cases k with
  | sum =>
    repeat walk_at "rd_go"
    refine w_ifT rfl ?_
    repeat walk_at "rd_go"
    refine w_sumL sl ?_
    have := q _ g
    rw [show ask ns ⟨.sum, x, y⟩ = .int (pt (seg ns x y)).t from if_neg no, T.t] at this
    exact this
  | least =>
    repeat walk_at "rd_go"
    refine w_ifF (by decide) ?_
    repeat walk_at "rd_go"
    refine w_ifT rfl ?_
    repeat walk_at "rd_go"
    refine w_minL sl h0 fun m m1 m2 => ?_
    have e1 : m = (pt (seg ns x y)).l := Int.le_antisymm (m2 _ T.l1) (T.l2 _ m1)
    have := q _ g
    rw [show ask ns ⟨.least, x, y⟩ = .int (pt (seg ns x y)).l from if_neg no, ← e1] at this
    exact this
  | greatest =>
    repeat walk_at "rd_go"
    refine w_ifF (by decide) ?_
    repeat walk_at "rd_go"
    refine w_ifF (by decide) ?_
    repeat walk_at "rd_go"
    refine w_maxL sl h0 fun m m1 m2 => ?_
    have e1 : m = (pt (seg ns x y)).g := Int.le_antisymm (T.g2 _ m1) (m2 _ T.g1)
    have := q _ g
    rw [show ask ns ⟨.greatest, x, y⟩ = .int (pt (seg ns x y)).g from if_neg no, ← e1] at this
    exact this
  | _ => simp at hk
theorem rd_reaches {K : PySem.W.Frag} {vs : List V} {H : Hp} {Q : VK} {E : XK} (h : spReaches K vs H Q E) : (tSeq (tIfS (tOr (tTest (tOp rLtI (tOp (rIxT K) (tVar 1) (tC (.int 1))) (tC (.int 0)))) (tTest (tOp rGeI (tOp (rIxT K) (tVar 1) (tC (.int 1))) (tCB (rLen K) (tCons (tVar 0) tNil))))) (tRet (tOp rIsN (tVar 2) (tC .non))) tNext)
    (tSeq (tAsg (tC (.int 0)) (gName 3))
    (tSeq (tFor (iRng2 (tCons (tOp (rIxT K) (tVar 1) (tC (.int 1))) (tCons (tCB (rLen K) (tCons (tVar 0) tNil)) tNil))) (gName 4) (tSeq (tAsg (tOp rAddI (tVar 3) (tOp (rIxL K) (tVar 0) (tVar 4))) (gName 3))
    (tIfS (tTest (tOp rGeI (tVar 3) (tOp (rIxT K) (tVar 1) (tC (.int 2))))) (tRet (tAndV (tCall spWhole [] XE0 (tCons (tVar 2) tNil)) (tOp rEq (tVar 2) (tVar 4)))) tNext)))
    (tRet (tOp rIsN (tVar 2) (tC .non)))))) { nx := fun _ H' => Q .non H', rt := Q } (start ["_law_row", "_law_deed", "_law_found", "_law_total", "_law_place"] vs) H := by
  obtain ⟨r, e, ns, ⟨k, x, y⟩, rfl, hr, he, h1000, q⟩ := h
  have se : SqT K H e [.str k.w, .int x, .int y] := SqT.of he
  repeat walk_at "rd_go"
  refine w_if (fun c => ?_) (fun c1 => ?_)
  · repeat walk_at "rd_go"
    rw [show rea ns ⟨k, x, y⟩ = .none from if_pos (.inl c)]
    exact q
  repeat walk_at "rd_go"
  rw [List.length_map]
  refine w_if (fun c => ?_) (fun c2 => ?_)
  · repeat walk_at "rd_go"
    rw [show rea ns ⟨k, x, y⟩ = .none from if_pos (.inr c)]
    exact q
  have no : ¬ (x < 0 ∨ x ≥ (ns.length : Int)) := by omega
  repeat walk_at "rd_go"
  rw [List.length_map]
  refine w_isR2 (by omega) ?_
  have hR : rea ns ⟨k, x, y⟩ = (match rch (ns.drop x.toNat) x 0 y with | some i => .int i | none => .none) := if_neg no
  generalize hA : rea ns ⟨k, x, y⟩ = A at hR
  refine for_range (lo := x) (n := ((ns.length : Int) - x).toNat) (fun i σ H' => H' = H ∧ ∃ (t : Int) (o : Option V), σ = [some (.ref r), some (.ref e), some A.v, some (.int t), o] ∧ rch (ns.drop x.toNat) x 0 y = rch (ns.drop (x.toNat + i)) (x + i) t y)
    ⟨rfl, 0, _, rfl, by simp⟩ ?_ ?_
  · rintro i σ H' hi ⟨rfl, t, o, rfl, hc⟩
    obtain ⟨v, hv0, hv⟩ := at_int (ns := ns) (k := x + (i : Int)) (by omega) (by omega)
    have hd : ns.drop (x.toNat + i) = v :: ns.drop (x.toNat + (i + 1)) := by
      have e1 : (x + (i : Int)).toNat = x.toNat + i := by omega
      rw [e1] at hv0
      obtain ⟨hlt, e2⟩ := List.getElem?_eq_some_iff.mp hv0
      rw [List.drop_eq_getElem_cons hlt, e2]; rfl
    rw [hd] at hc
    repeat walk_at "rd_go"
    refine w_ixL hr hv ?_
    repeat walk_at "rd_go"
    refine w_if (fun c => ?_) (fun c => ?_)
    · have hA2 : A = .int (x + i) := by
        rw [hR, hc]; show (match (if t + v ≥ y then some (x + (i : Int)) else _) with | some i => Ans.int i | none => Ans.none) = _
        rw [if_pos c]
      rw [hA2]
      repeat walk_at "rd_go"
      refine ⟨x + i, rfl, ?_⟩
      repeat walk_at "rd_go"
      refine w_eqI (i := x + i) ?_
      rw [decide_eq_true rfl]
      exact q
    · repeat walk_at "rd_go"
      refine ⟨rfl, t + v, _, rfl, ?_⟩
      rw [hc]
      show (if t + v ≥ y then some (x + (i : Int)) else _) = _
      rw [if_neg c]
      have e1 : x + ((i + 1 : Nat) : Int) = x + i + 1 := by omega
      rw [e1]
  · rintro σ H' ⟨rfl, t, o, rfl, hc⟩
    have hA2 : A = .none := by
      rw [hR, hc, List.drop_eq_nil_of_le (by omega)]; rfl
    rw [hA2]
    repeat walk_at "rd_go"
    exact q
/-- deeds in the heap -/
abbrev Ds (H : Hp) (vs : List V) (ds : List Deed) : Prop := Us H vs (ds.map Deed.v)
def spDeeds (K : PySem.W.Frag) : Sp := fun vs H Q _ => ∃ (a : Addr) (cs : List Int) (n : Int), vs = [.ref a, .int n] ∧ SqL K H a (cs.map V.int) ∧ 0 < n ∧ cs.length ≤ 500 ∧
  ∀ (r : Addr) (us : List V) (ds : List Deed) (H' : Hp), Same H H' → H r = none → H' r = some (.lst us) → Ds H' us ds → ds.length = cs.length → Q (.ref r) H'
set_option maxHeartbeats 4000000 in
theorem rd_deeds {K : PySem.W.Frag} {vs : List V} {H : Hp} {Q : VK} {E : XK} (h : spDeeds K vs H Q E) : (tSeq (tAsg (tLst tNil) (gName 2))
    (tSeq (tFor (iRng1 (tCons (tCB (rLen K) (tCons (tVar 0) tNil)) tNil)) (gName 3) (tSeq (tAsg (tOp rDivI (tOp (rIxL K) (tVar 0) (tVar 3)) (tC (.int 8))) (gName 4))
    (tSeq (tAsg (tOp rModI (tOp rAddI (tVar 4) (tOp rMulI (tC (.int 3)) (tVar 3))) (tVar 1)) (gName 5))
    (tSeq (tAsg (tOp rModI (tOp rAddI (tOp rDivI (tVar 4) (tC (.int 3))) (tVar 3)) (tVar 1)) (gName 6))
    (tSeq (tAsg (tOp rModI (tOp rAddI (tOp (rIxL K) (tVar 0) (tVar 3)) (tVar 3)) (tC (.int 8))) (gName 7))
    (tSeq (tIfS (tTest (tOp rEq (tOp rModI (tOp (rIxL K) (tVar 0) (tVar 3)) (tC (.int 31))) (tC (.int 7)))) (tAsg (tOp (rIxL K) (tLst (tCons (tUn rNegI (tC (.int 1))) (tCons (tVar 1) (tCons (tOp rSubI (tUn rNegI (tC (.int 2))) (tOp rModI (tVar 4) (tOp rPowI (tC (.int 10)) (tC (.int 9))))) (tCons (tOp rAddI (tVar 1) (tOp rModI (tVar 4) (tOp rPowI (tC (.int 10)) (tC (.int 9))))) tNil))))) (tOp rModI (tVar 3) (tC (.int 4)))) (gName 5)) tNext)
    (tSeq (tIfS (tTest (tOp rEq (tOp rModI (tOp (rIxL K) (tVar 0) (tVar 3)) (tC (.int 31))) (tC (.int 8)))) (tAsg (tOp (rIxL K) (tLst (tCons (tUn rNegI (tC (.int 2))) (tCons (tVar 1) (tCons (tOp rAddI (tVar 1) (tC (.int 1))) tNil)))) (tOp rModI (tVar 3) (tC (.int 3)))) (gName 6)) tNext)
    (tIfS (tTest (tOp rLtI (tVar 7) (tC (.int 2)))) (tSeq (tAsg (tOp rMulI (tOp rSubI (tOp rModI (tVar 4) (tC (.int 23))) (tC (.int 11))) (tOp (rIxL K) (tLst (tCons (tC (.int 1)) (tCons (tOp rPowI (tC (.int 10)) (tC (.int 12))) tNil))) (tCB rIntB (tCons (tOp rEq (tOp rModI (tOp (rIxL K) (tVar 0) (tVar 3)) (tC (.int 29))) (tC (.int 11))) tNil)))) (gName 8))
    (tSeq (tIfS (tTest (tOp rEq (tOp rModI (tOp (rIxL K) (tVar 0) (tVar 3)) (tC (.int 13))) (tC (.int 5)))) (tAsg (tOp rMulI (tOp rModI (tVar 4) (tOp rSubI (tOp rMulB (tOp rPowI (tC (.int 10)) (tC (.int 50))) (tOp rPowI (tC (.int 10)) (tC (.int 50)))) (tC (.int 1)))) (tOp (rIxL K) (tLst (tCons (tC (.int 1)) (tCons (tUn rNegI (tC (.int 1))) tNil))) (tOp rModI (tVar 3) (tC (.int 2))))) (gName 8)) tNext)
    (tDrop (tBM K "list" rAppend (tVar 2) (tCons (tTup (tCons (tOp (rIxL K) (tLst (tCons (tC (.str "set")) (tCons (tC (.str "add")) tNil))) (tVar 7)) (tCons (tVar 5) (tCons (tVar 8) tNil)))) tNil))))) (tIfS (tTest (tOp rEq (tVar 7) (tC (.int 2)))) (tDrop (tBM K "list" rAppend (tVar 2) (tCons (tTup (tCons (tC (.str "swap")) (tCons (tVar 5) (tCons (tVar 6) tNil)))) tNil))) (tIfS (tTest (tOp rLtI (tVar 7) (tC (.int 6)))) (tSeq (tAsg (tOp (rIxL K) (tLst (tCons (tC (.str "sum")) (tCons (tC (.str "least")) (tCons (tC (.str "greatest")) tNil)))) (tOp rSubI (tVar 7) (tC (.int 3)))) (gName 9))
    (tIfS (tAnd (tTest (tOp rLtI (tOp rModI (tOp (rIxL K) (tVar 0) (tVar 3)) (tC (.int 31))) (tC (.int 27)))) (tTest (tOp rGtI (tVar 5) (tVar 6)))) (tDrop (tBM K "list" rAppend (tVar 2) (tCons (tTup (tCons (tVar 9) (tCons (tVar 6) (tCons (tOp rAddI (tVar 5) (tC (.int 1))) tNil)))) tNil))) (tDrop (tBM K "list" rAppend (tVar 2) (tCons (tTup (tCons (tVar 9) (tCons (tVar 5) (tCons (tOp rAddI (tVar 6) (tC (.int 1))) tNil)))) tNil))))) (tSeq (tAsg (tOp rMulI (tOp rSubI (tOp rModI (tVar 4) (tC (.int 41))) (tC (.int 8))) (tOp (rIxL K) (tLst (tCons (tC (.int 1)) (tCons (tOp rPowI (tC (.int 10)) (tC (.int 12))) tNil))) (tCB rIntB (tCons (tOp rEq (tOp rModI (tOp (rIxL K) (tVar 0) (tVar 3)) (tC (.int 23))) (tC (.int 6))) tNil)))) (gName 10))
    (tSeq (tIfS (tTest (tOp rEq (tOp rModI (tOp (rIxL K) (tVar 0) (tVar 3)) (tC (.int 13))) (tC (.int 5)))) (tAsg (tOp rModI (tVar 4) (tOp rSubI (tOp rMulB (tOp rPowI (tC (.int 10)) (tC (.int 50))) (tOp rPowI (tC (.int 10)) (tC (.int 50)))) (tC (.int 1)))) (gName 10)) tNext)
    (tDrop (tBM K "list" rAppend (tVar 2) (tCons (tTup (tCons (tC (.str "reach")) (tCons (tVar 5) (tCons (tVar 10) tNil)))) tNil)))))))))))))))
    (tRet (tVar 2)))) { nx := fun _ H' => Q .non H', rt := Q } (start ["_law_cells", "_law_size", "_law_made", "_law_k", "_law_rest", "_law_one", "_law_two", "_law_turn", "_law_value", "_law_word", "_law_mark"] vs) H := by
  obtain ⟨a, cs, n, rfl, hS, hn, h500, q⟩ := h
  repeat walk_at "rd_gox"
  refine w_new (by simp) fun r hr => ?_
  have g1 := same_new hr (.lst [])
  have hS1 := g1.seq hS
  repeat walk_at "rd_gox"
  rw [List.length_map]
  refine w_isR1 (by omega) (by omega) ?_
  refine for_range (lo := 0) (n := (cs.length : Int).toNat) (fun i σ H' => Same H H' ∧ ∃ (us : List V) (ds : List Deed) (o3 o4 o5 o6 o7 o8 o9 o10 : Option V), H' r = some (.lst us) ∧ Ds H' us ds ∧ ds.length = i ∧ σ = [some (.ref a), some (.int n), some (.ref r), o3, o4, o5, o6, o7, o8, o9, o10])
    ⟨g1, [], [], _, _, _, _, _, _, _, _, upd_same, .nil, rfl, rfl⟩ ?_ ?_
  · rintro i σ H' hi ⟨g, us, ds, o3, o4, o5, o6, o7, o8, o9, o10, hr', hds, hlen, rfl⟩
    obtain ⟨v, _, hv⟩ := at_int (ns := cs) (k := 0 + (i : Int)) (by omega) (by omega)
    have hS3 := g.seq hS
    have fin : ∀ (H2 : Hp) (p : Addr) (d : Deed) (σ2 : St) (o3 o4 o5 o6 o7 o8 o9 o10 : Option V), Same H H2 → H2 r = some (.lst us) → Ds H2 us ds → H2 p = none → σ2 = [some (.ref a), some (.int n), some (.ref r), o3, o4, o5, o6, o7, o8, o9, o10] →
        (Same H (upd (upd H2 p (.tup d.v)) r (.lst (us ++ [.ref p]))) ∧ ∃ (us' : List V) (ds' : List Deed) (o3 o4 o5 o6 o7 o8 o9 o10 : Option V), upd (upd H2 p (.tup d.v)) r (.lst (us ++ [.ref p])) r = some (.lst us') ∧ Ds (upd (upd H2 p (.tup d.v)) r (.lst (us ++ [.ref p]))) us' ds' ∧ ds'.length = i + 1 ∧ σ2 = [some (.ref a), some (.int n), some (.ref r), o3, o4, o5, o6, o7, o8, o9, o10]) := by
      intro H2 p d σ2 o3 o4 o5 o6 o7 o8 o9 o10 g2 hr2 hds2 hp he
      refine ⟨same_upd (g2.trans (same_new hp _)) hr, us ++ [.ref p], ds ++ [d], o3, o4, o5, o6, o7, o8, o9, o10, upd_same, ?_, by simp; omega, he⟩
      have := snoc_us (hds2.mono (push_tups (us := us ++ [.ref p]) (o := .tup d.v) hr2 hp)) (push_new (us := us ++ [.ref p]) (o := .tup d.v) hr2 hp)
      unfold Ds
      rw [List.map_append]
      exact this
    have room : us.length < sizeLine := by
      have := hds.length
      rw [List.length_map] at this
      have := big (n := us.length + 1) (by omega)
      omega
    repeat walk_at "rd_goxs"
    with_reducible refine w_seqI (fun σ2 H2 => Same H H2 ∧ H2 r = some (.lst us) ∧ Ds H2 us ds ∧ ∃ (one : Int) (o8 o9 o10 : Option V), σ2 = [some (.ref a), some (.int n), some (.ref r), some (.int (0 + (i : Int))), some (.int (v / 8)), some (.int one), some (.int ((v / 8 / 3 + (0 + (i : Int))) % n)), some (.int ((v + (0 + (i : Int))) % 8)), o8, o9, o10]) ?_ (fun cont => ?_)
    · rintro σ2 H2 ⟨g2, hr2, hds2, one, o8, o9, o10, rfl⟩
      have hS4 := g2.seq hS
      with_reducible refine w_seqI (fun σ2 H2 => Same H H2 ∧ H2 r = some (.lst us) ∧ Ds H2 us ds ∧ ∃ (one two : Int) (o8 o9 o10 : Option V), σ2 = [some (.ref a), some (.int n), some (.ref r), some (.int (0 + (i : Int))), some (.int (v / 8)), some (.int one), some (.int two), some (.int ((v + (0 + (i : Int))) % 8)), o8, o9, o10]) ?_ (fun cont => ?_)
      · clear hr2 hds2
        rintro σ2 H2 ⟨g2, hr2, hds2, one, two, o8, o9, o10, rfl⟩
        have hS4 := g2.seq hS
        have ht : 0 ≤ (v + (0 + (i : Int))) % 8 ∧ (v + (0 + (i : Int))) % 8 < 8 := by omega
        generalize (v + (0 + (i : Int))) % 8 = tn at ht ⊢
        repeat walk_at "rd_gox"
        refine w_if (fun c => ?_) (fun c => ?_)
        · repeat walk_at "rd_goxs"
          refine w_new (by simp) fun l hl => ?_
          have gl := same_new hl (.lst [.int 1, .int (10 ^ Int.toNat 12)])
          have hS5 := gl.seq hS4
          repeat walk_at "rd_goxs"
          obtain ⟨f, hf, hf2⟩ := menu (ms := [1, 10 ^ Int.toNat 12]) (k := if decide (v % 29 = 11) = true then 1 else 0) (C := fun m => -(2 ^ 64) < m ∧ m < 2 ^ 64) (by decide) (by split <;> omega) (by split <;> simp)
          refine w_ixL (SqL.of upd_same) hf ?_
          refine w_i (Or.inr hf2) ?_
          repeat walk_at "rd_goxs"
          with_reducible refine w_seqI (fun σ3 H3 => Same H H3 ∧ H3 r = some (.lst us) ∧ Ds H3 us ds ∧ ∃ (vl : Int) (o9 o10 : Option V), σ3 = [some (.ref a), some (.int n), some (.ref r), some (.int (0 + (i : Int))), some (.int (v / 8)), some (.int one), some (.int two), some (.int tn), some (.int vl), o9, o10]) ?_ (fun cont => ?_)
          · rintro σ3 H3 ⟨g3, hr3, hds3, vl, o9, o10, rfl⟩
            repeat walk_at "rd_gox"
            refine w_ty hr3 ?_
            repeat walk_at "rd_gox"
            refine w_new (by simp) fun l3 hl3 => ?_
            have gl3 := same_new hl3 (.lst [.str "set", .str "add"])
            repeat walk_at "rd_gox"
            obtain ⟨kd, hkd⟩ : ∃ kd : Kd, atI [V.str "set", V.str "add"] tn = some (.str kd.w) := by
              have : tn = 0 ∨ tn = 1 := by omega
              rcases this with rfl | rfl
              · exact ⟨.set, rfl⟩
              · exact ⟨.add, rfl⟩
            refine w_ixL (SqL.of upd_same) hkd ?_
            repeat walk_at "rd_gox"
            refine w_new (by simp) fun p hp => ?_
            repeat walk_at "rd_gox"
            refine w_append ((same_new hp _) _ _ (gl3 _ _ hr3)) room ?_
            repeat walk_at "rd_gox"
            exact fin _ p ⟨kd, one, vl⟩ _ _ _ _ _ _ _ _ _ (g3.trans gl3) (gl3 _ _ hr3) (hds3.mono gl3.tups) hp rfl
          · repeat walk_at "rd_gox"
            refine w_if (fun c5 => ?_) (fun c5 => ?_)
            · repeat walk_at "rd_gox"
              refine w_new (by simp) fun l3 hl3 => ?_
              have gl3 := same_new hl3 (.lst [.int 1, .int (-1)])
              repeat walk_at "rd_gox"
              obtain ⟨f, hf, hf2⟩ := menu (ms := [1, -1]) (k := (0 + (i : Int)) % 2) (C := fun m => -(2 ^ 64) < m ∧ m < 2 ^ 64) (by decide) (by omega) (by simp; omega)
              refine w_ixL (SqL.of upd_same) hf ?_
              refine w_i (Or.inr hf2) ?_
              refine w_name ?_
              exact cont _ _ ⟨g2.trans (gl.trans gl3), gl3 _ _ (gl _ _ hr2), (hds2.mono gl.tups).mono gl3.tups, _, _, _, rfl⟩
            · refine w_next ?_
              exact cont _ _ ⟨g2.trans gl, gl _ _ hr2, hds2.mono gl.tups, _, _, _, rfl⟩
        repeat walk_at "rd_gox"
        refine w_if (fun c2 => ?_) (fun c2 => ?_)
        · repeat walk_at "rd_gox"
          refine w_ty hr2 ?_
          repeat walk_at "rd_gox"
          refine w_new (by simp) fun p hp => ?_
          repeat walk_at "rd_gox"
          refine w_append ((same_new hp _) _ _ hr2) room ?_
          repeat walk_at "rd_gox"
          exact fin H2 p ⟨.swap, one, two⟩ _ _ _ _ _ _ _ _ _ g2 hr2 hds2 hp rfl
        repeat walk_at "rd_gox"
        refine w_if (fun c3 => ?_) (fun c3 => ?_)
        · repeat walk_at "rd_gox"
          refine w_new (by simp) fun l hl => ?_
          have gl := same_new hl (.lst [.str "sum", .str "least", .str "greatest"])
          have hS5 := gl.seq hS4
          repeat walk_at "rd_gox"
          obtain ⟨kd, hkd⟩ : ∃ kd : Kd, atI [V.str "sum", V.str "least", V.str "greatest"] (tn - 3) = some (.str kd.w) := by
            have : tn = 3 ∨ tn = 4 ∨ tn = 5 := by omega
            rcases this with rfl | rfl | rfl
            · exact ⟨.sum, rfl⟩
            · exact ⟨.least, rfl⟩
            · exact ⟨.greatest, rfl⟩
          refine w_ixL (SqL.of upd_same) hkd ?_
          repeat walk_at "rd_gox"
          refine w_if (fun c4 => ?_) (fun c4 => ?_)
          · repeat walk_at "rd_gox"
            refine w_if (fun c5 => ?_) (fun c5 => ?_)
            · repeat walk_at "rd_gox"
              refine w_ty (gl _ _ hr2) ?_
              repeat walk_at "rd_gox"
              refine w_new (by simp) fun p hp => ?_
              repeat walk_at "rd_gox"
              refine w_append ((same_new hp _) _ _ (gl _ _ hr2)) room ?_
              repeat walk_at "rd_gox"
              exact fin _ p ⟨kd, two, one + 1⟩ _ _ _ _ _ _ _ _ _ (g2.trans gl) (gl _ _ hr2) (hds2.mono gl.tups) hp rfl
            · repeat walk_at "rd_gox"
              refine w_ty (gl _ _ hr2) ?_
              repeat walk_at "rd_gox"
              refine w_new (by simp) fun p hp => ?_
              repeat walk_at "rd_gox"
              refine w_append ((same_new hp _) _ _ (gl _ _ hr2)) room ?_
              repeat walk_at "rd_gox"
              exact fin _ p ⟨kd, one, two + 1⟩ _ _ _ _ _ _ _ _ _ (g2.trans gl) (gl _ _ hr2) (hds2.mono gl.tups) hp rfl
          · repeat walk_at "rd_gox"
            refine w_ty (gl _ _ hr2) ?_
            repeat walk_at "rd_gox"
            refine w_new (by simp) fun p hp => ?_
            repeat walk_at "rd_gox"
            refine w_append ((same_new hp _) _ _ (gl _ _ hr2)) room ?_
            repeat walk_at "rd_gox"
            exact fin _ p ⟨kd, one, two + 1⟩ _ _ _ _ _ _ _ _ _ (g2.trans gl) (gl _ _ hr2) (hds2.mono gl.tups) hp rfl
        · repeat walk_at "rd_goxs"
          refine w_new (by simp) fun l hl => ?_
          have gl := same_new hl (.lst [.int 1, .int (10 ^ Int.toNat 12)])
          have hS5 := gl.seq hS4
          repeat walk_at "rd_goxs"
          obtain ⟨f, hf, hf2⟩ := menu (ms := [1, 10 ^ Int.toNat 12]) (k := if decide (v % 23 = 6) = true then 1 else 0) (C := fun m => -(2 ^ 64) < m ∧ m < 2 ^ 64) (by decide) (by split <;> omega) (by split <;> simp)
          refine w_ixL (SqL.of upd_same) hf ?_
          refine w_i (Or.inr hf2) ?_
          repeat walk_at "rd_goxs"
          with_reducible refine w_seqI (fun σ3 H3 => Same H H3 ∧ H3 r = some (.lst us) ∧ Ds H3 us ds ∧ ∃ (vl : Int) (o8 o9 : Option V), σ3 = [some (.ref a), some (.int n), some (.ref r), some (.int (0 + (i : Int))), some (.int (v / 8)), some (.int one), some (.int two), some (.int tn), o8, o9, some (.int vl)]) ?_ (fun cont => ?_)
          · rintro σ3 H3 ⟨g3, hr3, hds3, vl, o8, o9, rfl⟩
            repeat walk_at "rd_gox"
            refine w_ty hr3 ?_
            repeat walk_at "rd_gox"
            refine w_new (by simp) fun p hp => ?_
            repeat walk_at "rd_gox"
            refine w_append ((same_new hp _) _ _ hr3) room ?_
            repeat walk_at "rd_gox"
            exact fin _ p ⟨.reach, one, vl⟩ _ _ _ _ _ _ _ _ _ g3 hr3 hds3 hp rfl
          · repeat walk_at "rd_gox"
            refine w_if (fun c5 => ?_) (fun c5 => ?_)
            · refine w_asg ?_
              repeat (first | with_reducible refine w_op ?_ | with_reducible refine w_c ?_ | (with_reducible refine' w_var ?e0 ?_; (case e0 => with_unfolding_all exact rfl)) | (with_reducible refine' w_i ?e0 ?_; (case e0 => with_unfolding_all first | exact ⟨by decide, by decide⟩ | (show (0 : Int) < _; decide) | exact ⟨by decide, by decide, by decide⟩)) | with_reducible refine w_i0 ?_)
              refine w_name ?_
              exact cont _ _ ⟨g2.trans gl, gl _ _ hr2, hds2.mono gl.tups, _, _, _, rfl⟩
            · refine w_next ?_
              exact cont _ _ ⟨g2.trans gl, gl _ _ hr2, hds2.mono gl.tups, _, _, _, rfl⟩
      · repeat walk_at "rd_gox"
        refine w_if (fun c5 => ?_) (fun c5 => ?_)
        · repeat walk_at "rd_gox"
          refine w_new (by simp) fun l hl => ?_
          have gl := same_new hl (.lst [.int (-2), .int n, .int (n + 1)])
          repeat walk_at "rd_gox"
          obtain ⟨f, hf, _⟩ := menu (ms := [-2, n, n + 1]) (k := (0 + (i : Int)) % 3) (C := fun _ => True) (fun _ _ => trivial) (by omega) (by simp; omega)
          refine w_ixL (SqL.of upd_same) hf ?_
          refine w_name ?_
          exact cont _ _ ⟨g2.trans gl, gl _ _ hr2, hds2.mono gl.tups, _, _, _, _, _, rfl⟩
        · refine w_next ?_
          exact cont _ _ ⟨g2, hr2, hds2, _, _, _, _, _, rfl⟩
    · repeat walk_at "rd_gox"
      refine w_if (fun c5 => ?_) (fun c5 => ?_)
      · repeat walk_at "rd_gox"
        refine w_new (by simp) fun l hl => ?_
        have gl := same_new hl (.lst [.int (-1), .int n, .int (-2 - v / 8 % 10 ^ Int.toNat 9), .int (n + v / 8 % 10 ^ Int.toNat 9)])
        repeat walk_at "rd_gox"
        obtain ⟨f, hf, _⟩ := menu (ms := [-1, n, -2 - v / 8 % 10 ^ Int.toNat 9, n + v / 8 % 10 ^ Int.toNat 9]) (k := (0 + (i : Int)) % 4) (C := fun _ => True) (fun _ _ => trivial) (by omega) (by simp; omega)
        refine w_ixL (SqL.of upd_same) hf ?_
        refine w_name ?_
        exact cont _ _ ⟨g.trans gl, gl _ _ hr', hds.mono gl.tups, _, _, _, _, rfl⟩
      · refine w_next ?_
        exact cont _ _ ⟨g, hr', hds, _, _, _, _, rfl⟩
  · rintro σ H' ⟨g, us, ds, o3, o4, o5, o6, o7, o8, o9, o10, hr', hds, hlen, rfl⟩
    repeat walk_at "rd_gox"
    exact q r us ds H' g hr hr' hds (by omega)
/-! ### two structures compared -/
def Sc (x : V) : Prop := (∃ i : Int, x = .int i) ∨ ∃ s : Str, x = .str s
/-- a scalar, or a tuple of scalars; w: how many things -/
def Ok1 (H : Hp) (x : V) (w : Nat) : Prop := (Sc x ∧ w = 1) ∨ ∃ p zs, x = .ref p ∧ H p = some (.tup zs) ∧ (∀ z ∈ zs, Sc z) ∧ w = 1 + zs.length
def Ok2 (t : Addr) (H : Hp) (q : V × V × Nat) : Prop := (q.1 = q.2.1 ∧ Sc q.1 ∧ q.2.2 = 1) ∨
  ∃ L R tp zs ws, q.1 = .ref L ∧ q.2.1 = .ref R ∧ H L = some (cont tp zs) ∧ H R = some (cont tp zs) ∧ L ≠ t ∧ R ≠ t ∧ Paired (Ok1 H) zs ws ∧ q.2.2 = 1 + ws.sum
theorem Ok1.mono {t : Addr} {H H' : Hp} {x : V} {w : Nat} {ts : List V} (ht : H t = some (.lst ts)) (k : Kp t H H') (h : Ok1 H x w) : Ok1 H' x w := by
  rcases h with h | ⟨p, zs, e, hp, r⟩
  · exact .inl h
  · exact .inr ⟨p, zs, e, k _ _ (ne_of hp ht (fun z => by cases z)) hp, r⟩
theorem ok1s_mono {t : Addr} {H H' : Hp} {ts : List V} (ht : H t = some (.lst ts)) (k : Kp t H H') : ∀ {xs : List V} {ws : List Nat}, Paired (Ok1 H) xs ws → Paired (Ok1 H') xs ws
  | _, _, .nil => .nil
  | _, _, .cons h r => .cons (h.mono ht k) (ok1s_mono ht k r)
theorem Ok2.mono {t : Addr} {H H' : Hp} {q : V × V × Nat} {ts : List V} (ht : H t = some (.lst ts)) (k : Kp t H H') (h : Ok2 t H q) : Ok2 t H' q := by
  rcases h with h | ⟨L, R, tp, zs, ws, e1, e2, h1, h2, n1, n2, h3, h4⟩
  · exact .inl h
  · exact .inr ⟨L, R, tp, zs, ws, e1, e2, k _ _ n1 h1, k _ _ n2 h2, n1, n2, ok1s_mono ht k h3, h4⟩
theorem sc_ones {H : Hp} : ∀ {zs : List V}, (∀ z ∈ zs, Sc z) → ∃ ws, Paired (Ok1 H) zs ws ∧ ws.sum = zs.length
  | [], _ => ⟨[], .nil, rfl⟩
  | z :: zs, h => by
    obtain ⟨ws, h1, h2⟩ := sc_ones (zs := zs) fun y hy => h y (List.mem_cons_of_mem _ hy)
    exact ⟨1 :: ws, .cons (.inl ⟨h z List.mem_cons_self, rfl⟩) h1, by rw [List.sum_cons, List.length_cons, h2]; omega⟩
theorem Ok1.two {t : Addr} {H : Hp} {x : V} {w : Nat} {ts : List V} (ht : H t = some (.lst ts)) (h : Ok1 H x w) : Ok2 t H (x, x, w) := by
  rcases h with ⟨h, e⟩ | ⟨p, zs, e, hp, hs, hw⟩
  · exact .inl ⟨rfl, h, e⟩
  · obtain ⟨ws, h1, h2⟩ := sc_ones (H := H) hs
    have n := ne_of hp ht (fun z => by cases z)
    exact .inr ⟨p, p, true, zs, ws, e, e, hp, hp, n, n, h1, by rw [h2]; exact hw⟩
def spUnturned : Sp := fun vs H Q _ => ∃ (a b : Addr) (xs : List V) (ws : List Nat), vs = [.ref a, .ref b] ∧ H a = some (.lst xs) ∧ H b = some (.lst xs) ∧ Paired (Ok1 H) xs ws ∧ ws.sum ≤ 50000 ∧ ∀ H', Same H H' → Q (.bl true) H'
def two (q : V × V × Nat) : List V := [q.1, q.2.1]
theorem paired_get {α β : Type} {F : α → β → Prop} : ∀ {xs : List α} {ys : List β} {i : Nat} {x : α}, Paired F xs ys → xs[i]? = some x → ∃ y, ys[i]? = some y ∧ F x y
  | _, _, _, _, .nil, e => by simp at e
  | _, _, 0, _, .cons h _, e => by simp at e; subst e; exact ⟨_, rfl, h⟩
  | _, _, i + 1, x, .cons _ r, e => by
    obtain ⟨y, h1, h2⟩ := paired_get (i := i) (x := x) r (by simpa using e)
    exact ⟨y, by simpa using h1, h2⟩
theorem paired_len {α β : Type} {F : α → β → Prop} : ∀ {xs : List α} {ys : List β}, Paired F xs ys → xs.length = ys.length
  | _, _, .nil => rfl
  | _, _, .cons _ r => by rw [List.length_cons, List.length_cons, paired_len r]
theorem us_last {H : Hp} {vs : List V} {ns : List (List V)} {n : List V} (r : Us H vs (ns ++ [n])) : ∃ us v, vs = us ++ [v] ∧ Us H us ns ∧ IsU H v n := by
  induction ns generalizing vs with
  | nil =>
    cases r with
    | cons h r =>
      cases r
      exact ⟨[], _, rfl, Paired.nil, h⟩
  | cons m ns ih =>
    cases r with
    | cons h r =>
      obtain ⟨us, v, rfl, q, q2⟩ := ih r
      exact ⟨_ :: us, v, rfl, Paired.cons h q, q2⟩
/-- the stack within unturned -/
structure Stk (H₀ : Hp) (t : Addr) (m : Nat) (H : Hp) (ps : List (V × V × Nat)) : Prop where
  same : Same H₀ H
  ex : ∃ ts, H t = some (.lst ts) ∧ Us H ts (ps.map two)
  ok : ∀ q ∈ ps, Ok2 t H q
  sum : m = (ps.map (·.2.2)).sum
  small : m ≤ 60000
  len : ps.length ≤ m
theorem w_pos {t : Addr} {H : Hp} {q : V × V × Nat} (h : Ok2 t H q) : 1 ≤ q.2.2 := by
  rcases h with h | ⟨_, _, _, _, _, _, _, _, _, _, _, _, h⟩
  · rw [h.2.2]; exact Nat.le_refl _
  · omega
set_option maxHeartbeats 4000000 in
theorem rd_unturned {K : PySem.W.Frag} {vs : List V} {H : Hp} {Q : VK} {E : XK} (h : spUnturned vs H Q E) : (tSeq (tAsg (tLst (tCons (tTup (tCons (tVar 0) (tCons (tVar 1) tNil))) tNil)) (gName 2))
    (tSeq (tWhile (tTest (tOp rNeL0 (tVar 2) (tLst tNil))) (tSeq (tAsg (tBM0 K "list" rPop (tVar 2)) (gTup K 2 (gCons (gName 3) (gCons (gName 4) gNil))))
    (tIfS (tB (tCB rIsiT (tCons (tVar 4) (tCons (tTup (tCons (tC (.ty "list")) (tCons (tC (.ty "tuple")) tNil))) tNil)))) (tSeq (tIfS (tTest (tOp rNe (tCB rIsi (tCons (tVar 3) (tCons (tC (.ty "list")) tNil))) (tCB rIsi (tCons (tVar 4) (tCons (tC (.ty "list")) tNil))))) (tRet (tC (.bl false))) tNext)
    (tSeq (tIfS (tOr (tNot (tB (tCB rIsiT (tCons (tVar 3) (tCons (tTup (tCons (tC (.ty "list")) (tCons (tC (.ty "tuple")) tNil))) tNil))))) (tTest (tOp rNe (tCB (rLen K) (tCons (tVar 3) tNil)) (tCB (rLen K) (tCons (tVar 4) tNil))))) (tRet (tC (.bl false))) tNext)
    (tFor (iRng1 (tCons (tCB (rLen K) (tCons (tVar 4) tNil)) tNil)) (gName 5) (tDrop (tBM K "list" rAppend (tVar 2) (tCons (tTup (tCons (tOp (rIx2 K) (tVar 3) (tVar 5)) (tCons (tOp (rIx2 K) (tVar 4) (tVar 5)) tNil))) tNil)))))) (tIfS (tOr (tTest (tOp rIsN (tVar 3) (tC .non))) (tTest (tOp rIsN (tVar 4) (tC .non)))) (tIfS (tOr (tTest (tOp rNotN (tVar 3) (tC .non))) (tTest (tOp rNotN (tVar 4) (tC .non)))) (tRet (tC (.bl false))) tNext) (tIfS (tTest (tOp rNe (tCB rIsi (tCons (tVar 3) (tCons (tC (.ty "bool")) tNil))) (tCB rIsi (tCons (tVar 4) (tCons (tC (.ty "bool")) tNil))))) (tRet (tC (.bl false))) (tIfS (tTest (tOp rNe (tCB rIsi (tCons (tVar 3) (tCons (tC (.ty "str")) tNil))) (tCB rIsi (tCons (tVar 4) (tCons (tC (.ty "str")) tNil))))) (tRet (tC (.bl false))) (tIfS (tOr (tNot (tB (tCB rIsiT (tCons (tVar 3) (tCons (tTup (tCons (tC (.ty "str")) (tCons (tC (.ty "int")) tNil))) tNil))))) (tTest (tOp rNe (tVar 3) (tVar 4)))) (tRet (tC (.bl false))) tNext)))))))
    (tRet (tC (.bl true))))) { nx := fun _ H' => Q .non H', rt := Q } (start ["_law_found", "_law_due", "_law_todo", "_law_left", "_law_right", "_law_k"] vs) H := by
  obtain ⟨a, b, xs, ws, rfl, ha, hb, hx, hw, q⟩ := h
  repeat walk_at "rd_go"
  refine w_new (by simp) fun p0 hp0 => ?_
  repeat walk_at "rd_go"
  refine w_new (by simp) fun t ht => ?_
  repeat walk_at "rd_go"
  have g1 := (same_new hp0 (.tup [.ref a, .ref b])).trans (same_new ht (.lst [.ref p0]))
  have hat : a ≠ t := ne_of_none (same_new hp0 (.tup [.ref a, .ref b]) _ _ ha) ht
  have hbt : b ≠ t := ne_of_none (same_new hp0 (.tup [.ref a, .ref b]) _ _ hb) ht
  have hst : H t = none := (same_new hp0 (.tup [.ref a, .ref b])).free ht
  have okx : Paired (Ok1 (upd (upd H p0 (.tup [.ref a, .ref b])) t (.lst [.ref p0]))) xs ws := by
    have : ∀ {ys : List V} {us : List Nat}, Paired (Ok1 H) ys us → Paired (Ok1 (upd (upd H p0 (.tup [.ref a, .ref b])) t (.lst [.ref p0]))) ys us := by
      intro ys us r
      induction r with
      | nil => exact .nil
      | cons h _ ih =>
        refine .cons ?_ ih
        rcases h with h | ⟨p, zs, e, hp, r⟩
        · exact .inl h
        · exact .inr ⟨p, zs, e, g1 _ _ hp, r⟩
    exact this hx
  refine w_while (fun m σ H' => ∃ ps, Stk H t m H' ps ∧ ∃ o3 o4 o5, σ = [some (.ref a), some (.ref b), some (.ref t), o3, o4, o5])
    ⟨1 + ws.sum, [(.ref a, .ref b, 1 + ws.sum)], ⟨g1, ⟨[.ref p0], upd_same, .cons ⟨p0, rfl, by rw [upd_ne (ne_of_none upd_same ht)]; exact upd_same⟩ .nil⟩, ?_, by simp, by omega, by simp⟩, _, _, _, rfl⟩ ?_
  · intro r hr
    rw [List.mem_singleton.mp hr]
    exact .inr ⟨a, b, false, xs, ws, rfl, rfl, g1 _ _ ha, g1 _ _ hb, hat, hbt, okx, rfl⟩
  rintro m σ H1 ⟨ps, ⟨gs, ⟨ts, hts, hus⟩, hok, hsum, hsm, hln⟩, o3, o4, o5, rfl⟩
  repeat walk_at "rd_go"
  refine w_new (by simp) fun p1 hp1 => ?_
  have g2 := same_new hp1 (.lst [])
  refine w_neL0 (g2 _ _ hts) upd_same ?_
  by_cases hps : ps = []
  · subst hps
    cases hus
    refine w_bl (w_nt ?_)
    repeat walk_at "rd_go"
    exact q _ (gs.trans g2)
  obtain ⟨ps0, ⟨x, y, w⟩, rfl⟩ : ∃ l p, ps = l ++ [p] := ⟨ps.dropLast, ps.getLast hps, (List.dropLast_concat_getLast hps).symm⟩
  rw [List.map_append] at hus
  obtain ⟨ts0, e, rfl, hus0, pe, rfl, hpe⟩ := us_last hus
  refine w_bl (w_nemp ?_)
  have oktop := hok (x, y, w) (by simp)
  have hwp := w_pos oktop
  rw [List.map_append, List.sum_append] at hsum
  have hm : m = (ps0.map (·.2.2)).sum + w := by rw [hsum]; simp
  refine ⟨fun σ' H' => ∃ m', m' < m ∧ ∃ ps, Stk H t m' H' ps ∧ ∃ o3 o4 o5, σ' = [some (.ref a), some (.ref b), some (.ref t), o3, o4, o5], fun _ _ z => z, ?_⟩
  repeat walk_at "rd_go"
  refine w_ty (g2 _ _ hts) (w_pop (g2 _ _ hts) ?_)
  have k2 : Kp t H1 (upd (upd H1 p1 (.lst [])) t (.lst ts0)) := g2.kp.trans kp_upd
  have gs3 : Same H (upd (upd H1 p1 (.lst [])) t (.lst ts0)) := same_upd (gs.trans g2) hst
  have ht3 : upd (upd H1 p1 (.lst [])) t (.lst ts0) t = some (.lst ts0) := upd_same
  have hpe3 : upd (upd H1 p1 (.lst [])) t (.lst ts0) pe = some (.tup [x, y]) := k2 _ _ (ne_of hpe hts (fun z => by cases z)) hpe
  have hus3 : Us (upd (upd H1 p1 (.lst [])) t (.lst ts0)) ts0 (ps0.map two) := hus0.mono fun b zs hb => k2 _ _ (ne_of hb hts (fun z => by cases z)) hb
  have hok3 : ∀ r ∈ ps0, Ok2 t (upd (upd H1 p1 (.lst [])) t (.lst ts0)) r := fun r hr => (hok r (by simp [hr])).mono hts k2
  have otop3 : Ok2 t (upd (upd H1 p1 (.lst [])) t (.lst ts0)) (x, y, w) := oktop.mono hts k2
  generalize upd (upd H1 p1 (.lst [])) t (.lst ts0) = H3 at gs3 ht3 hpe3 hus3 hok3 otop3 ⊢
  refine w_gtup (SqT.of hpe3) rfl ?_
  repeat walk_at "rd_go"
  refine w_new (by simp) fun p2 hp2 => ?_
  have g4 := same_new hp2 (.tup [.ty "list", .ty "tuple"])
  have t4 := g4 _ _ ht3
  repeat walk_at "rd_go"
  have sums : ∀ ps : List (V × V × Nat), (∀ r ∈ ps, 1 ≤ r.2.2) → ps.length ≤ (ps.map (·.2.2)).sum := by
    intro ps
    induction ps with
    | nil => intro _; exact Nat.le_refl _
    | cons r ps ih =>
      intro h
      have h1 := h r List.mem_cons_self
      have h2 := ih fun r' hr' => h r' (List.mem_cons_of_mem _ hr')
      rw [List.map_cons, List.sum_cons, List.length_cons]; omega
  rcases otop3 with ⟨exy, hsc, ew⟩ | ⟨L, R, tp, zs, us, eL, eR, hL, hR, nL, nR, hz, ew⟩
  · have exy : x = y := exy
    have ew : w = 1 := ew
    subst exy
    have fin : ∀ H5, Same H3 H5 → Stk H t (ps0.map (·.2.2)).sum H5 ps0 := fun H5 g => ⟨gs3.trans g, ⟨ts0, g _ _ ht3, hus3.mono g.tups⟩, fun r hr => (hok3 r hr).mono ht3 g.kp, rfl, by omega, sums _ fun r hr => w_pos (hok3 r hr)⟩
    rcases hsc with ⟨i, e⟩ | ⟨s, e⟩
    · have e : x = .int i := e
      subst e
      refine w_isiTV upd_same rfl rfl ?_
      refine w_bl (w_ff ?_)
      repeat walk_at "rd_go"
      refine w_ifF (fun z => by cases z) ?_
      repeat walk_at "rd_go"
      refine w_ifF (fun z => by cases z) ?_
      repeat walk_at "rd_go"
      refine w_ifNT rfl ?_
      repeat walk_at "rd_go"
      refine w_ifNT rfl ?_
      repeat walk_at "rd_go"
      refine w_new (by simp) fun p3 hp3 => ?_
      repeat walk_at "rd_go"
      refine w_isiTV upd_same rfl rfl ?_
      refine w_bl (w_ff ?_)
      repeat walk_at "rd_go"
      refine w_ifNT rfl ?_
      repeat walk_at "rd_go"
      exact ⟨_, by omega, ps0, fin _ (g4.trans (same_new hp3 _)), _, _, _, rfl⟩
    · have e : x = .str s := e
      subst e
      refine w_isiTV upd_same rfl rfl ?_
      refine w_bl (w_ff ?_)
      repeat walk_at "rd_go"
      refine w_ifF (fun z => by cases z) ?_
      repeat walk_at "rd_go"
      refine w_ifF (fun z => by cases z) ?_
      repeat walk_at "rd_go"
      refine w_ifNT rfl ?_
      repeat walk_at "rd_go"
      refine w_ifNT rfl ?_
      repeat walk_at "rd_go"
      refine w_new (by simp) fun p3 hp3 => ?_
      repeat walk_at "rd_go"
      refine w_isiTV upd_same rfl rfl ?_
      refine w_bl (w_ff ?_)
      repeat walk_at "rd_go"
      refine w_ifNT rfl ?_
      repeat walk_at "rd_go"
      exact ⟨_, by omega, ps0, fin _ (g4.trans (same_new hp3 _)), _, _, _, rfl⟩
  · have eL : x = .ref L := eL
    have eR : y = .ref R := eR
    have ew : w = 1 + us.sum := ew
    subst eL eR
    have et : (!tp || tp) = true := by cases tp <;> rfl
    refine w_isiTO upd_same (g4 _ _ hR) (cont_list ..) (cont_tuple ..) ?_
    rw [et]
    repeat walk_at "rd_go"
    refine w_isiO (g4 _ _ hL) (cont_list ..) ?_
    repeat walk_at "rd_go"
    refine w_isiO (g4 _ _ hR) (cont_list ..) ?_
    repeat walk_at "rd_go"
    refine w_ifNT rfl ?_
    repeat walk_at "rd_go"
    refine w_new (by simp) fun p3 hp3 => ?_
    have g5 := g4.trans (same_new hp3 (.tup [.ty "list", .ty "tuple"]))
    repeat walk_at "rd_go"
    refine w_isiTO upd_same (g5 _ _ hL) (cont_list ..) (cont_tuple ..) ?_
    rw [et]
    repeat walk_at "rd_go"
    refine w_lenC (g5 _ _ hL) ?_
    repeat walk_at "rd_go"
    refine w_lenC (g5 _ _ hR) ?_
    repeat walk_at "rd_go"
    refine w_ifNT rfl ?_
    repeat walk_at "rd_go"
    refine w_lenC (g5 _ _ hR) ?_
    have hzl := paired_len hz
    have hzs : ∀ {ys : List V} {vs : List Nat}, Paired (Ok1 H3) ys vs → ys.length ≤ vs.sum := by
      intro ys vs r
      induction r with
      | nil => exact Nat.le_refl _
      | cons h _ ih =>
        rw [List.length_cons, List.sum_cons]
        rcases h with ⟨_, h⟩ | ⟨_, _, _, _, _, h⟩ <;> omega
    have hzn := hzs hz
    refine w_isR1 (by omega) (by omega) ?_
    generalize upd (upd H3 p2 (.tup [.ty "list", .ty "tuple"])) p3 (.tup [.ty "list", .ty "tuple"]) = H5 at g5 ⊢
    refine for_range (lo := 0) (n := (zs.length : Int).toNat) (fun i σ H' => Same H H' ∧ Kp t H5 H' ∧ ∃ o5, σ = [some (.ref a), some (.ref b), some (.ref t), some (.ref L), some (.ref R), o5] ∧
        ∃ ps', ps' = ps0 ++ ((zs.take i).zip (us.take i)).map (fun r => (r.1, r.1, r.2)) ∧ (∃ ts, H' t = some (.lst ts) ∧ Us H' ts (ps'.map two)) ∧ ∀ r ∈ ps', Ok2 t H' r)
      ⟨gs3.trans g5, (fun _ _ _ h => h), _, rfl, ps0, by simp, ⟨ts0, g5 _ _ ht3, hus3.mono g5.tups⟩, fun r hr => (hok3 r hr).mono ht3 g5.kp⟩ ?_ ?_
    · rintro i σ H6 hi ⟨gs6, k6, o5, rfl, ps', eps, ⟨ts', ht6, hus6⟩, hok6⟩
      have hiz : i < zs.length := by omega
      have hz1 : zs[i]? = some zs[i] := List.getElem?_eq_getElem hiz
      obtain ⟨u, hu, hok1⟩ := paired_get hz hz1
      repeat walk_at "rd_go"
      refine w_ty ht6 ?_
      repeat walk_at "rd_go"
      refine w_ixC (k6 _ _ nL (g5 _ _ hL)) (at_nat hz1) ?_
      repeat walk_at "rd_go"
      refine w_ixC (k6 _ _ nR (g5 _ _ hR)) (at_nat hz1) ?_
      repeat walk_at "rd_go"
      refine w_new (by simp) fun p6 hp6 => ?_
      repeat walk_at "rd_go"
      have hl6 : ts'.length ≤ 60000 := by
        rw [hus6.length, List.length_map, eps, List.length_append, List.length_map, List.length_zip, List.length_take, List.length_take]
        have := sums ps0 fun r hr => w_pos (hok3 r hr)
        omega
      refine w_append (xs := ts') (by rw [upd_ne (ne_of_none ht6 hp6)]; exact ht6) (by have := big (n := ts'.length + 1) (by omega); omega) ?_
      repeat walk_at "rd_go"
      have k7 : Kp t H6 (upd (upd H6 p6 (.tup [zs[i], zs[i]])) t (.lst (ts' ++ [.ref p6]))) := (same_new hp6 _).kp.trans kp_upd
      refine ⟨same_upd (gs6.trans (same_new hp6 _)) hst, k6.trans k7, _, rfl, ps' ++ [(zs[i], zs[i], u)], ?_, ⟨ts' ++ [.ref p6], upd_same, ?_⟩, ?_⟩
      · rw [eps, List.append_assoc]
        congr 1
        rw [List.take_add_one, List.take_add_one, hz1, hu, List.zip_append (by rw [List.length_take, List.length_take]; omega), List.map_append]
        rfl
      · rw [List.map_append]
        exact snoc_us (hus6.mono (push_tups (us := ts' ++ [.ref p6]) (o := .tup [zs[i], zs[i]]) ht6 hp6)) (push_new (us := ts' ++ [.ref p6]) (o := .tup [zs[i], zs[i]]) ht6 hp6)
      · intro r hr
        rcases List.mem_append.mp hr with hr | hr
        · exact (hok6 r hr).mono ht6 k7
        · rw [List.mem_singleton.mp hr]
          have := (hok1.mono ht3 g5.kp).mono (g5 _ _ ht3) k6
          exact (this.two ht6).mono ht6 k7
    · rintro σ H6 ⟨gs6, k6, o5, rfl, ps', eps, hts6, hok6⟩
      refine ⟨(ps'.map (·.2.2)).sum, ?_, ps', ⟨gs6, hts6, hok6, rfl, ?_, sums _ fun r hr => w_pos (hok6 r hr)⟩, _, _, _, rfl⟩
      all_goals
        have e1 : (ps'.map (·.2.2)).sum = (ps0.map (·.2.2)).sum + us.sum := by
          rw [eps, List.map_append, List.sum_append, List.take_of_length_le (by omega), List.take_of_length_le (by omega), List.map_map]
          congr 1
          have : ∀ (ys : List V) (vs : List Nat), ys.length = vs.length → ((ys.zip vs).map ((fun (r : V × V × Nat) => r.2.2) ∘ fun r => (r.1, r.1, r.2))).sum = vs.sum := by
            intro ys
            induction ys with
            | nil => intro vs h; cases vs with | nil => rfl | cons _ _ => simp at h
            | cons y ys ih => intro vs h; cases vs with | nil => simp at h | cons v vs => simp only [List.zip_cons_cons, List.map_cons, List.sum_cons, ih vs (by simpa using h)]; rfl
          exact this zs us hzl
        omega
end SL
namespace SL
open PySem L2 K01
/-! ### the program's promises -/
def spAnswers (K : PySem.W.Frag) : Sp := fun vs H Q _ => ∃ (a b : Addr) (ns : List Int) (us : List V) (ds : List Deed), vs = [.ref a, .ref b] ∧ H a = some (.lst (ns.map V.int)) ∧ H b = some (.lst us) ∧ Ds H us ds ∧ ns ≠ [] ∧ ns.length ≤ 100 ∧ ds.length ≤ 100 ∧
  ∀ (r : Addr) (H' : Hp), Same H H' → H r = none → H' r = some (.lst ((day ns ds).1.map Ans.v)) → Q (.ref r) H'
def spRowB (K : PySem.W.Frag) : Sp := fun vs H Q _ => ∃ (a b : Addr) (ns : List Int) (us : List V) (ds : List Deed), vs = [.ref a, .ref b] ∧ H a = some (.lst (ns.map V.int)) ∧ H b = some (.lst us) ∧ Ds H us ds ∧ ns ≠ [] ∧ ns.length ≤ 100 ∧ ds.length ≤ 100 ∧
  ∀ (r : Addr) (H' : Hp), Same H H' → H r = none → H' r = some (.lst ((day ns ds).2.map V.int)) → Q (.ref r) H'
def spLaw (K : PySem.W.Frag) : Sp := fun vs H Q _ => ∃ (a : Addr) (ns : List Int), vs = [.ref a] ∧ SqL K H a (ns.map V.int) ∧ ns.length ≤ 63 ∧ ∀ H', Q (.bl true) H'
/-! ### a day, deed by deed -/
theorem day_take : ∀ (ds : List Deed) (ns : List Int) (i : Nat) (d : Deed), ds[i]? = some d →
    (day ns ds).1[i]? = some (act (day ns (ds.take i)).2 d).2 ∧ (day ns (ds.take (i + 1))).2 = (act (day ns (ds.take i)).2 d).1
  | [], _, _, _, h => by simp at h
  | e :: ds, ns, 0, d, h => by
    simp at h; subst h
    exact ⟨rfl, rfl⟩
  | e :: ds, ns, i + 1, d, h => by
    have := day_take ds (act ns e).1 i d (by simpa using h)
    exact ⟨by show ((act ns e).2 :: (day (act ns e).1 ds).1)[i + 1]? = _; rw [List.getElem?_cons_succ]; exact this.1, this.2⟩
theorem day_all (ns : List Int) (ds : List Deed) {i : Nat} (h : ds.length ≤ i) : (day ns (ds.take i)).2 = (day ns ds).2 := by
  rw [List.take_of_length_le h]
theorem ds_get {H : Hp} {us : List V} {ds : List Deed} {i : Nat} (h : Ds H us ds) (hi : i < ds.length) : ∃ e d, us[i]? = some (.ref e) ∧ ds[i]? = some d ∧ H e = some (.tup d.v) := by
  have hl := h.length
  rw [List.length_map] at hl
  have hu : us[i]? = some us[i] := List.getElem?_eq_getElem (by omega)
  obtain ⟨n, h1, e, h2, h3⟩ := h.get hu
  rw [List.getElem?_map] at h1
  obtain ⟨d, h4, rfl⟩ := Option.map_eq_some_iff.mp h1
  exact ⟨e, d, by rw [hu, h2], h4, h3⟩
theorem But.tups {r : Addr} {H H' : Hp} {xs : List V} (b : But r H H') (hr : H r = some (.lst xs)) : ∀ c zs, H c = some (.tup zs) → H' c = some (.tup zs) := fun c zs h => by
  rw [b c (ne_of h hr (fun z => by cases z))]; exact h
theorem At.ans {as : List Ans} {i : Nat} {A : Ans} (h : as[i]? = some A) : atI (as.map Ans.v) (0 + (i : Int)) = some A.v := at_nat (by rw [List.getElem?_map, h]; rfl)
/-- an answer, as the law looks at it -/
inductive Sort3 (k : Kd) : Prop where
  | chg (h : inV (.str k.w) [.str "set", .str "add", .str "swap"] = true) (e : ∀ ns x y, act ns ⟨k, x, y⟩ = SL.chg ns ⟨k, x, y⟩)
  | reach (h : k = .reach)
  | ask (h : inV (.str k.w) [.str "set", .str "add", .str "swap"] = false) (h2 : ¬ k.w = "reach") (h3 : k = .sum ∨ k = .least ∨ k = .greatest) (e : ∀ ns x y, act ns ⟨k, x, y⟩ = (ns, SL.ask ns ⟨k, x, y⟩))
theorem sort3 (k : Kd) : Sort3 k := by
  cases k with
  | set => exact .chg (by decide) fun _ _ _ => rfl
  | add => exact .chg (by decide) fun _ _ _ => rfl
  | swap => exact .chg (by decide) fun _ _ _ => rfl
  | sum => exact .ask (by decide) (by decide) (.inl rfl) fun _ _ _ => rfl
  | least => exact .ask (by decide) (by decide) (.inr (.inl rfl)) fun _ _ _ => rfl
  | greatest => exact .ask (by decide) (by decide) (.inr (.inr rfl)) fun _ _ _ => rfl
  | reach => exact .reach rfl
theorem ask_none_int (ns : List Int) (d : Deed) : ask ns d = .none ∨ ∃ i, ask ns d = .int i := by
  unfold ask
  split
  · exact .inl rfl
  · right; split <;> exact ⟨_, rfl⟩
theorem ds_ok1 {H : Hp} : ∀ {us : List V} {ds : List Deed}, Ds H us ds → ∃ ws, Paired (Ok1 H) us ws ∧ ws.sum = 4 * ds.length
  | _, [], .nil => ⟨[], .nil, rfl⟩
  | _, d :: ds, .cons ⟨p, e, h⟩ r => by
    obtain ⟨ws, h1, h2⟩ := ds_ok1 (ds := ds) r
    refine ⟨4 :: ws, .cons (.inr ⟨p, d.v, e, h, ?_, rfl⟩) h1, by rw [List.sum_cons, h2, List.length_cons]; omega⟩
    intro z hz
    simp only [Deed.v, List.mem_cons, List.not_mem_nil, or_false] at hz
    rcases hz with rfl | rfl | rfl
    · exact .inr ⟨_, rfl⟩
    · exact .inl ⟨_, rfl⟩
    · exact .inl ⟨_, rfl⟩
theorem new_ds {H H' : Hp} {p : Addr} {d : Deed} {us : List V} {ds : List Deed} (r : Ds H us ds) (g : Same H H') (e : H' p = some (.tup d.v)) : Ds H' (us ++ [.ref p]) (ds ++ [d]) := by
  unfold Ds; rw [List.map_append]
  exact snoc_us (r.mono g.tups) e
theorem Ds.mono {H H' : Hp} {us : List V} {ds : List Deed} (r : Ds H us ds) (g : Same H H') : Ds H' us ds := Us.mono r g.tups
theorem Ds.len {H : Hp} {us : List V} {ds : List Deed} (r : Ds H us ds) : us.length = ds.length := by
  have := Us.length r; rw [List.length_map] at this; exact this
theorem Ds.cat {H : Hp} {us vs : List V} {ds es : List Deed} (r : Ds H us ds) (s : Ds H vs es) : Ds H (us ++ vs) (ds ++ es) := by
  unfold Ds; rw [List.map_append]; exact Us.append r s

end SL
namespace SL
open PySem L2 K01
theorem rd_room {K : PySem.W.Frag} {vs : List V} {H : Hp} {Q : VK} {E : XK} (h : spRoom K vs H Q E) : (tSeq (tIfS (tTest (tOp rGtI (tCB (rLen K) (tCons (tVar 0) tNil)) (tC (.int 63)))) (tRet (tVar 2)) tNext)
    (tRet (tVar 1))) { nx := fun _ H' => Q .non H', rt := Q } (start ["_law_script", "_law_most", "_law_bound"] vs) H := by
  obtain ⟨a, ns, m, b, rfl, hS, h63, q⟩ := h
  repeat walk_at "rd_go"
  refine w_if (fun c => ?_) (fun c => ?_)
  · rw [List.length_map] at c; omega
  repeat walk_at "rd_go"
  exact q
end SL
namespace SL
open PySem L2 K01
set_option maxHeartbeats 8000000 in
theorem rd_k06 {K : PySem.W.Frag} {vs : List V} {H : Hp} {Q : VK} {E : XK} (h : spLaw K vs H Q E) : (tSeq (tAsg (tOp rAddI (tC (.int 1)) (tOp rModI (tCall (spAt K) [] XE0 (tCons (tVar 0) (tCons (tC (.int 1)) tNil))) (tCall (spRoom K) [] XE0 (tCons (tVar 0) (tCons (tC (.int 50)) (tCons (tC (.int 500)) tNil)))))) (gName 1))
    (tSeq (tAsg (tSl (rSlL K) (tCall (spStrung K) [] XE0 (tCons (tSl (rSlL K) (tVar 0) (tPart (tC (.int 2))) (tPart (tC (.int 501)))) (tCons (tCall (spAt K) [] XE0 (tCons (tVar 0) (tCons (tC (.int 0)) tNil))) tNil))) tNoPart (tPart (tVar 1))) (gName 2))
    (tSeq (tAsg (tCB (rLen K) (tCons (tVar 2) tNil)) (gName 1))
    (tSeq (tAsg (tCall (spDeeds K) [] XE0 (tCons (tSl (rSlL K) (tVar 0) (tPart (tC (.int 2))) (tPart (tC (.int 202)))) (tCons (tVar 1) tNil))) (gName 3))
    (tSeq (tAsg (tOp rCat (tVar 3) (tLst (tCons (tTup (tCons (tC (.str "set")) (tCons (tUn rNegI (tC (.int 1))) (tCons (tC (.int 3)) tNil)))) (tCons (tTup (tCons (tC (.str "add")) (tCons (tVar 1) (tCons (tC (.int 3)) tNil)))) (tCons (tTup (tCons (tC (.str "swap")) (tCons (tC (.int 0)) (tCons (tVar 1) tNil)))) (tCons (tTup (tCons (tC (.str "swap")) (tCons (tUn rNegI (tC (.int 1))) (tCons (tC (.int 0)) tNil)))) tNil)))))) (gName 3))
    (tSeq (tAsg (tOp rCat (tVar 3) (tLst (tCons (tTup (tCons (tC (.str "set")) (tCons (tOp rSubI (tVar 1) (tC (.int 1))) (tCons (tOp rPowI (tC (.int 10)) (tC (.int 15))) tNil)))) (tCons (tTup (tCons (tC (.str "swap")) (tCons (tOp rSubI (tVar 1) (tC (.int 1))) (tCons (tC (.int 0)) tNil)))) (tCons (tTup (tCons (tC (.str "add")) (tCons (tC (.int 0)) (tCons (tUn rNegI (tOp rPowI (tC (.int 10)) (tC (.int 15)))) tNil)))) tNil))))) (gName 3))
    (tSeq (tAsg (tCB (rListL K) (tCons (tVar 2) tNil)) (gName 4))
    (tSeq (tAsg (tCB (rListL K) (tCons (tVar 3) tNil)) (gName 5))
    (tSeq (tAsg (tCall (spRowB K) [] XE0 (tCons (tVar 4) (tCons (tVar 5) tNil))) (gName 6))
    (tSeq (tAsg (tCall (spAnswers K) [] XE0 (tCons (tCB (rListL K) (tCons (tVar 2) tNil)) (tCons (tCB (rListL K) (tCons (tVar 3) tNil)) tNil))) (gName 7))
    (tSeq (tIfS (tOr (tNot (tB (tCall (spFigures K) [] XE0 (tCons (tVar 4) (tCons (tVar 2) tNil))))) (tNot (tB (tCall spUnturned [] XE0 (tCons (tVar 5) (tCons (tVar 3) tNil)))))) (tRet (tC (.bl false))) tNext)
    (tSeq (tIfS (tOr (tNot (tB (tCB rIsi (tCons (tVar 7) (tCons (tC (.ty "list")) tNil))))) (tTest (tOp rNe (tCB (rLen K) (tCons (tVar 7) tNil)) (tCB (rLen K) (tCons (tVar 3) tNil))))) (tRet (tC (.bl false))) tNext)
    (tSeq (tFor (iRng1 (tCons (tCB (rLen K) (tCons (tVar 3) tNil)) tNil)) (gName 8) (tIfS (tTest (tOp (rIn K false) (tOp (rIxT K) (tOp (rIxL K) (tVar 3) (tVar 8)) (tC (.int 0))) (tLst (tCons (tC (.str "set")) (tCons (tC (.str "add")) (tCons (tC (.str "swap")) tNil)))))) (tSeq (tAsg (tCall (spChanged K) [] XE0 (tCons (tVar 2) (tCons (tOp (rIxL K) (tVar 3) (tVar 8)) tNil))) (gName 9))
    (tIfS (tTest (tOp rIsN (tVar 9) (tC .non))) (tIfS (tTest (tOp rNotN (tOp (rIxL K) (tVar 7) (tVar 8)) (tC .non))) (tRet (tC (.bl false))) tNext) (tIfS (tB (tCB rIsi (tCons (tVar 9) (tCons (tC (.ty "bool")) tNil)))) (tIfS (tOr (tNot (tB (tCB rIsi (tCons (tOp (rIxL K) (tVar 7) (tVar 8)) (tCons (tC (.ty "bool")) tNil))))) (tNot (tB (tOp (rIxL K) (tVar 7) (tVar 8))))) (tRet (tC (.bl false))) tNext) (tIfS (tOr (tNot (tB (tCall spWhole [] XE0 (tCons (tOp (rIxL K) (tVar 7) (tVar 8)) tNil)))) (tTest (tOp rNe (tOp (rIxL K) (tVar 7) (tVar 8)) (tVar 9)))) (tRet (tC (.bl false))) tNext)))) (tIfS (tTest (tOp rEq (tOp (rIxT K) (tOp (rIxL K) (tVar 3) (tVar 8)) (tC (.int 0))) (tC (.str "reach")))) (tIfS (tNot (tB (tCall (spReaches K) [] XE0 (tCons (tVar 2) (tCons (tOp (rIxL K) (tVar 3) (tVar 8)) (tCons (tOp (rIxL K) (tVar 7) (tVar 8)) tNil)))))) (tRet (tC (.bl false))) tNext) (tSeq (tAsg (tCall (spAnswer K) [] XE0 (tCons (tVar 2) (tCons (tOp (rIxL K) (tVar 3) (tVar 8)) tNil))) (gName 9))
    (tSeq (tIfS (tAnd (tTest (tOp rIsN (tVar 9) (tC .non))) (tTest (tOp rNotN (tOp (rIxL K) (tVar 7) (tVar 8)) (tC .non)))) (tRet (tC (.bl false))) tNext)
    (tIfS (tAnd (tTest (tOp rNotN (tVar 9) (tC .non))) (tOr (tNot (tB (tCall spWhole [] XE0 (tCons (tOp (rIxL K) (tVar 7) (tVar 8)) tNil)))) (tTest (tOp rNe (tOp (rIxL K) (tVar 7) (tVar 8)) (tVar 9))))) (tRet (tC (.bl false))) tNext))))))
    (tRet (tCall (spFigures K) [] XE0 (tCons (tVar 6) (tCons (tVar 2) tNil))))))))))))))))) { nx := fun _ H' => Q .non H', rt := Q } (start ["_law_script", "_law_size", "_law_row", "_law_asked", "_law_handed", "_law_given", "_law_later", "_law_found", "_law_k", "_law_due"] vs) H := by
  obtain ⟨a, ns, rfl, hS, h63, q⟩ := h
  repeat walk_at "rd_goa"
  refine ⟨a, ns, 1, rfl, hS, by decide, fun v => ?_⟩
  repeat walk_at "rd_goa"
  refine ⟨a, ns, 50, 500, rfl, hS, h63, ?_⟩
  repeat walk_at "rd_goa"
  refine w_slA hS fun l0 H0 g0 n0 e0 => ?_
  have c0 := cutI_len ns (some 2) (some 501)
  repeat walk_at "rd_goa"
  refine ⟨a, ns, 0, rfl, g0.seq hS, by decide, fun sd => ?_⟩
  repeat walk_at "rd_goa"
  refine ⟨l0, _, sd, rfl, SqL.of e0, by omega, fun r0 row0 H1 g1 n1 e1 hlen0 => ?_⟩
  repeat walk_at "rd_goa"
  refine w_slA (SqL.of e1) fun r H2 g2 n2 er => ?_
  rw [cutI_to (by omega)] at er
  generalize hrow : row0.take (1 + v % 50).toNat = row at er
  have hrl : row.length ≤ 62 ∧ row ≠ [] := by
    refine ⟨by rw [← hrow, List.length_take]; omega, fun z => ?_⟩
    have := congrArg List.length hrow
    rw [z, List.length_take, List.length_nil] at this; omega
  have hr1 : 1 ≤ row.length := by
    cases hz : row with
    | nil => exact absurd hz hrl.2
    | cons _ _ => simp
  have sr : SqL K H2 r (row.map V.int) := SqL.of er
  repeat walk_at "rd_goa"
  rw [List.length_map]
  refine w_slA ((g0.trans (g1.trans g2)).seq hS) fun l1 H3 g3 n3 e3 => ?_
  have c1 := cutI_len ns (some 2) (some 202)
  repeat walk_at "rd_goa"
  refine ⟨l1, _, _, rfl, SqL.of e3, by omega, by omega, fun r1 us1 ds1 H4 g4 n4 e4 hds1 hlen1 => ?_⟩
  repeat walk_at "rd_goa"
  have b0 : Ds H4 [] [] := .nil
  refine w_newT (by simp) fun p1 H5 g5 n5 e5 => ?_
  have b1 := new_ds (d := ⟨.set, -1, 3⟩) b0 g5 e5
  repeat walk_at "rd_goa"
  refine w_newT (by simp) fun p2 H6 g6 n6 e6 => ?_
  have b2 := new_ds (d := ⟨.add, row.length, 3⟩) b1 g6 e6
  repeat walk_at "rd_goa"
  refine w_newT (by simp) fun p3 H7 g7 n7 e7 => ?_
  have b3 := new_ds (d := ⟨.swap, 0, row.length⟩) b2 g7 e7
  repeat walk_at "rd_goa"
  refine w_newT (by simp) fun p4 H8 g8 n8 e8 => ?_
  have b4 := new_ds (d := ⟨.swap, -1, 0⟩) b3 g8 e8
  repeat walk_at "rd_goa"
  refine w_newL (by simp) fun l4 H9 g9 n9 e9 => ?_
  have ul1 := hds1.len
  have f9 : Same H4 H9 := g5.trans (g6.trans (g7.trans (g8.trans g9)))
  refine w_catA (f9 _ _ e4) e9 (big (by simp; omega)) fun r2 H10 g10 n10 e10 => ?_
  have d10 := ((hds1.mono f9).cat (b4.mono g9)).mono g10
  generalize hds2 : ds1 ++ ([] ++ [⟨Kd.set, -1, 3⟩] ++ [⟨Kd.add, (row.length : Int), 3⟩] ++ [⟨Kd.swap, 0, (row.length : Int)⟩] ++ [⟨Kd.swap, -1, 0⟩]) = ds2 at d10
  have hl2 : ds2.length = ds1.length + 4 := by rw [← hds2]; simp
  have d10 : Ds H10 (us1 ++ [.ref p1, .ref p2, .ref p3, .ref p4]) ds2 := d10
  generalize us1 ++ [V.ref p1, .ref p2, .ref p3, .ref p4] = us2 at d10 e10
  have er10 := g10 _ _ (f9 _ _ (g4 _ _ (g3 _ _ er)))
  clear b0 b1 b2 b3 b4 e9 e5 e6 e7 e8 n5 n6 n7 n8 n9
  repeat walk_at "rd_goa"
  have b0 : Ds H10 [] [] := .nil
  refine w_newT (by simp) fun p1 H5 g5 n5 e5 => ?_
  have b1 := new_ds (d := ⟨.set, row.length - 1, 10 ^ Int.toNat 15⟩) b0 g5 e5
  repeat walk_at "rd_goa"
  refine w_newT (by simp) fun p2 H6 g6 n6 e6 => ?_
  have b2 := new_ds (d := ⟨.swap, row.length - 1, 0⟩) b1 g6 e6
  repeat walk_at "rd_goa"
  refine w_newT (by simp) fun p3 H7 g7 n7 e7 => ?_
  have b3 := new_ds (d := ⟨.add, 0, -(10 ^ Int.toNat 15)⟩) b2 g7 e7
  repeat walk_at "rd_goa"
  refine w_newL (by simp) fun l5 H9 g9 n9 e9 => ?_
  have ul2 := d10.len
  have f11 : Same H10 H9 := g5.trans (g6.trans (g7.trans g9))
  refine w_catA (f11 _ _ e10) e9 (big (by simp; omega)) fun r3 H11 g11 n11 e11 => ?_
  have d11 := ((d10.mono f11).cat (b3.mono g9)).mono g11
  generalize hds3 : ds2 ++ ([] ++ [⟨Kd.set, (row.length : Int) - 1, 10 ^ Int.toNat 15⟩] ++ [⟨Kd.swap, (row.length : Int) - 1, 0⟩] ++ [⟨Kd.add, 0, -(10 ^ Int.toNat 15)⟩]) = ds3 at d11
  have hl3 : ds3.length = ds2.length + 3 := by rw [← hds3]; simp
  have d11 : Ds H11 (us2 ++ [.ref p1, .ref p2, .ref p3]) ds3 := d11
  generalize us2 ++ [V.ref p1, .ref p2, .ref p3] = us3 at d11 e11
  have er11 := g11 _ _ (f11 _ _ er10)
  clear b0 b1 b2 b3 e9 e5 e6 e7 n5 n6 n7 n9
  have ul3 := d11.len
  repeat walk_at "rd_goa"
  refine w_listA (SqL.of er11) fun hd H12 g12 n12 e12 => ?_
  repeat walk_at "rd_goa"
  refine w_listA (SqL.of (g12 _ _ e11)) fun gv H13 g13 n13 e13 => ?_
  repeat walk_at "rd_goa"
  refine ⟨hd, gv, row, us3, ds3, rfl, g13 _ _ e12, e13, (d11.mono g12).mono g13, hrl.2, by omega, by omega, fun lt H14 g14 n14 e14 => ?_⟩
  have f14 : Same H11 H14 := g12.trans (g13.trans g14)
  repeat walk_at "rd_goa"
  refine w_listA (SqL.of (f14 _ _ er11)) fun tr H15 g15 n15 e15 => ?_
  repeat walk_at "rd_goa"
  refine w_listA (SqL.of (g15 _ _ (f14 _ _ e11))) fun ta H16 g16 n16 e16 => ?_
  have f16 : Same H11 H16 := f14.trans (g15.trans g16)
  repeat walk_at "rd_goa"
  refine ⟨tr, ta, row, us3, ds3, rfl, g16 _ _ e15, e16, d11.mono f16, hrl.2, by omega, by omega, fun fd H17 g17 n17 e17 => ?_⟩
  have f17 : Same H11 H17 := f16.trans g17
  have er17 := f17 _ _ er11
  have e11' := f17 _ _ e11
  have d17 := d11.mono f17
  have g14' : Same H14 H17 := g15.trans (g16.trans g17)
  have ehd := g14' _ _ (g14 _ _ (g13 _ _ e12))
  have egv := g14' _ _ (g14 _ _ e13)
  have elt := g14' _ _ e14
  repeat walk_at "rd_goa"
  refine ⟨hd, r, row, rfl, ehd, SqL.of er17, by omega, ?_⟩
  repeat walk_at "rd_goa"
  obtain ⟨ws, okw, sw⟩ := ds_ok1 d17
  refine ⟨gv, r3, us3, ws, rfl, egv, e11', okw, by omega, fun H18 g18 => ?_⟩
  have e18 := g18 _ _ e17
  have s18 : SqL K H18 fd ((day row ds3).1.map Ans.v) := SqL.of e18
  have s18' : SqL K H18 r3 us3 := SqL.of (g18 _ _ e11')
  have dl := day_len ds3 row
  repeat walk_at "rd_goa"
  refine w_ifNT (by rw [List.length_map, dl.1, ul3]) ?_
  repeat walk_at "rd_goa"
  refine w_isR1 (by omega) (by omega) ?_
  have nrf : r ≠ fd := ne_of_none (f16 _ _ er11) n17
  have nr3 : r ≠ r3 := ne_of_none (f11 _ _ er10) n11
  have nrl : r ≠ lt := ne_of_none (g13 _ _ (g12 _ _ er11)) n14
  refine for_range (lo := 0) (n := (us3.length : Int).toNat) (fun i σ H' => (H' fd = some (.lst ((day row ds3).1.map Ans.v)) ∧ H' r3 = some (.lst us3) ∧ Ds H' us3 ds3 ∧ H' lt = some (.lst ((day row ds3).2.map V.int)) ∧ H' r = some (.lst ((day row (ds3.take i)).2.map V.int))) ∧
      ∃ o8 o9, σ = [some (.ref a), some (.int row.length), some (.ref r), some (.ref r3), some (.ref hd), some (.ref gv), some (.ref lt), some (.ref fd), o8, o9])
    ⟨⟨e18, g18 _ _ e11', d17.mono g18, g18 _ _ elt, g18 _ _ er17⟩, _, _, rfl⟩ ?_ ?_
  · rintro i σ H' hi ⟨⟨efd, er3, dd, elt', err⟩, o8, o9, rfl⟩
    obtain ⟨e, ⟨k, x, y⟩, hx0, hd0, he⟩ := ds_get dd (show i < ds3.length by omega)
    have hx := at_nat hx0
    obtain ⟨ha, hnext⟩ := day_take ds3 row i _ hd0
    have hA := At.ans ha
    have hrli : (day row (ds3.take i)).2.length ≤ 1000 := by rw [(day_len _ _).2]; omega
    generalize (day row (ds3.take i)).2 = rowi at err ha hA hnext hrli
    have se : SqT K H' e [.str k.w, .int x, .int y] := SqT.of he
    have sfd : SqL K H' fd ((day row ds3).1.map Ans.v) := SqL.of efd
    have s3 : SqL K H' r3 us3 := SqL.of er3
    repeat walk_at "rd_goax"
    refine w_newL (by simp) fun p H1 g n e' => ?_
    have se1 := g.seqT se
    have sfd1 := g.seq sfd
    have s31 := g.seq s3
    refine w_in (n := false) (SqL.of e') rfl rfl ?_
    rw [if_neg (show ¬ false = true by decide)]
    have fin : ∀ (H2 : Hp) (σ2 : St) (o8 o9 : Option V), Same H' H2 → (act rowi ⟨k, x, y⟩).1 = rowi → σ2 = [some (.ref a), some (.int row.length), some (.ref r), some (.ref r3), some (.ref hd), some (.ref gv), some (.ref lt), some (.ref fd), o8, o9] →
        ((H2 fd = some (.lst ((day row ds3).1.map Ans.v)) ∧ H2 r3 = some (.lst us3) ∧ Ds H2 us3 ds3 ∧ H2 lt = some (.lst ((day row ds3).2.map V.int)) ∧ H2 r = some (.lst ((day row (ds3.take (i + 1))).2.map V.int))) ∧
      ∃ o8 o9, σ2 = [some (.ref a), some (.int row.length), some (.ref r), some (.ref r3), some (.ref hd), some (.ref gv), some (.ref lt), some (.ref fd), o8, o9]) :=
      fun H2 σ2 o8 o9 g e1 e2 => ⟨⟨g _ _ efd, g _ _ er3, dd.mono g, g _ _ elt', by rw [hnext, e1]; exact g _ _ err⟩, o8, o9, e2⟩
    cases sort3 k with
    | chg hin hact =>
      rw [hact] at hA hnext
      refine w_bl ?_
      rw [hin]
      repeat walk_at "rd_goax"
      refine ⟨r, e, rowi, ⟨k, x, y⟩, rfl, g _ _ err, g _ _ he, fun H2 but hr2 => ?_⟩
      rw [← hnext] at hr2
      have efd2 : H2 fd = some (.lst ((day row ds3).1.map Ans.v)) := by rw [but fd nrf.symm]; exact g _ _ efd
      have sfd2 : SqL K H2 fd ((day row ds3).1.map Ans.v) := SqL.of efd2
      have er32 : H2 r3 = some (.lst us3) := by rw [but r3 nr3.symm]; exact g _ _ er3
      have elt2 : H2 lt = some (.lst ((day row ds3).2.map V.int)) := by rw [but lt nrl.symm]; exact g _ _ elt'
      have dd2 : Ds H2 us3 ds3 := Us.mono (dd.mono g) (but.tups (g _ _ err))
      generalize (SL.chg rowi ⟨k, x, y⟩).2 = A at hA ⊢
      cases A with
      | none =>
        have hA : atI ((day row ds3).1.map Ans.v) (0 + (i : Int)) = some .non := hA
        repeat walk_at "rd_goax"
        refine w_ifT rfl ?_
        repeat walk_at "rd_goax"
        refine w_ifNT rfl ?_
        repeat walk_at "rd_goax"
        exact ⟨⟨efd2, er32, dd2, elt2, hr2⟩, _, _, rfl⟩
      | int z =>
        have hA : atI ((day row ds3).1.map Ans.v) (0 + (i : Int)) = some (.int z) := hA
        repeat walk_at "rd_goax"
        refine w_ifF (fun z => by cases z) ?_
        repeat walk_at "rd_goax"
        refine ⟨z, rfl, ?_⟩
        repeat walk_at "rd_goax"
        refine w_neI (j := z) ?_
        refine w_bl (w_ifNT rfl ?_)
        repeat walk_at "rd_goax"
        exact ⟨⟨efd2, er32, dd2, elt2, hr2⟩, _, _, rfl⟩
      | yes =>
        have hA : atI ((day row ds3).1.map Ans.v) (0 + (i : Int)) = some (.bl true) := hA
        repeat walk_at "rd_goax"
        refine w_ifF (fun z => by cases z) ?_
        repeat walk_at "rd_goax"
        exact ⟨⟨efd2, er32, dd2, elt2, hr2⟩, _, _, rfl⟩
    | reach hk =>
      subst hk
      refine w_bl ?_
      rw [show inV (.str (Kd.w .reach)) [.str "set", .str "add", .str "swap"] = false by decide]
      repeat walk_at "rd_goax"
      refine w_ifT rfl ?_
      repeat walk_at "rd_goax"
      refine ⟨r, e, rowi, ⟨.reach, x, y⟩, rfl, SqL.of (g _ _ err), g _ _ he, hrli, ?_⟩
      repeat walk_at "rd_goax"
      exact fin _ _ _ _ g rfl rfl
    | ask hin hnr hk hact =>
      refine w_bl ?_
      rw [hin]
      rw [hact] at hA
      repeat walk_at "rd_goax"
      refine w_ifF hnr ?_
      repeat walk_at "rd_goax"
      refine ⟨r, e, rowi, ⟨k, x, y⟩, rfl, SqL.of (g _ _ err), g _ _ he, hk, fun H2 g2 => ?_⟩
      have sfd2 := g2.seq sfd1
      have e1 : (act rowi ⟨k, x, y⟩).1 = rowi := by rw [hact]
      rcases ask_none_int rowi ⟨k, x, y⟩ with hz | ⟨z, hz⟩
      · have hA : atI ((day row ds3).1.map Ans.v) (0 + (i : Int)) = some .non := by rw [hz] at hA; exact hA
        rw [hz]
        repeat walk_at "rd_goax"
        refine w_ifT rfl ?_
        repeat walk_at "rd_goax"
        refine w_ifNT rfl ?_
        repeat walk_at "rd_goax"
        refine w_ifNT rfl ?_
        repeat walk_at "rd_goax"
        exact fin _ _ _ _ (g.trans g2) e1 rfl
      · have hA : atI ((day row ds3).1.map Ans.v) (0 + (i : Int)) = some (.int z) := by rw [hz] at hA; exact hA
        rw [hz]
        repeat walk_at "rd_goax"
        refine w_ifF (fun z => by cases z) ?_
        repeat walk_at "rd_goax"
        refine w_ifNF (fun z => by cases z) ?_
        repeat walk_at "rd_goax"
        refine ⟨z, rfl, ?_⟩
        repeat walk_at "rd_goax"
        refine w_neI (j := z) ?_
        refine w_bl (w_ifNT rfl ?_)
        repeat walk_at "rd_goax"
        exact fin _ _ _ _ (g.trans g2) e1 rfl
  · rintro σ H' ⟨⟨efd, er3, dd, elt', err⟩, o8, o9, rfl⟩
    rw [day_all row ds3 (by omega)] at err
    repeat walk_at "rd_goa"
    exact ⟨lt, r, _, rfl, elt', SqL.of err, by rw [dl.2]; omega, q _⟩
end SL
namespace PT
open PySem L2 K01 K02 SL
/-! ### stretches of a row -/
theorem seg_app {ns : List Int} {x m y : Int} (h0 : 0 ≤ x) (h1 : x ≤ m) (h2 : m ≤ y) : seg ns x y = seg ns x m ++ seg ns m y := by
  unfold seg
  have e : y.toNat - x.toNat = (m.toNat - x.toNat) + (y.toNat - m.toNat) := by omega
  rw [e, List.take_add, List.drop_drop]
  have e2 : x.toNat + (m.toNat - x.toNat) = m.toNat := by omega
  rw [e2]
theorem pt_seg {ns : List Int} {x m y : Int} (h0 : 0 ≤ x) (h1 : x < m) (h2 : m < y) (h3 : y ≤ ns.length) : pt (seg ns x y) = join (pt (seg ns x m)) (pt (seg ns m y)) := by
  rw [seg_app h0 (Int.le_of_lt h1) (Int.le_of_lt h2)]
  exact pt_append (seg_ne h0 h1 (by omega)) (seg_ne (by omega) h2 h3)
theorem seg_one {ns : List Int} {x : Int} (h0 : 0 ≤ x) (h1 : x < ns.length) : seg ns x (x + 1) = [ns.getD x.toNat 0] := by
  unfold seg
  have e : (x + 1).toNat - x.toNat = 1 := by omega
  have hx : x.toNat < ns.length := by omega
  rw [e, List.drop_eq_getElem_cons hx, List.getD_eq_getElem?_getD, List.getElem?_eq_getElem hx]
  rfl
theorem seg_set_out {ns : List Int} {x y k v : Int} (hk : 0 ≤ k) (h : k < x ∨ y ≤ k) : seg (ns.set k.toNat v) x y = seg ns x y := by
  unfold seg
  rcases h with h | h
  · rw [List.drop_set_of_lt (by omega)]
  · rw [List.drop_set]
    split
    · rfl
    · rw [List.take_set_of_le (by omega)]
/-! ### the tree's stretches -/
theorem tr_mem : ∀ (n : Nat) (a b : Int), a < b → b - a ≤ n → ∀ p ∈ Tr a b, a ≤ p.1 ∧ p.1 < p.2 ∧ p.2 ≤ b
  | 0, a, b, h, h2, _, _ => by omega
  | n + 1, a, b, h, h2, p, hp => by
    by_cases c : b - a < 2
    · rw [Tr_one c] at hp
      rw [List.mem_singleton.mp hp]
      exact ⟨Int.le_refl _, h, Int.le_refl _⟩
    · rw [Tr_two c] at hp
      rcases List.mem_cons.mp hp with rfl | hp
      · exact ⟨Int.le_refl _, h, Int.le_refl _⟩
      · rcases List.mem_append.mp hp with hp | hp
        · have := tr_mem n _ _ (by omega) (by omega) p hp; omega
        · have := tr_mem n _ _ (by omega) (by omega) p hp; omega
theorem tr_in {a b : Int} (h : a < b) {p : Int × Int} (hp : p ∈ Tr a b) : a ≤ p.1 ∧ p.1 < p.2 ∧ p.2 ≤ b := tr_mem (b - a).toNat a b h (by omega) p hp
theorem tr_self (a b : Int) : (a, b) ∈ Tr a b := by
  obtain ⟨r, e⟩ := Tr_head a b
  rw [e]; exact List.mem_cons_self
theorem tr_l {a b : Int} (c : ¬ b - a < 2) {s : Int × Int} (h : s ∈ Tr a ((a + b + 1) / 2)) : s ∈ Tr a b := by
  rw [Tr_two c]; exact List.mem_cons_of_mem _ (List.mem_append_left _ h)
theorem tr_r {a b : Int} (c : ¬ b - a < 2) {s : Int × Int} (h : s ∈ Tr ((a + b + 1) / 2) b) : s ∈ Tr a b := by
  rw [Tr_two c]; exact List.mem_cons_of_mem _ (List.mem_append_right _ h)
theorem tr_cases {a b : Int} (c : ¬ b - a < 2) {s : Int × Int} (h : s ∈ Tr a b) : s = (a, b) ∨ s ∈ Tr a ((a + b + 1) / 2) ∨ s ∈ Tr ((a + b + 1) / 2) b := by
  rw [Tr_two c] at h
  rcases List.mem_cons.mp h with h | h
  · exact .inl h
  · exact .inr (List.mem_append.mp h)
theorem tr_leaf : ∀ (n : Nat) (a b x : Int), a ≤ x → x < b → b - a ≤ n → (x, x + 1) ∈ Tr a b
  | 0, a, b, x, h1, h2, h3 => by omega
  | n + 1, a, b, x, h1, h2, h3 => by
    by_cases c : b - a < 2
    · have e1 : x = a := by omega
      have e2 : b = a + 1 := by omega
      rw [e1, e2]; exact tr_self _ _
    · by_cases hm : x < (a + b + 1) / 2
      · exact tr_l c (tr_leaf n _ _ x h1 hm (by omega))
      · exact tr_r c (tr_leaf n _ _ x (by omega) h2 (by omega))
/-- the halves of a stretch stand behind it -/
theorem tr_behind : ∀ (n : Nat) (a b : Int), a < b → b - a ≤ n → ∀ (l1 l2 : List (Int × Int)) (x y : Int), Tr a b = l1 ++ (x, y) :: l2 → ¬ y - x < 2 → (x, (x + y + 1) / 2) ∈ l2 ∧ ((x + y + 1) / 2, y) ∈ l2
  | 0, a, b, h, h2, _, _, _, _, _, _ => by omega
  | n + 1, a, b, h, h2, l1, l2, x, y, e, hxy => by
    by_cases c : b - a < 2
    · rw [Tr_one c] at e
      cases l1 with
      | nil =>
        injection e with e1 e2
        injection e1 with e3 e4
        subst e3 e4
        exact absurd c hxy
      | cons s l1 =>
        injection e with e1 e2
        simp at e2
    · rw [Tr_two c] at e
      cases l1 with
      | nil =>
        injection e with e1 e2
        injection e1 with e3 e4
        subst e3 e4
        rw [← e2]
        exact ⟨List.mem_append_left _ (tr_self _ _), List.mem_append_right _ (tr_self _ _)⟩
      | cons s l1 =>
        injection e with e1 e2
        rcases List.append_eq_append_iff.mp e2 with ⟨l, h3, h4⟩ | ⟨l, h3, h4⟩
        · have := tr_behind n _ _ (by omega) (by omega) l l2 x y h4 hxy
          exact this
        · cases l with
          | nil =>
            have := tr_behind n ((a + b + 1) / 2) b (by omega) (by omega) [] l2 x y (by simpa using h4.symm) hxy
            exact this
          | cons t l =>
            injection h4 with h5 h6
            subst h5
            have := tr_behind n _ _ (by omega) (by omega) l1 l x y h3 hxy
            rw [h6]
            exact ⟨List.mem_append_left _ this.1, List.mem_append_left _ this.2⟩
/-! ### sums from the first place on -/
def F (ns : List Int) (j : Int) : Int := (ns.take j.toNat).sum
theorem F_seg {ns : List Int} {a b : Int} (h0 : 0 ≤ a) (h1 : a ≤ b) : (seg ns a b).sum = F ns b - F ns a := by
  unfold F seg
  have e : b.toNat = a.toNat + (b.toNat - a.toNat) := by omega
  have q : ns.take b.toNat = ns.take a.toNat ++ (ns.drop a.toNat).take (b.toNat - a.toNat) := by
    rw [← List.take_add, ← e]
  rw [q, List.sum_append]; omega
theorem pt_t {ns : List Int} {a b : Int} (h0 : 0 ≤ a) (h1 : a < b) (h2 : b ≤ ns.length) : (pt (seg ns a b)).t = F ns b - F ns a := by
  rw [(tells_pt (seg_ne h0 h1 h2)).t, F_seg h0 (Int.le_of_lt h1)]
/-- no running sum is above the reach -/
theorem r_fold (rest : List Int) : ∀ (p : Pt) (k : Nat), k ≤ rest.length → p.t + (rest.take k).sum ≤ (rest.foldl (fun p n => join p (one n)) p).r ∨ k = 0 := by
  induction rest with
  | nil => intro p k h; right; simpa using h
  | cons n rest ih =>
    intro p k h
    cases k with
    | zero => exact .inr rfl
    | succ k =>
      left
      rw [List.foldl_cons, List.take_succ_cons, List.sum_cons]
      have mono : ∀ (rest : List Int) (p : Pt), p.r ≤ (rest.foldl (fun p n => join p (one n)) p).r := by
        intro rest
        induction rest with
        | nil => intro p; exact Int.le_refl _
        | cons n rest ih =>
          intro p
          rw [List.foldl_cons]
          exact Int.le_trans (le_mx p.r (p.t + n)).1 (ih (join p (one n)))
      rcases ih (join p (one n)) k (by simpa using h) with q | q
      · have e : (join p (one n)).t = p.t + n := rfl
        rw [e] at q; omega
      · subst q
        have := mono rest (join p (one n))
        have q2 : p.t + n ≤ (join p (one n)).r := (le_mx p.r (p.t + n)).2
        simp; omega
theorem r_pt {ns : List Int} {k : Nat} (h1 : 1 ≤ k) (h2 : k ≤ ns.length) : (ns.take k).sum ≤ (pt ns).r := by
  cases ns with
  | nil => simp at h2; omega
  | cons x rest =>
    cases k with
    | zero => omega
    | succ k =>
      rw [List.take_succ_cons, List.sum_cons]
      rcases r_fold rest (one x) k (by simpa using h2) with q | q
      · exact q
      · subst q
        have mono : ∀ (rest : List Int) (p : Pt), p.r ≤ (rest.foldl (fun p n => join p (one n)) p).r := by
          intro rest
          induction rest with
          | nil => intro p; exact Int.le_refl _
          | cons n rest ih =>
            intro p
            rw [List.foldl_cons]
            exact Int.le_trans (le_mx p.r (p.t + n)).1 (ih (join p (one n)))
        have := mono rest (one x)
        show x + ([] : List Int).sum ≤ _
        simp; exact this
theorem r_seg {ns : List Int} {a b j : Int} (h0 : 0 ≤ a) (h1 : a ≤ j) (h2 : j < b) (h3 : b ≤ ns.length) : F ns (j + 1) - F ns a ≤ (pt (seg ns a b)).r := by
  have hl : (seg ns a b).length = b.toNat - a.toNat := by
    unfold seg; rw [List.length_take, List.length_drop]; omega
  have := r_pt (ns := seg ns a b) (k := (j + 1).toNat - a.toNat) (by omega) (by omega)
  have e : (seg ns a b).take ((j + 1).toNat - a.toNat) = seg ns a (j + 1) := by
    unfold seg; rw [List.take_take, Nat.min_eq_left (by omega)]
  rw [e, F_seg h0 (by omega)] at this
  exact this
/-- the first place of [a, b), from x on, where the sum from the first place on is m or more -/
def Fst (ns : List Int) (a b x m : Int) : Option Int → Prop
  | some i => a ≤ i ∧ x ≤ i ∧ i < b ∧ m ≤ F ns (i + 1) ∧ ∀ j, a ≤ j → x ≤ j → j < i → F ns (j + 1) < m
  | none => ∀ j, a ≤ j → x ≤ j → j < b → F ns (j + 1) < m
theorem rch_of : ∀ (l : List Int) (i t m : Int), match rch l i t m with
    | some j => ∃ k : Nat, k < l.length ∧ j = i + k ∧ m ≤ t + (l.take (k + 1)).sum ∧ ∀ k' : Nat, k' < k → t + (l.take (k' + 1)).sum < m
    | none => ∀ k : Nat, k < l.length → t + (l.take (k + 1)).sum < m
  | [], i, t, m => by intro k h; simp at h
  | n :: l, i, t, m => by
    have ih := rch_of l (i + 1) (t + n) m
    unfold rch
    by_cases c : t + n ≥ m
    · rw [if_pos c]
      exact ⟨0, by simp, by simp, by simpa using c, fun k' h => by omega⟩
    · rw [if_neg c]
      cases e : rch l (i + 1) (t + n) m with
      | some j =>
        rw [e] at ih
        obtain ⟨k, h1, h2, h3, h4⟩ := ih
        refine ⟨k + 1, by simpa using h1, by rw [h2]; push_cast; omega, by rw [List.take_succ_cons, List.sum_cons]; omega, fun k' hk => ?_⟩
        cases k' with
        | zero => simp; omega
        | succ k' => have := h4 k' (by omega); rw [List.take_succ_cons, List.sum_cons]; omega
      | none =>
        rw [e] at ih
        intro k hk
        cases k with
        | zero => simp; omega
        | succ k => have := ih k (by simpa using hk); rw [List.take_succ_cons, List.sum_cons]; omega
theorem fst_rch {ns : List Int} {x m : Int} {o : Option Int} (h0 : 0 ≤ x) (hx : x < ns.length) (h : Fst ns 0 ns.length x (m + F ns x) o) : rch (ns.drop x.toNat) x 0 m = o := by
  have hs : ∀ k : Nat, ((ns.drop x.toNat).take (k + 1)).sum = F ns (x + k + 1) - F ns x := fun k => by
    have e : (ns.drop x.toNat).take (k + 1) = seg ns x (x + k + 1) := by
      unfold seg; congr 1; omega
    rw [e, F_seg h0 (by omega)]
  have hr := rch_of (ns.drop x.toNat) x 0 m
  cases e : rch (ns.drop x.toNat) x 0 m with
  | none =>
    rw [e] at hr
    cases o with
    | none => rfl
    | some i =>
      obtain ⟨h1, h2, h3, h4, _⟩ := h
      have := hr (i - x).toNat (by rw [List.length_drop]; omega)
      rw [hs] at this
      have e2 : x + ((i - x).toNat : Int) + 1 = i + 1 := by omega
      rw [e2] at this; omega
  | some j =>
    rw [e] at hr
    obtain ⟨k, h1, h2, h3, h4⟩ := hr
    rw [List.length_drop] at h1
    rw [hs] at h3
    cases o with
    | none =>
      have := h (x + k) (by omega) (by omega) (by omega)
      omega
    | some i =>
      obtain ⟨g1, g2, g3, g4, g5⟩ := h
      congr 1
      rw [h2]
      by_cases c1 : x + (k : Int) < i
      · have := g5 (x + k) (by omega) (by omega) c1; omega
      · by_cases c2 : i < x + k
        · have := h4 (i - x).toNat (by omega)
          rw [hs] at this
          have e2 : x + ((i - x).toNat : Int) + 1 = i + 1 := by omega
          rw [e2] at this; omega
        · omega
theorem F_zero (ns : List Int) : F ns 0 = 0 := rfl
theorem F_succ {ns : List Int} {a : Int} (h0 : 0 ≤ a) (h1 : a < ns.length) : F ns (a + 1) = F ns a + ns.getD a.toNat 0 := by
  have := F_seg (ns := ns) h0 (show a ≤ a + 1 by omega)
  rw [seg_one h0 h1, List.sum_cons, List.sum_nil] at this
  omega
end PT
namespace PT
open PySem L2 K01 K02 SL
/-! ### shape: the promises and readings -/
def spMid : Sp := fun vs H Q _ => ∃ a b : Int, vs = [.int a, .int b] ∧ Q (.int ((a + b + 1) / 2)) H
def prs (ps : List (Int × Int)) : List (List Int) := ps.map fun p => [p.1, p.2]
def spW (n : Nat) : Sp := fun vs H Q _ => ∃ a b : Int, vs = [.int a, .int b] ∧ a < b ∧ b - a ≤ n ∧ b - a ≤ 200 ∧
  ∀ (r : Addr) (us : List V) (H' : Hp), Same H H' → H r = none → H' r = some (.lst us) → Ts H' us (prs (Tr a b)) → Q (.ref r) H'
def spStr : Sp := fun vs H Q _ => ∃ b : Int, vs = [.int b] ∧ 0 < b ∧ b ≤ 100 ∧
  ∀ (r : Addr) (us : List V) (H' : Hp), Same H H' → H r = none → H' r = some (.lst us) → Ts H' us (prs (Tr 0 b)) → Q (.ref r) H'
theorem rd_middle_of {vs : List V} {H : Hp} {Q : VK} {E : XK} (h : spMid vs H Q E) : (tRet (tOp rDivI (tOp rAddI (tOp rAddI (tVar 0) (tVar 1)) (tC (.int 1))) (tC (.int 2)))) { nx := fun _ H' => Q .non H', rt := Q } (start ["start", "stop"] vs) H := by
  obtain ⟨a, b, rfl, q⟩ := h
  repeat walk_at "rd_go"
  exact q
theorem prs_cons (p : Int × Int) (ps : List (Int × Int)) : prs (p :: ps) = [p.1, p.2] :: prs ps := rfl
theorem prs_append (ps qs : List (Int × Int)) : prs (ps ++ qs) = prs ps ++ prs qs := List.map_append
theorem prs_len (ps : List (Int × Int)) : (prs ps).length = ps.length := List.length_map _
theorem Tr_le {a b : Int} (h : a < b) : ((Tr a b).length : Int) ≤ 2 * (b - a) := by
  rw [Tr_len (b - a).toNat a b h (by omega)]; omega
theorem rd_within {n : Nat} {vs : List V} {H : Hp} {Q : VK} {E : XK} (h : spW (n + 1) vs H Q E) : (tSeq (tIfS (tTest (tOp rLtI (tOp rSubI (tVar 1) (tVar 0)) (tC (.int 2)))) (tRet (tLst (tCons (tTup (tCons (tVar 0) (tCons (tVar 1) tNil))) tNil))) tNext)
    (tSeq (tAsg (tCall spMid [] XE0 (tCons (tVar 0) (tCons (tVar 1) tNil))) (gName 2))
    (tRet (tOp rCat (tOp rCat (tLst (tCons (tTup (tCons (tVar 0) (tCons (tVar 1) tNil))) tNil)) (tCall (spW n) [] XE0 (tCons (tVar 0) (tCons (tVar 2) tNil)))) (tCall (spW n) [] XE0 (tCons (tVar 2) (tCons (tVar 1) tNil))))))) { nx := fun _ H' => Q .non H', rt := Q } (start ["start", "stop", "middle"] vs) H := by
  obtain ⟨a, b, rfl, hab, hn, h200, q⟩ := h
  repeat walk_at "rd_goa"
  refine w_if (fun c => ?_) (fun c => ?_)
  · repeat walk_at "rd_goa"
    refine w_newT (by simp) fun p H1 g1 n1 e1 => ?_
    repeat walk_at "rd_goa"
    refine w_newL (by simp) fun r H2 g2 n2 e2 => ?_
    refine q r [.ref p] _ (g1.trans g2) (g1.free n2) e2 ?_
    rw [Tr_one c]
    exact .cons ⟨p, rfl, g2 _ _ e1⟩ .nil
  · repeat walk_at "rd_goa"
    refine ⟨a, b, rfl, ?_⟩
    repeat walk_at "rd_goa"
    refine w_newT (by simp) fun p H1 g1 n1 e1 => ?_
    repeat walk_at "rd_goa"
    refine w_newL (by simp) fun r H2 g2 n2 e2 => ?_
    repeat walk_at "rd_goa"
    have t1 : Ts H2 [.ref p] [[a, b]] := .cons ⟨p, rfl, g2 _ _ e1⟩ .nil
    refine ⟨a, (a + b + 1) / 2, rfl, by omega, by omega, by omega, fun r1 us1 H3 g3 n3 e3 t2 => ?_⟩
    have l1 := Tr_le (a := a) (b := (a + b + 1) / 2) (by omega)
    have l2 := Tr_le (a := (a + b + 1) / 2) (b := b) (by omega)
    have z1 : us1.length = (Tr a ((a + b + 1) / 2)).length := by rw [t2.length, prs_len]
    refine w_catA (g3 _ _ e2) e3 (big (by simp; omega)) fun r2 H4 g4 n4 e4 => ?_
    repeat walk_at "rd_goa"
    refine ⟨(a + b + 1) / 2, b, rfl, by omega, by omega, by omega, fun r3 us3 H5 g5 n5 e5 t4 => ?_⟩
    have z3 : us3.length = (Tr ((a + b + 1) / 2) b).length := by rw [t4.length, prs_len]
    refine w_catA (g5 _ _ e4) e5 (big (by simp; omega)) fun r4 H6 g6 n6 e6 => ?_
    have gg := g1.trans (g2.trans (g3.trans (g4.trans g5)))
    refine q r4 _ _ (gg.trans g6) (gg.free n6) e6 ?_
    rw [Tr_two c, prs_cons, prs_append]
    rw [List.append_assoc]
    exact (t1.mono (g3.trans (g4.trans (g5.trans g6))).tups).append ((t2.mono (g4.trans (g5.trans g6)).tups).append (t4.mono g6.tups))
theorem rd_stretches {n : Nat} (hn : 100 ≤ n) {vs : List V} {H : Hp} {Q : VK} {E : XK} (h : spStr vs H Q E) : (tRet (tCall (spW n) [] XE0 (tCons (tC (.int 0)) (tCons (tVar 0) tNil)))) { nx := fun _ H' => Q .non H', rt := Q } (start ["count"] vs) H := by
  obtain ⟨b, rfl, h0, h1, q⟩ := h
  repeat walk_at "rd_go"
  exact ⟨0, b, rfl, h0, by omega, by omega, q⟩
/-! ### the tree in the heap -/
abbrev Mp := Int × Int → Option Pt
/-- a Tree at p, its dict at d (at most L items), which tells what M tells -/
structure TA (C : Addr) (H : Hp) (p d : Addr) (N : Int) (L : Nat) (M : Mp) : Prop where
  ob : Ob C H p N d
  di : ∃ kvs, H d = some (.dT kvs) ∧ kvs.length ≤ L ∧ ∀ i j P, M (i, j) = some P → ∃ q, valV kvs (keyOf i j) = some (.ref q) ∧ H q = some (.tup ((ptL P).map V.int))
theorem TA.same {C : Addr} {H H' : Hp} {p d : Addr} {N : Int} {L : Nat} {M : Mp} (T : TA C H p d N L M) (g : Same H H') : TA C H' p d N L M := by
  obtain ⟨⟨dx, e⟩, kvs, e2, h1, h2⟩ := T
  exact ⟨⟨dx, g _ _ e⟩, kvs, g _ _ e2, h1, fun i j P h => let ⟨q, a, b⟩ := h2 i j P h; ⟨q, a, g _ _ b⟩⟩
theorem TA.le {C : Addr} {H : Hp} {p d : Addr} {N : Int} {L L' : Nat} {M : Mp} (T : TA C H p d N L M) (h : L ≤ L') : TA C H p d N L' M := by
  obtain ⟨o, kvs, e2, h1, h2⟩ := T
  exact ⟨o, kvs, e2, Nat.le_trans h1 h, h2⟩
/-- a list is written -/
theorem TA.lst {C : Addr} {H : Hp} {p d r : Addr} {N : Int} {L : Nat} {M : Mp} {xs ys : List V} (T : TA C H p d N L M) (hr : H r = some (.lst xs)) : TA C (upd H r (.lst ys)) p d N L M := by
  obtain ⟨⟨dx, e⟩, kvs, e2, h1, h2⟩ := T
  exact ⟨⟨dx, by rw [upd_ne (ne_of e hr (fun z => by cases z))]; exact e⟩, kvs, by rw [upd_ne (ne_of e2 hr (fun z => by cases z))]; exact e2, h1, fun i j P h =>
    let ⟨q, a, b⟩ := h2 i j P h; ⟨q, a, by rw [upd_ne (ne_of b hr (fun z => by cases z))]; exact b⟩⟩
theorem keyOf_inj {i j i' j' : Int} (h : keyOf i j = keyOf i' j') : i = i' ∧ j = j' := by
  unfold keyOf at h
  injection h with h1 h2
  injection h2 with h2 h3
  injection h1 with h1
  injection h2 with h2
  exact ⟨h1, h2⟩
theorem putK_len {kvs : List (List Key × V)} {k : List Key} {v y : V} (h : valV kvs k = some v) : (putK kvs k y).length = kvs.length := by
  unfold putK
  have : (kvs.any fun kv => decide (kv.1 = k)) = true := by rw [valV_any, h]; rfl
  rw [if_pos this, List.length_map]
section
variable {K : PySem.W.Frag} {C : Addr} {H : Hp} {p d : Addr} {N : Int} {L : Nat} {M : Mp} {Q : VK} {i j : Int} {P : Pt}
theorem w_get (T : TA C H p d N L M) (e : M (i, j) = some P) (h : ∀ q H', Same H H' → H' q = some (.tup ((ptL P).map V.int)) → Q (.ref q) H') : NewTp (fun y H2 => DGE Q (.ref d) y H2) [.int i, .int j] H := by
  refine w_newT (by simp) fun b H1 g1 n1 e1 => ?_
  obtain ⟨kvs, e2, _, h2⟩ := T.di
  obtain ⟨q, a, b'⟩ := h2 i j P e
  exact w_dge (g1 _ _ e2) e1 a (h q H1 g1 (g1 _ _ b'))
/-- the dict with one item more, or another -/
def Mp.put (M : Mp) (s : Int × Int) (P : Pt) : Mp := fun t => if t = s then some P else M t
theorem ta_put {kvs : List (List Key × V)} {q : Addr} (T : TA C H p d N L M) (e2 : H d = some (.dT kvs)) (hq : H q = some (.tup ((ptL P).map V.int))) (hl : (putK kvs (keyOf i j) (.ref q)).length ≤ L) :
    TA C (upd H d (.dT (putK kvs (keyOf i j) (.ref q)))) p d N L (M.put (i, j) P) := by
  obtain ⟨⟨dx, e⟩, kvs', e2', h1, h2⟩ := T
  rw [e2] at e2'
  cases e2'
  have tup : ∀ c ys, H c = some (.tup ys) → upd H d (.dT (putK kvs (keyOf i j) (.ref q))) c = some (.tup ys) := fun c ys z => by
    rw [upd_ne (ne_of z e2 (fun z => by cases z))]; exact z
  refine ⟨⟨dx, by rw [upd_ne (ne_of e e2 (fun z => by cases z))]; exact e⟩, _, upd_same, hl, fun i' j' P' h => ?_⟩
  unfold Mp.put at h
  rw [valV_put]
  by_cases c : (i', j') = (i, j)
  · rw [if_pos c] at h
    cases h
    cases c
    exact ⟨q, if_pos rfl, tup _ _ hq⟩
  · rw [if_neg c] at h
    obtain ⟨q', a, b⟩ := h2 i' j' P' h
    refine ⟨q', ?_, tup _ _ b⟩
    rw [if_neg (fun z => c (by rw [(keyOf_inj z).1, (keyOf_inj z).2]))]
    exact a
theorem w_put {q : Addr} {R : Hp → Prop} {P0 : Pt} (T : TA C H p d N L M) (hL : L ≤ 1000) (hq : H q = some (.tup ((ptL P).map V.int))) (h0 : M (i, j) = some P0) (h : ∀ H', Kp d H H' → TA C H' p d N L (M.put (i, j) P) → R H') : NewTp (fun y H3 => DPE R (.ref d) y (.ref q) H3) [.int i, .int j] H := by
  refine w_newT (by simp) fun b H1 g1 n1 e1 => ?_
  have T1 := T.same g1
  obtain ⟨kvs, e2, h1, h2⟩ := id T1.di
  obtain ⟨q0, a, _⟩ := h2 i j P0 h0
  exact w_dpe e2 e1 (Nat.le_trans h1 hL) (h _ (g1.kp.trans kp_upd) (ta_put T1 e2 (g1 _ _ hq) (by rw [putK_len a]; exact h1)))
theorem w_putV {q b : Addr} {R : Hp → Prop} (T : TA C H p d N L M) (hL : L ≤ 1000) (hb : H b = some (.tup [.int i, .int j])) (hq : H q = some (.tup ((ptL P).map V.int))) (h : ∀ H', Kp d H H' → TA C H' p d N (L + 1) (M.put (i, j) P) → R H') : DPE R (.ref d) (.ref b) (.ref q) H := by
  obtain ⟨kvs, e2, h1, h2⟩ := id T.di
  exact w_dpe e2 hb (Nat.le_trans h1 hL) (h _ kp_upd (ta_put (T.le (Nat.le_succ L)) e2 hq (by have := length_putK kvs (keyOf i j) (.ref q); omega)))
theorem put_self {s : Int × Int} : Mp.put M s P s = some P := if_pos rfl
theorem put_other {s t : Int × Int} (h : t ≠ s) : Mp.put M s P t = M t := if_neg h
end
/-- M tells the parts of ns for the tree over [a, b) -/
def Ok (ns : List Int) (M : Mp) (a b : Int) : Prop := ∀ s ∈ Tr a b, M s = some (pt (seg ns s.1 s.2))
theorem Ok.self {ns : List Int} {M : Mp} {a b : Int} (h : Ok ns M a b) : M (a, b) = some (pt (seg ns a b)) := h (a, b) (tr_self a b)
theorem Ok.l {ns : List Int} {M : Mp} {a b : Int} (h : Ok ns M a b) (c : ¬ b - a < 2) : Ok ns M a ((a + b + 1) / 2) := fun s hs => h s (tr_l c hs)
theorem Ok.r {ns : List Int} {M : Mp} {a b : Int} (h : Ok ns M a b) (c : ¬ b - a < 2) : Ok ns M ((a + b + 1) / 2) b := fun s hs => h s (tr_r c hs)
/-- a whole tree over ns -/
def TO (C : Addr) (H : Hp) (p d : Addr) (ns : List Int) : Prop := ∃ M, TA C H p d ns.length 1000 M ∧ Ok ns M 0 ns.length
theorem TO.same {C : Addr} {H H' : Hp} {p d : Addr} {ns : List Int} (T : TO C H p d ns) (g : Same H H') : TO C H' p d ns := let ⟨M, a, b⟩ := T; ⟨M, a.same g, b⟩
theorem TO.lst {C : Addr} {H : Hp} {p d r : Addr} {ns : List Int} {xs ys : List V} (T : TO C H p d ns) (hr : H r = some (.lst xs)) : TO C (upd H r (.lst ys)) p d ns := let ⟨M, a, b⟩ := T; ⟨M, a.lst hr, b⟩
theorem TO.ob {C : Addr} {H : Hp} {p d : Addr} {ns : List Int} (T : TO C H p d ns) : Ob C H p ns.length d := let ⟨_, a, _⟩ := T; a.ob
theorem TO.dic {C : Addr} {H : Hp} {p d : Addr} {ns : List Int} (T : TO C H p d ns) : ∃ kvs, H d = some (.dT kvs) := let ⟨_, a, _⟩ := T; let ⟨kvs, e, _⟩ := a.di; ⟨kvs, e⟩
/-! ### the promises -/
def spHalves (C : Addr) : Sp := fun vs H Q _ => ∃ (p d : Addr) (N : Int) (L : Nat) (M : Mp) (a b : Int) (P1 P2 : Pt), vs = [.ref p, .int a, .int b] ∧ TA C H p d N L M ∧ M (a, (a + b + 1) / 2) = some P1 ∧ M ((a + b + 1) / 2, b) = some P2 ∧ NewT H Q (join P1 P2)
def spFirst (C : Addr) : Sp := fun vs H Q _ => ∃ (p d r : Addr) (N : Int) (L : Nat) (M : Mp) (a b : Int) (ns : List Int), vs = [.ref p, .ref r, .int a, .int b] ∧ TA C H p d N L M ∧ H r = some (.lst (ns.map V.int)) ∧ 0 ≤ a ∧ a < b ∧ b ≤ ns.length ∧
  (¬ b - a < 2 → M (a, (a + b + 1) / 2) = some (pt (seg ns a ((a + b + 1) / 2))) ∧ M ((a + b + 1) / 2, b) = some (pt (seg ns ((a + b + 1) / 2) b))) ∧ NewT H Q (pt (seg ns a b))
def spInit (C : Addr) : Sp := fun vs H Q _ => ∃ (p dx r : Addr) (ns : List Int), vs = [.ref p, .ref r] ∧ H p = some (.ins C dx []) ∧ H r = some (.lst (ns.map V.int)) ∧ ns ≠ [] ∧ ns.length ≤ 100 ∧
  ∀ (d : Addr) (H' : Hp), H d = none → TO C H' p d ns → Kp p H H' → Q .non H'
def spHasP (C : Addr) : Sp := fun vs H Q _ => ∃ (p d : Addr) (N x : Int), vs = [.ref p, .int x] ∧ Ob C H p N d ∧ Q (.bl (decide (0 ≤ x ∧ x < N))) H
def spHasS (C : Addr) : Sp := fun vs H Q _ => ∃ (p d : Addr) (N x y : Int), vs = [.ref p, .int x, .int y] ∧ Ob C H p N d ∧ Q (.bl (decide (0 ≤ x ∧ x < y ∧ y ≤ N))) H
def spNumAt (C : Addr) : Sp := fun vs H Q _ => ∃ (p d : Addr) (ns : List Int) (x : Int), vs = [.ref p, .int x] ∧ TO C H p d ns ∧ 0 ≤ x ∧ x < ns.length ∧ ∀ H', Same H H' → Q (.int (ns.getD x.toNat 0)) H'
def spNums (C : Addr) : Sp := fun vs H Q _ => ∃ (p d : Addr) (ns : List Int), vs = [.ref p] ∧ TO C H p d ns ∧ ns.length ≤ 100 ∧ ∀ (r : Addr) (H' : Hp), Same H H' → H r = none → H' r = some (.lst (ns.map V.int)) → Q (.ref r) H'
def spPut (C : Addr) : Sp := fun vs H Q _ => ∃ (p d : Addr) (ns : List Int) (x v : Int), vs = [.ref p, .int x, .int v] ∧ TO C H p d ns ∧ 0 ≤ x ∧ x < ns.length ∧ ns.length ≤ 100 ∧ ∀ H', Kp d H H' → TO C H' p d (ns.set x.toNat v) → Q .non H'
def spPutW (C : Addr) (n : Nat) : Sp := fun vs H Q _ => ∃ (p d : Addr) (N : Int) (M : Mp) (ns : List Int) (a b x v : Int), vs = [.ref p, .int a, .int b, .int x, .int v] ∧ TA C H p d N 1000 M ∧ Ok ns M a b ∧ 0 ≤ a ∧ a ≤ x ∧ x < b ∧ b ≤ ns.length ∧ b - a ≤ n ∧
  ∀ (H' : Hp) (M' : Mp), Kp d H H' → TA C H' p d N 1000 M' → Ok (ns.set x.toNat v) M' a b → (∀ s, s ∉ Tr a b → M' s = M s) → Q .non H'
def NewP (H : Hp) (Q : VK) (P : Pt) : Prop := ∀ (q : Addr) (H' : Hp), Same H H' → H' q = some (.tup ((ptL P).map V.int)) → Q (.ref q) H'
def spOver (C : Addr) : Sp := fun vs H Q _ => ∃ (p d : Addr) (ns : List Int) (x y : Int), vs = [.ref p, .int x, .int y] ∧ TO C H p d ns ∧ 0 ≤ x ∧ x < y ∧ y ≤ ns.length ∧ ns.length ≤ 100 ∧ NewP H Q (pt (seg ns x y))
def spPartW (C : Addr) (n : Nat) : Sp := fun vs H Q _ => ∃ (p d : Addr) (N : Int) (L : Nat) (M : Mp) (ns : List Int) (a b x y : Int), vs = [.ref p, .int a, .int b, .int x, .int y] ∧ TA C H p d N L M ∧ Ok ns M a b ∧ 0 ≤ a ∧ a ≤ x ∧ x < y ∧ y ≤ b ∧ b ≤ ns.length ∧ b - a ≤ n ∧ NewP H Q (pt (seg ns x y))
def oV : Option Int → V
  | some i => .int i
  | none => .non
def spReachW (C : Addr) (n : Nat) : Sp := fun vs H Q _ => ∃ (p d : Addr) (N : Int) (L : Nat) (M : Mp) (ns : List Int) (a b x m : Int), vs = [.ref p, .int a, .int b, .int x, .int m] ∧ TA C H p d N L M ∧ Ok ns M a b ∧ 0 ≤ a ∧ a < b ∧ b ≤ ns.length ∧ b - a ≤ n ∧
  ∀ (o : Option Int) (H' : Hp), Same H H' → Fst ns a b x (m + F ns a) o → Q (oV o) H'
def spAhead (C : Addr) : Sp := fun vs H Q _ => ∃ (p d : Addr) (ns : List Int) (x : Int), vs = [.ref p, .int x] ∧ TO C H p d ns ∧ 0 ≤ x ∧ x < ns.length ∧ ns.length ≤ 100 ∧ ∀ H', Same H H' → Q (.int (F ns x)) H'
def spPlaceR (C : Addr) : Sp := fun vs H Q _ => ∃ (p d : Addr) (ns : List Int) (x m : Int), vs = [.ref p, .int x, .int m] ∧ TO C H p d ns ∧ 0 ≤ x ∧ x < ns.length ∧ ns.length ≤ 100 ∧ ∀ H', Same H H' → Q (oV (rch (ns.drop x.toNat) x 0 m)) H'
def spChg (k : Kd) (C : Addr) : Sp := fun vs H Q _ => ∃ (p d : Addr) (ns : List Int) (x y : Int), vs = [.ref p, .int x, .int y] ∧ TO C H p d ns ∧ ns.length ≤ 100 ∧
  ∀ H', Kp d H H' → TO C H' p d (chg ns ⟨k, x, y⟩).1 → Q (chg ns ⟨k, x, y⟩).2.v H'
def spSet (C : Addr) : Sp := spChg .set C
def spAdd (C : Addr) : Sp := spChg .add C
def spSwap (C : Addr) : Sp := spChg .swap C
def spTold (C : Addr) : Sp := fun vs H Q _ => ∃ (p d : Addr) (ns : List Int) (k : Kd) (x y w : Int), vs = [.ref p, .int x, .int y, .int w] ∧ TO C H p d ns ∧ ns.length ≤ 100 ∧ ((k = .sum ∧ w = 0) ∨ (k = .least ∧ w = 1) ∨ (k = .greatest ∧ w = 2)) ∧
  ∀ H', Same H H' → Q (ask ns ⟨k, x, y⟩).v H'
def spReached (C : Addr) : Sp := fun vs H Q _ => ∃ (p d : Addr) (ns : List Int) (x y : Int), vs = [.ref p, .int x, .int y] ∧ TO C H p d ns ∧ ns.length ≤ 100 ∧ ∀ H', Same H H' → Q (rea ns ⟨.reach, x, y⟩).v H'
def spAnsTo (C : Addr) : Sp := fun vs H Q _ => ∃ (p d e : Addr) (ns : List Int) (u : Deed), vs = [.ref p, .ref e] ∧ TO C H p d ns ∧ H e = some (.tup u.v) ∧ ns.length ≤ 100 ∧
  ∀ H', Kp d H H' → TO C H' p d (act ns u).1 → Q (act ns u).2.v H'
def spDay (C : Addr) : Sp := fun vs H Q _ => ∃ (a b : Addr) (ns : List Int) (us : List V) (ds : List Deed), vs = [.ref a, .ref b] ∧ H a = some (.lst (ns.map V.int)) ∧ H b = some (.lst us) ∧ Ds H us ds ∧ ns ≠ [] ∧ ns.length ≤ 100 ∧ ds.length ≤ 100 ∧
  ∀ (p d : Addr) (H' : Hp), Same H H' → TO C H' p d (day ns ds).2 → Q (.ref p) H'
/-! ### the readings -/
section
variable {K : PySem.W.Frag} {C : Addr} {vs : List V} {H : Hp} {Q : VK} {E : XK} (T : Txt K C)
include T
theorem rd_halves (h : spHalves C vs H Q E) : (tSeq (tAsg (tCall spMid [] XE0 (tCons (tVar 1) (tCons (tVar 2) tNil))) (gName 3))
    (tRet (tCall (K01.spJoined K) [] XE0 (tCons (tDGet (tFld K (tVar 0) "parts") (tTup (tCons (tVar 1) (tCons (tVar 3) tNil)))) (tCons (tDGet (tFld K (tVar 0) "parts") (tTup (tCons (tVar 3) (tCons (tVar 2) tNil)))) tNil))))) { nx := fun _ H' => Q .non H', rt := Q } (start ["self", "start", "stop", "middle"] vs) H := by
  obtain ⟨p, d, N, L, M, a, b, P1, P2, rfl, A, e1, e2, q⟩ := h
  have o := A.ob
  repeat walk_at "rd_got"
  refine ⟨a, b, rfl, ?_⟩
  repeat walk_at "rd_got"
  refine w_get A e1 fun q1 H1 g1 t1 => ?_
  have o1 := (A.same g1).ob
  repeat walk_at "rd_got"
  refine w_get (A.same g1) e2 fun q2 H2 g2 t2 => ?_
  repeat walk_at "rd_got"
  exact ⟨q1, q2, P1, P2, rfl, SqT.of (g2 _ _ t1), SqT.of t2, fun r H3 g3 n3 e3 => q r H3 (g1.trans (g2.trans g3)) ((g1.trans g2).free n3) e3⟩
theorem rd_first (h : spFirst C vs H Q E) : (tSeq (tIfS (tTest (tOp rEq (tOp rSubI (tVar 3) (tVar 2)) (tC (.int 1)))) (tRet (tCall K01.spOne [] XE0 (tCons (tOp (rIxL K) (tVar 1) (tVar 2)) tNil))) tNext)
    (tRet (tMeth C "part_from_halves" (spHalves C) [] XE0 (tVar 0) (tCons (tVar 2) (tCons (tVar 3) tNil))))) { nx := fun _ H' => Q .non H', rt := Q } (start ["self", "row", "start", "stop"] vs) H := by
  obtain ⟨p, d, r, N, L, M, a, b, ns, rfl, A, hr, h0, h1, h2, hM, q⟩ := h
  have o := A.ob
  repeat walk_at "rd_got"
  refine w_if (fun c => ?_) (fun c => ?_)
  · obtain ⟨v, hv0, hv⟩ := at_int (ns := ns) (k := a) h0 (by omega)
    repeat walk_at "rd_got"
    refine w_ixL (SqL.of hr) hv ?_
    repeat walk_at "rd_got"
    refine ⟨v, rfl, ?_⟩
    have e : b = a + 1 := by omega
    rw [e, seg_one h0 (by omega), List.getD_eq_getElem?_getD, hv0] at q
    exact q
  · have c2 : ¬ b - a < 2 := by omega
    repeat walk_at "rd_got"
    refine ⟨p, d, N, L, M, a, b, _, _, rfl, A, (hM c2).1, (hM c2).2, ?_⟩
    rw [← pt_seg h0 (by omega) (by omega) h2]
    exact q
theorem rd_hasP (h : spHasP C vs H Q E) : (tRet (tChain rLeI rLtI (tC (.int 0)) (tVar 1) (tFld K (tVar 0) "length"))) { nx := fun _ H' => Q .non H', rt := Q } (start ["self", "place"] vs) H := by
  obtain ⟨p, d, N, x, rfl, o, q⟩ := h
  repeat walk_at "rd_got"
  refine w_if (fun c => ?_) (fun c => ?_)
  · repeat walk_at "rd_got"
    have e : decide (x < N) = decide (0 ≤ x ∧ x < N) := decide_eq_decide.mpr ⟨fun z => ⟨c, z⟩, fun z => z.2⟩
    rw [e]; exact q
  · rw [decide_eq_false (fun z => c z.1)] at q; exact q
theorem rd_hasS (h : spHasS C vs H Q E) : (tRet (tChain3 rLeI rLtI rLeI (tC (.int 0)) (tVar 1) (tVar 2) (tFld K (tVar 0) "length"))) { nx := fun _ H' => Q .non H', rt := Q } (start ["self", "start", "stop"] vs) H := by
  obtain ⟨p, d, N, x, y, rfl, o, q⟩ := h
  repeat walk_at "rd_got"
  refine w_if (fun c => ?_) (fun c => ?_)
  · repeat walk_at "rd_got"
    refine w_if (fun c2 => ?_) (fun c2 => ?_)
    · repeat walk_at "rd_got"
      have e : decide (y ≤ N) = decide (0 ≤ x ∧ x < y ∧ y ≤ N) := decide_eq_decide.mpr ⟨fun z => ⟨c, c2, z⟩, fun z => z.2.2⟩
      rw [e]; exact q
    · rw [decide_eq_false (fun z => c2 z.2.1)] at q; exact q
  · rw [decide_eq_false (fun z => c z.1)] at q; exact q
theorem rd_numAt (h : spNumAt C vs H Q E) : (tRet (tOp (rIxT K) (tDGet (tFld K (tVar 0) "parts") (tTup (tCons (tVar 1) (tCons (tOp rAddI (tVar 1) (tC (.int 1))) tNil)))) (tC (.int 0)))) { nx := fun _ H' => Q .non H', rt := Q } (start ["self", "place"] vs) H := by
  obtain ⟨p, d, ns, x, rfl, ⟨M, A, ok⟩, h0, h1, q⟩ := h
  have o := A.ob
  repeat walk_at "rd_got"
  refine w_get A (ok _ (tr_leaf ns.length 0 ns.length x h0 h1 (by omega))) fun q1 H1 g1 t1 => ?_
  have s1 : SqT K H1 q1 _ := SqT.of t1
  rw [seg_one h0 h1] at s1
  repeat walk_at "rd_got"
  exact q H1 g1
theorem rd_put {n : Nat} (hn : 100 ≤ n) (h : spPut C vs H Q E) : (tDrop (tMeth C "put_within" (spPutW C n) [] XE0 (tVar 0) (tCons (tC (.int 0)) (tCons (tFld K (tVar 0) "length") (tCons (tVar 1) (tCons (tVar 2) tNil)))))) { nx := fun _ H' => Q .non H', rt := Q } (start ["self", "place", "number"] vs) H := by
  obtain ⟨p, d, ns, x, v, rfl, ⟨M, A, ok⟩, h0, h1, h2, q⟩ := h
  have o := A.ob
  repeat walk_at "rd_got"
  refine ⟨p, d, ns.length, M, ns, 0, ns.length, x, v, rfl, A, ok, by omega, h0, h1, by omega, by omega, fun H' M' k A' ok' _ => ?_⟩
  refine q H' k ⟨M', ?_, ?_⟩
  · rw [List.length_set]; exact A'
  · rw [List.length_set]; exact ok'
theorem rd_putW {n : Nat} (h : spPutW C (n + 1) vs H Q E) : (tSeq (tIfS (tTest (tOp rEq (tOp rSubI (tVar 2) (tVar 1)) (tC (.int 1)))) (tSeq (sDPut (tFld K (tVar 0) "parts") (tTup (tCons (tVar 1) (tCons (tVar 2) tNil))) (tCall K01.spOne [] XE0 (tCons (tVar 4) tNil)))
    tRetN) tNext)
    (tSeq (tAsg (tCall spMid [] XE0 (tCons (tVar 1) (tCons (tVar 2) tNil))) (gName 5))
    (tSeq (tIfS (tTest (tOp rLtI (tVar 3) (tVar 5))) (tDrop (tMeth C "put_within" (spPutW C n) [] XE0 (tVar 0) (tCons (tVar 1) (tCons (tVar 5) (tCons (tVar 3) (tCons (tVar 4) tNil)))))) (tDrop (tMeth C "put_within" (spPutW C n) [] XE0 (tVar 0) (tCons (tVar 5) (tCons (tVar 2) (tCons (tVar 3) (tCons (tVar 4) tNil)))))))
    (sDPut (tFld K (tVar 0) "parts") (tTup (tCons (tVar 1) (tCons (tVar 2) tNil))) (tMeth C "part_from_halves" (spHalves C) [] XE0 (tVar 0) (tCons (tVar 1) (tCons (tVar 2) tNil))))))) { nx := fun _ H' => Q .non H', rt := Q } (start ["self", "start", "stop", "place", "number", "middle"] vs) H := by
  obtain ⟨p, d, N, M, ns, a, b, x, v, rfl, A, ok, h0, h1, h2, h3, hn, q⟩ := h
  have o := A.ob
  have hl : (ns.set x.toNat v).length = ns.length := List.length_set ..
  repeat walk_at "rd_got"
  refine w_if (fun c => ?_) (fun c => ?_)
  · repeat walk_at "rd_got"
    refine ⟨v, rfl, fun q1 H1 g1 n1 e1 => ?_⟩
    have A1 := A.same g1
    have o1 := A1.ob
    repeat walk_at "rd_got"
    refine w_put A1 (by omega) e1 ok.self fun H2 k2 A2 => ?_
    repeat walk_at "rd_got"
    refine q H2 _ (g1.kp.trans k2) A2 ?_ ?_
    · intro s hs
      rw [Tr_one (by omega)] at hs
      rw [List.mem_singleton.mp hs, put_self]
      have e : b = a + 1 := by omega
      have e2 : x = a := by omega
      show some (one v) = some (pt (seg (ns.set x.toNat v) a b))
      rw [e, e2, seg_one h0 (by rw [List.length_set]; omega), List.getD_eq_getElem?_getD, List.getElem?_set_self (by omega)]
      rfl
    · intro s hs
      have z : s ≠ (a, b) := fun z => hs (by rw [z]; exact tr_self a b)
      exact put_other z
  · have c2 : ¬ b - a < 2 := by omega
    repeat walk_at "rd_gots"
    refine ⟨a, b, rfl, ?_⟩
    repeat walk_at "rd_gots"
    dsimp only
    refine w_seqI (fun σ H1 => σ = [some (.ref p), some (.int a), some (.int b), some (.int x), some (.int v), some (.int ((a + b + 1) / 2))] ∧ ∃ M1, Kp d H H1 ∧ TA C H1 p d N 1000 M1 ∧
      (∀ s, s ∈ Tr a b → s ≠ (a, b) → M1 s = some (pt (seg (ns.set x.toNat v) s.1 s.2))) ∧ (∀ s, s ∉ Tr a b → M1 s = M s) ∧ M1 (a, b) = M (a, b)) ?_ ?_
    · rintro σ H1 ⟨rfl, M1, k1, A1, u1, u2, u3⟩
      have o1 := A1.ob
      have e1 := u1 _ (tr_l c2 (tr_self a ((a + b + 1) / 2))) (fun z => by injection z with z1 z2; omega)
      have e2 := u1 _ (tr_r c2 (tr_self ((a + b + 1) / 2) b)) (fun z => by injection z with z1 z2; omega)
      repeat walk_at "rd_got"
      refine ⟨p, d, N, 1000, M1, a, b, _, _, rfl, A1, e1, e2, fun q2 H2 g2 n2 t2 => ?_⟩
      have A2 := A1.same g2
      have o2 := A2.ob
      rw [← pt_seg h0 (by omega) (by omega) (by omega)] at t2
      repeat walk_at "rd_got"
      refine w_put A2 (by omega) t2 (by rw [u3]; exact ok.self) fun H3 k3 A3 => ?_
      repeat walk_at "rd_got"
      refine q H3 _ (k1.trans (g2.kp.trans k3)) A3 ?_ ?_
      · intro s hs
        by_cases z : s = (a, b)
        · subst z; exact put_self
        · rw [put_other z]; exact u1 s hs z
      · intro s hs
        have z : s ≠ (a, b) := fun z => hs (by rw [z]; exact tr_self a b)
        rw [put_other z]
        exact u2 s hs
    · intro hM
      repeat walk_at "rd_got"
      refine w_if (fun cm => ?_) (fun cm => ?_)
      · repeat walk_at "rd_got"
        refine ⟨p, d, N, M, ns, a, (a + b + 1) / 2, x, v, rfl, A, ok.l c2, h0, h1, cm, by omega, by omega, fun H1 M1 k1 A1 ok1 out1 => ?_⟩
        refine hM _ _ ⟨rfl, M1, k1, A1, ?_, ?_, ?_⟩
        · intro s hs z
          rcases tr_cases c2 hs with y | y | y
          · exact absurd y z
          · exact ok1 s y
          · have i1 := tr_in (by omega) y
            rw [out1 s (fun w => by have i2 := tr_in (by omega) w; omega), ok s hs, seg_set_out (by omega) (.inl (by omega))]
        · intro s hs
          exact out1 s fun w => hs (tr_l c2 w)
        · exact out1 _ fun w => by have i2 := tr_in (by omega) w; simp only at i2; omega
      · repeat walk_at "rd_got"
        refine ⟨p, d, N, M, ns, (a + b + 1) / 2, b, x, v, rfl, A, ok.r c2, by omega, by omega, h2, by omega, by omega, fun H1 M1 k1 A1 ok1 out1 => ?_⟩
        refine hM _ _ ⟨rfl, M1, k1, A1, ?_, ?_, ?_⟩
        · intro s hs z
          rcases tr_cases c2 hs with y | y | y
          · exact absurd y z
          · have i1 := tr_in (by omega) y
            rw [out1 s (fun w => by have i2 := tr_in (by omega) w; omega), ok s hs, seg_set_out (by omega) (.inr (by omega))]
          · exact ok1 s y
        · intro s hs
          exact out1 s fun w => hs (tr_r c2 w)
        · exact out1 _ fun w => by have i2 := tr_in (by omega) w; simp only at i2; omega
theorem rd_over {n : Nat} (hn : 100 ≤ n) (h : spOver C vs H Q E) : (tRet (tMeth C "part_within" (spPartW C n) [] XE0 (tVar 0) (tCons (tC (.int 0)) (tCons (tFld K (tVar 0) "length") (tCons (tVar 1) (tCons (tVar 2) tNil)))))) { nx := fun _ H' => Q .non H', rt := Q } (start ["self", "begin", "end"] vs) H := by
  obtain ⟨p, d, ns, x, y, rfl, ⟨M, A, ok⟩, h0, h1, h2, h3, q⟩ := h
  have o := A.ob
  repeat walk_at "rd_got"
  exact ⟨p, d, ns.length, 1000, M, ns, 0, ns.length, x, y, rfl, A, ok, by omega, h0, h1, h2, by omega, by omega, q⟩
theorem rd_partW {n : Nat} (h : spPartW C (n + 1) vs H Q E) : (tSeq (tIfS (tAnd (tTest (tOp rEq (tVar 1) (tVar 3))) (tTest (tOp rEq (tVar 2) (tVar 4)))) (tRet (tDGet (tFld K (tVar 0) "parts") (tTup (tCons (tVar 1) (tCons (tVar 2) tNil))))) tNext)
    (tSeq (tAsg (tCall spMid [] XE0 (tCons (tVar 1) (tCons (tVar 2) tNil))) (gName 5))
    (tSeq (tIfS (tTest (tOp rLeI (tVar 4) (tVar 5))) (tRet (tMeth C "part_within" (spPartW C n) [] XE0 (tVar 0) (tCons (tVar 1) (tCons (tVar 5) (tCons (tVar 3) (tCons (tVar 4) tNil)))))) tNext)
    (tSeq (tIfS (tTest (tOp rGeI (tVar 3) (tVar 5))) (tRet (tMeth C "part_within" (spPartW C n) [] XE0 (tVar 0) (tCons (tVar 5) (tCons (tVar 2) (tCons (tVar 3) (tCons (tVar 4) tNil)))))) tNext)
    (tSeq (tAsg (tMeth C "part_within" (spPartW C n) [] XE0 (tVar 0) (tCons (tVar 1) (tCons (tVar 5) (tCons (tVar 3) (tCons (tVar 5) tNil))))) (gName 6))
    (tSeq (tAsg (tMeth C "part_within" (spPartW C n) [] XE0 (tVar 0) (tCons (tVar 5) (tCons (tVar 2) (tCons (tVar 5) (tCons (tVar 4) tNil))))) (gName 7))
    (tRet (tCall (K01.spJoined K) [] XE0 (tCons (tVar 6) (tCons (tVar 7) tNil)))))))))) { nx := fun _ H' => Q .non H', rt := Q } (start ["self", "start", "stop", "begin", "end", "middle", "left", "right"] vs) H := by
  obtain ⟨p, d, N, L, M, ns, a, b, x, y, rfl, A, ok, h0, h1, h2, h3, h4, hn, q⟩ := h
  have o := A.ob
  refine w_seqI (fun σ H1 => σ = [some (.ref p), some (.int a), some (.int b), some (.int x), some (.int y), none, none, none] ∧ H1 = H ∧ ¬ (a = x ∧ b = y)) ?_ ?_
  · rintro σ H1 ⟨rfl, rfl, cc⟩
    have c2 : ¬ b - a < 2 := by omega
    repeat walk_at "rd_got"
    refine ⟨a, b, rfl, ?_⟩
    repeat walk_at "rd_got"
    refine w_if (fun c => ?_) (fun c => ?_)
    · repeat walk_at "rd_got"
      exact ⟨p, d, N, L, M, ns, a, (a + b + 1) / 2, x, y, rfl, A, ok.l c2, h0, h1, h2, c, by omega, by omega, q⟩
    repeat walk_at "rd_got"
    refine w_if (fun c3 => ?_) (fun c3 => ?_)
    · repeat walk_at "rd_got"
      exact ⟨p, d, N, L, M, ns, (a + b + 1) / 2, b, x, y, rfl, A, ok.r c2, by omega, c3, h2, h3, h4, by omega, q⟩
    repeat walk_at "rd_got"
    refine ⟨p, d, N, L, M, ns, a, (a + b + 1) / 2, x, (a + b + 1) / 2, rfl, A, ok.l c2, h0, h1, by omega, by omega, by omega, by omega, fun q1 H2 g1 t1 => ?_⟩
    have A1 := A.same g1
    have o1 := A1.ob
    repeat walk_at "rd_got"
    refine ⟨p, d, N, L, M, ns, (a + b + 1) / 2, b, (a + b + 1) / 2, y, rfl, A1, ok.r c2, by omega, by omega, by omega, h3, h4, by omega, fun q2 H3 g2 t2 => ?_⟩
    repeat walk_at "rd_got"
    refine ⟨q1, q2, _, _, rfl, SqT.of (g2 _ _ t1), SqT.of t2, fun r H4 g3 n3 e3 => ?_⟩
    rw [← pt_seg (by omega) (by omega) (by omega) (by omega)] at e3
    exact q r H4 (g1.trans (g2.trans g3)) e3
  · intro hM
    repeat walk_at "rd_got"
    refine w_if (fun c => ?_) (fun c => ?_)
    · repeat walk_at "rd_got"
      refine w_if (fun c2 => ?_) (fun c2 => ?_)
      · repeat walk_at "rd_got"
        refine w_get A ok.self fun q1 H1 g1 t1 => ?_
        rw [c, c2] at t1
        exact q q1 H1 g1 t1
      · exact hM _ _ ⟨rfl, rfl, fun z => c2 z.2⟩
    · exact w_ff (hM _ _ ⟨rfl, rfl, fun z => c z.1⟩)
theorem rd_reachW {n : Nat} (h : spReachW C (n + 1) vs H Q E) : (tSeq (tIfS (tOr (tTest (tOp rLeI (tVar 2) (tVar 3))) (tTest (tOp rLtI (tOp (rIxT K) (tDGet (tFld K (tVar 0) "parts") (tTup (tCons (tVar 1) (tCons (tVar 2) tNil)))) (tC (.int 3))) (tVar 4)))) (tRet (tC .non)) tNext)
    (tSeq (tIfS (tTest (tOp rEq (tOp rSubI (tVar 2) (tVar 1)) (tC (.int 1)))) (tRet (tVar 1)) tNext)
    (tSeq (tAsg (tCall spMid [] XE0 (tCons (tVar 1) (tCons (tVar 2) tNil))) (gName 5))
    (tSeq (tAsg (tMeth C "reaching_within" (spReachW C n) [] XE0 (tVar 0) (tCons (tVar 1) (tCons (tVar 5) (tCons (tVar 3) (tCons (tVar 4) tNil))))) (gName 6))
    (tSeq (tIfS (tTest (tOp rIsN (tVar 6) (tC .non))) (tSeq (tAsg (tOp rSubI (tVar 4) (tOp (rIxT K) (tDGet (tFld K (tVar 0) "parts") (tTup (tCons (tVar 1) (tCons (tVar 5) tNil)))) (tC (.int 0)))) (gName 7))
    (tAsg (tMeth C "reaching_within" (spReachW C n) [] XE0 (tVar 0) (tCons (tVar 5) (tCons (tVar 2) (tCons (tVar 3) (tCons (tVar 7) tNil))))) (gName 6))) tNext)
    (tRet (tVar 6))))))) { nx := fun _ H' => Q .non H', rt := Q } (start ["self", "start", "stop", "begin", "mark", "middle", "place", "rest"] vs) H := by
  obtain ⟨p, d, N, L, M, ns, a, b, x, m, rfl, A, ok, h0, h1, h2, hn, q⟩ := h
  have o := A.ob
  refine w_seqI (fun σ H1 => σ = [some (.ref p), some (.int a), some (.int b), some (.int x), some (.int m), none, none, none] ∧ Same H H1 ∧ ¬ b ≤ x ∧ ¬ (pt (seg ns a b)).r < m) ?_ ?_
  · rintro σ H1 ⟨rfl, g1, c1, c2⟩
    have A1 := A.same g1
    have o1 := A1.ob
    repeat walk_at "rd_got"
    refine w_if (fun c => ?_) (fun c => ?_)
    · repeat walk_at "rd_got"
      refine q (some a) H1 g1 ⟨Int.le_refl _, by omega, h1, ?_, fun j _ _ _ => by omega⟩
      have e : b = a + 1 := by omega
      rw [e, seg_one h0 (by omega)] at c2
      rw [F_succ h0 (by omega)]
      have : ¬ ns.getD a.toNat 0 < m := c2
      omega
    · have cc : ¬ b - a < 2 := by omega
      repeat walk_at "rd_got"
      refine ⟨a, b, rfl, ?_⟩
      repeat walk_at "rd_got"
      refine ⟨p, d, N, L, M, ns, a, (a + b + 1) / 2, x, m, rfl, A1, ok.l cc, h0, by omega, by omega, by omega, fun o1 H2 g2 f1 => ?_⟩
      have A2 := A1.same g2
      have ob2 := A2.ob
      cases o1 with
      | some i =>
        repeat walk_at "rd_got"
        refine w_ifF (fun z => by cases z) ?_
        repeat walk_at "rd_got"
        obtain ⟨f2, f3, f4, f5, f6⟩ := f1
        exact q (some i) H2 (g1.trans g2) ⟨f2, f3, by omega, f5, f6⟩
      | none =>
        repeat walk_at "rd_got"
        refine w_ifT rfl ?_
        repeat walk_at "rd_got"
        refine w_get A2 (ok.l cc).self fun q1 H3 g3 t3 => ?_
        have A3 := A2.same g3
        have ob3 := A3.ob
        have s3 : SqT K H3 q1 _ := SqT.of t3
        repeat walk_at "rd_got"
        refine ⟨p, d, N, L, M, ns, (a + b + 1) / 2, b, x, _, rfl, A3, ok.r cc, by omega, by omega, h2, by omega, fun o2 H4 g4 f2 => ?_⟩
        repeat walk_at "rd_got"
        refine q o2 H4 (g1.trans (g2.trans (g3.trans g4))) ?_
        have e : m - (pt (seg ns a ((a + b + 1) / 2))).t + F ns ((a + b + 1) / 2) = m + F ns a := by
          rw [pt_t h0 (by omega) (by omega)]; omega
        rw [e] at f2
        cases o2 with
        | none =>
          intro j j1 j2 j3
          by_cases cm : j < (a + b + 1) / 2
          · exact f1 j j1 j2 cm
          · exact f2 j (by omega) j2 j3
        | some i =>
          obtain ⟨k1, k2, k3, k4, k5⟩ := f2
          refine ⟨by omega, k2, k3, k4, fun j j1 j2 j3 => ?_⟩
          by_cases cm : j < (a + b + 1) / 2
          · exact f1 j j1 j2 cm
          · exact k5 j (by omega) j2 j3
  · intro hM
    repeat walk_at "rd_got"
    refine w_if (fun c => ?_) (fun c => ?_)
    · repeat walk_at "rd_got"
      refine q none H (Same.refl H) fun j _ _ _ => by omega
    · repeat walk_at "rd_got"
      refine w_get A ok.self fun q1 H1 g1 t1 => ?_
      have s1 : SqT K H1 q1 _ := SqT.of t1
      repeat walk_at "rd_got"
      refine w_if (fun c2 => ?_) (fun c2 => ?_)
      · repeat walk_at "rd_got"
        refine q none H1 g1 fun j j1 _ j3 => ?_
        have := r_seg h0 j1 j3 h2
        omega
      · exact hM _ _ ⟨rfl, g1, c, c2⟩
theorem rd_ahead (h : spAhead C vs H Q E) : (tSeq (tIfS (tTest (tOp rEq (tVar 1) (tC (.int 0)))) (tRet (tC (.int 0))) tNext)
    (tRet (tOp (rIxT K) (tMeth C "part_over" (spOver C) [] XE0 (tVar 0) (tCons (tC (.int 0)) (tCons (tVar 1) tNil))) (tC (.int 0))))) { nx := fun _ H' => Q .non H', rt := Q } (start ["self", "place"] vs) H := by
  obtain ⟨p, d, ns, x, rfl, t, h0, h1, h2, q⟩ := h
  have o := t.ob
  repeat walk_at "rd_got"
  refine w_if (fun c => ?_) (fun c => ?_)
  · repeat walk_at "rd_got"
    subst c
    exact q H (Same.refl H)
  · repeat walk_at "rd_got"
    refine ⟨p, d, ns, 0, x, rfl, t, by omega, by omega, by omega, h2, fun q1 H1 g1 t1 => ?_⟩
    have s1 : SqT K H1 q1 _ := SqT.of t1
    repeat walk_at "rd_got"
    rw [pt_t (by omega) (by omega) (by omega), F_zero, Int.sub_zero]
    exact q H1 g1
theorem rd_placeR {n : Nat} (hn : 100 ≤ n) (h : spPlaceR C vs H Q E) : (tRet (tMeth C "reaching_within" (spReachW C n) [] XE0 (tVar 0) (tCons (tC (.int 0)) (tCons (tFld K (tVar 0) "length") (tCons (tVar 1) (tCons (tOp rAddI (tVar 2) (tMeth C "total_ahead_of" (spAhead C) [] XE0 (tVar 0) (tCons (tVar 1) tNil))) tNil)))))) { nx := fun _ H' => Q .non H', rt := Q } (start ["self", "begin", "mark"] vs) H := by
  obtain ⟨p, d, ns, x, m, rfl, t, h0, h1, h2, q⟩ := h
  have o := t.ob
  repeat walk_at "rd_got"
  refine ⟨p, d, ns, x, rfl, t, h0, h1, h2, fun H1 g1 => ?_⟩
  obtain ⟨M, A, ok⟩ := t.same g1
  repeat walk_at "rd_got"
  refine ⟨p, d, ns.length, 1000, M, ns, 0, ns.length, x, m + F ns x, rfl, A, ok, by omega, by omega, by omega, by omega, fun o2 H2 g2 f => ?_⟩
  rw [F_zero, Int.add_zero] at f
  rw [← fst_rch h0 h1 f]
  exact q H2 (g1.trans g2)
theorem chg_no {ns : List Int} {k : Kd} {x y : Int} (h : ¬ (0 ≤ x ∧ x < (ns.length : Int))) : chg ns ⟨k, x, y⟩ = (ns, .none) := if_pos (by show x < 0 ∨ x ≥ _; omega)
theorem chg_yes {ns : List Int} {k : Kd} {x y : Int} (h : 0 ≤ x ∧ x < (ns.length : Int)) : chg ns ⟨k, x, y⟩ = match k with
    | .set => (ns.set x.toNat y, .int (ns.getD x.toNat 0))
    | .add => (ns.set x.toNat (ns.getD x.toNat 0 + y), .int (ns.getD x.toNat 0 + y))
    | .swap => if 0 ≤ y ∧ y < ns.length then ((ns.set x.toNat (ns.getD y.toNat 0)).set y.toNat (ns.getD x.toNat 0), .yes) else (ns, .none)
    | _ => (ns, .none) := by
  have c : ¬ (x < 0 ∨ x ≥ (ns.length : Int)) := by omega
  exact if_neg c
theorem rd_set (h : spSet C vs H Q E) : (tSeq (tIfS (tNot (tB (tMeth C "has_place" (spHasP C) [] XE0 (tVar 0) (tCons (tVar 1) tNil)))) (tRet (tC .non)) tNext)
    (tSeq (tAsg (tMeth C "number_at" (spNumAt C) [] XE0 (tVar 0) (tCons (tVar 1) tNil)) (gName 3))
    (tSeq (tDrop (tMeth C "put" (spPut C) [] XE0 (tVar 0) (tCons (tVar 1) (tCons (tVar 2) tNil))))
    (tRet (tVar 3))))) { nx := fun _ H' => Q .non H', rt := Q } (start ["tree", "place", "value", "old"] vs) H := by
  obtain ⟨p, d, ns, x, y, rfl, t, hl, q⟩ := h
  have o := t.ob
  repeat walk_at "rd_got"
  refine ⟨p, d, ns.length, x, rfl, o, ?_⟩
  repeat walk_at "rd_got"
  refine w_ifN (fun c => ?_) (fun c => ?_)
  · repeat walk_at "rd_got"
    rw [chg_no T c] at q
    exact q H (Same.refl H).kp t
  · repeat walk_at "rd_got"
    refine ⟨p, d, ns, x, rfl, t, c.1, c.2, fun H1 g1 => ?_⟩
    have t1 := t.same g1
    have o1 := t1.ob
    repeat walk_at "rd_got"
    refine ⟨p, d, ns, x, y, rfl, t1, c.1, c.2, hl, fun H2 k2 t2 => ?_⟩
    repeat walk_at "rd_got"
    rw [chg_yes T c] at q
    exact q H2 (g1.kp.trans k2) t2
theorem rd_add (h : spAdd C vs H Q E) : (tSeq (tIfS (tNot (tB (tMeth C "has_place" (spHasP C) [] XE0 (tVar 0) (tCons (tVar 1) tNil)))) (tRet (tC .non)) tNext)
    (tSeq (tAsg (tOp rAddI (tMeth C "number_at" (spNumAt C) [] XE0 (tVar 0) (tCons (tVar 1) tNil)) (tVar 2)) (gName 3))
    (tSeq (tDrop (tMeth C "put" (spPut C) [] XE0 (tVar 0) (tCons (tVar 1) (tCons (tVar 3) tNil))))
    (tRet (tVar 3))))) { nx := fun _ H' => Q .non H', rt := Q } (start ["tree", "place", "value", "grown"] vs) H := by
  obtain ⟨p, d, ns, x, y, rfl, t, hl, q⟩ := h
  have o := t.ob
  repeat walk_at "rd_got"
  refine ⟨p, d, ns.length, x, rfl, o, ?_⟩
  repeat walk_at "rd_got"
  refine w_ifN (fun c => ?_) (fun c => ?_)
  · repeat walk_at "rd_got"
    rw [chg_no T c] at q
    exact q H (Same.refl H).kp t
  · repeat walk_at "rd_got"
    refine ⟨p, d, ns, x, rfl, t, c.1, c.2, fun H1 g1 => ?_⟩
    have t1 := t.same g1
    have o1 := t1.ob
    repeat walk_at "rd_got"
    refine ⟨p, d, ns, x, _, rfl, t1, c.1, c.2, hl, fun H2 k2 t2 => ?_⟩
    repeat walk_at "rd_got"
    rw [chg_yes T c] at q
    exact q H2 (g1.kp.trans k2) t2
theorem rd_swap (h : spSwap C vs H Q E) : (tSeq (tIfS (tOr (tNot (tB (tMeth C "has_place" (spHasP C) [] XE0 (tVar 0) (tCons (tVar 1) tNil)))) (tNot (tB (tMeth C "has_place" (spHasP C) [] XE0 (tVar 0) (tCons (tVar 2) tNil))))) (tRet (tC .non)) tNext)
    (tSeq (tAsg (tMeth C "number_at" (spNumAt C) [] XE0 (tVar 0) (tCons (tVar 1) tNil)) (gName 3))
    (tSeq (tDrop (tMeth C "put" (spPut C) [] XE0 (tVar 0) (tCons (tVar 1) (tCons (tMeth C "number_at" (spNumAt C) [] XE0 (tVar 0) (tCons (tVar 2) tNil)) tNil))))
    (tSeq (tDrop (tMeth C "put" (spPut C) [] XE0 (tVar 0) (tCons (tVar 2) (tCons (tVar 3) tNil))))
    (tRet (tC (.bl true))))))) { nx := fun _ H' => Q .non H', rt := Q } (start ["tree", "one", "two", "number_at_one"] vs) H := by
  obtain ⟨p, d, ns, x, y, rfl, t, hl, q⟩ := h
  have o := t.ob
  repeat walk_at "rd_got"
  refine ⟨p, d, ns.length, x, rfl, o, ?_⟩
  repeat walk_at "rd_got"
  refine w_ifN (fun c => ?_) (fun c => ?_)
  · repeat walk_at "rd_got"
    rw [chg_no T c] at q
    exact q H (Same.refl H).kp t
  · rw [chg_yes T c] at q
    repeat walk_at "rd_got"
    refine ⟨p, d, ns.length, y, rfl, o, ?_⟩
    repeat walk_at "rd_got"
    refine w_ifN (fun c2 => ?_) (fun c2 => ?_)
    · repeat walk_at "rd_got"
      simp only [if_neg c2] at q
      exact q H (Same.refl H).kp t
    · simp only [if_pos c2] at q
      repeat walk_at "rd_got"
      refine ⟨p, d, ns, x, rfl, t, c.1, c.2, fun H1 g1 => ?_⟩
      have t1 := t.same g1
      have o1 := t1.ob
      repeat walk_at "rd_got"
      refine ⟨p, d, ns, y, rfl, t1, c2.1, c2.2, fun H2 g2 => ?_⟩
      have t2 := t1.same g2
      have o2 := t2.ob
      repeat walk_at "rd_got"
      refine ⟨p, d, ns, x, _, rfl, t2, c.1, c.2, hl, fun H3 k3 t3 => ?_⟩
      have o3 := t3.ob
      repeat walk_at "rd_got"
      refine ⟨p, d, _, y, _, rfl, t3, c2.1, by rw [List.length_set]; exact c2.2, by rw [List.length_set]; exact hl, fun H4 k4 t4 => ?_⟩
      repeat walk_at "rd_got"
      exact q H4 ((g1.trans g2).kp.trans (k3.trans k4)) t4
theorem rd_told (h : spTold C vs H Q E) : (tSeq (tIfS (tNot (tB (tMeth C "has_stretch" (spHasS C) [] XE0 (tVar 0) (tCons (tVar 1) (tCons (tVar 2) tNil))))) (tRet (tC .non)) tNext)
    (tRet (tOp (rIxT K) (tMeth C "part_over" (spOver C) [] XE0 (tVar 0) (tCons (tVar 1) (tCons (tVar 2) tNil))) (tVar 3)))) { nx := fun _ H' => Q .non H', rt := Q } (start ["tree", "start", "stop", "which"] vs) H := by
  obtain ⟨p, d, ns, k, x, y, w, rfl, t, hl, hk, q⟩ := h
  have o := t.ob
  repeat walk_at "rd_got"
  refine ⟨p, d, ns.length, x, y, rfl, o, ?_⟩
  repeat walk_at "rd_got"
  refine w_ifN (fun c => ?_) (fun c => ?_)
  · repeat walk_at "rd_got"
    have e : ask ns ⟨k, x, y⟩ = .none := if_pos (by show x < 0 ∨ y ≤ x ∨ y > _; omega)
    rw [e] at q
    exact q H (Same.refl H)
  · have e : ¬ (x < 0 ∨ y ≤ x ∨ y > (ns.length : Int)) := by omega
    repeat walk_at "rd_got"
    refine ⟨p, d, ns, x, y, rfl, t, c.1, c.2.1, c.2.2, hl, fun q1 H1 g1 t1 => ?_⟩
    have s1 : SqT K H1 q1 _ := SqT.of t1
    rcases hk with ⟨rfl, rfl⟩ | ⟨rfl, rfl⟩ | ⟨rfl, rfl⟩
    · rw [show ask ns ⟨.sum, x, y⟩ = .int (pt (seg ns x y)).t from if_neg e] at q
      repeat walk_at "rd_got"
      exact q H1 g1
    · rw [show ask ns ⟨.least, x, y⟩ = .int (pt (seg ns x y)).l from if_neg e] at q
      repeat walk_at "rd_got"
      exact q H1 g1
    · rw [show ask ns ⟨.greatest, x, y⟩ = .int (pt (seg ns x y)).g from if_neg e] at q
      repeat walk_at "rd_got"
      exact q H1 g1
theorem rd_reached (h : spReached C vs H Q E) : (tSeq (tIfS (tNot (tB (tMeth C "has_place" (spHasP C) [] XE0 (tVar 0) (tCons (tVar 1) tNil)))) (tRet (tC .non)) tNext)
    (tRet (tMeth C "place_reaching" (spPlaceR C) [] XE0 (tVar 0) (tCons (tVar 1) (tCons (tVar 2) tNil))))) { nx := fun _ H' => Q .non H', rt := Q } (start ["tree", "start", "mark"] vs) H := by
  obtain ⟨p, d, ns, x, y, rfl, t, hl, q⟩ := h
  have o := t.ob
  repeat walk_at "rd_got"
  refine ⟨p, d, ns.length, x, rfl, o, ?_⟩
  repeat walk_at "rd_got"
  refine w_ifN (fun c => ?_) (fun c => ?_)
  · repeat walk_at "rd_got"
    rw [show rea ns ⟨.reach, x, y⟩ = .none from if_pos (by show x < 0 ∨ x ≥ _; omega)] at q
    exact q H (Same.refl H)
  · repeat walk_at "rd_got"
    refine ⟨p, d, ns, x, y, rfl, t, c.1, c.2, hl, fun H1 g1 => ?_⟩
    have e : ¬ (x < 0 ∨ x ≥ (ns.length : Int)) := by omega
    have := q H1 g1
    rw [show rea ns ⟨.reach, x, y⟩ = (match rch (ns.drop x.toNat) x 0 y with | some i => .int i | none => .none) from if_neg e] at this
    cases z : rch (ns.drop x.toNat) x 0 y with
    | none => rw [z] at this; exact this
    | some i => rw [z] at this; exact this
theorem rd_ansTo (h : spAnsTo C vs H Q E) : (tSeq (tAsg (tOp (rIxT K) (tVar 1) (tC (.int 0))) (gName 2))
    (tSeq (tIfS (tTest (tOp rEq (tVar 2) (tC (.str "set")))) (tRet (tCall (spSet C) [] XE0 (tCons (tVar 0) (tCons (tOp (rIxT K) (tVar 1) (tC (.int 1))) (tCons (tOp (rIxT K) (tVar 1) (tC (.int 2))) tNil))))) tNext)
    (tSeq (tIfS (tTest (tOp rEq (tVar 2) (tC (.str "add")))) (tRet (tCall (spAdd C) [] XE0 (tCons (tVar 0) (tCons (tOp (rIxT K) (tVar 1) (tC (.int 1))) (tCons (tOp (rIxT K) (tVar 1) (tC (.int 2))) tNil))))) tNext)
    (tSeq (tIfS (tTest (tOp rEq (tVar 2) (tC (.str "swap")))) (tRet (tCall (spSwap C) [] XE0 (tCons (tVar 0) (tCons (tOp (rIxT K) (tVar 1) (tC (.int 1))) (tCons (tOp (rIxT K) (tVar 1) (tC (.int 2))) tNil))))) tNext)
    (tSeq (tIfS (tTest (tOp rEq (tVar 2) (tC (.str "sum")))) (tRet (tCall (spTold C) [] XE0 (tCons (tVar 0) (tCons (tOp (rIxT K) (tVar 1) (tC (.int 1))) (tCons (tOp (rIxT K) (tVar 1) (tC (.int 2))) (tCons (tC (.int 0)) tNil)))))) tNext)
    (tSeq (tIfS (tTest (tOp rEq (tVar 2) (tC (.str "least")))) (tRet (tCall (spTold C) [] XE0 (tCons (tVar 0) (tCons (tOp (rIxT K) (tVar 1) (tC (.int 1))) (tCons (tOp (rIxT K) (tVar 1) (tC (.int 2))) (tCons (tC (.int 1)) tNil)))))) tNext)
    (tSeq (tIfS (tTest (tOp rEq (tVar 2) (tC (.str "greatest")))) (tRet (tCall (spTold C) [] XE0 (tCons (tVar 0) (tCons (tOp (rIxT K) (tVar 1) (tC (.int 1))) (tCons (tOp (rIxT K) (tVar 1) (tC (.int 2))) (tCons (tC (.int 2)) tNil)))))) tNext)
    (tRet (tCall (spReached C) [] XE0 (tCons (tVar 0) (tCons (tOp (rIxT K) (tVar 1) (tC (.int 1))) (tCons (tOp (rIxT K) (tVar 1) (tC (.int 2))) tNil)))))))))))) { nx := fun _ H' => Q .non H', rt := Q } (start ["tree", "deed", "kind"] vs) H := by
  obtain ⟨p, d, e, ns, ⟨k, x, y⟩, rfl, t, he, hl, q⟩ := h
  have o := t.ob
  have se : SqT K H e [.str k.w, .int x, .int y] := SqT.of he
  repeat walk_at "rd_got"
  cases k with
  | set =>
    refine w_ifT rfl ?_
    repeat walk_at "rd_got"
    exact ⟨p, d, ns, x, y, rfl, t, hl, q⟩
  | add =>
    refine w_ifF (by decide) ?_
    repeat walk_at "rd_got"
    refine w_ifT rfl ?_
    repeat walk_at "rd_got"
    exact ⟨p, d, ns, x, y, rfl, t, hl, q⟩
  | swap =>
    refine w_ifF (by decide) ?_
    repeat walk_at "rd_got"
    refine w_ifF (by decide) ?_
    repeat walk_at "rd_got"
    refine w_ifT rfl ?_
    repeat walk_at "rd_got"
    exact ⟨p, d, ns, x, y, rfl, t, hl, q⟩
  | sum =>
    refine w_ifF (by decide) ?_
    repeat walk_at "rd_got"
    refine w_ifF (by decide) ?_
    repeat walk_at "rd_got"
    refine w_ifF (by decide) ?_
    repeat walk_at "rd_got"
    refine w_ifT rfl ?_
    repeat walk_at "rd_got"
    exact ⟨p, d, ns, .sum, x, y, 0, rfl, t, hl, .inl ⟨rfl, rfl⟩, fun H' g => q H' g.kp (t.same g)⟩
  | least =>
    refine w_ifF (by decide) ?_
    repeat walk_at "rd_got"
    refine w_ifF (by decide) ?_
    repeat walk_at "rd_got"
    refine w_ifF (by decide) ?_
    repeat walk_at "rd_got"
    refine w_ifF (by decide) ?_
    repeat walk_at "rd_got"
    refine w_ifT rfl ?_
    repeat walk_at "rd_got"
    exact ⟨p, d, ns, .least, x, y, 1, rfl, t, hl, .inr (.inl ⟨rfl, rfl⟩), fun H' g => q H' g.kp (t.same g)⟩
  | greatest =>
    refine w_ifF (by decide) ?_
    repeat walk_at "rd_got"
    refine w_ifF (by decide) ?_
    repeat walk_at "rd_got"
    refine w_ifF (by decide) ?_
    repeat walk_at "rd_got"
    refine w_ifF (by decide) ?_
    repeat walk_at "rd_got"
    refine w_ifF (by decide) ?_
    repeat walk_at "rd_got"
    refine w_ifT rfl ?_
    repeat walk_at "rd_got"
    exact ⟨p, d, ns, .greatest, x, y, 2, rfl, t, hl, .inr (.inr ⟨rfl, rfl⟩), fun H' g => q H' g.kp (t.same g)⟩
  | reach =>
    refine w_ifF (by decide) ?_
    repeat walk_at "rd_got"
    refine w_ifF (by decide) ?_
    repeat walk_at "rd_got"
    refine w_ifF (by decide) ?_
    repeat walk_at "rd_got"
    refine w_ifF (by decide) ?_
    repeat walk_at "rd_got"
    refine w_ifF (by decide) ?_
    repeat walk_at "rd_got"
    refine w_ifF (by decide) ?_
    repeat walk_at "rd_got"
    exact ⟨p, d, ns, x, y, rfl, t, hl, fun H' g => q H' g.kp (t.same g)⟩
end
end PT
namespace PT
open PySem L2 K01 K02 SL
theorem made {H H1 : Hp} {p dx : Addr} {o1 o2 : HO} (np : H p = none) (nd : H dx = none) (k : Kp p (upd (upd H dx o1) p o2) H1) : Same H H1 := fun b o h =>
  k b o (ne_of_none h np) (by rw [upd_ne (ne_of_none h np), upd_ne (ne_of_none h nd)]; exact h)
theorem made_free {H : Hp} {p dx d : Addr} {o1 o2 : HO} (h : upd (upd H dx o1) p o2 d = none) : H d = none := by
  by_cases c : d = p
  · subst c; rw [upd_same] at h; cases h
  rw [upd_ne c] at h
  by_cases c : d = dx
  · subst c; rw [upd_same] at h; cases h
  rw [upd_ne c] at h
  exact h
/-- all but d stays, and d is new: all stays -/
theorem kp_same {H H1 H2 : Hp} {d : Addr} (g : Same H H1) (n : H d = none) (k : Kp d H1 H2) : Same H H2 := fun b o h => k b o (ne_of_none h n) (g b o h)
section
variable {K : PySem.W.Frag} {C : Addr} {vs : List V} {H : Hp} {Q : VK} {E : XK} (T : Txt K C)
include T
set_option maxHeartbeats 4000000 in
theorem rd_init (h : spInit C vs H Q E) : (tSeq (sFld K (tVar 0) (tCB (rLen K) (tCons (tVar 1) tNil)) "length")
    (tSeq (sFld K (tVar 0) tDNewT "parts")
    (tFor (iRev K (tCons (tCall spStr [] XE0 (tCons (tFld K (tVar 0) "length") tNil)) tNil)) (gName 2) (sDPut (tFld K (tVar 0) "parts") (tVar 2) (tMeth C "part_at_first" (spFirst C) [] XE0 (tVar 0) (tCons (tVar 1) (tCons (tOp (rIxT K) (tVar 2) (tC (.int 0))) (tCons (tOp (rIxT K) (tVar 2) (tC (.int 1))) tNil)))))))) { nx := fun _ H' => Q .non H', rt := Q } (start ["self", "row", "stretch"] vs) H := by
  obtain ⟨p, dx, r, ns, rfl, hp, hr, hne, h100, q⟩ := h
  have sr : SqL K H r (ns.map V.int) := SqL.of hr
  have h1 : 1 ≤ ns.length := by
    cases ns with
    | nil => exact absurd rfl hne
    | cons _ _ => simp
  refine w_seq (w_sfld ?_)
  repeat walk_at "rd_got"
  refine ⟨p, C, dx, [], rfl, hp, T.cl, T.nL, by decide, ?_⟩
  rw [List.length_map]
  refine w_seq (w_sfld (w_dnew fun d hd => ?_))
  have ndp : d ≠ p := fun z => by rw [z, upd_same] at hd; cases hd
  have hd0 : H d = none := by rw [upd_ne ndp] at hd; exact hd
  repeat walk_at "rd_got"
  refine ⟨p, C, dx, putF "length" (.int ns.length) [], rfl, by rw [upd_ne ndp.symm, upd_same], T.cl, T.nP, by show 1 < 1000; decide, ?_⟩
  have k2 : Kp p H (upd (upd (upd H p (.ins C dx (putF "length" (.int ns.length) []))) d (.dT [])) p (.ins C dx (putF "parts" (.ref d) (putF "length" (.int ns.length) [])))) := fun b o nb hb => by
    rw [upd_ne nb, upd_ne (ne_of_none hb hd0), upd_ne nb]; exact hb
  have A2 : TA C (upd (upd (upd H p (.ins C dx (putF "length" (.int ns.length) []))) d (.dT [])) p (.ins C dx (putF "parts" (.ref d) (putF "length" (.int ns.length) [])))) p d ns.length 0 (fun _ => none) :=
    ⟨⟨dx, upd_same⟩, [], by rw [upd_ne ndp, upd_same], Nat.le_refl _, fun i j P h => by cases h⟩
  generalize upd (upd (upd H p (.ins C dx (putF "length" (.int ns.length) []))) d (.dT [])) p (.ins C dx (putF "parts" (.ref d) (putF "length" (.int ns.length) []))) = H2 at k2 A2 ⊢
  have npr : r ≠ p := ne_of hr hp (fun z => by cases z)
  have o2 := A2.ob
  repeat walk_at "rd_got"
  refine w_rev ?_
  repeat walk_at "rd_got"
  refine ⟨ns.length, rfl, by omega, by omega, fun l us H3 g3 n3 e3 t3 => ?_⟩
  repeat walk_at "rd_got"
  refine ⟨l, us, rfl, SqL.of e3, ?_⟩
  have hlen : us.length = (Tr 0 ns.length).length := by rw [t3.length, prs_len]
  have hz : us.length ≤ 200 := by
    have := Tr_le (a := 0) (b := ns.length) (by omega)
    omega
  obtain ⟨kvs3, ed3, _⟩ := (A2.same g3).di
  have nld : l ≠ d := ne_of e3 ed3 (fun z => by cases z)
  have hr3 : H3 r = some (.lst (ns.map V.int)) := g3 _ _ (k2 _ _ npr hr)
  have nrd : r ≠ d := ne_of hr3 ed3 (fun z => by cases z)
  refine for_rev (xs := us) (fun i σ H' => (∃ o, σ = [some (.ref p), some (.ref r), o]) ∧ Kp d H3 H' ∧ ∃ M, TA C H' p d ns.length i M ∧ ∀ s ∈ (Tr 0 ns.length).drop (us.length - i), M s = some (pt (seg ns s.1 s.2)))
    ⟨⟨_, rfl⟩, (fun _ _ _ h => h), _, A2.same g3, fun s hs => ?_⟩ (fun i σ H' _ w => SqL.of (w.2.1 _ _ nld e3)) ?_ ?_
  · rw [Nat.sub_zero, List.drop_eq_nil_of_le (by omega)] at hs; cases hs
  · rintro i x σ H' hi hx ⟨⟨o, rfl⟩, k, M, A, hM⟩
    obtain ⟨pr, hpr, b, rfl, hb⟩ := t3.get hx
    have : ∃ s, (Tr 0 ns.length)[us.length - 1 - i]? = some s ∧ pr = [s.1, s.2] := by
      unfold prs at hpr
      rw [List.getElem?_map] at hpr
      obtain ⟨s, h1, h2⟩ := Option.map_eq_some_iff.mp hpr
      exact ⟨s, h1, h2.symm⟩
    obtain ⟨⟨a, c⟩, hs, rfl⟩ := this
    have hb' : H' b = some (.tup [.int a, .int c]) := k _ _ (ne_of hb ed3 (fun z => by cases z)) hb
    have sb : SqT K H' b [.int a, .int c] := SqT.of hb'
    have oA := A.ob
    obtain ⟨hlt, hge⟩ := List.getElem?_eq_some_iff.mp hs
    have hsplit : Tr 0 ns.length = (Tr 0 ns.length).take (us.length - 1 - i) ++ (a, c) :: (Tr 0 ns.length).drop (us.length - i) := by
      have e : us.length - i = us.length - 1 - i + 1 := by omega
      rw [e, ← hge, ← List.drop_eq_getElem_cons hlt, List.take_append_drop]
    have hmem := tr_in (show (0 : Int) < ns.length by omega) (List.mem_of_getElem? hs)
    simp only at hmem
    repeat walk_at "rd_got"
    refine ⟨p, d, r, ns.length, i, M, a, c, ns, rfl, A, k _ _ nrd hr3, hmem.1, hmem.2.1, hmem.2.2, fun cc => ?_, fun q1 H4 g4 n4 e4 => ?_⟩
    · have := tr_behind ns.length 0 ns.length (by omega) (by omega) _ _ a c hsplit cc
      exact ⟨hM _ this.1, hM _ this.2⟩
    have A4 := A.same g4
    have o4 := A4.ob
    repeat walk_at "rd_got"
    refine w_putV A4 (by omega) (g4 _ _ hb') e4 fun H5 k5 A5 => ?_
    repeat walk_at "rd_got"
    refine ⟨⟨_, rfl⟩, k.trans (g4.kp.trans k5), _, A5, fun s hs' => ?_⟩
    by_cases z : s = (a, c)
    · rw [z, put_self]
    · rw [put_other z]
      have e : us.length - (i + 1) = us.length - 1 - i := by omega
      rw [e, List.drop_eq_getElem_cons hlt, hge] at hs'
      rcases List.mem_cons.mp hs' with w | w
      · exact absurd w z
      · have e2 : us.length - i = us.length - 1 - i + 1 := by omega
        rw [← e2] at w
        exact hM s w
  · rintro σ H' ⟨_, k, M, A, hM⟩
    refine q d H' hd0 ⟨M, A.le (by omega), fun s hs => hM s (by rw [Nat.sub_self, List.drop_zero]; exact hs)⟩ fun b o nb hb => ?_
    exact k _ _ (ne_of_none hb hd0) (g3 _ _ (k2 _ _ nb hb))
theorem rd_nums (h : spNums C vs H Q E) : (tRet (tLCF (iRng1 (tCons (tFld K (tVar 0) "length") tNil)) 0 (tMeth C "number_at" (spNumAt C) [] XE0 (tVar 1) (tCons (tVar 0) tNil)))) { nx := fun _ H' => Q .non H', rt := Q } (start ["self"] vs) H := by
  obtain ⟨p, d, ns, rfl, t, h100, q⟩ := h
  have o := t.ob
  repeat walk_at "rd_got"
  refine w_isR1 (by omega) (by omega) ?_
  intro r hr
  refine lcf_by (n := ns.length) (by omega) (fun i ys H' => Same H H' ∧ H' r = some (.lst ys) ∧ ys = (ns.take i).map V.int ∧ i ≤ ns.length) (fun i x => x = .int (0 + (i : Int)))
    ⟨same_new hr _, upd_same, rfl, Nat.zero_le _⟩ (fun i ys H' w => ⟨w.2.1, by rw [w.2.2.1, List.length_map, List.length_take]; omega⟩)
    (fun i ys H' hi w => ⟨by show i < (ns.length : Int).toNat; omega, fun x H3 y => y⟩) (fun ys H' w => by show (ns.length : Int).toNat ≤ ns.length; omega) ?_ ?_
  · rintro i x ys H' N hi rfl ⟨g, er, rfl, _⟩ hN
    have t' := t.same g
    have o' := t'.ob
    repeat walk_at "rd_got"
    refine ⟨p, d, ns, 0 + (i : Int), rfl, t', by omega, by omega, fun H2 g2 => ?_⟩
    have e : (0 + (i : Int)).toNat = i := by omega
    rw [e]
    refine hN _ H2 (g2 _ _ er) ⟨same_upd (g.trans g2) hr, upd_same, ?_, hi⟩
    rw [List.take_add_one, List.getElem?_eq_getElem hi, List.map_append, List.getD_eq_getElem?_getD, List.getElem?_eq_getElem hi]
    rfl
  · rintro ys H' ⟨g, er, rfl, _⟩
    rw [List.take_length] at er
    exact q r H' g hr er
theorem rd_day (h : spDay C vs H Q E) : (tSeq (tAsg (tMake C (spInit C) [] XE0 (tCons (tVar 0) tNil)) (gName 2))
    (tSeq (tFor (iList K (tVar 1)) (gName 3) (tDrop (tCall (spAnsTo C) [] XE0 (tCons (tVar 2) (tCons (tVar 3) tNil)))))
    (tRet (tVar 2)))) { nx := fun _ H' => Q .non H', rt := Q } (start ["row", "deeds", "tree", "deed"] vs) H := by
  obtain ⟨a, b, ns, us, ds, rfl, ha, hb, hds, hne, h100, hd100, q⟩ := h
  repeat walk_at "rd_got"
  refine w_mk ?_
  repeat walk_at "rd_got"
  intro p dx np nx _
  refine ⟨p, dx, a, ns, rfl, upd_same, by rw [upd_ne (ne_of_none ha np), upd_ne (ne_of_none ha nx)]; exact ha, hne, h100, fun d H1 nd1 t1 k1 => ⟨rfl, ?_⟩⟩
  have g1 := made np nx k1
  have nd := made_free nd1
  have sb : SqL K H1 b us := SqL.of (g1 _ _ hb)
  repeat walk_at "rd_got"
  refine for_list (xs := us) (fun i σ H' => (∃ o, σ = [some (.ref a), some (.ref b), some (.ref p), o]) ∧ Same H H' ∧ TO C H' p d (day ns (ds.take i)).2) ⟨⟨_, rfl⟩, g1, t1⟩ (fun i σ H' _ w => SqL.of (w.2.1 _ _ hb)) ?_ ?_
  · rintro i x σ H' hx ⟨⟨o, rfl⟩, g, t⟩
    have hi : i < us.length := (List.getElem?_eq_some_iff.mp hx).1
    have hl := hds.len
    obtain ⟨e, u, h1, h2, h3⟩ := ds_get hds (i := i) (by omega)
    rw [hx] at h1
    cases h1
    have ob := t.ob
    repeat walk_at "rd_got"
    refine ⟨p, d, e, _, u, rfl, t, g _ _ h3, by rw [(day_len _ _).2]; exact h100, fun H2 k2 t2 => ?_⟩
    refine ⟨⟨_, rfl⟩, kp_same g nd k2, ?_⟩
    rw [(day_take ds ns i u h2).2]
    exact t2
  · rintro σ H' ⟨⟨o, rfl⟩, g, t⟩
    rw [day_all ns ds (by rw [hds.len]; exact Nat.le_refl _)] at t
    repeat walk_at "rd_got"
    exact q p d H' g t
theorem rd_answers (h : spAnswers K vs H Q E) : (tSeq (tAsg (tMake C (spInit C) [] XE0 (tCons (tVar 0) tNil)) (gName 2))
    (tRet (tLCF (iList K (tVar 1)) 2 (tCall (spAnsTo C) [] XE0 (tCons (tVar 1) (tCons (tVar 0) tNil)))))) { nx := fun _ H' => Q .non H', rt := Q } (start ["row", "deeds", "tree"] vs) H := by
  obtain ⟨a, b, ns, us, ds, rfl, ha, hb, hds, hne, h100, hd100, q⟩ := h
  have hl := hds.len
  repeat walk_at "rd_got"
  refine w_mk ?_
  repeat walk_at "rd_got"
  intro p dx np nx _
  refine ⟨p, dx, a, ns, rfl, upd_same, by rw [upd_ne (ne_of_none ha np), upd_ne (ne_of_none ha nx)]; exact ha, hne, h100, fun d H1 nd1 t1 k1 => ⟨rfl, ?_⟩⟩
  have g1 := made np nx k1
  have nd := made_free nd1
  have sb : SqL K H1 b us := SqL.of (g1 _ _ hb)
  repeat walk_at "rd_got"
  intro r hr
  have hr0 : H r = none := g1.free hr
  obtain ⟨kvs, ed⟩ := t1.dic
  have nrd : r ≠ d := fun z => by rw [z, ed] at hr; cases hr
  refine lcf_by (n := us.length) (by omega) (fun i ys H' => Same H H' ∧ H' r = some (.lst ys) ∧ ys = ((day ns ds).1.take i).map Ans.v ∧ TO C H' p d (day ns (ds.take i)).2 ∧ i ≤ us.length) (fun i x => us[i]? = some x)
    ⟨same_upd g1 hr0, upd_same, rfl, t1.same (same_new hr _), Nat.zero_le _⟩ (fun i ys H' w => ⟨w.2.1, by rw [w.2.2.1, List.length_map, List.length_take, (day_len _ _).1]; have := w.2.2.2.2; omega⟩)
    (fun i ys H' hi w => ⟨⟨us, us[i], SqL.of (w.1 _ _ hb), List.getElem?_eq_getElem hi⟩, fun x H3 y => ⟨y.1, y.2 us (SqL.of (w.1 _ _ hb))⟩⟩) (fun ys H' w => ⟨us, SqL.of (w.1 _ _ hb), Nat.le_refl _⟩) ?_ ?_
  · rintro i x ys H' N hi hx ⟨g, er, rfl, t, _⟩ hN
    obtain ⟨e, u, h1, h2, h3⟩ := ds_get hds (i := i) (by omega)
    rw [hx] at h1
    cases h1
    have ob := t.ob
    repeat walk_at "rd_got"
    refine ⟨p, d, e, _, u, rfl, t, g _ _ h3, by rw [(day_len _ _).2]; exact h100, fun H2 k2 t2 => ?_⟩
    have er2 := k2 _ _ nrd er
    have dt := day_take ds ns i u h2
    refine hN _ H2 er2 ⟨same_upd (kp_same g nd k2) hr0, upd_same, ?_, ?_, hi⟩
    · rw [List.take_add_one, dt.1, List.map_append]
      rfl
    · rw [dt.2]
      exact t2.lst er2
  · rintro ys H' ⟨g, er, rfl, t, _⟩
    rw [List.take_of_length_le (by rw [(day_len _ _).1]; omega)] at er
    exact q r H' g hr0 er
theorem rd_rowB (h : spRowB K vs H Q E) : (tRet (tMeth C "numbers" (spNums C) [] XE0 (tCall (spDay C) [] XE0 (tCons (tVar 0) (tCons (tVar 1) tNil))) tNil)) { nx := fun _ H' => Q .non H', rt := Q } (start ["row", "deeds"] vs) H := by
  obtain ⟨a, b, ns, us, ds, rfl, ha, hb, hds, hne, h100, hd100, q⟩ := h
  repeat walk_at "rd_got"
  refine ⟨a, b, ns, us, ds, rfl, ha, hb, hds, hne, h100, hd100, fun p d H1 g1 t1 => ?_⟩
  have o1 := t1.ob
  repeat walk_at "rd_got"
  exact ⟨p, d, _, rfl, t1, by rw [(day_len _ _).2]; exact h100, fun r H2 g2 n2 e2 => q r H2 (g1.trans g2) (g1.free n2) e2⟩
end
end PT
namespace SL
open PySem L2 K01 K02
def top (i : Nat) : Stmt := PySem.Challenge.pw_stretchtree_k06_row_behind.main.body.getD i (.Pass ⟨0, 0, 0, 0⟩)
abbrev s_middle_of : Stmt := top 11
abbrev s_stretches_within : Stmt := top 10
abbrev s_stretches : Stmt := top 9
abbrev s_part_of_one : Stmt := top 6
abbrev s_joined : Stmt := top 7
abbrev s_part_from_halves : Stmt := inClass (top 13) 2
abbrev s_part_at_first : Stmt := inClass (top 13) 1
abbrev s_init : Stmt := inClass (top 13) 0
abbrev s_has_place : Stmt := inClass (top 13) 3
abbrev s_number_at : Stmt := inClass (top 13) 5
abbrev s_put_within : Stmt := inClass (top 13) 9
abbrev s_put : Stmt := inClass (top 13) 8
abbrev s_set_number : Stmt := top 19
abbrev s_add_to_number : Stmt := top 20
abbrev s_swap_numbers : Stmt := top 21
abbrev s_has_stretch : Stmt := inClass (top 13) 4
abbrev s_part_within : Stmt := inClass (top 13) 11
abbrev s_part_over : Stmt := inClass (top 13) 10
abbrev s_told_of_stretch : Stmt := top 22
abbrev s_reaching_within : Stmt := inClass (top 13) 14
abbrev s_total_ahead_of : Stmt := inClass (top 13) 13
abbrev s_place_reaching : Stmt := inClass (top 13) 12
abbrev s_place_reached : Stmt := top 23
abbrev s_answer_to : Stmt := top 18
abbrev s_tree_of_day : Stmt := top 17
abbrev s_numbers : Stmt := inClass (top 13) 6
abbrev s_row_behind : Stmt := top 16
abbrev s_answers : Stmt := top 15
abbrev s__law_unturned : Stmt := top 25
abbrev s__law_room : Stmt := top 26
abbrev s__law_whole : Stmt := top 27
abbrev s__law_at : Stmt := top 28
abbrev s__law_strung : Stmt := top 30
abbrev s__law_deeds : Stmt := top 31
abbrev s__law_changed : Stmt := top 32
abbrev s__law_answer : Stmt := top 33
abbrev s__law_figures : Stmt := top 29
abbrev s__law_reaches : Stmt := top 34
abbrev s_law : Stmt := top 35
section
variable {P : Program} {w : World} {K : PySem.W.Frag} {mg : Str → Option Value} {base : Heap}
theorem sc_middle_of : FnScope ["start", "stop"] ["start", "stop"] (defScope s_middle_of) := ⟨rfl, rfl, rfl, by decide +kernel, rfl, by decide +kernel, by decide +kernel⟩
set_option maxHeartbeats 4000000 in
theorem ok_middle_of  (F : FunD K mg "middle_of" s_middle_of ["start", "stop"])  : FnD P w K mg base "middle_of" (0 + 1) ["start", "stop"] PT.spMid := by
  refine fnD_of F sc_middle_of (fun vs H Q E h => ?_) (fun f cdv A outer s H vs Q E hr h => ?_)
  · obtain ⟨a, b, rfl, _⟩ := h; rfl
  exact ⟨_, (pss_one (ps_ret (pe_op op_fdiv (pe_op op_add (pe_op op_add (pv 0) (pv 1)) pe_int) pe_int))), PT.rd_middle_of h⟩
theorem sc_stretches_within : FnScope ["start", "stop", "middle"] ["start", "stop"] (defScope s_stretches_within) := ⟨rfl, rfl, rfl, by decide +kernel, rfl, by decide +kernel, by decide +kernel⟩
set_option maxHeartbeats 4000000 in
theorem ok_stretches_within {n : Nat}  (F : FunD K mg "stretches_within" s_stretches_within ["start", "stop"]) (F_middle_of : FnD P w K mg base "middle_of" (1) ["start", "stop"] PT.spMid) (F_stretches_within : FnD P w K mg base "stretches_within" (n + 1) ["start", "stop"] (PT.spW n)) : FnD P w K mg base "stretches_within" (n + 1 + 1) ["start", "stop"] (PT.spW (n + 1)) := by
  refine fnD_of F sc_stretches_within (fun vs H Q E h => ?_) (fun f cdv A outer s H vs Q E hr h => ?_)
  · obtain ⟨a, b, rfl, _⟩ := h; rfl
  exact ⟨_, (pss_cons (ps_if (pt_cmpR op_lt (pe_op op_sub (pv 1) (pv 0)) pe_int (nomark _)) (pss_one (ps_ret (pe_lst (pa_cons (pe_tup (pa_cons (pv 0) (pa_cons (pv 1) pa_nil))) pa_nil)))) pss_nil)
    (pss_cons (ps_set (i := 2) sc_stretches_within.nd rfl (Or.inl rfl) (pe_fn F_middle_of (by omega) hr rfl (pa_cons (pv 0) (pa_cons (pv 1) pa_nil))))
    (pss_one (ps_ret (pe_op op_cat (pe_op op_cat (pe_lst (pa_cons (pe_tup (pa_cons (pv 0) (pa_cons (pv 1) pa_nil))) pa_nil)) (pe_fn F_stretches_within (by omega) hr rfl (pa_cons (pv 0) (pa_cons (pv 2) pa_nil)))) (pe_fn F_stretches_within (by omega) hr rfl (pa_cons (pv 2) (pa_cons (pv 1) pa_nil)))))))), PT.rd_within h⟩
theorem sc_stretches : FnScope ["count"] ["count"] (defScope s_stretches) := ⟨rfl, rfl, rfl, by decide +kernel, rfl, by decide +kernel, by decide +kernel⟩
set_option maxHeartbeats 4000000 in
theorem ok_stretches  (F : FunD K mg "stretches" s_stretches ["count"]) (F_stretches_within : FnD P w K mg base "stretches_within" (101) ["start", "stop"] (PT.spW 100)) : FnD P w K mg base "stretches" (101 + 1) ["count"] PT.spStr := by
  refine fnD_of F sc_stretches (fun vs H Q E h => ?_) (fun f cdv A outer s H vs Q E hr h => ?_)
  · obtain ⟨b, rfl, _⟩ := h; rfl
  exact ⟨_, (pss_one (ps_ret (pe_fn F_stretches_within (by omega) hr rfl (pa_cons pe_int (pa_cons (pv 0) pa_nil))))), PT.rd_stretches (n := 100) (by decide) h⟩
theorem sc_part_of_one : FnScope ["number"] ["number"] (defScope s_part_of_one) := ⟨rfl, rfl, rfl, by decide +kernel, rfl, by decide +kernel, by decide +kernel⟩
set_option maxHeartbeats 4000000 in
theorem ok_part_of_one  (F : FunD K mg "part_of_one" s_part_of_one ["number"])  : FnD P w K mg base "part_of_one" (0 + 1) ["number"] K01.spOne := by
  refine fnD_of F sc_part_of_one (fun vs H Q E h => ?_) (fun f cdv A outer s H vs Q E hr h => ?_)
  · obtain ⟨n, rfl, _⟩ := h; rfl
  exact ⟨_, (pss_one (ps_ret (pe_tup (pa_cons (pv 0) (pa_cons (pv 0) (pa_cons (pv 0) (pa_cons (pv 0) pa_nil))))))), K01.rd_one h⟩
theorem sc_joined : FnScope ["one", "other"] ["one", "other"] (defScope s_joined) := ⟨rfl, rfl, rfl, by decide +kernel, rfl, by decide +kernel, by decide +kernel⟩
set_option maxHeartbeats 4000000 in
theorem ok_joined  (F : FunD K mg "joined" s_joined ["one", "other"]) {t_GREATEST : Tok} (m_GREATEST : mg "GREATEST" = some (.int 2 t_GREATEST)) {t_LEAST : Tok} (m_LEAST : mg "LEAST" = some (.int 1 t_LEAST)) {t_REACH : Tok} (m_REACH : mg "REACH" = some (.int 3 t_REACH)) {t_TOTAL : Tok} (m_TOTAL : mg "TOTAL" = some (.int 0 t_TOTAL)) (m_max : mg "max" = none) (m_min : mg "min" = none) : FnD P w K mg base "joined" (0 + 1) ["one", "other"] (K01.spJoined K) := by
  refine fnD_of F sc_joined (fun vs H Q E h => ?_) (fun f cdv A outer s H vs Q E hr h => ?_)
  · obtain ⟨a, b, p, q, rfl, _⟩ := h; rfl
  exact ⟨_, (pss_one (ps_ret (pe_tup (pa_cons (pe_op op_add (pe_ix ix_tup (pv 0) (pe_glob (v := (.int 0)) rfl m_TOTAL ⟨_, rfl⟩) (fun _ _ => rfl)) (pe_ix ix_tup (pv 1) (pe_glob (v := (.int 0)) rfl m_TOTAL ⟨_, rfl⟩) (fun _ _ => rfl))) (pa_cons (pe_callB (call_min2' rfl) rfl m_min PyProof.Rows.boot_min (pa_cons (pe_ix ix_tup (pv 0) (pe_glob (v := (.int 1)) rfl m_LEAST ⟨_, rfl⟩) (fun _ _ => rfl)) (pa_cons (pe_ix ix_tup (pv 1) (pe_glob (v := (.int 1)) rfl m_LEAST ⟨_, rfl⟩) (fun _ _ => rfl)) pa_nil))) (pa_cons (pe_callB (call_max2' rfl) rfl m_max PyProof.Rows.boot_max (pa_cons (pe_ix ix_tup (pv 0) (pe_glob (v := (.int 2)) rfl m_GREATEST ⟨_, rfl⟩) (fun _ _ => rfl)) (pa_cons (pe_ix ix_tup (pv 1) (pe_glob (v := (.int 2)) rfl m_GREATEST ⟨_, rfl⟩) (fun _ _ => rfl)) pa_nil))) (pa_cons (pe_callB (call_max2' rfl) rfl m_max PyProof.Rows.boot_max (pa_cons (pe_ix ix_tup (pv 0) (pe_glob (v := (.int 3)) rfl m_REACH ⟨_, rfl⟩) (fun _ _ => rfl)) (pa_cons (pe_op op_add (pe_ix ix_tup (pv 0) (pe_glob (v := (.int 0)) rfl m_TOTAL ⟨_, rfl⟩) (fun _ _ => rfl)) (pe_ix ix_tup (pv 1) (pe_glob (v := (.int 3)) rfl m_REACH ⟨_, rfl⟩) (fun _ _ => rfl))) pa_nil))) pa_nil))))))), K01.rd_joined h⟩
theorem sc_part_from_halves : FnScope ["self", "start", "stop", "middle"] ["self", "start", "stop"] (defScope s_part_from_halves) := ⟨rfl, rfl, rfl, by decide +kernel, rfl, by decide +kernel, by decide +kernel⟩
set_option maxHeartbeats 4000000 in
theorem ok_part_from_halves {C : Addr} (T : Txt K C) (F : FunM K C "part_from_halves" "Tree.part_from_halves" s_part_from_halves ["self", "start", "stop"]) (F_middle_of : FnD P w K mg base "middle_of" (1) ["start", "stop"] PT.spMid) (F_joined : FnD P w K mg base "joined" (1) ["one", "other"] (K01.spJoined K)) : MthD P w K mg base C "part_from_halves" (1 + 1) ["self", "start", "stop"] (PT.spHalves C) := by
  refine mthD_of F sc_part_from_halves (fun vs H Q E h => ?_) (fun f cdv A outer s H vs Q E hr h => ?_)
  · obtain ⟨p, d, N, L, M, a, b, P1, P2, rfl, _⟩ := h; rfl
  exact ⟨_, (pss_cons (ps_set (i := 3) sc_part_from_halves.nd rfl (Or.inl rfl) (pe_fn F_middle_of (by omega) hr rfl (pa_cons (pv 1) (pa_cons (pv 2) pa_nil))))
    (pss_one (ps_ret (pe_fn F_joined (by omega) hr rfl (pa_cons (pe_dget (hu_of hr) (pe_fld (pv 0) rfl) (pe_tup (pa_cons (pv 1) (pa_cons (pv 3) pa_nil))) (fun _ _ => rfl)) (pa_cons (pe_dget (hu_of hr) (pe_fld (pv 0) rfl) (pe_tup (pa_cons (pv 3) (pa_cons (pv 2) pa_nil))) (fun _ _ => rfl)) pa_nil)))))), PT.rd_halves T h⟩
theorem sc_part_at_first : FnScope ["self", "row", "start", "stop"] ["self", "row", "start", "stop"] (defScope s_part_at_first) := ⟨rfl, rfl, rfl, by decide +kernel, rfl, by decide +kernel, by decide +kernel⟩
set_option maxHeartbeats 4000000 in
theorem ok_part_at_first {C : Addr} (T : Txt K C) (F : FunM K C "part_at_first" "Tree.part_at_first" s_part_at_first ["self", "row", "start", "stop"]) (F_part_of_one : FnD P w K mg base "part_of_one" (1) ["number"] K01.spOne) (F_part_from_halves : MthD P w K mg base C "part_from_halves" (2) ["self", "start", "stop"] (PT.spHalves C)) : MthD P w K mg base C "part_at_first" (2 + 1) ["self", "row", "start", "stop"] (PT.spFirst C) := by
  refine mthD_of F sc_part_at_first (fun vs H Q E h => ?_) (fun f cdv A outer s H vs Q E hr h => ?_)
  · obtain ⟨p, d, r, N, L, M, a, b, ns, rfl, _⟩ := h; rfl
  exact ⟨_, (pss_cons (ps_if (pt_cmpR op_eq (pe_op op_sub (pv 3) (pv 2)) pe_int (nomark _)) (pss_one (ps_ret (pe_fn F_part_of_one (by omega) hr rfl (pa_cons (pe_ix ix_list (pv 1) (pv 2) (fun _ _ => rfl)) pa_nil)))) pss_nil)
    (pss_one (ps_ret (pe_mth F_part_from_halves (by omega) hr T (pv 0) (pa_cons (pv 2) (pa_cons (pv 3) pa_nil)))))), PT.rd_first T h⟩
theorem sc_init : FnScope ["self", "row", "stretch"] ["self", "row"] (defScope s_init) := ⟨rfl, rfl, rfl, by decide +kernel, rfl, by decide +kernel, by decide +kernel⟩
set_option maxHeartbeats 4000000 in
theorem ok_init {C : Addr} (T : Txt K C) (F : FunI K mg C "Tree" "Tree.__init__" s_init ["self", "row"]) (F_stretches : FnD P w K mg base "stretches" (102) ["count"] PT.spStr) (F_part_at_first : MthD P w K mg base C "part_at_first" (3) ["self", "row", "start", "stop"] (PT.spFirst C)) (m_len : mg "len" = none) (m_reversed : mg "reversed" = none) : MkD P w K mg base C "Tree" (102 + 1) ["self", "row"] (PT.spInit C) := by
  refine mkD_of F sc_init (fun vs H Q E h => ?_) (fun f cdv A outer s H vs Q E hr h => ?_)
  · obtain ⟨p, dx, r, ns, rfl, _⟩ := h; rfl
  exact ⟨_, (pss_cons (ps_fld (pv 0) (pe_callB call_len' rfl m_len PySem.boot_len (pa_cons (pv 1) pa_nil)) rfl)
    (pss_cons (ps_fld (pv 0) pe_dnewT rfl)
    (pss_one (ps_for PassesOwn.never rfl (pi_rev rfl m_reversed (pa_cons (pe_fn F_stretches (by omega) hr rfl (pa_cons (pe_fld (pv 0) rfl) pa_nil)) pa_nil)) (pg_name (i := 2) sc_init.nd rfl (Or.inl rfl)) (pss_one (ps_dput (hu_of hr) (pe_fld (pv 0) rfl) (pv 2) (pe_mth F_part_at_first (by omega) hr T (pv 0) (pa_cons (pv 1) (pa_cons (pe_ix ix_tup (pv 2) pe_int (fun _ _ => rfl)) (pa_cons (pe_ix ix_tup (pv 2) pe_int (fun _ _ => rfl)) pa_nil)))) rfl)))))), PT.rd_init T h⟩
theorem sc_has_place : FnScope ["self", "place"] ["self", "place"] (defScope s_has_place) := ⟨rfl, rfl, rfl, by decide +kernel, rfl, by decide +kernel, by decide +kernel⟩
set_option maxHeartbeats 4000000 in
theorem ok_has_place {C : Addr} (T : Txt K C) (F : FunM K C "has_place" "Tree.has_place" s_has_place ["self", "place"])  : MthD P w K mg base C "has_place" (0 + 1) ["self", "place"] (PT.spHasP C) := by
  refine mthD_of F sc_has_place (fun vs H Q E h => ?_) (fun f cdv A outer s H vs Q E hr h => ?_)
  · obtain ⟨p, d, N, x, rfl, _⟩ := h; rfl
  exact ⟨_, (pss_one (ps_ret (pe_chain op_le op_lt pe_int (pv 1) (pe_fld (pv 0) rfl)))), PT.rd_hasP T h⟩
theorem sc_number_at : FnScope ["self", "place"] ["self", "place"] (defScope s_number_at) := ⟨rfl, rfl, rfl, by decide +kernel, rfl, by decide +kernel, by decide +kernel⟩
set_option maxHeartbeats 4000000 in
theorem ok_number_at {C : Addr} (T : Txt K C) (F : FunM K C "number_at" "Tree.number_at" s_number_at ["self", "place"]) {t_TOTAL : Tok} (m_TOTAL : mg "TOTAL" = some (.int 0 t_TOTAL)) : MthD P w K mg base C "number_at" (0 + 1) ["self", "place"] (PT.spNumAt C) := by
  refine mthD_of F sc_number_at (fun vs H Q E h => ?_) (fun f cdv A outer s H vs Q E hr h => ?_)
  · obtain ⟨p, d, ns, x, rfl, _⟩ := h; rfl
  exact ⟨_, (pss_one (ps_ret (pe_ix ix_tup (pe_dget (hu_of hr) (pe_fld (pv 0) rfl) (pe_tup (pa_cons (pv 1) (pa_cons (pe_op op_add (pv 1) pe_int) pa_nil))) (fun _ _ => rfl)) (pe_glob (v := (.int 0)) rfl m_TOTAL ⟨_, rfl⟩) (fun _ _ => rfl)))), PT.rd_numAt T h⟩
theorem sc_put_within : FnScope ["self", "start", "stop", "place", "number", "middle"] ["self", "start", "stop", "place", "number"] (defScope s_put_within) := ⟨rfl, rfl, rfl, by decide +kernel, rfl, by decide +kernel, by decide +kernel⟩
set_option maxHeartbeats 4000000 in
theorem ok_put_within {n : Nat} {C : Addr} (T : Txt K C) (F : FunM K C "put_within" "Tree.put_within" s_put_within ["self", "start", "stop", "place", "number"]) (F_part_of_one : FnD P w K mg base "part_of_one" (1) ["number"] K01.spOne) (F_middle_of : FnD P w K mg base "middle_of" (1) ["start", "stop"] PT.spMid) (F_put_within : MthD P w K mg base C "put_within" (n + 3) ["self", "start", "stop", "place", "number"] (PT.spPutW C n)) (F_part_from_halves : MthD P w K mg base C "part_from_halves" (2) ["self", "start", "stop"] (PT.spHalves C)) : MthD P w K mg base C "put_within" (n + 3 + 1) ["self", "start", "stop", "place", "number"] (PT.spPutW C (n + 1)) := by
  refine mthD_of F sc_put_within (fun vs H Q E h => ?_) (fun f cdv A outer s H vs Q E hr h => ?_)
  · obtain ⟨p, d, N, M, ns, a, b, x, v, rfl, _⟩ := h; rfl
  exact ⟨_, (pss_cons (ps_if (pt_cmpR op_eq (pe_op op_sub (pv 2) (pv 1)) pe_int (nomark _)) (pss_cons (ps_dput (hu_of hr) (pe_fld (pv 0) rfl) (pe_tup (pa_cons (pv 1) (pa_cons (pv 2) pa_nil))) (pe_fn F_part_of_one (by omega) hr rfl (pa_cons (pv 4) pa_nil)) rfl)
    (pss_one ps_retN)) pss_nil)
    (pss_cons (ps_set (i := 5) sc_put_within.nd rfl (Or.inl rfl) (pe_fn F_middle_of (by omega) hr rfl (pa_cons (pv 1) (pa_cons (pv 2) pa_nil))))
    (pss_cons (ps_if (pt_cmpR op_lt (pv 3) (pv 5) (nomark _)) (pss_one (ps_expr (pe_mth F_put_within (by omega) hr T (pv 0) (pa_cons (pv 1) (pa_cons (pv 5) (pa_cons (pv 3) (pa_cons (pv 4) pa_nil))))))) (pss_one (ps_expr (pe_mth F_put_within (by omega) hr T (pv 0) (pa_cons (pv 5) (pa_cons (pv 2) (pa_cons (pv 3) (pa_cons (pv 4) pa_nil))))))))
    (pss_one (ps_dput (hu_of hr) (pe_fld (pv 0) rfl) (pe_tup (pa_cons (pv 1) (pa_cons (pv 2) pa_nil))) (pe_mth F_part_from_halves (by omega) hr T (pv 0) (pa_cons (pv 1) (pa_cons (pv 2) pa_nil))) rfl))))), PT.rd_putW T h⟩
theorem sc_put : FnScope ["self", "place", "number"] ["self", "place", "number"] (defScope s_put) := ⟨rfl, rfl, rfl, by decide +kernel, rfl, by decide +kernel, by decide +kernel⟩
set_option maxHeartbeats 4000000 in
theorem ok_put {C : Addr} (T : Txt K C) (F : FunM K C "put" "Tree.put" s_put ["self", "place", "number"]) (F_put_within : MthD P w K mg base C "put_within" (103) ["self", "start", "stop", "place", "number"] (PT.spPutW C 100)) : MthD P w K mg base C "put" (103 + 1) ["self", "place", "number"] (PT.spPut C) := by
  refine mthD_of F sc_put (fun vs H Q E h => ?_) (fun f cdv A outer s H vs Q E hr h => ?_)
  · obtain ⟨p, d, ns, x, v, rfl, _⟩ := h; rfl
  exact ⟨_, (pss_one (ps_expr (pe_mth F_put_within (by omega) hr T (pv 0) (pa_cons pe_int (pa_cons (pe_fld (pv 0) rfl) (pa_cons (pv 1) (pa_cons (pv 2) pa_nil))))))), PT.rd_put (n := 100) T (by decide) h⟩
theorem sc_set_number : FnScope ["tree", "place", "value", "old"] ["tree", "place", "value"] (defScope s_set_number) := ⟨rfl, rfl, rfl, by decide +kernel, rfl, by decide +kernel, by decide +kernel⟩
set_option maxHeartbeats 4000000 in
theorem ok_set_number {C : Addr} (T : Txt K C) (F : FunD K mg "set_number" s_set_number ["tree", "place", "value"]) (F_has_place : MthD P w K mg base C "has_place" (1) ["self", "place"] (PT.spHasP C)) (F_number_at : MthD P w K mg base C "number_at" (1) ["self", "place"] (PT.spNumAt C)) (F_put : MthD P w K mg base C "put" (104) ["self", "place", "number"] (PT.spPut C)) : FnD P w K mg base "set_number" (104 + 1) ["tree", "place", "value"] (PT.spSet C) := by
  refine fnD_of F sc_set_number (fun vs H Q E h => ?_) (fun f cdv A outer s H vs Q E hr h => ?_)
  · obtain ⟨p, d, ns, x, y, rfl, _⟩ := h; rfl
  exact ⟨_, (pss_cons (ps_if (pt_not (pt_val (pe_mth F_has_place (by omega) hr T (pv 0) (pa_cons (pv 1) pa_nil)))) (pss_one (ps_ret pe_non)) pss_nil)
    (pss_cons (ps_set (i := 3) sc_set_number.nd rfl (Or.inl rfl) (pe_mth F_number_at (by omega) hr T (pv 0) (pa_cons (pv 1) pa_nil)))
    (pss_cons (ps_expr (pe_mth F_put (by omega) hr T (pv 0) (pa_cons (pv 1) (pa_cons (pv 2) pa_nil))))
    (pss_one (ps_ret (pv 3)))))), PT.rd_set T h⟩
theorem sc_add_to_number : FnScope ["tree", "place", "value", "grown"] ["tree", "place", "value"] (defScope s_add_to_number) := ⟨rfl, rfl, rfl, by decide +kernel, rfl, by decide +kernel, by decide +kernel⟩
set_option maxHeartbeats 4000000 in
theorem ok_add_to_number {C : Addr} (T : Txt K C) (F : FunD K mg "add_to_number" s_add_to_number ["tree", "place", "value"]) (F_has_place : MthD P w K mg base C "has_place" (1) ["self", "place"] (PT.spHasP C)) (F_number_at : MthD P w K mg base C "number_at" (1) ["self", "place"] (PT.spNumAt C)) (F_put : MthD P w K mg base C "put" (104) ["self", "place", "number"] (PT.spPut C)) : FnD P w K mg base "add_to_number" (104 + 1) ["tree", "place", "value"] (PT.spAdd C) := by
  refine fnD_of F sc_add_to_number (fun vs H Q E h => ?_) (fun f cdv A outer s H vs Q E hr h => ?_)
  · obtain ⟨p, d, ns, x, y, rfl, _⟩ := h; rfl
  exact ⟨_, (pss_cons (ps_if (pt_not (pt_val (pe_mth F_has_place (by omega) hr T (pv 0) (pa_cons (pv 1) pa_nil)))) (pss_one (ps_ret pe_non)) pss_nil)
    (pss_cons (ps_set (i := 3) sc_add_to_number.nd rfl (Or.inl rfl) (pe_op op_add (pe_mth F_number_at (by omega) hr T (pv 0) (pa_cons (pv 1) pa_nil)) (pv 2)))
    (pss_cons (ps_expr (pe_mth F_put (by omega) hr T (pv 0) (pa_cons (pv 1) (pa_cons (pv 3) pa_nil))))
    (pss_one (ps_ret (pv 3)))))), PT.rd_add T h⟩
theorem sc_swap_numbers : FnScope ["tree", "one", "two", "number_at_one"] ["tree", "one", "two"] (defScope s_swap_numbers) := ⟨rfl, rfl, rfl, by decide +kernel, rfl, by decide +kernel, by decide +kernel⟩
set_option maxHeartbeats 4000000 in
theorem ok_swap_numbers {C : Addr} (T : Txt K C) (F : FunD K mg "swap_numbers" s_swap_numbers ["tree", "one", "two"]) (F_has_place : MthD P w K mg base C "has_place" (1) ["self", "place"] (PT.spHasP C)) (F_number_at : MthD P w K mg base C "number_at" (1) ["self", "place"] (PT.spNumAt C)) (F_put : MthD P w K mg base C "put" (104) ["self", "place", "number"] (PT.spPut C)) : FnD P w K mg base "swap_numbers" (104 + 1) ["tree", "one", "two"] (PT.spSwap C) := by
  refine fnD_of F sc_swap_numbers (fun vs H Q E h => ?_) (fun f cdv A outer s H vs Q E hr h => ?_)
  · obtain ⟨p, d, ns, x, y, rfl, _⟩ := h; rfl
  exact ⟨_, (pss_cons (ps_if (PW.pt (pw_or (pt_not (pt_val (pe_mth F_has_place (by omega) hr T (pv 0) (pa_cons (pv 1) pa_nil)))) (pw_or1 (pt_not (pt_val (pe_mth F_has_place (by omega) hr T (pv 0) (pa_cons (pv 2) pa_nil))))))) (pss_one (ps_ret pe_non)) pss_nil)
    (pss_cons (ps_set (i := 3) sc_swap_numbers.nd rfl (Or.inl rfl) (pe_mth F_number_at (by omega) hr T (pv 0) (pa_cons (pv 1) pa_nil)))
    (pss_cons (ps_expr (pe_mth F_put (by omega) hr T (pv 0) (pa_cons (pv 1) (pa_cons (pe_mth F_number_at (by omega) hr T (pv 0) (pa_cons (pv 2) pa_nil)) pa_nil))))
    (pss_cons (ps_expr (pe_mth F_put (by omega) hr T (pv 0) (pa_cons (pv 2) (pa_cons (pv 3) pa_nil))))
    (pss_one (ps_ret pe_bl)))))), PT.rd_swap T h⟩
theorem sc_has_stretch : FnScope ["self", "start", "stop"] ["self", "start", "stop"] (defScope s_has_stretch) := ⟨rfl, rfl, rfl, by decide +kernel, rfl, by decide +kernel, by decide +kernel⟩
set_option maxHeartbeats 4000000 in
theorem ok_has_stretch {C : Addr} (T : Txt K C) (F : FunM K C "has_stretch" "Tree.has_stretch" s_has_stretch ["self", "start", "stop"])  : MthD P w K mg base C "has_stretch" (0 + 1) ["self", "start", "stop"] (PT.spHasS C) := by
  refine mthD_of F sc_has_stretch (fun vs H Q E h => ?_) (fun f cdv A outer s H vs Q E hr h => ?_)
  · obtain ⟨p, d, N, x, y, rfl, _⟩ := h; rfl
  exact ⟨_, (pss_one (ps_ret (pe_chain3 op_le op_lt op_le pe_int (pv 1) (pv 2) (pe_fld (pv 0) rfl)))), PT.rd_hasS T h⟩
theorem sc_part_within : FnScope ["self", "start", "stop", "begin", "end", "middle", "left", "right"] ["self", "start", "stop", "begin", "end"] (defScope s_part_within) := ⟨rfl, rfl, rfl, by decide +kernel, rfl, by decide +kernel, by decide +kernel⟩
set_option maxHeartbeats 4000000 in
theorem ok_part_within {n : Nat} {C : Addr} (T : Txt K C) (F : FunM K C "part_within" "Tree.part_within" s_part_within ["self", "start", "stop", "begin", "end"]) (F_middle_of : FnD P w K mg base "middle_of" (1) ["start", "stop"] PT.spMid) (F_part_within : MthD P w K mg base C "part_within" (n + 2) ["self", "start", "stop", "begin", "end"] (PT.spPartW C n)) (F_joined : FnD P w K mg base "joined" (1) ["one", "other"] (K01.spJoined K)) : MthD P w K mg base C "part_within" (n + 2 + 1) ["self", "start", "stop", "begin", "end"] (PT.spPartW C (n + 1)) := by
  refine mthD_of F sc_part_within (fun vs H Q E h => ?_) (fun f cdv A outer s H vs Q E hr h => ?_)
  · obtain ⟨p, d, N, L, M, ns, a, b, x, y, rfl, _⟩ := h; rfl
  exact ⟨_, (pss_cons (ps_if (PW.pt (pw_and (pt_cmpR op_eq (pv 1) (pv 3) (nomark _)) (pw_and1 (pt_cmpR op_eq (pv 2) (pv 4) (nomark _))))) (pss_one (ps_ret (pe_dget (hu_of hr) (pe_fld (pv 0) rfl) (pe_tup (pa_cons (pv 1) (pa_cons (pv 2) pa_nil))) (fun _ _ => rfl)))) pss_nil)
    (pss_cons (ps_set (i := 5) sc_part_within.nd rfl (Or.inl rfl) (pe_fn F_middle_of (by omega) hr rfl (pa_cons (pv 1) (pa_cons (pv 2) pa_nil))))
    (pss_cons (ps_if (pt_cmpR op_le (pv 4) (pv 5) (nomark _)) (pss_one (ps_ret (pe_mth F_part_within (by omega) hr T (pv 0) (pa_cons (pv 1) (pa_cons (pv 5) (pa_cons (pv 3) (pa_cons (pv 4) pa_nil))))))) pss_nil)
    (pss_cons (ps_if (pt_cmpR op_ge (pv 3) (pv 5) (nomark _)) (pss_one (ps_ret (pe_mth F_part_within (by omega) hr T (pv 0) (pa_cons (pv 5) (pa_cons (pv 2) (pa_cons (pv 3) (pa_cons (pv 4) pa_nil))))))) pss_nil)
    (pss_cons (ps_set (i := 6) sc_part_within.nd rfl (Or.inl rfl) (pe_mth F_part_within (by omega) hr T (pv 0) (pa_cons (pv 1) (pa_cons (pv 5) (pa_cons (pv 3) (pa_cons (pv 5) pa_nil))))))
    (pss_cons (ps_set (i := 7) sc_part_within.nd rfl (Or.inl rfl) (pe_mth F_part_within (by omega) hr T (pv 0) (pa_cons (pv 5) (pa_cons (pv 2) (pa_cons (pv 5) (pa_cons (pv 4) pa_nil))))))
    (pss_one (ps_ret (pe_fn F_joined (by omega) hr rfl (pa_cons (pv 6) (pa_cons (pv 7) pa_nil))))))))))), PT.rd_partW T h⟩
theorem sc_part_over : FnScope ["self", "begin", "end"] ["self", "begin", "end"] (defScope s_part_over) := ⟨rfl, rfl, rfl, by decide +kernel, rfl, by decide +kernel, by decide +kernel⟩
set_option maxHeartbeats 4000000 in
theorem ok_part_over {C : Addr} (T : Txt K C) (F : FunM K C "part_over" "Tree.part_over" s_part_over ["self", "begin", "end"]) (F_part_within : MthD P w K mg base C "part_within" (102) ["self", "start", "stop", "begin", "end"] (PT.spPartW C 100)) : MthD P w K mg base C "part_over" (102 + 1) ["self", "begin", "end"] (PT.spOver C) := by
  refine mthD_of F sc_part_over (fun vs H Q E h => ?_) (fun f cdv A outer s H vs Q E hr h => ?_)
  · obtain ⟨p, d, ns, x, y, rfl, _⟩ := h; rfl
  exact ⟨_, (pss_one (ps_ret (pe_mth F_part_within (by omega) hr T (pv 0) (pa_cons pe_int (pa_cons (pe_fld (pv 0) rfl) (pa_cons (pv 1) (pa_cons (pv 2) pa_nil))))))), PT.rd_over (n := 100) T (by decide) h⟩
theorem sc_told_of_stretch : FnScope ["tree", "start", "stop", "which"] ["tree", "start", "stop", "which"] (defScope s_told_of_stretch) := ⟨rfl, rfl, rfl, by decide +kernel, rfl, by decide +kernel, by decide +kernel⟩
set_option maxHeartbeats 4000000 in
theorem ok_told_of_stretch {C : Addr} (T : Txt K C) (F : FunD K mg "told_of_stretch" s_told_of_stretch ["tree", "start", "stop", "which"]) (F_has_stretch : MthD P w K mg base C "has_stretch" (1) ["self", "start", "stop"] (PT.spHasS C)) (F_part_over : MthD P w K mg base C "part_over" (103) ["self", "begin", "end"] (PT.spOver C)) : FnD P w K mg base "told_of_stretch" (103 + 1) ["tree", "start", "stop", "which"] (PT.spTold C) := by
  refine fnD_of F sc_told_of_stretch (fun vs H Q E h => ?_) (fun f cdv A outer s H vs Q E hr h => ?_)
  · obtain ⟨p, d, ns, k, x, y, w, rfl, _⟩ := h; rfl
  exact ⟨_, (pss_cons (ps_if (pt_not (pt_val (pe_mth F_has_stretch (by omega) hr T (pv 0) (pa_cons (pv 1) (pa_cons (pv 2) pa_nil))))) (pss_one (ps_ret pe_non)) pss_nil)
    (pss_one (ps_ret (pe_ix ix_tup (pe_mth F_part_over (by omega) hr T (pv 0) (pa_cons (pv 1) (pa_cons (pv 2) pa_nil))) (pv 3) (fun _ _ => rfl))))), PT.rd_told T h⟩
theorem sc_reaching_within : FnScope ["self", "start", "stop", "begin", "mark", "middle", "place", "rest"] ["self", "start", "stop", "begin", "mark"] (defScope s_reaching_within) := ⟨rfl, rfl, rfl, by decide +kernel, rfl, by decide +kernel, by decide +kernel⟩
set_option maxHeartbeats 4000000 in
theorem ok_reaching_within {n : Nat} {C : Addr} (T : Txt K C) (F : FunM K C "reaching_within" "Tree.reaching_within" s_reaching_within ["self", "start", "stop", "begin", "mark"]) (F_middle_of : FnD P w K mg base "middle_of" (1) ["start", "stop"] PT.spMid) (F_reaching_within : MthD P w K mg base C "reaching_within" (n + 2) ["self", "start", "stop", "begin", "mark"] (PT.spReachW C n)) {t_REACH : Tok} (m_REACH : mg "REACH" = some (.int 3 t_REACH)) {t_TOTAL : Tok} (m_TOTAL : mg "TOTAL" = some (.int 0 t_TOTAL)) : MthD P w K mg base C "reaching_within" (n + 2 + 1) ["self", "start", "stop", "begin", "mark"] (PT.spReachW C (n + 1)) := by
  refine mthD_of F sc_reaching_within (fun vs H Q E h => ?_) (fun f cdv A outer s H vs Q E hr h => ?_)
  · obtain ⟨p, d, N, L, M, ns, a, b, x, m, rfl, _⟩ := h; rfl
  exact ⟨_, (pss_cons (ps_if (PW.pt (pw_or (pt_cmpR op_le (pv 2) (pv 3) (nomark _)) (pw_or1 (pt_cmpR op_lt (pe_ix ix_tup (pe_dget (hu_of hr) (pe_fld (pv 0) rfl) (pe_tup (pa_cons (pv 1) (pa_cons (pv 2) pa_nil))) (fun _ _ => rfl)) (pe_glob (v := (.int 3)) rfl m_REACH ⟨_, rfl⟩) (fun _ _ => rfl)) (pv 4) (nomark _))))) (pss_one (ps_ret pe_non)) pss_nil)
    (pss_cons (ps_if (pt_cmpR op_eq (pe_op op_sub (pv 2) (pv 1)) pe_int (nomark _)) (pss_one (ps_ret (pv 1))) pss_nil)
    (pss_cons (ps_set (i := 5) sc_reaching_within.nd rfl (Or.inl rfl) (pe_fn F_middle_of (by omega) hr rfl (pa_cons (pv 1) (pa_cons (pv 2) pa_nil))))
    (pss_cons (ps_set (i := 6) sc_reaching_within.nd rfl (Or.inl rfl) (pe_mth F_reaching_within (by omega) hr T (pv 0) (pa_cons (pv 1) (pa_cons (pv 5) (pa_cons (pv 3) (pa_cons (pv 4) pa_nil))))))
    (pss_cons (ps_if (pt_cmpR op_isN (pv 6) pe_non (nomark _)) (pss_cons (ps_set (i := 7) sc_reaching_within.nd rfl (Or.inl rfl) (pe_op op_sub (pv 4) (pe_ix ix_tup (pe_dget (hu_of hr) (pe_fld (pv 0) rfl) (pe_tup (pa_cons (pv 1) (pa_cons (pv 5) pa_nil))) (fun _ _ => rfl)) (pe_glob (v := (.int 0)) rfl m_TOTAL ⟨_, rfl⟩) (fun _ _ => rfl))))
    (pss_one (ps_set (i := 6) sc_reaching_within.nd rfl (Or.inl rfl) (pe_mth F_reaching_within (by omega) hr T (pv 0) (pa_cons (pv 5) (pa_cons (pv 2) (pa_cons (pv 3) (pa_cons (pv 7) pa_nil)))))))) pss_nil)
    (pss_one (ps_ret (pv 6)))))))), PT.rd_reachW T h⟩
theorem sc_total_ahead_of : FnScope ["self", "place"] ["self", "place"] (defScope s_total_ahead_of) := ⟨rfl, rfl, rfl, by decide +kernel, rfl, by decide +kernel, by decide +kernel⟩
set_option maxHeartbeats 4000000 in
theorem ok_total_ahead_of {C : Addr} (T : Txt K C) (F : FunM K C "total_ahead_of" "Tree.total_ahead_of" s_total_ahead_of ["self", "place"]) (F_part_over : MthD P w K mg base C "part_over" (103) ["self", "begin", "end"] (PT.spOver C)) {t_TOTAL : Tok} (m_TOTAL : mg "TOTAL" = some (.int 0 t_TOTAL)) : MthD P w K mg base C "total_ahead_of" (103 + 1) ["self", "place"] (PT.spAhead C) := by
  refine mthD_of F sc_total_ahead_of (fun vs H Q E h => ?_) (fun f cdv A outer s H vs Q E hr h => ?_)
  · obtain ⟨p, d, ns, x, rfl, _⟩ := h; rfl
  exact ⟨_, (pss_cons (ps_if (pt_cmpR op_eq (pv 1) pe_int (nomark _)) (pss_one (ps_ret pe_int)) pss_nil)
    (pss_one (ps_ret (pe_ix ix_tup (pe_mth F_part_over (by omega) hr T (pv 0) (pa_cons pe_int (pa_cons (pv 1) pa_nil))) (pe_glob (v := (.int 0)) rfl m_TOTAL ⟨_, rfl⟩) (fun _ _ => rfl))))), PT.rd_ahead T h⟩
theorem sc_place_reaching : FnScope ["self", "begin", "mark"] ["self", "begin", "mark"] (defScope s_place_reaching) := ⟨rfl, rfl, rfl, by decide +kernel, rfl, by decide +kernel, by decide +kernel⟩
set_option maxHeartbeats 4000000 in
theorem ok_place_reaching {C : Addr} (T : Txt K C) (F : FunM K C "place_reaching" "Tree.place_reaching" s_place_reaching ["self", "begin", "mark"]) (F_reaching_within : MthD P w K mg base C "reaching_within" (102) ["self", "start", "stop", "begin", "mark"] (PT.spReachW C 100)) (F_total_ahead_of : MthD P w K mg base C "total_ahead_of" (104) ["self", "place"] (PT.spAhead C)) : MthD P w K mg base C "place_reaching" (104 + 1) ["self", "begin", "mark"] (PT.spPlaceR C) := by
  refine mthD_of F sc_place_reaching (fun vs H Q E h => ?_) (fun f cdv A outer s H vs Q E hr h => ?_)
  · obtain ⟨p, d, ns, x, m, rfl, _⟩ := h; rfl
  exact ⟨_, (pss_one (ps_ret (pe_mth F_reaching_within (by omega) hr T (pv 0) (pa_cons pe_int (pa_cons (pe_fld (pv 0) rfl) (pa_cons (pv 1) (pa_cons (pe_op op_add (pv 2) (pe_mth F_total_ahead_of (by omega) hr T (pv 0) (pa_cons (pv 1) pa_nil))) pa_nil))))))), PT.rd_placeR (n := 100) T (by decide) h⟩
theorem sc_place_reached : FnScope ["tree", "start", "mark"] ["tree", "start", "mark"] (defScope s_place_reached) := ⟨rfl, rfl, rfl, by decide +kernel, rfl, by decide +kernel, by decide +kernel⟩
set_option maxHeartbeats 4000000 in
theorem ok_place_reached {C : Addr} (T : Txt K C) (F : FunD K mg "place_reached" s_place_reached ["tree", "start", "mark"]) (F_has_place : MthD P w K mg base C "has_place" (1) ["self", "place"] (PT.spHasP C)) (F_place_reaching : MthD P w K mg base C "place_reaching" (105) ["self", "begin", "mark"] (PT.spPlaceR C)) : FnD P w K mg base "place_reached" (105 + 1) ["tree", "start", "mark"] (PT.spReached C) := by
  refine fnD_of F sc_place_reached (fun vs H Q E h => ?_) (fun f cdv A outer s H vs Q E hr h => ?_)
  · obtain ⟨p, d, ns, x, y, rfl, _⟩ := h; rfl
  exact ⟨_, (pss_cons (ps_if (pt_not (pt_val (pe_mth F_has_place (by omega) hr T (pv 0) (pa_cons (pv 1) pa_nil)))) (pss_one (ps_ret pe_non)) pss_nil)
    (pss_one (ps_ret (pe_mth F_place_reaching (by omega) hr T (pv 0) (pa_cons (pv 1) (pa_cons (pv 2) pa_nil)))))), PT.rd_reached T h⟩
theorem sc_answer_to : FnScope ["tree", "deed", "kind"] ["tree", "deed"] (defScope s_answer_to) := ⟨rfl, rfl, rfl, by decide +kernel, rfl, by decide +kernel, by decide +kernel⟩
set_option maxHeartbeats 4000000 in
theorem ok_answer_to {C : Addr} (T : Txt K C) (F : FunD K mg "answer_to" s_answer_to ["tree", "deed"]) (F_set_number : FnD P w K mg base "set_number" (105) ["tree", "place", "value"] (PT.spSet C)) (F_add_to_number : FnD P w K mg base "add_to_number" (105) ["tree", "place", "value"] (PT.spAdd C)) (F_swap_numbers : FnD P w K mg base "swap_numbers" (105) ["tree", "one", "two"] (PT.spSwap C)) (F_told_of_stretch : FnD P w K mg base "told_of_stretch" (104) ["tree", "start", "stop", "which"] (PT.spTold C)) (F_place_reached : FnD P w K mg base "place_reached" (106) ["tree", "start", "mark"] (PT.spReached C)) {t_GREATEST : Tok} (m_GREATEST : mg "GREATEST" = some (.int 2 t_GREATEST)) {t_LEAST : Tok} (m_LEAST : mg "LEAST" = some (.int 1 t_LEAST)) {t_TOTAL : Tok} (m_TOTAL : mg "TOTAL" = some (.int 0 t_TOTAL)) : FnD P w K mg base "answer_to" (106 + 1) ["tree", "deed"] (PT.spAnsTo C) := by
  refine fnD_of F sc_answer_to (fun vs H Q E h => ?_) (fun f cdv A outer s H vs Q E hr h => ?_)
  · obtain ⟨p, d, e, ns, u, rfl, _⟩ := h; rfl
  exact ⟨_, (pss_cons (ps_set (i := 2) sc_answer_to.nd rfl (Or.inl rfl) (pe_ix ix_tup (pv 1) pe_int (fun _ _ => rfl)))
    (pss_cons (ps_if (pt_cmpR op_eq (pv 2) pe_str (nomark _)) (pss_one (ps_ret (pe_fn F_set_number (by omega) hr rfl (pa_cons (pv 0) (pa_cons (pe_ix ix_tup (pv 1) pe_int (fun _ _ => rfl)) (pa_cons (pe_ix ix_tup (pv 1) pe_int (fun _ _ => rfl)) pa_nil)))))) pss_nil)
    (pss_cons (ps_if (pt_cmpR op_eq (pv 2) pe_str (nomark _)) (pss_one (ps_ret (pe_fn F_add_to_number (by omega) hr rfl (pa_cons (pv 0) (pa_cons (pe_ix ix_tup (pv 1) pe_int (fun _ _ => rfl)) (pa_cons (pe_ix ix_tup (pv 1) pe_int (fun _ _ => rfl)) pa_nil)))))) pss_nil)
    (pss_cons (ps_if (pt_cmpR op_eq (pv 2) pe_str (nomark _)) (pss_one (ps_ret (pe_fn F_swap_numbers (by omega) hr rfl (pa_cons (pv 0) (pa_cons (pe_ix ix_tup (pv 1) pe_int (fun _ _ => rfl)) (pa_cons (pe_ix ix_tup (pv 1) pe_int (fun _ _ => rfl)) pa_nil)))))) pss_nil)
    (pss_cons (ps_if (pt_cmpR op_eq (pv 2) pe_str (nomark _)) (pss_one (ps_ret (pe_fn F_told_of_stretch (by omega) hr rfl (pa_cons (pv 0) (pa_cons (pe_ix ix_tup (pv 1) pe_int (fun _ _ => rfl)) (pa_cons (pe_ix ix_tup (pv 1) pe_int (fun _ _ => rfl)) (pa_cons (pe_glob (v := (.int 0)) rfl m_TOTAL ⟨_, rfl⟩) pa_nil))))))) pss_nil)
    (pss_cons (ps_if (pt_cmpR op_eq (pv 2) pe_str (nomark _)) (pss_one (ps_ret (pe_fn F_told_of_stretch (by omega) hr rfl (pa_cons (pv 0) (pa_cons (pe_ix ix_tup (pv 1) pe_int (fun _ _ => rfl)) (pa_cons (pe_ix ix_tup (pv 1) pe_int (fun _ _ => rfl)) (pa_cons (pe_glob (v := (.int 1)) rfl m_LEAST ⟨_, rfl⟩) pa_nil))))))) pss_nil)
    (pss_cons (ps_if (pt_cmpR op_eq (pv 2) pe_str (nomark _)) (pss_one (ps_ret (pe_fn F_told_of_stretch (by omega) hr rfl (pa_cons (pv 0) (pa_cons (pe_ix ix_tup (pv 1) pe_int (fun _ _ => rfl)) (pa_cons (pe_ix ix_tup (pv 1) pe_int (fun _ _ => rfl)) (pa_cons (pe_glob (v := (.int 2)) rfl m_GREATEST ⟨_, rfl⟩) pa_nil))))))) pss_nil)
    (pss_one (ps_ret (pe_fn F_place_reached (by omega) hr rfl (pa_cons (pv 0) (pa_cons (pe_ix ix_tup (pv 1) pe_int (fun _ _ => rfl)) (pa_cons (pe_ix ix_tup (pv 1) pe_int (fun _ _ => rfl)) pa_nil))))))))))))), PT.rd_ansTo T h⟩
theorem sc_tree_of_day : FnScope ["row", "deeds", "tree", "deed"] ["row", "deeds"] (defScope s_tree_of_day) := ⟨rfl, rfl, rfl, by decide +kernel, rfl, by decide +kernel, by decide +kernel⟩
set_option maxHeartbeats 4000000 in
theorem ok_tree_of_day {C : Addr} (T : Txt K C) (F : FunD K mg "tree_of_day" s_tree_of_day ["row", "deeds"]) (F_init : MkD P w K mg base C "Tree" (103) ["self", "row"] (PT.spInit C)) (F_answer_to : FnD P w K mg base "answer_to" (107) ["tree", "deed"] (PT.spAnsTo C)) : FnD P w K mg base "tree_of_day" (107 + 1) ["row", "deeds"] (PT.spDay C) := by
  refine fnD_of F sc_tree_of_day (fun vs H Q E h => ?_) (fun f cdv A outer s H vs Q E hr h => ?_)
  · obtain ⟨a, b, ns, us, ds, rfl, _⟩ := h; rfl
  exact ⟨_, (pss_cons (ps_set (i := 2) sc_tree_of_day.nd rfl (Or.inl rfl) (pe_mk F_init (by omega) hr rfl (pa_cons (pv 0) pa_nil)))
    (pss_cons (ps_for PassesOwn.never rfl (pi_list (pv 1)) (pg_name (i := 3) sc_tree_of_day.nd rfl (Or.inl rfl)) (pss_one (ps_expr (pe_fn F_answer_to (by omega) hr rfl (pa_cons (pv 2) (pa_cons (pv 3) pa_nil))))))
    (pss_one (ps_ret (pv 2))))), PT.rd_day T h⟩
theorem sc_numbers : FnScope ["self"] ["self"] (defScope s_numbers) := ⟨rfl, rfl, rfl, by decide +kernel, rfl, by decide +kernel, by decide +kernel⟩
set_option maxHeartbeats 4000000 in
theorem ok_numbers {C : Addr} (T : Txt K C) (F : FunM K C "numbers" "Tree.numbers" s_numbers ["self"]) (F_number_at : MthD P w K mg base C "number_at" (1) ["self", "place"] (PT.spNumAt C)) (m_range : mg "range" = none) : MthD P w K mg base C "numbers" (1 + 1) ["self"] (PT.spNums C) := by
  refine mthD_of F sc_numbers (fun vs H Q E h => ?_) (fun f cdv A outer s H vs Q E hr h => ?_)
  · obtain ⟨p, d, ns, rfl, _⟩ := h; rfl
  exact ⟨_, (pss_one (ps_ret (pe_lcF (j := 0) (x := "place") (y := "self") (by exact ⟨rfl, rfl, by decide, by decide +kernel, by decide +kernel⟩) rfl rfl rfl rfl rfl (fun _ => rfl) (pi_range1 rfl m_range (pa_cons (pe_fld (pv 0) rfl) pa_nil)) (fun _ _ _ _ => (pe_mth F_number_at (by omega) hr T (pv 1) (pa_cons (pv 0) pa_nil)))))), PT.rd_nums T h⟩
theorem sc_row_behind : FnScope ["row", "deeds"] ["row", "deeds"] (defScope s_row_behind) := ⟨rfl, rfl, rfl, by decide +kernel, rfl, by decide +kernel, by decide +kernel⟩
set_option maxHeartbeats 4000000 in
theorem ok_row_behind {C : Addr} (T : Txt K C) (F : FunD K mg "row_behind" s_row_behind ["row", "deeds"]) (F_tree_of_day : FnD P w K mg base "tree_of_day" (108) ["row", "deeds"] (PT.spDay C)) (F_numbers : MthD P w K mg base C "numbers" (2) ["self"] (PT.spNums C)) : FnD P w K mg base "row_behind" (108 + 1) ["row", "deeds"] (spRowB K) := by
  refine fnD_of F sc_row_behind (fun vs H Q E h => ?_) (fun f cdv A outer s H vs Q E hr h => ?_)
  · obtain ⟨a, b, ns, us, ds, rfl, _⟩ := h; rfl
  exact ⟨_, (pss_one (ps_ret (pe_mth0 F_numbers (by omega) hr T (pe_fn F_tree_of_day (by omega) hr rfl (pa_cons (pv 0) (pa_cons (pv 1) pa_nil)))))), PT.rd_rowB T h⟩
theorem sc_answers : FnScope ["row", "deeds", "tree"] ["row", "deeds"] (defScope s_answers) := ⟨rfl, rfl, rfl, by decide +kernel, rfl, by decide +kernel, by decide +kernel⟩
set_option maxHeartbeats 4000000 in
theorem ok_answers {C : Addr} (T : Txt K C) (F : FunD K mg "answers" s_answers ["row", "deeds"]) (F_init : MkD P w K mg base C "Tree" (103) ["self", "row"] (PT.spInit C)) (F_answer_to : FnD P w K mg base "answer_to" (107) ["tree", "deed"] (PT.spAnsTo C)) : FnD P w K mg base "answers" (108 + 1) ["row", "deeds"] (spAnswers K) := by
  refine fnD_of F sc_answers (fun vs H Q E h => ?_) (fun f cdv A outer s H vs Q E hr h => ?_)
  · obtain ⟨a, b, ns, us, ds, rfl, _⟩ := h; rfl
  exact ⟨_, (pss_cons (ps_set (i := 2) sc_answers.nd rfl (Or.inr rfl) (pe_mk F_init (by omega) hr rfl (pa_cons (pv 0) pa_nil)))
    (pss_one (ps_ret (pe_lcF (j := 2) (x := "deed") (y := "tree") (by exact ⟨rfl, rfl, by decide, by decide +kernel, by decide +kernel⟩) rfl rfl rfl rfl rfl (fun _ => rfl) (pi_list (pv 1)) (fun _ _ _ _ => (pe_fn F_answer_to (by omega) hr rfl (pa_cons (pv 1) (pa_cons (pv 0) pa_nil)))))))), PT.rd_answers T h⟩
theorem sc__law_unturned : FnScope ["_law_found", "_law_due", "_law_todo", "_law_left", "_law_right", "_law_k"] ["_law_found", "_law_due"] (defScope s__law_unturned) := ⟨rfl, rfl, rfl, by decide +kernel, rfl, by decide +kernel, by decide +kernel⟩
set_option maxHeartbeats 4000000 in
theorem ok__law_unturned  (F : FunD K mg "_law_unturned" s__law_unturned ["_law_found", "_law_due"]) (m_bool : mg "bool" = none) (m_int : mg "int" = none) (m_isinstance : mg "isinstance" = none) (m_len : mg "len" = none) (m_list : mg "list" = none) (m_range : mg "range" = none) (m_str : mg "str" = none) (m_tuple : mg "tuple" = none) : FnD P w K mg base "_law_unturned" (0 + 1) ["_law_found", "_law_due"] spUnturned := by
  refine fnD_of F sc__law_unturned (fun vs H Q E h => ?_) (fun f cdv A outer s H vs Q E hr h => ?_)
  · obtain ⟨a, b, xs, ws, rfl, _⟩ := h; rfl
  exact ⟨_, (pss_cons (ps_set (i := 2) sc__law_unturned.nd rfl (Or.inl rfl) (pe_lst (pa_cons (pe_tup (pa_cons (pv 0) (pa_cons (pv 1) pa_nil))) pa_nil)))
    (pss_cons (ps_while PassesOwn.never (pt_cmpR (op_neL0 hr.units0) (pv 2) (pe_lst pa_nil) (nomark _)) (pss_cons (ps_asg (pe_bm0 PySem.F.plainAttrs_list PySem.F.slot_list_pop PySem.F.type_list_pop mt_pop (pv 2)) (pg_tup rfl (pgs_cons (pg_name (i := 3) sc__law_unturned.nd rfl (Or.inl rfl)) (pgs_cons (pg_name (i := 4) sc__law_unturned.nd rfl (Or.inl rfl)) pgs_nil))))
    (pss_one (ps_if (pt_val (pe_callB call_isiT rfl m_isinstance PyProof.Rows.boot_isinstance (pa_cons (pv 4) (pa_cons (pe_tup (pa_cons (pe_bltn (v := .ty "list") rfl m_list PyProof.Rows.boot_list rfl) (pa_cons (pe_bltn (v := .ty "tuple") rfl m_tuple PyProof.Rows.boot_tuple rfl) pa_nil))) pa_nil)))) (pss_cons (ps_if (pt_cmpR op_ne (pe_callB call_isi rfl m_isinstance PyProof.Rows.boot_isinstance (pa_cons (pv 3) (pa_cons (pe_bltn (v := .ty "list") rfl m_list PyProof.Rows.boot_list rfl) pa_nil))) (pe_callB call_isi rfl m_isinstance PyProof.Rows.boot_isinstance (pa_cons (pv 4) (pa_cons (pe_bltn (v := .ty "list") rfl m_list PyProof.Rows.boot_list rfl) pa_nil))) (nomark _)) (pss_one (ps_ret pe_bl)) pss_nil)
    (pss_cons (ps_if (PW.pt (pw_or (pt_not (pt_val (pe_callB call_isiT rfl m_isinstance PyProof.Rows.boot_isinstance (pa_cons (pv 3) (pa_cons (pe_tup (pa_cons (pe_bltn (v := .ty "list") rfl m_list PyProof.Rows.boot_list rfl) (pa_cons (pe_bltn (v := .ty "tuple") rfl m_tuple PyProof.Rows.boot_tuple rfl) pa_nil))) pa_nil))))) (pw_or1 (pt_cmpR op_ne (pe_callB call_len' rfl m_len PySem.boot_len (pa_cons (pv 3) pa_nil)) (pe_callB call_len' rfl m_len PySem.boot_len (pa_cons (pv 4) pa_nil)) (nomark _))))) (pss_one (ps_ret pe_bl)) pss_nil)
    (pss_one (ps_for PassesOwn.never rfl (pi_range1 rfl m_range (pa_cons (pe_callB call_len' rfl m_len PySem.boot_len (pa_cons (pv 4) pa_nil)) pa_nil)) (pg_name (i := 5) sc__law_unturned.nd rfl (Or.inl rfl)) (pss_one (ps_expr (pe_bm PySem.F.plainAttrs_list PySem.F.slot_list_append PySem.F.type_list_append mt_append (pv 2) (pa_cons (pe_tup (pa_cons (pe_ix ix_seq' (pv 3) (pv 5) (fun _ _ => rfl)) (pa_cons (pe_ix ix_seq' (pv 4) (pv 5) (fun _ _ => rfl)) pa_nil))) pa_nil)))))))) (pss_one (ps_if (PW.pt (pw_or (pt_cmpR op_isN (pv 3) pe_non (nomark _)) (pw_or1 (pt_cmpR op_isN (pv 4) pe_non (nomark _))))) (pss_one (ps_if (PW.pt (pw_or (pt_cmpR op_notN (pv 3) pe_non (nomark _)) (pw_or1 (pt_cmpR op_notN (pv 4) pe_non (nomark _))))) (pss_one (ps_ret pe_bl)) pss_nil)) (pss_one (ps_if (pt_cmpR op_ne (pe_callB call_isi rfl m_isinstance PyProof.Rows.boot_isinstance (pa_cons (pv 3) (pa_cons (pe_bltn (v := .ty "bool") rfl m_bool PyProof.Rows.boot_bool rfl) pa_nil))) (pe_callB call_isi rfl m_isinstance PyProof.Rows.boot_isinstance (pa_cons (pv 4) (pa_cons (pe_bltn (v := .ty "bool") rfl m_bool PyProof.Rows.boot_bool rfl) pa_nil))) (nomark _)) (pss_one (ps_ret pe_bl)) (pss_one (ps_if (pt_cmpR op_ne (pe_callB call_isi rfl m_isinstance PyProof.Rows.boot_isinstance (pa_cons (pv 3) (pa_cons (pe_bltn (v := .ty "str") rfl m_str PyProof.Rows.boot_str rfl) pa_nil))) (pe_callB call_isi rfl m_isinstance PyProof.Rows.boot_isinstance (pa_cons (pv 4) (pa_cons (pe_bltn (v := .ty "str") rfl m_str PyProof.Rows.boot_str rfl) pa_nil))) (nomark _)) (pss_one (ps_ret pe_bl)) (pss_one (ps_if (PW.pt (pw_or (pt_not (pt_val (pe_callB call_isiT rfl m_isinstance PyProof.Rows.boot_isinstance (pa_cons (pv 3) (pa_cons (pe_tup (pa_cons (pe_bltn (v := .ty "str") rfl m_str PyProof.Rows.boot_str rfl) (pa_cons (pe_bltn (v := .ty "int") rfl m_int PyProof.Rows.boot_int rfl) pa_nil))) pa_nil))))) (pw_or1 (pt_cmpR op_ne (pv 3) (pv 4) (nomark _))))) (pss_one (ps_ret pe_bl)) pss_nil))))))))))))
    (pss_one (ps_ret pe_bl)))), rd_unturned h⟩
theorem sc__law_room : FnScope ["_law_script", "_law_most", "_law_bound"] ["_law_script", "_law_most", "_law_bound"] (defScope s__law_room) := ⟨rfl, rfl, rfl, by decide +kernel, rfl, by decide +kernel, by decide +kernel⟩
set_option maxHeartbeats 4000000 in
theorem ok__law_room  (F : FunD K mg "_law_room" s__law_room ["_law_script", "_law_most", "_law_bound"]) (m_len : mg "len" = none) : FnD P w K mg base "_law_room" (0 + 1) ["_law_script", "_law_most", "_law_bound"] (spRoom K) := by
  refine fnD_of F sc__law_room (fun vs H Q E h => ?_) (fun f cdv A outer s H vs Q E hr h => ?_)
  · obtain ⟨a, ns, m, b, rfl, _⟩ := h; rfl
  exact ⟨_, (pss_cons (ps_if (pt_cmpR op_gt (pe_callB call_len' rfl m_len PySem.boot_len (pa_cons (pv 0) pa_nil)) pe_int (nomark _)) (pss_one (ps_ret (pv 2))) pss_nil)
    (pss_one (ps_ret (pv 1)))), rd_room h⟩
theorem sc__law_whole : FnScope ["_law_found"] ["_law_found"] (defScope s__law_whole) := ⟨rfl, rfl, rfl, by decide +kernel, rfl, by decide +kernel, by decide +kernel⟩
set_option maxHeartbeats 4000000 in
theorem ok__law_whole  (F : FunD K mg "_law_whole" s__law_whole ["_law_found"]) (m_bool : mg "bool" = none) (m_int : mg "int" = none) (m_isinstance : mg "isinstance" = none) : FnD P w K mg base "_law_whole" (0 + 1) ["_law_found"] spWhole := by
  refine fnD_of F sc__law_whole (fun vs H Q E h => ?_) (fun f cdv A outer s H vs Q E hr h => ?_)
  · obtain ⟨i, rfl, _⟩ := h; rfl
  exact ⟨_, (pss_one (ps_ret (pe_and (pe_callB call_isi rfl m_isinstance PyProof.Rows.boot_isinstance (pa_cons (pv 0) (pa_cons (pe_bltn (v := .ty "int") rfl m_int PyProof.Rows.boot_int rfl) pa_nil))) (pe_one (pe_not (pe_callB call_isi rfl m_isinstance PyProof.Rows.boot_isinstance (pa_cons (pv 0) (pa_cons (pe_bltn (v := .ty "bool") rfl m_bool PyProof.Rows.boot_bool rfl) pa_nil)))))))), rd_whole h⟩
theorem sc__law_at : FnScope ["_law_script", "_law_k"] ["_law_script", "_law_k"] (defScope s__law_at) := ⟨rfl, rfl, rfl, by decide +kernel, rfl, by decide +kernel, by decide +kernel⟩
set_option maxHeartbeats 4000000 in
theorem ok__law_at  (F : FunD K mg "_law_at" s__law_at ["_law_script", "_law_k"]) (m_len : mg "len" = none) : FnD P w K mg base "_law_at" (0 + 1) ["_law_script", "_law_k"] (spAt K) := by
  refine fnD_of F sc__law_at (fun vs H Q E h => ?_) (fun f cdv A outer s H vs Q E hr h => ?_)
  · obtain ⟨a, ns, k, rfl, _⟩ := h; rfl
  exact ⟨_, (pss_cons (ps_if (pt_cmpR op_lt (pv 1) (pe_callB call_len' rfl m_len PySem.boot_len (pa_cons (pv 0) pa_nil)) (nomark _)) (pss_one (ps_ret (pe_ix ix_list (pv 0) (pv 1) (fun _ _ => rfl)))) pss_nil)
    (pss_one (ps_ret pe_int))), rd_at h⟩
theorem sc__law_strung : FnScope ["_law_cells", "_law_seed", "_law_row", "_law_wide", "_law_k", "_law_number", "_law_far"] ["_law_cells", "_law_seed"] (defScope s__law_strung) := ⟨rfl, rfl, rfl, by decide +kernel, rfl, by decide +kernel, by decide +kernel⟩
set_option maxHeartbeats 4000000 in
theorem ok__law_strung  (F : FunD K mg "_law_strung" s__law_strung ["_law_cells", "_law_seed"]) (m_int : mg "int" = none) (m_len : mg "len" = none) (m_range : mg "range" = none) : FnD P w K mg base "_law_strung" (0 + 1) ["_law_cells", "_law_seed"] (spStrung K) := by
  refine fnD_of F sc__law_strung (fun vs H Q E h => ?_) (fun f cdv A outer s H vs Q E hr h => ?_)
  · obtain ⟨a, cs, sd, rfl, _⟩ := h; rfl
  exact ⟨_, (pss_cons (ps_set (i := 2) sc__law_strung.nd rfl (Or.inl rfl) (pe_lst (pa_cons (pe_op op_sub (pe_op op_mod (pv 1) pe_int) pe_int) pa_nil)))
    (pss_cons (ps_set (i := 3) sc__law_strung.nd rfl (Or.inl rfl) (pe_ix ix_list (pe_lst (pa_cons pe_int (pa_cons pe_int (pa_cons pe_int pa_nil)))) (pe_op op_mod (pe_op op_fdiv (pv 1) pe_int) pe_int) (fun _ _ => rfl)))
    (pss_cons (ps_for PassesOwn.never rfl (pi_range1 rfl m_range (pa_cons (pe_callB call_len' rfl m_len PySem.boot_len (pa_cons (pv 0) pa_nil)) pa_nil)) (pg_name (i := 4) sc__law_strung.nd rfl (Or.inl rfl)) (pss_cons (ps_set (i := 5) sc__law_strung.nd rfl (Or.inl rfl) (pe_op op_sub (pe_op op_mod (pe_op op_add (pe_ix ix_list (pv 0) (pv 4) (fun _ _ => rfl)) (pv 4)) (pv 3)) (pe_op op_fdiv (pv 3) pe_int)))
    (pss_cons (ps_if (pt_cmpR op_eq (pe_op op_mod (pe_ix ix_list (pv 0) (pv 4) (fun _ _ => rfl)) pe_int) pe_int (nomark _)) (pss_cons (ps_set (i := 6) sc__law_strung.nd rfl (Or.inl rfl) (pe_op op_mod (pe_op op_add (pe_ix ix_list (pv 0) (pv 4) (fun _ _ => rfl)) (pv 4)) (pe_op op_sub (pe_op op_mulB (pe_op op_pow pe_int pe_int) (pe_op op_pow pe_int pe_int)) pe_int)))
    (pss_one (ps_set (i := 5) sc__law_strung.nd rfl (Or.inl rfl) (pe_op op_mul (pv 6) (pe_ix ix_list (pe_lst (pa_cons pe_int (pa_cons (pe_un un_neg pe_int) pa_nil))) (pe_op op_mod (pe_op op_fdiv (pe_ix ix_list (pv 0) (pv 4) (fun _ _ => rfl)) pe_int) pe_int) (fun _ _ => rfl)))))) pss_nil)
    (pss_one (ps_expr (pe_bm PySem.F.plainAttrs_list PySem.F.slot_list_append PySem.F.type_list_append mt_append (pv 2) (pa_cons (pe_op op_mul (pv 5) (pe_ix ix_list (pe_lst (pa_cons pe_int (pa_cons (pe_op op_pow pe_int pe_int) pa_nil))) (pe_callTy call_intB rfl m_int PyProof.Rows.boot_int (pa_cons (pe_cmpR op_eq (pe_op op_mod (pe_ix ix_list (pv 0) (pv 4) (fun _ _ => rfl)) pe_int) pe_int (nomark _)) pa_nil)) (fun _ _ => rfl))) pa_nil)))))))
    (pss_one (ps_ret (pv 2)))))), rd_strung h⟩
theorem sc__law_deeds : FnScope ["_law_cells", "_law_size", "_law_made", "_law_k", "_law_rest", "_law_one", "_law_two", "_law_turn", "_law_value", "_law_word", "_law_mark"] ["_law_cells", "_law_size"] (defScope s__law_deeds) := ⟨rfl, rfl, rfl, by decide +kernel, rfl, by decide +kernel, by decide +kernel⟩
set_option maxHeartbeats 4000000 in
theorem ok__law_deeds  (F : FunD K mg "_law_deeds" s__law_deeds ["_law_cells", "_law_size"]) (m_int : mg "int" = none) (m_len : mg "len" = none) (m_range : mg "range" = none) : FnD P w K mg base "_law_deeds" (0 + 1) ["_law_cells", "_law_size"] (spDeeds K) := by
  refine fnD_of F sc__law_deeds (fun vs H Q E h => ?_) (fun f cdv A outer s H vs Q E hr h => ?_)
  · obtain ⟨a, cs, n, rfl, _⟩ := h; rfl
  exact ⟨_, (pss_cons (ps_set (i := 2) sc__law_deeds.nd rfl (Or.inl rfl) (pe_lst pa_nil))
    (pss_cons (ps_for PassesOwn.never rfl (pi_range1 rfl m_range (pa_cons (pe_callB call_len' rfl m_len PySem.boot_len (pa_cons (pv 0) pa_nil)) pa_nil)) (pg_name (i := 3) sc__law_deeds.nd rfl (Or.inl rfl)) (pss_cons (ps_set (i := 4) sc__law_deeds.nd rfl (Or.inl rfl) (pe_op op_fdiv (pe_ix ix_list (pv 0) (pv 3) (fun _ _ => rfl)) pe_int))
    (pss_cons (ps_set (i := 5) sc__law_deeds.nd rfl (Or.inl rfl) (pe_op op_mod (pe_op op_add (pv 4) (pe_op op_mul pe_int (pv 3))) (pv 1)))
    (pss_cons (ps_set (i := 6) sc__law_deeds.nd rfl (Or.inl rfl) (pe_op op_mod (pe_op op_add (pe_op op_fdiv (pv 4) pe_int) (pv 3)) (pv 1)))
    (pss_cons (ps_set (i := 7) sc__law_deeds.nd rfl (Or.inl rfl) (pe_op op_mod (pe_op op_add (pe_ix ix_list (pv 0) (pv 3) (fun _ _ => rfl)) (pv 3)) pe_int))
    (pss_cons (ps_if (pt_cmpR op_eq (pe_op op_mod (pe_ix ix_list (pv 0) (pv 3) (fun _ _ => rfl)) pe_int) pe_int (nomark _)) (pss_one (ps_set (i := 5) sc__law_deeds.nd rfl (Or.inl rfl) (pe_ix ix_list (pe_lst (pa_cons (pe_un un_neg pe_int) (pa_cons (pv 1) (pa_cons (pe_op op_sub (pe_un un_neg pe_int) (pe_op op_mod (pv 4) (pe_op op_pow pe_int pe_int))) (pa_cons (pe_op op_add (pv 1) (pe_op op_mod (pv 4) (pe_op op_pow pe_int pe_int))) pa_nil))))) (pe_op op_mod (pv 3) pe_int) (fun _ _ => rfl)))) pss_nil)
    (pss_cons (ps_if (pt_cmpR op_eq (pe_op op_mod (pe_ix ix_list (pv 0) (pv 3) (fun _ _ => rfl)) pe_int) pe_int (nomark _)) (pss_one (ps_set (i := 6) sc__law_deeds.nd rfl (Or.inl rfl) (pe_ix ix_list (pe_lst (pa_cons (pe_un un_neg pe_int) (pa_cons (pv 1) (pa_cons (pe_op op_add (pv 1) pe_int) pa_nil)))) (pe_op op_mod (pv 3) pe_int) (fun _ _ => rfl)))) pss_nil)
    (pss_one (ps_if (pt_cmpR op_lt (pv 7) pe_int (nomark _)) (pss_cons (ps_set (i := 8) sc__law_deeds.nd rfl (Or.inl rfl) (pe_op op_mul (pe_op op_sub (pe_op op_mod (pv 4) pe_int) pe_int) (pe_ix ix_list (pe_lst (pa_cons pe_int (pa_cons (pe_op op_pow pe_int pe_int) pa_nil))) (pe_callTy call_intB rfl m_int PyProof.Rows.boot_int (pa_cons (pe_cmpR op_eq (pe_op op_mod (pe_ix ix_list (pv 0) (pv 3) (fun _ _ => rfl)) pe_int) pe_int (nomark _)) pa_nil)) (fun _ _ => rfl))))
    (pss_cons (ps_if (pt_cmpR op_eq (pe_op op_mod (pe_ix ix_list (pv 0) (pv 3) (fun _ _ => rfl)) pe_int) pe_int (nomark _)) (pss_one (ps_set (i := 8) sc__law_deeds.nd rfl (Or.inl rfl) (pe_op op_mul (pe_op op_mod (pv 4) (pe_op op_sub (pe_op op_mulB (pe_op op_pow pe_int pe_int) (pe_op op_pow pe_int pe_int)) pe_int)) (pe_ix ix_list (pe_lst (pa_cons pe_int (pa_cons (pe_un un_neg pe_int) pa_nil))) (pe_op op_mod (pv 3) pe_int) (fun _ _ => rfl))))) pss_nil)
    (pss_one (ps_expr (pe_bm PySem.F.plainAttrs_list PySem.F.slot_list_append PySem.F.type_list_append mt_append (pv 2) (pa_cons (pe_tup (pa_cons (pe_ix ix_list (pe_lst (pa_cons pe_str (pa_cons pe_str pa_nil))) (pv 7) (fun _ _ => rfl)) (pa_cons (pv 5) (pa_cons (pv 8) pa_nil)))) pa_nil)))))) (pss_one (ps_if (pt_cmpR op_eq (pv 7) pe_int (nomark _)) (pss_one (ps_expr (pe_bm PySem.F.plainAttrs_list PySem.F.slot_list_append PySem.F.type_list_append mt_append (pv 2) (pa_cons (pe_tup (pa_cons pe_str (pa_cons (pv 5) (pa_cons (pv 6) pa_nil)))) pa_nil)))) (pss_one (ps_if (pt_cmpR op_lt (pv 7) pe_int (nomark _)) (pss_cons (ps_set (i := 9) sc__law_deeds.nd rfl (Or.inl rfl) (pe_ix ix_list (pe_lst (pa_cons pe_str (pa_cons pe_str (pa_cons pe_str pa_nil)))) (pe_op op_sub (pv 7) pe_int) (fun _ _ => rfl)))
    (pss_one (ps_if (PW.pt (pw_and (pt_cmpR op_lt (pe_op op_mod (pe_ix ix_list (pv 0) (pv 3) (fun _ _ => rfl)) pe_int) pe_int (nomark _)) (pw_and1 (pt_cmpR op_gt (pv 5) (pv 6) (nomark _))))) (pss_one (ps_expr (pe_bm PySem.F.plainAttrs_list PySem.F.slot_list_append PySem.F.type_list_append mt_append (pv 2) (pa_cons (pe_tup (pa_cons (pv 9) (pa_cons (pv 6) (pa_cons (pe_op op_add (pv 5) pe_int) pa_nil)))) pa_nil)))) (pss_one (ps_expr (pe_bm PySem.F.plainAttrs_list PySem.F.slot_list_append PySem.F.type_list_append mt_append (pv 2) (pa_cons (pe_tup (pa_cons (pv 9) (pa_cons (pv 5) (pa_cons (pe_op op_add (pv 6) pe_int) pa_nil)))) pa_nil))))))) (pss_cons (ps_set (i := 10) sc__law_deeds.nd rfl (Or.inl rfl) (pe_op op_mul (pe_op op_sub (pe_op op_mod (pv 4) pe_int) pe_int) (pe_ix ix_list (pe_lst (pa_cons pe_int (pa_cons (pe_op op_pow pe_int pe_int) pa_nil))) (pe_callTy call_intB rfl m_int PyProof.Rows.boot_int (pa_cons (pe_cmpR op_eq (pe_op op_mod (pe_ix ix_list (pv 0) (pv 3) (fun _ _ => rfl)) pe_int) pe_int (nomark _)) pa_nil)) (fun _ _ => rfl))))
    (pss_cons (ps_if (pt_cmpR op_eq (pe_op op_mod (pe_ix ix_list (pv 0) (pv 3) (fun _ _ => rfl)) pe_int) pe_int (nomark _)) (pss_one (ps_set (i := 10) sc__law_deeds.nd rfl (Or.inl rfl) (pe_op op_mod (pv 4) (pe_op op_sub (pe_op op_mulB (pe_op op_pow pe_int pe_int) (pe_op op_pow pe_int pe_int)) pe_int)))) pss_nil)
    (pss_one (ps_expr (pe_bm PySem.F.plainAttrs_list PySem.F.slot_list_append PySem.F.type_list_append mt_append (pv 2) (pa_cons (pe_tup (pa_cons pe_str (pa_cons (pv 5) (pa_cons (pv 10) pa_nil)))) pa_nil)))))))))))))))))))
    (pss_one (ps_ret (pv 2))))), rd_deeds h⟩
theorem sc__law_changed : FnScope ["_law_row", "_law_deed", "_law_size", "_law_old"] ["_law_row", "_law_deed"] (defScope s__law_changed) := ⟨rfl, rfl, rfl, by decide +kernel, rfl, by decide +kernel, by decide +kernel⟩
set_option maxHeartbeats 4000000 in
theorem ok__law_changed  (F : FunD K mg "_law_changed" s__law_changed ["_law_row", "_law_deed"]) (m_len : mg "len" = none) : FnD P w K mg base "_law_changed" (0 + 1) ["_law_row", "_law_deed"] (spChanged K) := by
  refine fnD_of F sc__law_changed (fun vs H Q E h => ?_) (fun f cdv A outer s H vs Q E hr h => ?_)
  · obtain ⟨r, e, ns, d, rfl, _⟩ := h; rfl
  exact ⟨_, (pss_cons (ps_set (i := 2) sc__law_changed.nd rfl (Or.inl rfl) (pe_callB call_len' rfl m_len PySem.boot_len (pa_cons (pv 0) pa_nil)))
    (pss_cons (ps_if (PW.pt (pw_or (pt_cmpR op_lt (pe_ix ix_tup (pv 1) pe_int (fun _ _ => rfl)) pe_int (nomark _)) (pw_or1 (pt_cmpR op_ge (pe_ix ix_tup (pv 1) pe_int (fun _ _ => rfl)) (pv 2) (nomark _))))) (pss_one (ps_ret pe_non)) pss_nil)
    (pss_cons (ps_if (pt_cmpR op_eq (pe_ix ix_tup (pv 1) pe_int (fun _ _ => rfl)) pe_str (nomark _)) (pss_cons (ps_set (i := 3) sc__law_changed.nd rfl (Or.inl rfl) (pe_ix ix_list (pv 0) (pe_ix ix_tup (pv 1) pe_int (fun _ _ => rfl)) (fun _ _ => rfl)))
    (pss_cons (ps_asg (pe_ix ix_tup (pv 1) pe_int (fun _ _ => rfl)) (pg_sub (pv 0) (pe_ix ix_tup (pv 1) pe_int (fun _ _ => rfl)) set_list))
    (pss_one (ps_ret (pv 3))))) pss_nil)
    (pss_cons (ps_if (pt_cmpR op_eq (pe_ix ix_tup (pv 1) pe_int (fun _ _ => rfl)) pe_str (nomark _)) (pss_cons (ps_asg (pe_op op_add (pe_ix ix_list (pv 0) (pe_ix ix_tup (pv 1) pe_int (fun _ _ => rfl)) (fun _ _ => rfl)) (pe_ix ix_tup (pv 1) pe_int (fun _ _ => rfl))) (pg_sub (pv 0) (pe_ix ix_tup (pv 1) pe_int (fun _ _ => rfl)) set_list))
    (pss_one (ps_ret (pe_ix ix_list (pv 0) (pe_ix ix_tup (pv 1) pe_int (fun _ _ => rfl)) (fun _ _ => rfl))))) pss_nil)
    (pss_cons (ps_if (PW.pt (pw_and (pt_cmpR op_eq (pe_ix ix_tup (pv 1) pe_int (fun _ _ => rfl)) pe_str (nomark _)) (pw_and (pt_cmpR op_le pe_int (pe_ix ix_tup (pv 1) pe_int (fun _ _ => rfl)) (nomark _)) (pw_and1 (pt_cmpR op_lt (pe_ix ix_tup (pv 1) pe_int (fun _ _ => rfl)) (pv 2) (nomark _)))))) (pss_cons (ps_set (i := 3) sc__law_changed.nd rfl (Or.inl rfl) (pe_ix ix_list (pv 0) (pe_ix ix_tup (pv 1) pe_int (fun _ _ => rfl)) (fun _ _ => rfl)))
    (pss_cons (ps_asg (pe_ix ix_list (pv 0) (pe_ix ix_tup (pv 1) pe_int (fun _ _ => rfl)) (fun _ _ => rfl)) (pg_sub (pv 0) (pe_ix ix_tup (pv 1) pe_int (fun _ _ => rfl)) set_list))
    (pss_cons (ps_asg (pv 3) (pg_sub (pv 0) (pe_ix ix_tup (pv 1) pe_int (fun _ _ => rfl)) set_list))
    (pss_one (ps_ret pe_bl))))) pss_nil)
    (pss_one (ps_ret pe_non))))))), rd_changed h⟩
theorem sc__law_answer : FnScope ["_law_row", "_law_deed", "_law_numbers"] ["_law_row", "_law_deed"] (defScope s__law_answer) := ⟨rfl, rfl, rfl, by decide +kernel, rfl, by decide +kernel, by decide +kernel⟩
set_option maxHeartbeats 4000000 in
theorem ok__law_answer  (F : FunD K mg "_law_answer" s__law_answer ["_law_row", "_law_deed"]) (m_len : mg "len" = none) (m_max : mg "max" = none) (m_min : mg "min" = none) (m_sum : mg "sum" = none) : FnD P w K mg base "_law_answer" (0 + 1) ["_law_row", "_law_deed"] (spAnswer K) := by
  refine fnD_of F sc__law_answer (fun vs H Q E h => ?_) (fun f cdv A outer s H vs Q E hr h => ?_)
  · obtain ⟨r, e, ns, d, rfl, _⟩ := h; rfl
  exact ⟨_, (pss_cons (ps_if (PW.pt (pw_or (pt_cmpR op_lt (pe_ix ix_tup (pv 1) pe_int (fun _ _ => rfl)) pe_int (nomark _)) (pw_or (pt_cmpR op_le (pe_ix ix_tup (pv 1) pe_int (fun _ _ => rfl)) (pe_ix ix_tup (pv 1) pe_int (fun _ _ => rfl)) (nomark _)) (pw_or1 (pt_cmpR op_gt (pe_ix ix_tup (pv 1) pe_int (fun _ _ => rfl)) (pe_callB call_len' rfl m_len PySem.boot_len (pa_cons (pv 0) pa_nil)) (nomark _)))))) (pss_one (ps_ret pe_non)) pss_nil)
    (pss_cons (ps_set (i := 2) sc__law_answer.nd rfl (Or.inl rfl) (pe_slice sl_list (pv 0) (po_some (pe_ix ix_tup (pv 1) pe_int (fun _ _ => rfl))) (po_some (pe_ix ix_tup (pv 1) pe_int (fun _ _ => rfl)))))
    (pss_cons (ps_if (pt_cmpR op_eq (pe_ix ix_tup (pv 1) pe_int (fun _ _ => rfl)) pe_str (nomark _)) (pss_one (ps_ret (pe_callB (call_sumL rfl) rfl m_sum PyProof.Rows.boot_sum (pa_cons (pv 2) pa_nil)))) pss_nil)
    (pss_cons (ps_if (pt_cmpR op_eq (pe_ix ix_tup (pv 1) pe_int (fun _ _ => rfl)) pe_str (nomark _)) (pss_one (ps_ret (pe_callB (call_minL rfl) rfl m_min PyProof.Rows.boot_min (pa_cons (pv 2) pa_nil)))) pss_nil)
    (pss_one (ps_ret (pe_callB (call_maxL rfl) rfl m_max PyProof.Rows.boot_max (pa_cons (pv 2) pa_nil)))))))), rd_answer h⟩
theorem sc__law_figures : FnScope ["_law_found", "_law_due", "_law_k"] ["_law_found", "_law_due"] (defScope s__law_figures) := ⟨rfl, rfl, rfl, by decide +kernel, rfl, by decide +kernel, by decide +kernel⟩
set_option maxHeartbeats 4000000 in
theorem ok__law_figures  (F : FunD K mg "_law_figures" s__law_figures ["_law_found", "_law_due"]) (F__law_whole : FnD P w K mg base "_law_whole" (1) ["_law_found"] spWhole) (m_isinstance : mg "isinstance" = none) (m_len : mg "len" = none) (m_list : mg "list" = none) (m_range : mg "range" = none) : FnD P w K mg base "_law_figures" (1 + 1) ["_law_found", "_law_due"] (spFigures K) := by
  refine fnD_of F sc__law_figures (fun vs H Q E h => ?_) (fun f cdv A outer s H vs Q E hr h => ?_)
  · obtain ⟨a, b, ns, rfl, _⟩ := h; rfl
  exact ⟨_, (pss_cons (ps_if (PW.pt (pw_or (pt_not (pt_val (pe_callB call_isi rfl m_isinstance PyProof.Rows.boot_isinstance (pa_cons (pv 0) (pa_cons (pe_bltn (v := .ty "list") rfl m_list PyProof.Rows.boot_list rfl) pa_nil))))) (pw_or1 (pt_cmpR op_ne (pe_callB call_len' rfl m_len PySem.boot_len (pa_cons (pv 0) pa_nil)) (pe_callB call_len' rfl m_len PySem.boot_len (pa_cons (pv 1) pa_nil)) (nomark _))))) (pss_one (ps_ret pe_bl)) pss_nil)
    (pss_cons (ps_for PassesOwn.never rfl (pi_range1 rfl m_range (pa_cons (pe_callB call_len' rfl m_len PySem.boot_len (pa_cons (pv 1) pa_nil)) pa_nil)) (pg_name (i := 2) sc__law_figures.nd rfl (Or.inl rfl)) (pss_one (ps_if (PW.pt (pw_or (pt_not (pt_val (pe_fn F__law_whole (by omega) hr rfl (pa_cons (pe_ix ix_list (pv 0) (pv 2) (fun _ _ => rfl)) pa_nil)))) (pw_or1 (pt_cmpR op_ne (pe_ix ix_list (pv 0) (pv 2) (fun _ _ => rfl)) (pe_ix ix_list (pv 1) (pv 2) (fun _ _ => rfl)) (nomark _))))) (pss_one (ps_ret pe_bl)) pss_nil)))
    (pss_one (ps_ret pe_bl)))), rd_figures h⟩
theorem sc__law_reaches : FnScope ["_law_row", "_law_deed", "_law_found", "_law_total", "_law_place"] ["_law_row", "_law_deed", "_law_found"] (defScope s__law_reaches) := ⟨rfl, rfl, rfl, by decide +kernel, rfl, by decide +kernel, by decide +kernel⟩
set_option maxHeartbeats 4000000 in
theorem ok__law_reaches  (F : FunD K mg "_law_reaches" s__law_reaches ["_law_row", "_law_deed", "_law_found"]) (F__law_whole : FnD P w K mg base "_law_whole" (1) ["_law_found"] spWhole) (m_len : mg "len" = none) (m_range : mg "range" = none) : FnD P w K mg base "_law_reaches" (1 + 1) ["_law_row", "_law_deed", "_law_found"] (spReaches K) := by
  refine fnD_of F sc__law_reaches (fun vs H Q E h => ?_) (fun f cdv A outer s H vs Q E hr h => ?_)
  · obtain ⟨r, e, ns, d, rfl, _⟩ := h; rfl
  exact ⟨_, (pss_cons (ps_if (PW.pt (pw_or (pt_cmpR op_lt (pe_ix ix_tup (pv 1) pe_int (fun _ _ => rfl)) pe_int (nomark _)) (pw_or1 (pt_cmpR op_ge (pe_ix ix_tup (pv 1) pe_int (fun _ _ => rfl)) (pe_callB call_len' rfl m_len PySem.boot_len (pa_cons (pv 0) pa_nil)) (nomark _))))) (pss_one (ps_ret (pe_cmpR op_isN (pv 2) pe_non (nomark _)))) pss_nil)
    (pss_cons (ps_set (i := 3) sc__law_reaches.nd rfl (Or.inl rfl) pe_int)
    (pss_cons (ps_for PassesOwn.never rfl (pi_range2 rfl m_range (pa_cons (pe_ix ix_tup (pv 1) pe_int (fun _ _ => rfl)) (pa_cons (pe_callB call_len' rfl m_len PySem.boot_len (pa_cons (pv 0) pa_nil)) pa_nil))) (pg_name (i := 4) sc__law_reaches.nd rfl (Or.inl rfl)) (pss_cons (ps_set (i := 3) sc__law_reaches.nd rfl (Or.inl rfl) (pe_op op_add (pv 3) (pe_ix ix_list (pv 0) (pv 4) (fun _ _ => rfl))))
    (pss_one (ps_if (pt_cmpR op_ge (pv 3) (pe_ix ix_tup (pv 1) pe_int (fun _ _ => rfl)) (nomark _)) (pss_one (ps_ret (pe_and (pe_fn F__law_whole (by omega) hr rfl (pa_cons (pv 2) pa_nil)) (pe_one (pe_cmpR op_eq (pv 2) (pv 4) (nomark _)))))) pss_nil))))
    (pss_one (ps_ret (pe_cmpR op_isN (pv 2) pe_non (nomark _))))))), rd_reaches h⟩
theorem sc_law : FnScope ["_law_script", "_law_size", "_law_row", "_law_asked", "_law_handed", "_law_given", "_law_later", "_law_found", "_law_k", "_law_due"] ["_law_script"] (defScope s_law) := ⟨rfl, rfl, rfl, by decide +kernel, rfl, by decide +kernel, by decide +kernel⟩
set_option maxHeartbeats 8000000 in
theorem ok_law {f : Addr} {fd : FuncData}  (F : Fun K "law" "law" s_law f fd) (F__law_at : FnD P w K mg base "_law_at" (1) ["_law_script", "_law_k"] (spAt K)) (F__law_room : FnD P w K mg base "_law_room" (1) ["_law_script", "_law_most", "_law_bound"] (spRoom K)) (F__law_strung : FnD P w K mg base "_law_strung" (1) ["_law_cells", "_law_seed"] (spStrung K)) (F__law_deeds : FnD P w K mg base "_law_deeds" (1) ["_law_cells", "_law_size"] (spDeeds K)) (F_row_behind : FnD P w K mg base "row_behind" (109) ["row", "deeds"] (spRowB K)) (F_answers : FnD P w K mg base "answers" (109) ["row", "deeds"] (spAnswers K)) (F__law_figures : FnD P w K mg base "_law_figures" (2) ["_law_found", "_law_due"] (spFigures K)) (F__law_unturned : FnD P w K mg base "_law_unturned" (1) ["_law_found", "_law_due"] spUnturned) (F__law_changed : FnD P w K mg base "_law_changed" (1) ["_law_row", "_law_deed"] (spChanged K)) (F__law_whole : FnD P w K mg base "_law_whole" (1) ["_law_found"] spWhole) (F__law_reaches : FnD P w K mg base "_law_reaches" (2) ["_law_row", "_law_deed", "_law_found"] (spReaches K)) (F__law_answer : FnD P w K mg base "_law_answer" (1) ["_law_row", "_law_deed"] (spAnswer K)) (m_bool : mg "bool" = none) (m_isinstance : mg "isinstance" = none) (m_len : mg "len" = none) (m_list : mg "list" = none) (m_range : mg "range" = none) : FnOk P w K mg base CX0 (109 + 1) f fd ["_law_script"] (spLaw K) := by
  refine F.ok sc_law (fun vs H Q E h => ?_) (fun cdv A outer s H vs Q E hr h => ?_)
  · obtain ⟨a, ns, rfl, _⟩ := h; rfl
  exact ⟨_, (pss_cons (ps_set (i := 1) sc_law.nd rfl (Or.inl rfl) (pe_op op_add pe_int (pe_op op_mod (pe_fn F__law_at (by omega) hr rfl (pa_cons (pv 0) (pa_cons pe_int pa_nil))) (pe_fn F__law_room (by omega) hr rfl (pa_cons (pv 0) (pa_cons pe_int (pa_cons pe_int pa_nil)))))))
    (pss_cons (ps_set (i := 2) sc_law.nd rfl (Or.inl rfl) (pe_slice sl_list (pe_fn F__law_strung (by omega) hr rfl (pa_cons (pe_slice sl_list (pv 0) (po_some pe_int) (po_some pe_int)) (pa_cons (pe_fn F__law_at (by omega) hr rfl (pa_cons (pv 0) (pa_cons pe_int pa_nil))) pa_nil))) po_none (po_some (pv 1))))
    (pss_cons (ps_set (i := 1) sc_law.nd rfl (Or.inl rfl) (pe_callB call_len' rfl m_len PySem.boot_len (pa_cons (pv 2) pa_nil)))
    (pss_cons (ps_set (i := 3) sc_law.nd rfl (Or.inl rfl) (pe_fn F__law_deeds (by omega) hr rfl (pa_cons (pe_slice sl_list (pv 0) (po_some pe_int) (po_some pe_int)) (pa_cons (pv 1) pa_nil))))
    (pss_cons (ps_set (i := 3) sc_law.nd rfl (Or.inl rfl) (pe_op op_cat (pv 3) (pe_lst (pa_cons (pe_tup (pa_cons pe_str (pa_cons (pe_un un_neg pe_int) (pa_cons pe_int pa_nil)))) (pa_cons (pe_tup (pa_cons pe_str (pa_cons (pv 1) (pa_cons pe_int pa_nil)))) (pa_cons (pe_tup (pa_cons pe_str (pa_cons pe_int (pa_cons (pv 1) pa_nil)))) (pa_cons (pe_tup (pa_cons pe_str (pa_cons (pe_un un_neg pe_int) (pa_cons pe_int pa_nil)))) pa_nil)))))))
    (pss_cons (ps_set (i := 3) sc_law.nd rfl (Or.inl rfl) (pe_op op_cat (pv 3) (pe_lst (pa_cons (pe_tup (pa_cons pe_str (pa_cons (pe_op op_sub (pv 1) pe_int) (pa_cons (pe_op op_pow pe_int pe_int) pa_nil)))) (pa_cons (pe_tup (pa_cons pe_str (pa_cons (pe_op op_sub (pv 1) pe_int) (pa_cons pe_int pa_nil)))) (pa_cons (pe_tup (pa_cons pe_str (pa_cons pe_int (pa_cons (pe_un un_neg (pe_op op_pow pe_int pe_int)) pa_nil)))) pa_nil))))))
    (pss_cons (ps_set (i := 4) sc_law.nd rfl (Or.inl rfl) (pe_callTy call_listL rfl m_list PyProof.Rows.boot_list (pa_cons (pv 2) pa_nil)))
    (pss_cons (ps_set (i := 5) sc_law.nd rfl (Or.inl rfl) (pe_callTy call_listL rfl m_list PyProof.Rows.boot_list (pa_cons (pv 3) pa_nil)))
    (pss_cons (ps_set (i := 6) sc_law.nd rfl (Or.inl rfl) (pe_fn F_row_behind (by omega) hr rfl (pa_cons (pv 4) (pa_cons (pv 5) pa_nil))))
    (pss_cons (ps_set (i := 7) sc_law.nd rfl (Or.inl rfl) (pe_fn F_answers (by omega) hr rfl (pa_cons (pe_callTy call_listL rfl m_list PyProof.Rows.boot_list (pa_cons (pv 2) pa_nil)) (pa_cons (pe_callTy call_listL rfl m_list PyProof.Rows.boot_list (pa_cons (pv 3) pa_nil)) pa_nil))))
    (pss_cons (ps_if (PW.pt (pw_or (pt_not (pt_val (pe_fn F__law_figures (by omega) hr rfl (pa_cons (pv 4) (pa_cons (pv 2) pa_nil))))) (pw_or1 (pt_not (pt_val (pe_fn F__law_unturned (by omega) hr rfl (pa_cons (pv 5) (pa_cons (pv 3) pa_nil)))))))) (pss_one (ps_ret pe_bl)) pss_nil)
    (pss_cons (ps_if (PW.pt (pw_or (pt_not (pt_val (pe_callB call_isi rfl m_isinstance PyProof.Rows.boot_isinstance (pa_cons (pv 7) (pa_cons (pe_bltn (v := .ty "list") rfl m_list PyProof.Rows.boot_list rfl) pa_nil))))) (pw_or1 (pt_cmpR op_ne (pe_callB call_len' rfl m_len PySem.boot_len (pa_cons (pv 7) pa_nil)) (pe_callB call_len' rfl m_len PySem.boot_len (pa_cons (pv 3) pa_nil)) (nomark _))))) (pss_one (ps_ret pe_bl)) pss_nil)
    (pss_cons (ps_for PassesOwn.never rfl (pi_range1 rfl m_range (pa_cons (pe_callB call_len' rfl m_len PySem.boot_len (pa_cons (pv 3) pa_nil)) pa_nil)) (pg_name (i := 8) sc_law.nd rfl (Or.inl rfl)) (pss_one (ps_if (pt_cmpR op_in_seq (pe_ix ix_tup (pe_ix ix_list (pv 3) (pv 8) (fun _ _ => rfl)) pe_int (fun _ _ => rfl)) (pe_lst (pa_cons pe_str (pa_cons pe_str (pa_cons pe_str pa_nil)))) (by with_unfolding_all rfl)) (pss_cons (ps_set (i := 9) sc_law.nd rfl (Or.inl rfl) (pe_fn F__law_changed (by omega) hr rfl (pa_cons (pv 2) (pa_cons (pe_ix ix_list (pv 3) (pv 8) (fun _ _ => rfl)) pa_nil))))
    (pss_one (ps_if (pt_cmpR op_isN (pv 9) pe_non (nomark _)) (pss_one (ps_if (pt_cmpR op_notN (pe_ix ix_list (pv 7) (pv 8) (fun _ _ => rfl)) pe_non (nomark _)) (pss_one (ps_ret pe_bl)) pss_nil)) (pss_one (ps_if (pt_val (pe_callB call_isi rfl m_isinstance PyProof.Rows.boot_isinstance (pa_cons (pv 9) (pa_cons (pe_bltn (v := .ty "bool") rfl m_bool PyProof.Rows.boot_bool rfl) pa_nil)))) (pss_one (ps_if (PW.pt (pw_or (pt_not (pt_val (pe_callB call_isi rfl m_isinstance PyProof.Rows.boot_isinstance (pa_cons (pe_ix ix_list (pv 7) (pv 8) (fun _ _ => rfl)) (pa_cons (pe_bltn (v := .ty "bool") rfl m_bool PyProof.Rows.boot_bool rfl) pa_nil))))) (pw_or1 (pt_not (pt_val (pe_ix ix_list (pv 7) (pv 8) (fun _ _ => rfl))))))) (pss_one (ps_ret pe_bl)) pss_nil)) (pss_one (ps_if (PW.pt (pw_or (pt_not (pt_val (pe_fn F__law_whole (by omega) hr rfl (pa_cons (pe_ix ix_list (pv 7) (pv 8) (fun _ _ => rfl)) pa_nil)))) (pw_or1 (pt_cmpR op_ne (pe_ix ix_list (pv 7) (pv 8) (fun _ _ => rfl)) (pv 9) (nomark _))))) (pss_one (ps_ret pe_bl)) pss_nil))))))) (pss_one (ps_if (pt_cmpR op_eq (pe_ix ix_tup (pe_ix ix_list (pv 3) (pv 8) (fun _ _ => rfl)) pe_int (fun _ _ => rfl)) pe_str (nomark _)) (pss_one (ps_if (pt_not (pt_val (pe_fn F__law_reaches (by omega) hr rfl (pa_cons (pv 2) (pa_cons (pe_ix ix_list (pv 3) (pv 8) (fun _ _ => rfl)) (pa_cons (pe_ix ix_list (pv 7) (pv 8) (fun _ _ => rfl)) pa_nil)))))) (pss_one (ps_ret pe_bl)) pss_nil)) (pss_cons (ps_set (i := 9) sc_law.nd rfl (Or.inl rfl) (pe_fn F__law_answer (by omega) hr rfl (pa_cons (pv 2) (pa_cons (pe_ix ix_list (pv 3) (pv 8) (fun _ _ => rfl)) pa_nil))))
    (pss_cons (ps_if (PW.pt (pw_and (pt_cmpR op_isN (pv 9) pe_non (nomark _)) (pw_and1 (pt_cmpR op_notN (pe_ix ix_list (pv 7) (pv 8) (fun _ _ => rfl)) pe_non (nomark _))))) (pss_one (ps_ret pe_bl)) pss_nil)
    (pss_one (ps_if (PW.pt (pw_and (pt_cmpR op_notN (pv 9) pe_non (nomark _)) (pw_and1 (PW.pt (pw_or (pt_not (pt_val (pe_fn F__law_whole (by omega) hr rfl (pa_cons (pe_ix ix_list (pv 7) (pv 8) (fun _ _ => rfl)) pa_nil)))) (pw_or1 (pt_cmpR op_ne (pe_ix ix_list (pv 7) (pv 8) (fun _ _ => rfl)) (pv 9) (nomark _)))))))) (pss_one (ps_ret pe_bl)) pss_nil)))))))))
    (pss_one (ps_ret (pe_fn F__law_figures (by omega) hr rfl (pa_cons (pv 6) (pa_cons (pv 2) pa_nil)))))))))))))))))), rd_k06 h⟩
end
theorem rec_stretches_within {P : Program} {w : World} {K : PySem.W.Frag} {mg : Str → Option Value} {base : Heap}  (D : FunD K mg "stretches_within" s_stretches_within ["start", "stop"]) (F_middle_of : FnD P w K mg base "middle_of" (1) ["start", "stop"] PT.spMid) : ∀ n : Nat, FnD P w K mg base "stretches_within" (n + 1) ["start", "stop"] (PT.spW n)
  | 0 => (FnD.none D fun vs H Q E h => by obtain ⟨a, b, _, h1, h2, _⟩ := h; omega).up (Nat.zero_le _)
  | n + 1 => ok_stretches_within D F_middle_of (rec_stretches_within D F_middle_of n) 
theorem rec_put_within {P : Program} {w : World} {K : PySem.W.Frag} {mg : Str → Option Value} {base : Heap} {C : Addr} (T : Txt K C) (D : FunM K C "put_within" "Tree.put_within" s_put_within ["self", "start", "stop", "place", "number"]) (F_part_of_one : FnD P w K mg base "part_of_one" (1) ["number"] K01.spOne) (F_middle_of : FnD P w K mg base "middle_of" (1) ["start", "stop"] PT.spMid) (F_part_from_halves : MthD P w K mg base C "part_from_halves" (2) ["self", "start", "stop"] (PT.spHalves C)) : ∀ n : Nat, MthD P w K mg base C "put_within" (n + 3) ["self", "start", "stop", "place", "number"] (PT.spPutW C n)
  | 0 => (MthD.none D fun vs H Q E h => by obtain ⟨p, d, N, M, ns, a, b, x, v, _, _, _, h0, h1, h2, h3, h4, _⟩ := h; omega).up (Nat.zero_le _)
  | n + 1 => ok_put_within T D F_part_of_one F_middle_of (rec_put_within T D F_part_of_one F_middle_of F_part_from_halves n) F_part_from_halves 
theorem rec_part_within {P : Program} {w : World} {K : PySem.W.Frag} {mg : Str → Option Value} {base : Heap} {C : Addr} (T : Txt K C) (D : FunM K C "part_within" "Tree.part_within" s_part_within ["self", "start", "stop", "begin", "end"]) (F_middle_of : FnD P w K mg base "middle_of" (1) ["start", "stop"] PT.spMid) (F_joined : FnD P w K mg base "joined" (1) ["one", "other"] (K01.spJoined K)) : ∀ n : Nat, MthD P w K mg base C "part_within" (n + 2) ["self", "start", "stop", "begin", "end"] (PT.spPartW C n)
  | 0 => (MthD.none D fun vs H Q E h => by obtain ⟨p, d, N, L, M, ns, a, b, x, y, _, _, _, h0, h1, h2, h3, h4, h5, _⟩ := h; omega).up (Nat.zero_le _)
  | n + 1 => ok_part_within T D F_middle_of (rec_part_within T D F_middle_of F_joined n) F_joined 
theorem rec_reaching_within {P : Program} {w : World} {K : PySem.W.Frag} {mg : Str → Option Value} {base : Heap} {C : Addr} (T : Txt K C) (D : FunM K C "reaching_within" "Tree.reaching_within" s_reaching_within ["self", "start", "stop", "begin", "mark"]) (F_middle_of : FnD P w K mg base "middle_of" (1) ["start", "stop"] PT.spMid) {t_REACH : Tok} (m_REACH : mg "REACH" = some (.int 3 t_REACH)) {t_TOTAL : Tok} (m_TOTAL : mg "TOTAL" = some (.int 0 t_TOTAL)) : ∀ n : Nat, MthD P w K mg base C "reaching_within" (n + 2) ["self", "start", "stop", "begin", "mark"] (PT.spReachW C n)
  | 0 => (MthD.none D fun vs H Q E h => by obtain ⟨p, d, N, L, M, ns, a, b, x, m, _, _, _, h0, h1, h2, h3, _⟩ := h; omega).up (Nat.zero_le _)
  | n + 1 => ok_reaching_within T D F_middle_of (rec_reaching_within T D F_middle_of m_REACH m_TOTAL n) m_REACH m_TOTAL
set_option maxHeartbeats 4000000 in
theorem all_mk {l : PySem.W.OpenLaw} {w : World} {K : PySem.W.Frag} {h : Heap} {mg : Str → Option Value} {fa : Addr} (X : K.In h) (G : h.Ns mainGlobals mg) (hfa : mg "law" = some (.ref fa))
    {C : Addr}
    {f_0 : Addr} {od0 an0 : Option Addr} {sl0 : Array (Option Value)} {oc0 kV0 dc0 pm0 cd0 ct0 : Value}
    {f_1 : Addr} {od1 an1 : Option Addr} {sl1 : Array (Option Value)} {oc1 kV1 dc1 pm1 cd1 ct1 : Value}
    {f_2 : Addr} {od2 an2 : Option Addr} {sl2 : Array (Option Value)} {oc2 kV2 dc2 pm2 cd2 ct2 : Value}
    {f_3 : Addr} {od3 an3 : Option Addr} {sl3 : Array (Option Value)} {oc3 kV3 dc3 pm3 cd3 ct3 : Value}
    {f_4 : Addr} {od4 an4 : Option Addr} {sl4 : Array (Option Value)} {oc4 kV4 dc4 pm4 cd4 ct4 : Value}
    {f_5 : Addr} {od5 an5 : Option Addr} {sl5 : Array (Option Value)} {oc5 kV5 dc5 pm5 cd5 ct5 : Value}
    {f_6 : Addr} {od6 an6 : Option Addr} {sl6 : Array (Option Value)} {oc6 kV6 dc6 pm6 cd6 ct6 : Value}
    {f_7 : Addr} {od7 an7 : Option Addr} {sl7 : Array (Option Value)} {oc7 kV7 dc7 pm7 cd7 ct7 : Value}
    {f_8 : Addr} {od8 an8 : Option Addr} {sl8 : Array (Option Value)} {oc8 kV8 dc8 pm8 cd8 ct8 : Value}
    {f_9 : Addr} {od9 an9 : Option Addr} {sl9 : Array (Option Value)} {oc9 kV9 dc9 pm9 cd9 ct9 : Value}
    {f_10 : Addr} {od10 an10 : Option Addr} {sl10 : Array (Option Value)} {oc10 kV10 dc10 pm10 cd10 ct10 : Value}
    {f_11 : Addr} {od11 an11 : Option Addr} {sl11 : Array (Option Value)} {oc11 kV11 dc11 pm11 cd11 ct11 : Value}
    {f_12 : Addr} {od12 an12 : Option Addr} {sl12 : Array (Option Value)} {oc12 kV12 dc12 pm12 cd12 ct12 : Value}
    {f_13 : Addr} {od13 an13 : Option Addr} {sl13 : Array (Option Value)} {oc13 kV13 dc13 pm13 cd13 ct13 : Value}
    {f_14 : Addr} {od14 an14 : Option Addr} {sl14 : Array (Option Value)} {oc14 kV14 dc14 pm14 cd14 ct14 : Value}
    {f_15 : Addr} {od15 an15 : Option Addr} {sl15 : Array (Option Value)} {oc15 kV15 dc15 pm15 cd15 ct15 : Value}
    {f_16 : Addr} {od16 an16 : Option Addr} {sl16 : Array (Option Value)} {oc16 kV16 dc16 pm16 cd16 ct16 : Value}
    {f_17 : Addr} {od17 an17 : Option Addr} {sl17 : Array (Option Value)} {oc17 kV17 dc17 pm17 cd17 ct17 : Value}
    {f_18 : Addr} {od18 an18 : Option Addr} {sl18 : Array (Option Value)} {oc18 kV18 dc18 pm18 cd18 ct18 : Value}
    {f_19 : Addr} {od19 an19 : Option Addr} {sl19 : Array (Option Value)} {oc19 kV19 dc19 pm19 cd19 ct19 : Value}
    {f_20 : Addr} {od20 an20 : Option Addr} {sl20 : Array (Option Value)} {oc20 kV20 dc20 pm20 cd20 ct20 : Value}
    {f_21 : Addr} {od21 an21 : Option Addr} {sl21 : Array (Option Value)} {oc21 kV21 dc21 pm21 cd21 ct21 : Value}
    {f_22 : Addr} {od22 an22 : Option Addr} {sl22 : Array (Option Value)} {oc22 kV22 dc22 pm22 cd22 ct22 : Value}
    {f_23 : Addr} {od23 an23 : Option Addr} {sl23 : Array (Option Value)} {oc23 kV23 dc23 pm23 cd23 ct23 : Value}
    {f_24 : Addr} {od24 an24 : Option Addr} {sl24 : Array (Option Value)} {oc24 kV24 dc24 pm24 cd24 ct24 : Value}
    {f_25 : Addr} {od25 an25 : Option Addr} {sl25 : Array (Option Value)} {oc25 kV25 dc25 pm25 cd25 ct25 : Value}
    {f_26 : Addr} {od26 an26 : Option Addr} {sl26 : Array (Option Value)} {oc26 kV26 dc26 pm26 cd26 ct26 : Value}
    {f_27 : Addr} {od27 an27 : Option Addr} {sl27 : Array (Option Value)} {oc27 kV27 dc27 pm27 cd27 ct27 : Value}
    {f_28 : Addr} {od28 an28 : Option Addr} {sl28 : Array (Option Value)} {oc28 kV28 dc28 pm28 cd28 ct28 : Value}
    {f_29 : Addr} {od29 an29 : Option Addr} {sl29 : Array (Option Value)} {oc29 kV29 dc29 pm29 cd29 ct29 : Value}
    {f_30 : Addr} {od30 an30 : Option Addr} {sl30 : Array (Option Value)} {oc30 kV30 dc30 pm30 cd30 ct30 : Value}
    {f_31 : Addr} {od31 an31 : Option Addr} {sl31 : Array (Option Value)} {oc31 kV31 dc31 pm31 cd31 ct31 : Value}
    {f_32 : Addr} {od32 an32 : Option Addr} {sl32 : Array (Option Value)} {oc32 kV32 dc32 pm32 cd32 ct32 : Value}
    {f_33 : Addr} {od33 an33 : Option Addr} {sl33 : Array (Option Value)} {oc33 kV33 dc33 pm33 cd33 ct33 : Value}
    {f_34 : Addr} {od34 an34 : Option Addr} {sl34 : Array (Option Value)} {oc34 kV34 dc34 pm34 cd34 ct34 : Value}
    {f_35 : Addr} {od35 an35 : Option Addr} {sl35 : Array (Option Value)} {oc35 kV35 dc35 pm35 cd35 ct35 : Value}
    {f_36 : Addr} {od36 an36 : Option Addr} {sl36 : Array (Option Value)} {oc36 kV36 dc36 pm36 cd36 ct36 : Value}
    {f_37 : Addr} {od37 an37 : Option Addr} {sl37 : Array (Option Value)} {oc37 kV37 dc37 pm37 cd37 ct37 : Value}
    {f_38 : Addr} {od38 an38 : Option Addr} {sl38 : Array (Option Value)} {oc38 kV38 dc38 pm38 cd38 ct38 : Value}
    {t_GREATEST : Tok}
    {t_LEAST : Tok}
    {t_REACH : Tok}
    {t_TOTAL : Tok}
    (aC : PySem.W.nsIn K mainGlobals "Tree" = some (some (.ref C))) (pg : PySem.W.plainGet K C Str.empty = true) (hd : PySem.W.hasDictIn K C = true) (po : PySem.W.plainOver K C = true) (sa : PySem.W.findIn K (.ref C) "__setattr__" = some (some (.builtin "object.__setattr__"))) (mk : PySem.W.makesIn K C = true) (kc : PySem.W.keepIn K (.ref C) = true) (nL : PySem.W.findIn K (.ref C) "length" = some none) (nP : PySem.W.findIn K (.ref C) "parts" = some none)
    (a0 : PySem.W.nsIn K mainGlobals "middle_of" = some (some (.ref f_0)))
    (l0 : K.lookup f_0 = some ⟨oc0, od0, .func (PySem.W.fnOf "middle_of" "middle_of" (defArgs s_middle_of) (defBody s_middle_of) (defScope s_middle_of) .none kV0 dc0 pm0 an0 cd0 ct0), sl0⟩) (c0 : PySem.W.codeIn K cd0 "middle_of" = true) (k0 : PySem.W.keepIn K (.ref f_0) = true)
    (a1 : PySem.W.nsIn K mainGlobals "stretches_within" = some (some (.ref f_1)))
    (l1 : K.lookup f_1 = some ⟨oc1, od1, .func (PySem.W.fnOf "stretches_within" "stretches_within" (defArgs s_stretches_within) (defBody s_stretches_within) (defScope s_stretches_within) .none kV1 dc1 pm1 an1 cd1 ct1), sl1⟩) (c1 : PySem.W.codeIn K cd1 "stretches_within" = true) (k1 : PySem.W.keepIn K (.ref f_1) = true)
    (a2 : PySem.W.nsIn K mainGlobals "stretches" = some (some (.ref f_2)))
    (l2 : K.lookup f_2 = some ⟨oc2, od2, .func (PySem.W.fnOf "stretches" "stretches" (defArgs s_stretches) (defBody s_stretches) (defScope s_stretches) .none kV2 dc2 pm2 an2 cd2 ct2), sl2⟩) (c2 : PySem.W.codeIn K cd2 "stretches" = true) (k2 : PySem.W.keepIn K (.ref f_2) = true)
    (a3 : PySem.W.nsIn K mainGlobals "part_of_one" = some (some (.ref f_3)))
    (l3 : K.lookup f_3 = some ⟨oc3, od3, .func (PySem.W.fnOf "part_of_one" "part_of_one" (defArgs s_part_of_one) (defBody s_part_of_one) (defScope s_part_of_one) .none kV3 dc3 pm3 an3 cd3 ct3), sl3⟩) (c3 : PySem.W.codeIn K cd3 "part_of_one" = true) (k3 : PySem.W.keepIn K (.ref f_3) = true)
    (a4 : PySem.W.nsIn K mainGlobals "joined" = some (some (.ref f_4)))
    (l4 : K.lookup f_4 = some ⟨oc4, od4, .func (PySem.W.fnOf "joined" "joined" (defArgs s_joined) (defBody s_joined) (defScope s_joined) .none kV4 dc4 pm4 an4 cd4 ct4), sl4⟩) (c4 : PySem.W.codeIn K cd4 "joined" = true) (k4 : PySem.W.keepIn K (.ref f_4) = true)
    (a5 : PySem.W.findIn K (.ref C) "part_from_halves" = some (some (.ref f_5))) (i5 : PySem.W.isFn K (.ref f_5) = true)
    (l5 : K.lookup f_5 = some ⟨oc5, od5, .func (PySem.W.fnOf "part_from_halves" "Tree.part_from_halves" (defArgs s_part_from_halves) (defBody s_part_from_halves) (defScope s_part_from_halves) .none kV5 dc5 pm5 an5 cd5 ct5), sl5⟩) (c5 : PySem.W.codeIn K cd5 "Tree.part_from_halves" = true) (k5 : PySem.W.keepIn K (.ref f_5) = true)
    (a6 : PySem.W.findIn K (.ref C) "part_at_first" = some (some (.ref f_6))) (i6 : PySem.W.isFn K (.ref f_6) = true)
    (l6 : K.lookup f_6 = some ⟨oc6, od6, .func (PySem.W.fnOf "part_at_first" "Tree.part_at_first" (defArgs s_part_at_first) (defBody s_part_at_first) (defScope s_part_at_first) .none kV6 dc6 pm6 an6 cd6 ct6), sl6⟩) (c6 : PySem.W.codeIn K cd6 "Tree.part_at_first" = true) (k6 : PySem.W.keepIn K (.ref f_6) = true)
    (a7 : PySem.W.findIn K (.ref C) "__init__" = some (some (.ref f_7))) (i7 : PySem.W.isFn K (.ref f_7) = true)
    (l7 : K.lookup f_7 = some ⟨oc7, od7, .func (PySem.W.fnOf "__init__" "Tree.__init__" (defArgs s_init) (defBody s_init) (defScope s_init) .none kV7 dc7 pm7 an7 cd7 ct7), sl7⟩) (c7 : PySem.W.codeIn K cd7 "Tree.__init__" = true) (k7 : PySem.W.keepIn K (.ref f_7) = true)
    (a8 : PySem.W.findIn K (.ref C) "has_place" = some (some (.ref f_8))) (i8 : PySem.W.isFn K (.ref f_8) = true)
    (l8 : K.lookup f_8 = some ⟨oc8, od8, .func (PySem.W.fnOf "has_place" "Tree.has_place" (defArgs s_has_place) (defBody s_has_place) (defScope s_has_place) .none kV8 dc8 pm8 an8 cd8 ct8), sl8⟩) (c8 : PySem.W.codeIn K cd8 "Tree.has_place" = true) (k8 : PySem.W.keepIn K (.ref f_8) = true)
    (a9 : PySem.W.findIn K (.ref C) "number_at" = some (some (.ref f_9))) (i9 : PySem.W.isFn K (.ref f_9) = true)
    (l9 : K.lookup f_9 = some ⟨oc9, od9, .func (PySem.W.fnOf "number_at" "Tree.number_at" (defArgs s_number_at) (defBody s_number_at) (defScope s_number_at) .none kV9 dc9 pm9 an9 cd9 ct9), sl9⟩) (c9 : PySem.W.codeIn K cd9 "Tree.number_at" = true) (k9 : PySem.W.keepIn K (.ref f_9) = true)
    (a10 : PySem.W.findIn K (.ref C) "put_within" = some (some (.ref f_10))) (i10 : PySem.W.isFn K (.ref f_10) = true)
    (l10 : K.lookup f_10 = some ⟨oc10, od10, .func (PySem.W.fnOf "put_within" "Tree.put_within" (defArgs s_put_within) (defBody s_put_within) (defScope s_put_within) .none kV10 dc10 pm10 an10 cd10 ct10), sl10⟩) (c10 : PySem.W.codeIn K cd10 "Tree.put_within" = true) (k10 : PySem.W.keepIn K (.ref f_10) = true)
    (a11 : PySem.W.findIn K (.ref C) "put" = some (some (.ref f_11))) (i11 : PySem.W.isFn K (.ref f_11) = true)
    (l11 : K.lookup f_11 = some ⟨oc11, od11, .func (PySem.W.fnOf "put" "Tree.put" (defArgs s_put) (defBody s_put) (defScope s_put) .none kV11 dc11 pm11 an11 cd11 ct11), sl11⟩) (c11 : PySem.W.codeIn K cd11 "Tree.put" = true) (k11 : PySem.W.keepIn K (.ref f_11) = true)
    (a12 : PySem.W.nsIn K mainGlobals "set_number" = some (some (.ref f_12)))
    (l12 : K.lookup f_12 = some ⟨oc12, od12, .func (PySem.W.fnOf "set_number" "set_number" (defArgs s_set_number) (defBody s_set_number) (defScope s_set_number) .none kV12 dc12 pm12 an12 cd12 ct12), sl12⟩) (c12 : PySem.W.codeIn K cd12 "set_number" = true) (k12 : PySem.W.keepIn K (.ref f_12) = true)
    (a13 : PySem.W.nsIn K mainGlobals "add_to_number" = some (some (.ref f_13)))
    (l13 : K.lookup f_13 = some ⟨oc13, od13, .func (PySem.W.fnOf "add_to_number" "add_to_number" (defArgs s_add_to_number) (defBody s_add_to_number) (defScope s_add_to_number) .none kV13 dc13 pm13 an13 cd13 ct13), sl13⟩) (c13 : PySem.W.codeIn K cd13 "add_to_number" = true) (k13 : PySem.W.keepIn K (.ref f_13) = true)
    (a14 : PySem.W.nsIn K mainGlobals "swap_numbers" = some (some (.ref f_14)))
    (l14 : K.lookup f_14 = some ⟨oc14, od14, .func (PySem.W.fnOf "swap_numbers" "swap_numbers" (defArgs s_swap_numbers) (defBody s_swap_numbers) (defScope s_swap_numbers) .none kV14 dc14 pm14 an14 cd14 ct14), sl14⟩) (c14 : PySem.W.codeIn K cd14 "swap_numbers" = true) (k14 : PySem.W.keepIn K (.ref f_14) = true)
    (a15 : PySem.W.findIn K (.ref C) "has_stretch" = some (some (.ref f_15))) (i15 : PySem.W.isFn K (.ref f_15) = true)
    (l15 : K.lookup f_15 = some ⟨oc15, od15, .func (PySem.W.fnOf "has_stretch" "Tree.has_stretch" (defArgs s_has_stretch) (defBody s_has_stretch) (defScope s_has_stretch) .none kV15 dc15 pm15 an15 cd15 ct15), sl15⟩) (c15 : PySem.W.codeIn K cd15 "Tree.has_stretch" = true) (k15 : PySem.W.keepIn K (.ref f_15) = true)
    (a16 : PySem.W.findIn K (.ref C) "part_within" = some (some (.ref f_16))) (i16 : PySem.W.isFn K (.ref f_16) = true)
    (l16 : K.lookup f_16 = some ⟨oc16, od16, .func (PySem.W.fnOf "part_within" "Tree.part_within" (defArgs s_part_within) (defBody s_part_within) (defScope s_part_within) .none kV16 dc16 pm16 an16 cd16 ct16), sl16⟩) (c16 : PySem.W.codeIn K cd16 "Tree.part_within" = true) (k16 : PySem.W.keepIn K (.ref f_16) = true)
    (a17 : PySem.W.findIn K (.ref C) "part_over" = some (some (.ref f_17))) (i17 : PySem.W.isFn K (.ref f_17) = true)
    (l17 : K.lookup f_17 = some ⟨oc17, od17, .func (PySem.W.fnOf "part_over" "Tree.part_over" (defArgs s_part_over) (defBody s_part_over) (defScope s_part_over) .none kV17 dc17 pm17 an17 cd17 ct17), sl17⟩) (c17 : PySem.W.codeIn K cd17 "Tree.part_over" = true) (k17 : PySem.W.keepIn K (.ref f_17) = true)
    (a18 : PySem.W.nsIn K mainGlobals "told_of_stretch" = some (some (.ref f_18)))
    (l18 : K.lookup f_18 = some ⟨oc18, od18, .func (PySem.W.fnOf "told_of_stretch" "told_of_stretch" (defArgs s_told_of_stretch) (defBody s_told_of_stretch) (defScope s_told_of_stretch) .none kV18 dc18 pm18 an18 cd18 ct18), sl18⟩) (c18 : PySem.W.codeIn K cd18 "told_of_stretch" = true) (k18 : PySem.W.keepIn K (.ref f_18) = true)
    (a19 : PySem.W.findIn K (.ref C) "reaching_within" = some (some (.ref f_19))) (i19 : PySem.W.isFn K (.ref f_19) = true)
    (l19 : K.lookup f_19 = some ⟨oc19, od19, .func (PySem.W.fnOf "reaching_within" "Tree.reaching_within" (defArgs s_reaching_within) (defBody s_reaching_within) (defScope s_reaching_within) .none kV19 dc19 pm19 an19 cd19 ct19), sl19⟩) (c19 : PySem.W.codeIn K cd19 "Tree.reaching_within" = true) (k19 : PySem.W.keepIn K (.ref f_19) = true)
    (a20 : PySem.W.findIn K (.ref C) "total_ahead_of" = some (some (.ref f_20))) (i20 : PySem.W.isFn K (.ref f_20) = true)
    (l20 : K.lookup f_20 = some ⟨oc20, od20, .func (PySem.W.fnOf "total_ahead_of" "Tree.total_ahead_of" (defArgs s_total_ahead_of) (defBody s_total_ahead_of) (defScope s_total_ahead_of) .none kV20 dc20 pm20 an20 cd20 ct20), sl20⟩) (c20 : PySem.W.codeIn K cd20 "Tree.total_ahead_of" = true) (k20 : PySem.W.keepIn K (.ref f_20) = true)
    (a21 : PySem.W.findIn K (.ref C) "place_reaching" = some (some (.ref f_21))) (i21 : PySem.W.isFn K (.ref f_21) = true)
    (l21 : K.lookup f_21 = some ⟨oc21, od21, .func (PySem.W.fnOf "place_reaching" "Tree.place_reaching" (defArgs s_place_reaching) (defBody s_place_reaching) (defScope s_place_reaching) .none kV21 dc21 pm21 an21 cd21 ct21), sl21⟩) (c21 : PySem.W.codeIn K cd21 "Tree.place_reaching" = true) (k21 : PySem.W.keepIn K (.ref f_21) = true)
    (a22 : PySem.W.nsIn K mainGlobals "place_reached" = some (some (.ref f_22)))
    (l22 : K.lookup f_22 = some ⟨oc22, od22, .func (PySem.W.fnOf "place_reached" "place_reached" (defArgs s_place_reached) (defBody s_place_reached) (defScope s_place_reached) .none kV22 dc22 pm22 an22 cd22 ct22), sl22⟩) (c22 : PySem.W.codeIn K cd22 "place_reached" = true) (k22 : PySem.W.keepIn K (.ref f_22) = true)
    (a23 : PySem.W.nsIn K mainGlobals "answer_to" = some (some (.ref f_23)))
    (l23 : K.lookup f_23 = some ⟨oc23, od23, .func (PySem.W.fnOf "answer_to" "answer_to" (defArgs s_answer_to) (defBody s_answer_to) (defScope s_answer_to) .none kV23 dc23 pm23 an23 cd23 ct23), sl23⟩) (c23 : PySem.W.codeIn K cd23 "answer_to" = true) (k23 : PySem.W.keepIn K (.ref f_23) = true)
    (a24 : PySem.W.nsIn K mainGlobals "tree_of_day" = some (some (.ref f_24)))
    (l24 : K.lookup f_24 = some ⟨oc24, od24, .func (PySem.W.fnOf "tree_of_day" "tree_of_day" (defArgs s_tree_of_day) (defBody s_tree_of_day) (defScope s_tree_of_day) .none kV24 dc24 pm24 an24 cd24 ct24), sl24⟩) (c24 : PySem.W.codeIn K cd24 "tree_of_day" = true) (k24 : PySem.W.keepIn K (.ref f_24) = true)
    (a25 : PySem.W.findIn K (.ref C) "numbers" = some (some (.ref f_25))) (i25 : PySem.W.isFn K (.ref f_25) = true)
    (l25 : K.lookup f_25 = some ⟨oc25, od25, .func (PySem.W.fnOf "numbers" "Tree.numbers" (defArgs s_numbers) (defBody s_numbers) (defScope s_numbers) .none kV25 dc25 pm25 an25 cd25 ct25), sl25⟩) (c25 : PySem.W.codeIn K cd25 "Tree.numbers" = true) (k25 : PySem.W.keepIn K (.ref f_25) = true)
    (a26 : PySem.W.nsIn K mainGlobals "row_behind" = some (some (.ref f_26)))
    (l26 : K.lookup f_26 = some ⟨oc26, od26, .func (PySem.W.fnOf "row_behind" "row_behind" (defArgs s_row_behind) (defBody s_row_behind) (defScope s_row_behind) .none kV26 dc26 pm26 an26 cd26 ct26), sl26⟩) (c26 : PySem.W.codeIn K cd26 "row_behind" = true) (k26 : PySem.W.keepIn K (.ref f_26) = true)
    (a27 : PySem.W.nsIn K mainGlobals "answers" = some (some (.ref f_27)))
    (l27 : K.lookup f_27 = some ⟨oc27, od27, .func (PySem.W.fnOf "answers" "answers" (defArgs s_answers) (defBody s_answers) (defScope s_answers) .none kV27 dc27 pm27 an27 cd27 ct27), sl27⟩) (c27 : PySem.W.codeIn K cd27 "answers" = true) (k27 : PySem.W.keepIn K (.ref f_27) = true)
    (a28 : PySem.W.nsIn K mainGlobals "_law_unturned" = some (some (.ref f_28)))
    (l28 : K.lookup f_28 = some ⟨oc28, od28, .func (PySem.W.fnOf "_law_unturned" "_law_unturned" (defArgs s__law_unturned) (defBody s__law_unturned) (defScope s__law_unturned) .none kV28 dc28 pm28 an28 cd28 ct28), sl28⟩) (c28 : PySem.W.codeIn K cd28 "_law_unturned" = true) (k28 : PySem.W.keepIn K (.ref f_28) = true)
    (a29 : PySem.W.nsIn K mainGlobals "_law_room" = some (some (.ref f_29)))
    (l29 : K.lookup f_29 = some ⟨oc29, od29, .func (PySem.W.fnOf "_law_room" "_law_room" (defArgs s__law_room) (defBody s__law_room) (defScope s__law_room) .none kV29 dc29 pm29 an29 cd29 ct29), sl29⟩) (c29 : PySem.W.codeIn K cd29 "_law_room" = true) (k29 : PySem.W.keepIn K (.ref f_29) = true)
    (a30 : PySem.W.nsIn K mainGlobals "_law_whole" = some (some (.ref f_30)))
    (l30 : K.lookup f_30 = some ⟨oc30, od30, .func (PySem.W.fnOf "_law_whole" "_law_whole" (defArgs s__law_whole) (defBody s__law_whole) (defScope s__law_whole) .none kV30 dc30 pm30 an30 cd30 ct30), sl30⟩) (c30 : PySem.W.codeIn K cd30 "_law_whole" = true) (k30 : PySem.W.keepIn K (.ref f_30) = true)
    (a31 : PySem.W.nsIn K mainGlobals "_law_at" = some (some (.ref f_31)))
    (l31 : K.lookup f_31 = some ⟨oc31, od31, .func (PySem.W.fnOf "_law_at" "_law_at" (defArgs s__law_at) (defBody s__law_at) (defScope s__law_at) .none kV31 dc31 pm31 an31 cd31 ct31), sl31⟩) (c31 : PySem.W.codeIn K cd31 "_law_at" = true) (k31 : PySem.W.keepIn K (.ref f_31) = true)
    (a32 : PySem.W.nsIn K mainGlobals "_law_strung" = some (some (.ref f_32)))
    (l32 : K.lookup f_32 = some ⟨oc32, od32, .func (PySem.W.fnOf "_law_strung" "_law_strung" (defArgs s__law_strung) (defBody s__law_strung) (defScope s__law_strung) .none kV32 dc32 pm32 an32 cd32 ct32), sl32⟩) (c32 : PySem.W.codeIn K cd32 "_law_strung" = true) (k32 : PySem.W.keepIn K (.ref f_32) = true)
    (a33 : PySem.W.nsIn K mainGlobals "_law_deeds" = some (some (.ref f_33)))
    (l33 : K.lookup f_33 = some ⟨oc33, od33, .func (PySem.W.fnOf "_law_deeds" "_law_deeds" (defArgs s__law_deeds) (defBody s__law_deeds) (defScope s__law_deeds) .none kV33 dc33 pm33 an33 cd33 ct33), sl33⟩) (c33 : PySem.W.codeIn K cd33 "_law_deeds" = true) (k33 : PySem.W.keepIn K (.ref f_33) = true)
    (a34 : PySem.W.nsIn K mainGlobals "_law_changed" = some (some (.ref f_34)))
    (l34 : K.lookup f_34 = some ⟨oc34, od34, .func (PySem.W.fnOf "_law_changed" "_law_changed" (defArgs s__law_changed) (defBody s__law_changed) (defScope s__law_changed) .none kV34 dc34 pm34 an34 cd34 ct34), sl34⟩) (c34 : PySem.W.codeIn K cd34 "_law_changed" = true) (k34 : PySem.W.keepIn K (.ref f_34) = true)
    (a35 : PySem.W.nsIn K mainGlobals "_law_answer" = some (some (.ref f_35)))
    (l35 : K.lookup f_35 = some ⟨oc35, od35, .func (PySem.W.fnOf "_law_answer" "_law_answer" (defArgs s__law_answer) (defBody s__law_answer) (defScope s__law_answer) .none kV35 dc35 pm35 an35 cd35 ct35), sl35⟩) (c35 : PySem.W.codeIn K cd35 "_law_answer" = true) (k35 : PySem.W.keepIn K (.ref f_35) = true)
    (a36 : PySem.W.nsIn K mainGlobals "_law_figures" = some (some (.ref f_36)))
    (l36 : K.lookup f_36 = some ⟨oc36, od36, .func (PySem.W.fnOf "_law_figures" "_law_figures" (defArgs s__law_figures) (defBody s__law_figures) (defScope s__law_figures) .none kV36 dc36 pm36 an36 cd36 ct36), sl36⟩) (c36 : PySem.W.codeIn K cd36 "_law_figures" = true) (k36 : PySem.W.keepIn K (.ref f_36) = true)
    (a37 : PySem.W.nsIn K mainGlobals "_law_reaches" = some (some (.ref f_37)))
    (l37 : K.lookup f_37 = some ⟨oc37, od37, .func (PySem.W.fnOf "_law_reaches" "_law_reaches" (defArgs s__law_reaches) (defBody s__law_reaches) (defScope s__law_reaches) .none kV37 dc37 pm37 an37 cd37 ct37), sl37⟩) (c37 : PySem.W.codeIn K cd37 "_law_reaches" = true) (k37 : PySem.W.keepIn K (.ref f_37) = true)
    (a38 : PySem.W.nsIn K mainGlobals "law" = some (some (.ref f_38)))
    (l38 : K.lookup f_38 = some ⟨oc38, od38, .func (PySem.W.fnOf "law" "law" (defArgs s_law) (defBody s_law) (defScope s_law) .none kV38 dc38 pm38 an38 cd38 ct38), sl38⟩) (c38 : PySem.W.codeIn K cd38 "law" = true) (k38 : PySem.W.keepIn K (.ref f_38) = true)
    (z_GREATEST : PySem.W.nsIn K mainGlobals "GREATEST" = some (some (.int 2 t_GREATEST)))
    (z_LEAST : PySem.W.nsIn K mainGlobals "LEAST" = some (some (.int 1 t_LEAST)))
    (z_REACH : PySem.W.nsIn K mainGlobals "REACH" = some (some (.int 3 t_REACH)))
    (z_TOTAL : PySem.W.nsIn K mainGlobals "TOTAL" = some (some (.int 0 t_TOTAL)))
    (z_bool : PySem.W.nsIn K mainGlobals "bool" = some none)
    (z_int : PySem.W.nsIn K mainGlobals "int" = some none)
    (z_isinstance : PySem.W.nsIn K mainGlobals "isinstance" = some none)
    (z_len : PySem.W.nsIn K mainGlobals "len" = some none)
    (z_list : PySem.W.nsIn K mainGlobals "list" = some none)
    (z_max : PySem.W.nsIn K mainGlobals "max" = some none)
    (z_min : PySem.W.nsIn K mainGlobals "min" = some none)
    (z_range : PySem.W.nsIn K mainGlobals "range" = some none)
    (z_reversed : PySem.W.nsIn K mainGlobals "reversed" = some none)
    (z_str : PySem.W.nsIn K mainGlobals "str" = some none)
    (z_sum : PySem.W.nsIn K mainGlobals "sum" = some none)
    (z_tuple : PySem.W.nsIn K mainGlobals "tuple" = some none) :
    ∃ fd : FuncData, (∀ (s : Shared) (v : Value), BindsTo s fd ⟨[v], []⟩ [("_law_script", v)]) ∧ ∀ base : Heap, K.In base → base.Ns mainGlobals mg → FnOk l.prog w K mg base CX0 110 fa fd ["_law_script"] (spLaw K) := by
  have e := hfa.symm.trans (PySem.W.mg_of X G a38)
  cases e
  have m_C := PySem.W.mg_of X G aC
  have T : Txt K C := ⟨⟨pg, hd, po, sa⟩, nL, nP⟩
  have D_middle_of : FunD K mg "middle_of" s_middle_of ["start", "stop"] := funD_mk X G a0 l0 c0 k0 fun _ _ _ _ _ _ us hl => by obtain ⟨u0, u1, rfl⟩ := len2 hl; rfl
  have D_stretches_within : FunD K mg "stretches_within" s_stretches_within ["start", "stop"] := funD_mk X G a1 l1 c1 k1 fun _ _ _ _ _ _ us hl => by obtain ⟨u0, u1, rfl⟩ := len2 hl; rfl
  have D_stretches : FunD K mg "stretches" s_stretches ["count"] := funD_mk X G a2 l2 c2 k2 fun _ _ _ _ _ _ us hl => by obtain ⟨u0, rfl⟩ := len1 hl; rfl
  have D_part_of_one : FunD K mg "part_of_one" s_part_of_one ["number"] := funD_mk X G a3 l3 c3 k3 fun _ _ _ _ _ _ us hl => by obtain ⟨u0, rfl⟩ := len1 hl; rfl
  have D_joined : FunD K mg "joined" s_joined ["one", "other"] := funD_mk X G a4 l4 c4 k4 fun _ _ _ _ _ _ us hl => by obtain ⟨u0, u1, rfl⟩ := len2 hl; rfl
  have D_part_from_halves : FunM K C "part_from_halves" "Tree.part_from_halves" s_part_from_halves ["self", "start", "stop"] := funM_mk a5 i5 l5 c5 k5 fun _ _ _ _ _ _ us hl => by obtain ⟨u0, u1, u2, rfl⟩ := len3 hl; rfl
  have D_part_at_first : FunM K C "part_at_first" "Tree.part_at_first" s_part_at_first ["self", "row", "start", "stop"] := funM_mk a6 i6 l6 c6 k6 fun _ _ _ _ _ _ us hl => by obtain ⟨u0, u1, u2, u3, rfl⟩ := len4 hl; rfl
  have D_init : FunI K mg C "Tree" "Tree.__init__" s_init ["self", "row"] := funI_mk m_C mk kc a7 i7 l7 c7 k7 fun _ _ _ _ _ _ us hl => by obtain ⟨u0, u1, rfl⟩ := len2 hl; rfl
  have D_has_place : FunM K C "has_place" "Tree.has_place" s_has_place ["self", "place"] := funM_mk a8 i8 l8 c8 k8 fun _ _ _ _ _ _ us hl => by obtain ⟨u0, u1, rfl⟩ := len2 hl; rfl
  have D_number_at : FunM K C "number_at" "Tree.number_at" s_number_at ["self", "place"] := funM_mk a9 i9 l9 c9 k9 fun _ _ _ _ _ _ us hl => by obtain ⟨u0, u1, rfl⟩ := len2 hl; rfl
  have D_put_within : FunM K C "put_within" "Tree.put_within" s_put_within ["self", "start", "stop", "place", "number"] := funM_mk a10 i10 l10 c10 k10 fun _ _ _ _ _ _ us hl => by obtain ⟨u0, u1, u2, u3, u4, rfl⟩ := len5 hl; rfl
  have D_put : FunM K C "put" "Tree.put" s_put ["self", "place", "number"] := funM_mk a11 i11 l11 c11 k11 fun _ _ _ _ _ _ us hl => by obtain ⟨u0, u1, u2, rfl⟩ := len3 hl; rfl
  have D_set_number : FunD K mg "set_number" s_set_number ["tree", "place", "value"] := funD_mk X G a12 l12 c12 k12 fun _ _ _ _ _ _ us hl => by obtain ⟨u0, u1, u2, rfl⟩ := len3 hl; rfl
  have D_add_to_number : FunD K mg "add_to_number" s_add_to_number ["tree", "place", "value"] := funD_mk X G a13 l13 c13 k13 fun _ _ _ _ _ _ us hl => by obtain ⟨u0, u1, u2, rfl⟩ := len3 hl; rfl
  have D_swap_numbers : FunD K mg "swap_numbers" s_swap_numbers ["tree", "one", "two"] := funD_mk X G a14 l14 c14 k14 fun _ _ _ _ _ _ us hl => by obtain ⟨u0, u1, u2, rfl⟩ := len3 hl; rfl
  have D_has_stretch : FunM K C "has_stretch" "Tree.has_stretch" s_has_stretch ["self", "start", "stop"] := funM_mk a15 i15 l15 c15 k15 fun _ _ _ _ _ _ us hl => by obtain ⟨u0, u1, u2, rfl⟩ := len3 hl; rfl
  have D_part_within : FunM K C "part_within" "Tree.part_within" s_part_within ["self", "start", "stop", "begin", "end"] := funM_mk a16 i16 l16 c16 k16 fun _ _ _ _ _ _ us hl => by obtain ⟨u0, u1, u2, u3, u4, rfl⟩ := len5 hl; rfl
  have D_part_over : FunM K C "part_over" "Tree.part_over" s_part_over ["self", "begin", "end"] := funM_mk a17 i17 l17 c17 k17 fun _ _ _ _ _ _ us hl => by obtain ⟨u0, u1, u2, rfl⟩ := len3 hl; rfl
  have D_told_of_stretch : FunD K mg "told_of_stretch" s_told_of_stretch ["tree", "start", "stop", "which"] := funD_mk X G a18 l18 c18 k18 fun _ _ _ _ _ _ us hl => by obtain ⟨u0, u1, u2, u3, rfl⟩ := len4 hl; rfl
  have D_reaching_within : FunM K C "reaching_within" "Tree.reaching_within" s_reaching_within ["self", "start", "stop", "begin", "mark"] := funM_mk a19 i19 l19 c19 k19 fun _ _ _ _ _ _ us hl => by obtain ⟨u0, u1, u2, u3, u4, rfl⟩ := len5 hl; rfl
  have D_total_ahead_of : FunM K C "total_ahead_of" "Tree.total_ahead_of" s_total_ahead_of ["self", "place"] := funM_mk a20 i20 l20 c20 k20 fun _ _ _ _ _ _ us hl => by obtain ⟨u0, u1, rfl⟩ := len2 hl; rfl
  have D_place_reaching : FunM K C "place_reaching" "Tree.place_reaching" s_place_reaching ["self", "begin", "mark"] := funM_mk a21 i21 l21 c21 k21 fun _ _ _ _ _ _ us hl => by obtain ⟨u0, u1, u2, rfl⟩ := len3 hl; rfl
  have D_place_reached : FunD K mg "place_reached" s_place_reached ["tree", "start", "mark"] := funD_mk X G a22 l22 c22 k22 fun _ _ _ _ _ _ us hl => by obtain ⟨u0, u1, u2, rfl⟩ := len3 hl; rfl
  have D_answer_to : FunD K mg "answer_to" s_answer_to ["tree", "deed"] := funD_mk X G a23 l23 c23 k23 fun _ _ _ _ _ _ us hl => by obtain ⟨u0, u1, rfl⟩ := len2 hl; rfl
  have D_tree_of_day : FunD K mg "tree_of_day" s_tree_of_day ["row", "deeds"] := funD_mk X G a24 l24 c24 k24 fun _ _ _ _ _ _ us hl => by obtain ⟨u0, u1, rfl⟩ := len2 hl; rfl
  have D_numbers : FunM K C "numbers" "Tree.numbers" s_numbers ["self"] := funM_mk a25 i25 l25 c25 k25 fun _ _ _ _ _ _ us hl => by obtain ⟨u0, rfl⟩ := len1 hl; rfl
  have D_row_behind : FunD K mg "row_behind" s_row_behind ["row", "deeds"] := funD_mk X G a26 l26 c26 k26 fun _ _ _ _ _ _ us hl => by obtain ⟨u0, u1, rfl⟩ := len2 hl; rfl
  have D_answers : FunD K mg "answers" s_answers ["row", "deeds"] := funD_mk X G a27 l27 c27 k27 fun _ _ _ _ _ _ us hl => by obtain ⟨u0, u1, rfl⟩ := len2 hl; rfl
  have D__law_unturned : FunD K mg "_law_unturned" s__law_unturned ["_law_found", "_law_due"] := funD_mk X G a28 l28 c28 k28 fun _ _ _ _ _ _ us hl => by obtain ⟨u0, u1, rfl⟩ := len2 hl; rfl
  have D__law_room : FunD K mg "_law_room" s__law_room ["_law_script", "_law_most", "_law_bound"] := funD_mk X G a29 l29 c29 k29 fun _ _ _ _ _ _ us hl => by obtain ⟨u0, u1, u2, rfl⟩ := len3 hl; rfl
  have D__law_whole : FunD K mg "_law_whole" s__law_whole ["_law_found"] := funD_mk X G a30 l30 c30 k30 fun _ _ _ _ _ _ us hl => by obtain ⟨u0, rfl⟩ := len1 hl; rfl
  have D__law_at : FunD K mg "_law_at" s__law_at ["_law_script", "_law_k"] := funD_mk X G a31 l31 c31 k31 fun _ _ _ _ _ _ us hl => by obtain ⟨u0, u1, rfl⟩ := len2 hl; rfl
  have D__law_strung : FunD K mg "_law_strung" s__law_strung ["_law_cells", "_law_seed"] := funD_mk X G a32 l32 c32 k32 fun _ _ _ _ _ _ us hl => by obtain ⟨u0, u1, rfl⟩ := len2 hl; rfl
  have D__law_deeds : FunD K mg "_law_deeds" s__law_deeds ["_law_cells", "_law_size"] := funD_mk X G a33 l33 c33 k33 fun _ _ _ _ _ _ us hl => by obtain ⟨u0, u1, rfl⟩ := len2 hl; rfl
  have D__law_changed : FunD K mg "_law_changed" s__law_changed ["_law_row", "_law_deed"] := funD_mk X G a34 l34 c34 k34 fun _ _ _ _ _ _ us hl => by obtain ⟨u0, u1, rfl⟩ := len2 hl; rfl
  have D__law_answer : FunD K mg "_law_answer" s__law_answer ["_law_row", "_law_deed"] := funD_mk X G a35 l35 c35 k35 fun _ _ _ _ _ _ us hl => by obtain ⟨u0, u1, rfl⟩ := len2 hl; rfl
  have D__law_figures : FunD K mg "_law_figures" s__law_figures ["_law_found", "_law_due"] := funD_mk X G a36 l36 c36 k36 fun _ _ _ _ _ _ us hl => by obtain ⟨u0, u1, rfl⟩ := len2 hl; rfl
  have D__law_reaches : FunD K mg "_law_reaches" s__law_reaches ["_law_row", "_law_deed", "_law_found"] := funD_mk X G a37 l37 c37 k37 fun _ _ _ _ _ _ us hl => by obtain ⟨u0, u1, u2, rfl⟩ := len3 hl; rfl
  have F_law := fun_mk (st := s_law) l38 c38 k38
  have m_GREATEST := PySem.W.mg_of X G z_GREATEST
  have m_LEAST := PySem.W.mg_of X G z_LEAST
  have m_REACH := PySem.W.mg_of X G z_REACH
  have m_TOTAL := PySem.W.mg_of X G z_TOTAL
  have m_bool := PySem.W.mg_none_of X G z_bool
  have m_int := PySem.W.mg_none_of X G z_int
  have m_isinstance := PySem.W.mg_none_of X G z_isinstance
  have m_len := PySem.W.mg_none_of X G z_len
  have m_list := PySem.W.mg_none_of X G z_list
  have m_max := PySem.W.mg_none_of X G z_max
  have m_min := PySem.W.mg_none_of X G z_min
  have m_range := PySem.W.mg_none_of X G z_range
  have m_reversed := PySem.W.mg_none_of X G z_reversed
  have m_str := PySem.W.mg_none_of X G z_str
  have m_sum := PySem.W.mg_none_of X G z_sum
  have m_tuple := PySem.W.mg_none_of X G z_tuple
  refine ⟨PySem.W.fnOf "law" "law" (defArgs s_law) (defBody s_law) (defScope s_law) .none kV38 dc38 pm38 an38 cd38 ct38, fun s v => .of_eq rfl, fun base _ _ => ?_⟩
  have F_middle_of := ok_middle_of (P := l.prog) (w := w) (mg := mg) (base := base) D_middle_of 
  have F_stretches_within := rec_stretches_within (P := l.prog) (w := w) (mg := mg) (base := base) D_stretches_within F_middle_of 100
  have F_stretches := ok_stretches (P := l.prog) (w := w) (mg := mg) (base := base) D_stretches F_stretches_within
  have F_part_of_one := ok_part_of_one (P := l.prog) (w := w) (mg := mg) (base := base) D_part_of_one 
  have F_joined := ok_joined (P := l.prog) (w := w) (mg := mg) (base := base) D_joined m_GREATEST m_LEAST m_REACH m_TOTAL m_max m_min
  have F_part_from_halves := ok_part_from_halves (P := l.prog) (w := w) (mg := mg) (base := base) T D_part_from_halves F_middle_of F_joined
  have F_part_at_first := ok_part_at_first (P := l.prog) (w := w) (mg := mg) (base := base) T D_part_at_first F_part_of_one F_part_from_halves
  have F_init := ok_init (P := l.prog) (w := w) (mg := mg) (base := base) T D_init F_stretches F_part_at_first m_len m_reversed
  have F_has_place := ok_has_place (P := l.prog) (w := w) (mg := mg) (base := base) T D_has_place 
  have F_number_at := ok_number_at (P := l.prog) (w := w) (mg := mg) (base := base) T D_number_at m_TOTAL
  have F_put_within := rec_put_within (P := l.prog) (w := w) (mg := mg) (base := base) T D_put_within F_part_of_one F_middle_of F_part_from_halves 100
  have F_put := ok_put (P := l.prog) (w := w) (mg := mg) (base := base) T D_put F_put_within
  have F_set_number := ok_set_number (P := l.prog) (w := w) (mg := mg) (base := base) T D_set_number F_has_place F_number_at F_put
  have F_add_to_number := ok_add_to_number (P := l.prog) (w := w) (mg := mg) (base := base) T D_add_to_number F_has_place F_number_at F_put
  have F_swap_numbers := ok_swap_numbers (P := l.prog) (w := w) (mg := mg) (base := base) T D_swap_numbers F_has_place F_number_at F_put
  have F_has_stretch := ok_has_stretch (P := l.prog) (w := w) (mg := mg) (base := base) T D_has_stretch 
  have F_part_within := rec_part_within (P := l.prog) (w := w) (mg := mg) (base := base) T D_part_within F_middle_of F_joined 100
  have F_part_over := ok_part_over (P := l.prog) (w := w) (mg := mg) (base := base) T D_part_over F_part_within
  have F_told_of_stretch := ok_told_of_stretch (P := l.prog) (w := w) (mg := mg) (base := base) T D_told_of_stretch F_has_stretch F_part_over
  have F_reaching_within := rec_reaching_within (P := l.prog) (w := w) (mg := mg) (base := base) T D_reaching_within F_middle_of m_REACH m_TOTAL 100
  have F_total_ahead_of := ok_total_ahead_of (P := l.prog) (w := w) (mg := mg) (base := base) T D_total_ahead_of F_part_over m_TOTAL
  have F_place_reaching := ok_place_reaching (P := l.prog) (w := w) (mg := mg) (base := base) T D_place_reaching F_reaching_within F_total_ahead_of
  have F_place_reached := ok_place_reached (P := l.prog) (w := w) (mg := mg) (base := base) T D_place_reached F_has_place F_place_reaching
  have F_answer_to := ok_answer_to (P := l.prog) (w := w) (mg := mg) (base := base) T D_answer_to F_set_number F_add_to_number F_swap_numbers F_told_of_stretch F_place_reached m_GREATEST m_LEAST m_TOTAL
  have F_tree_of_day := ok_tree_of_day (P := l.prog) (w := w) (mg := mg) (base := base) T D_tree_of_day F_init F_answer_to
  have F_numbers := ok_numbers (P := l.prog) (w := w) (mg := mg) (base := base) T D_numbers F_number_at m_range
  have F_row_behind := ok_row_behind (P := l.prog) (w := w) (mg := mg) (base := base) T D_row_behind F_tree_of_day F_numbers
  have F_answers := ok_answers (P := l.prog) (w := w) (mg := mg) (base := base) T D_answers F_init F_answer_to
  have F__law_unturned := ok__law_unturned (P := l.prog) (w := w) (mg := mg) (base := base) D__law_unturned m_bool m_int m_isinstance m_len m_list m_range m_str m_tuple
  have F__law_room := ok__law_room (P := l.prog) (w := w) (mg := mg) (base := base) D__law_room m_len
  have F__law_whole := ok__law_whole (P := l.prog) (w := w) (mg := mg) (base := base) D__law_whole m_bool m_int m_isinstance
  have F__law_at := ok__law_at (P := l.prog) (w := w) (mg := mg) (base := base) D__law_at m_len
  have F__law_strung := ok__law_strung (P := l.prog) (w := w) (mg := mg) (base := base) D__law_strung m_int m_len m_range
  have F__law_deeds := ok__law_deeds (P := l.prog) (w := w) (mg := mg) (base := base) D__law_deeds m_int m_len m_range
  have F__law_changed := ok__law_changed (P := l.prog) (w := w) (mg := mg) (base := base) D__law_changed m_len
  have F__law_answer := ok__law_answer (P := l.prog) (w := w) (mg := mg) (base := base) D__law_answer m_len m_max m_min m_sum
  have F__law_figures := ok__law_figures (P := l.prog) (w := w) (mg := mg) (base := base) D__law_figures F__law_whole m_isinstance m_len m_list m_range
  have F__law_reaches := ok__law_reaches (P := l.prog) (w := w) (mg := mg) (base := base) D__law_reaches F__law_whole m_len m_range
  exact ok_law F_law F__law_at F__law_room F__law_strung F__law_deeds F_row_behind F_answers F__law_figures F__law_unturned F__law_changed F__law_whole F__law_reaches F__law_answer m_bool m_isinstance m_len m_list m_range
theorem walk {l : PySem.W.OpenLaw} {q : Program} {loose : List Str} {XP : (Str → Option Value) → Heap → Prop} {YP : World → Heap → Prop} {d : DefRec} {K : Params → PySem.W.Frag} (hn : l.most = some 63) (hdf : d.params.defaults = [])
    (hY : ∀ (w : World) (h : Heap), YP w h → (K w.params).In h)
    (F : ∀ (w : World) (mg : Str → Option Value) (fa : Addr) (h : Heap), (K w.params).In h → h.Ns mainGlobals mg → mg d.name = some (.ref fa) →
      ∃ fd : FuncData, (∀ (s : Shared) (u : Value), BindsTo s fd ⟨[u], []⟩ [("_law_script", u)]) ∧ ∀ base : Heap, (K w.params).In base → base.Ns mainGlobals mg → FnOk l.prog w (K w.params) mg base CX0 110 fa fd ["_law_script"] (spLaw (K w.params))) :
    PySem.W.WalkO q loose XP YP l.row.toRowW d [] (fun f vs => PySem.call f vs) :=
  L2.walk_of (n := 63) (k := 110) (x := "_law_script") (CX := fun _ => CX0) (sp := fun w => spLaw (K w.params)) hn (by decide) hdf ⟨rfl, by decide, by decide⟩ hY F (fun _ _ a ns hl _ hS => ⟨a, ns, rfl, hS, hl, fun _ => rfl⟩) fun _ _ _ _ _ z => z
end SL
open PySem PySem.W PyProof.Rows
set_option maxRecDepth 100000 in
set_option maxHeartbeats 0 in
theorem PySem.Challenge.cw_stretchtree_k06_row_behind_holds : PySem.Challenge.rw_stretchtree_k06_row_behind.Holds := by
  w_on; o_law; k_head; (case hw => w_witness2)
  k_fill
  refine SL.walk (l := PySem.Challenge.rw_stretchtree_k06_row_behind) rfl rfl (fun w h Y => PySem.W.kIn_of Y) ?F
  case F =>
    intro w mg fa h KX G hmg
    refine' SL.all_mk KX G hmg ?aC ?pg ?hd ?po ?sa ?mk ?kc ?nL ?nP ?a0 ?l0 ?c0 ?k0 ?a1 ?l1 ?c1 ?k1 ?a2 ?l2 ?c2 ?k2 ?a3 ?l3 ?c3 ?k3 ?a4 ?l4 ?c4 ?k4 ?a5 ?i5 ?l5 ?c5 ?k5 ?a6 ?i6 ?l6 ?c6 ?k6 ?a7 ?i7 ?l7 ?c7 ?k7 ?a8 ?i8 ?l8 ?c8 ?k8 ?a9 ?i9 ?l9 ?c9 ?k9 ?a10 ?i10 ?l10 ?c10 ?k10 ?a11 ?i11 ?l11 ?c11 ?k11 ?a12 ?l12 ?c12 ?k12 ?a13 ?l13 ?c13 ?k13 ?a14 ?l14 ?c14 ?k14 ?a15 ?i15 ?l15 ?c15 ?k15 ?a16 ?i16 ?l16 ?c16 ?k16 ?a17 ?i17 ?l17 ?c17 ?k17 ?a18 ?l18 ?c18 ?k18 ?a19 ?i19 ?l19 ?c19 ?k19 ?a20 ?i20 ?l20 ?c20 ?k20 ?a21 ?i21 ?l21 ?c21 ?k21 ?a22 ?l22 ?c22 ?k22 ?a23 ?l23 ?c23 ?k23 ?a24 ?l24 ?c24 ?k24 ?a25 ?i25 ?l25 ?c25 ?k25 ?a26 ?l26 ?c26 ?k26 ?a27 ?l27 ?c27 ?k27 ?a28 ?l28 ?c28 ?k28 ?a29 ?l29 ?c29 ?k29 ?a30 ?l30 ?c30 ?k30 ?a31 ?l31 ?c31 ?k31 ?a32 ?l32 ?c32 ?k32 ?a33 ?l33 ?c33 ?k33 ?a34 ?l34 ?c34 ?k34 ?a35 ?l35 ?c35 ?k35 ?a36 ?l36 ?c36 ?k36 ?a37 ?l37 ?c37 ?k37 ?a38 ?l38 ?c38 ?k38 ?z_GREATEST ?z_LEAST ?z_REACH ?z_TOTAL ?z_bool ?z_int ?z_isinstance ?z_len ?z_list ?z_max ?z_min ?z_range ?z_reversed ?z_str ?z_sum ?z_tuple
    (case aC => k_is)
    (case pg => k_is)
    (case hd => k_is)
    (case po => k_is)
    (case sa => k_is)
    (case mk => k_is)
    (case kc => k_is)
    (case nL => k_is)
    (case nP => k_is)
    (case a0 => k_is)
    (case l0 => k_is)
    (case c0 => k_is)
    (case k0 => k_is)
    (case a1 => k_is)
    (case l1 => k_is)
    (case c1 => k_is)
    (case k1 => k_is)
    (case a2 => k_is)
    (case l2 => k_is)
    (case c2 => k_is)
    (case k2 => k_is)
    (case a3 => k_is)
    (case l3 => k_is)
    (case c3 => k_is)
    (case k3 => k_is)
    (case a4 => k_is)
    (case l4 => k_is)
    (case c4 => k_is)
    (case k4 => k_is)
    (case a5 => k_is)
    (case i5 => k_is)
    (case l5 => k_is)
    (case c5 => k_is)
    (case k5 => k_is)
    (case a6 => k_is)
    (case i6 => k_is)
    (case l6 => k_is)
    (case c6 => k_is)
    (case k6 => k_is)
    (case a7 => k_is)
    (case i7 => k_is)
    (case l7 => k_is)
    (case c7 => k_is)
    (case k7 => k_is)
    (case a8 => k_is)
    (case i8 => k_is)
    (case l8 => k_is)
    (case c8 => k_is)
    (case k8 => k_is)
    (case a9 => k_is)
    (case i9 => k_is)
    (case l9 => k_is)
    (case c9 => k_is)
    (case k9 => k_is)
    (case a10 => k_is)
    (case i10 => k_is)
    (case l10 => k_is)
    (case c10 => k_is)
    (case k10 => k_is)
    (case a11 => k_is)
    (case i11 => k_is)
    (case l11 => k_is)
    (case c11 => k_is)
    (case k11 => k_is)
    (case a12 => k_is)
    (case l12 => k_is)
    (case c12 => k_is)
    (case k12 => k_is)
    (case a13 => k_is)
    (case l13 => k_is)
    (case c13 => k_is)
    (case k13 => k_is)
    (case a14 => k_is)
    (case l14 => k_is)
    (case c14 => k_is)
    (case k14 => k_is)
    (case a15 => k_is)
    (case i15 => k_is)
    (case l15 => k_is)
    (case c15 => k_is)
    (case k15 => k_is)
    (case a16 => k_is)
    (case i16 => k_is)
    (case l16 => k_is)
    (case c16 => k_is)
    (case k16 => k_is)
    (case a17 => k_is)
    (case i17 => k_is)
    (case l17 => k_is)
    (case c17 => k_is)
    (case k17 => k_is)
    (case a18 => k_is)
    (case l18 => k_is)
    (case c18 => k_is)
    (case k18 => k_is)
    (case a19 => k_is)
    (case i19 => k_is)
    (case l19 => k_is)
    (case c19 => k_is)
    (case k19 => k_is)
    (case a20 => k_is)
    (case i20 => k_is)
    (case l20 => k_is)
    (case c20 => k_is)
    (case k20 => k_is)
    (case a21 => k_is)
    (case i21 => k_is)
    (case l21 => k_is)
    (case c21 => k_is)
    (case k21 => k_is)
    (case a22 => k_is)
    (case l22 => k_is)
    (case c22 => k_is)
    (case k22 => k_is)
    (case a23 => k_is)
    (case l23 => k_is)
    (case c23 => k_is)
    (case k23 => k_is)
    (case a24 => k_is)
    (case l24 => k_is)
    (case c24 => k_is)
    (case k24 => k_is)
    (case a25 => k_is)
    (case i25 => k_is)
    (case l25 => k_is)
    (case c25 => k_is)
    (case k25 => k_is)
    (case a26 => k_is)
    (case l26 => k_is)
    (case c26 => k_is)
    (case k26 => k_is)
    (case a27 => k_is)
    (case l27 => k_is)
    (case c27 => k_is)
    (case k27 => k_is)
    (case a28 => k_is)
    (case l28 => k_is)
    (case c28 => k_is)
    (case k28 => k_is)
    (case a29 => k_is)
    (case l29 => k_is)
    (case c29 => k_is)
    (case k29 => k_is)
    (case a30 => k_is)
    (case l30 => k_is)
    (case c30 => k_is)
    (case k30 => k_is)
    (case a31 => k_is)
    (case l31 => k_is)
    (case c31 => k_is)
    (case k31 => k_is)
    (case a32 => k_is)
    (case l32 => k_is)
    (case c32 => k_is)
    (case k32 => k_is)
    (case a33 => k_is)
    (case l33 => k_is)
    (case c33 => k_is)
    (case k33 => k_is)
    (case a34 => k_is)
    (case l34 => k_is)
    (case c34 => k_is)
    (case k34 => k_is)
    (case a35 => k_is)
    (case l35 => k_is)
    (case c35 => k_is)
    (case k35 => k_is)
    (case a36 => k_is)
    (case l36 => k_is)
    (case c36 => k_is)
    (case k36 => k_is)
    (case a37 => k_is)
    (case l37 => k_is)
    (case c37 => k_is)
    (case k37 => k_is)
    (case a38 => k_is)
    (case l38 => k_is)
    (case c38 => k_is)
    (case k38 => k_is)
    (case z_GREATEST => k_is)
    (case z_LEAST => k_is)
    (case z_REACH => k_is)
    (case z_TOTAL => k_is)
    (case z_bool => k_is)
    (case z_int => k_is)
    (case z_isinstance => k_is)
    (case z_len => k_is)
    (case z_list => k_is)
    (case z_max => k_is)
    (case z_min => k_is)
    (case z_range => k_is)
    (case z_reversed => k_is)
    (case z_str => k_is)
    (case z_sum => k_is)
    (case z_tuple => k_is)
