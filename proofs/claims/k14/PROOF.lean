import PyProof.Rows.All
import Wide.All
import OpenK.AllK
import Wide.FinOn
import PySem.Challenge.RW_lampcode_k14_whole_notes_of_books
import Lean
import PyProof.EqAt
import PyProof.EqKinds
import PyProof.TupleCall
import PyProof.AttrMissSeq
set_option Elab.async false
set_option linter.all false
set_option maxRecDepth 100000
namespace L2
open PySem PySem.Spec PyProof.Rows

/-- a key: an int or a str -/
abbrev Key := Sum Int Str
def keyIs : Key → Value → Bool
  | .inl k, v => Value.isInt k v
  | .inr x, v => Value.isStrOf x v
def keyH (w : World) : Key → Int
  | .inl k => hashInt k
  | .inr x => hashStr w x
theorem keyIs_shape : ∀ {k : Key} {v : Value}, keyIs k v = true → (∃ i t, k = Sum.inl i ∧ v = Value.int i t) ∨ (∃ x t, k = Sum.inr x ∧ v = Value.str x t)
  | .inl i, v, h => by
    obtain ⟨t, e⟩ := Value.isInt_shape (k := i) (v := v) h
    exact .inl ⟨i, t, rfl, e⟩
  | .inr x, v, h => by
    obtain ⟨t, e⟩ := Value.isStrOf_shape (x := x) (v := v) h
    exact .inr ⟨x, t, rfl, e⟩
theorem keyIs_int (i : Int) (t : Tok) : keyIs (.inl i) (.int i t) = true := by simp [keyIs, Value.isInt]
theorem keyIs_str (x : Str) (t : Tok) : keyIs (.inr x) (.str x t) = true := by simp [keyIs, Value.isStrOf]
theorem key_ll (a b : Int) : decide ((Sum.inl a : Key) = Sum.inl b) = (a == b) := by
  by_cases e : a = b
  · subst e; simp
  · have h : ¬ (Sum.inl a : Key) = Sum.inl b := fun q => e (Sum.inl.inj q)
    rw [decide_eq_false h]
    exact (beq_eq_false_iff_ne.mpr e).symm
theorem key_rr (a b : Str) : decide ((Sum.inr a : Key) = Sum.inr b) = decide (a = b) := by
  by_cases e : a = b
  · subst e; simp
  · have h : ¬ (Sum.inr a : Key) = Sum.inr b := fun q => e (Sum.inr.inj q)
    rw [decide_eq_false h, decide_eq_false e]
theorem key_lr (a : Int) (b : Str) : decide ((Sum.inl a : Key) = Sum.inr b) = false := decide_eq_false (fun q => nomatch q)
theorem key_rl (a : Str) (b : Int) : decide ((Sum.inr a : Key) = Sum.inl b) = false := decide_eq_false (fun q => nomatch q)

def mixKind (prog : Program) (w : World) : PySem.KeyKind prog w Key where
  is := keyIs
  hash := keyH w
  inj := fun v a b ha hb => by
    rcases keyIs_shape ha with ⟨i, t, rfl, rfl⟩ | ⟨x, t, rfl, rfl⟩
    · rcases keyIs_shape hb with ⟨j, u, rfl, e⟩ | ⟨y, u, rfl, e⟩
      · injection e with e1 _; rw [e1]
      · exact nomatch e
    · rcases keyIs_shape hb with ⟨j, u, rfl, e⟩ | ⟨y, u, rfl, e⟩
      · exact nomatch e
      · injection e with e1 _; rw [e1]
  byValue := fun k v h => by
    rcases keyIs_shape h with ⟨i, t, rfl, rfl⟩ | ⟨x, t, rfl, rfl⟩ <;> rfl
  pyHash := fun hv h => by
    rcases keyIs_shape hv with ⟨i, t, rfl, rfl⟩ | ⟨x, t, rfl, rfl⟩
    · exact wpAny_pyHash_int h
    · exact wpAny_pyHash_str h
  eqBool := fun hu hv h => by
    rcases keyIs_shape hu with ⟨i, t, rfl, rfl⟩ | ⟨x, t, rfl, rfl⟩
    · rcases keyIs_shape hv with ⟨j, u, rfl, rfl⟩ | ⟨y, u, rfl, rfl⟩
      · rw [key_ll] at h; exact wpAny_eqBool_int h
      · rw [key_lr] at h; exact SeqAt.EqAt.int_str i t y u _ _ _ _ h
    · rcases keyIs_shape hv with ⟨j, u, rfl, rfl⟩ | ⟨y, u, rfl, rfl⟩
      · rw [key_rl] at h; exact SeqAt.EqAt.str_int x t j u _ _ _ _ h
      · rw [key_rr] at h; exact wpAny_eqBool_str h
  «strs» := fun k x t v h => by
    rcases keyIs_shape h with ⟨i, u, rfl, e⟩ | ⟨y, u, rfl, e⟩
    · exact nomatch e
    · injection e with e1 _
      subst e1
      cases v <;> rfl

theorem mixKind_int (prog : Program) (w : World) (i : Int) (t : Tok) : (mixKind prog w).is (.inl i) (.int i t) = true := keyIs_int i t
theorem mixKind_str (prog : Program) (w : World) (x : Str) (t : Tok) : (mixKind prog w).is (.inr x) (.str x t) = true := keyIs_str x t
end L2

namespace L2
open PySem PySem.Spec PyProof.Rows

/-- a value, without the heap -/
inductive V where
  | non | bl (b : Bool) | int (i : Int) | str (x : Str) | byt (b : Array UInt8) | flt (b : UInt64) | ref (a : Addr) | ty (n : String)
  deriving DecidableEq

def RelV : V → Value → Prop
  | .non, u => u = Value.none
  | .bl b, u => u = Value.bool b
  | .int i, u => ∃ t, u = Value.int i t
  | .str x, u => ∃ t, u = Value.str x t
  | .byt b, u => ∃ t, u = Value.bytes b t
  | .flt b, u => ∃ t, u = Value.float b t
  | .ref a, u => u = Value.ref a
  | .ty n, u => u = Value.type n

abbrev Vals : List V → List Value → Prop := Paired RelV
theorem Vals.length {xs : List V} {us : List Value} (r : Vals xs us) : xs.length = us.length := Paired.length r
theorem Vals.get : ∀ {xs : List V} {us : List Value} {i : Nat} {x : V}, Vals xs us → xs[i]? = some x → ∃ u, us[i]? = some u ∧ RelV x u
  | _, _, _, _, .nil, e => by simp at e
  | _, _, 0, _, .cons r _, e => by simp at e; subst e; exact ⟨_, rfl, r⟩
  | _, _, i + 1, x, .cons _ t, e => by
    obtain ⟨u, h1, h2⟩ := Vals.get (i := i) (x := x) t (by simpa using e)
    exact ⟨u, by simpa using h1, h2⟩
theorem Vals.set {x : V} {u : Value} (r : RelV x u) : ∀ {xs : List V} {us : List Value} (i : Nat), Vals xs us → Vals (xs.set i x) (us.set i u)
  | _, _, _, .nil => .nil
  | _, _, 0, .cons _ t => .cons r t
  | _, _, i + 1, .cons q t => .cons q (Vals.set r i t)
theorem Vals.append : ∀ {xs ys : List V} {us ws : List Value}, Vals xs us → Vals ys ws → Vals (xs ++ ys) (us ++ ws)
  | _, _, _, _, .nil, s => s
  | _, _, _, _, .cons r t, s => .cons r (Vals.append t s)
theorem Vals.take : ∀ {xs : List V} {us : List Value} (n : Nat), Vals xs us → Vals (xs.take n) (us.take n)
  | _, _, 0, _ => .nil
  | _, _, _ + 1, .nil => .nil
  | _, _, n + 1, .cons r t => .cons r (Vals.take n t)
theorem Vals.drop : ∀ {xs : List V} {us : List Value} (n : Nat), Vals xs us → Vals (xs.drop n) (us.drop n)
  | _, _, 0, r => r
  | _, _, _ + 1, .nil => .nil
  | _, _, n + 1, .cons _ t => Vals.drop n t

def RelO : Option V → Option Value → Prop
  | some v, some u => RelV v u
  | none, none => True
  | _, _ => False
def KV {κ : Type} : List (κ × V) → List (κ × Value) → Prop := Paired fun (p : κ × V) (q : κ × Value) => p.1 = q.1 ∧ RelV p.2 q.2

/-- a key of a dict (00_mix): an int or a text -/
def kV : Key → V
  | .inl i => .int i
  | .inr x => .str x

/-- what stands at a tracked address -/
inductive HO where
  /-- a list -/
  | lst (xs : List V)
  /-- a tuple (never changes) -/
  | tup (xs : List V)
  /-- a dict whose keys are ints and texts; one whose keys are tuples of ints and texts (the empty one is both) -/
  | dK (kvs : List (Key × V)) | dT (kvs : List (List Key × V))
  /-- a set of ints: its members, its size -/
  | set (S : Int → Bool) (n : Nat)
  /-- an instance of the class at C, its dict at dx, its attributes -/
  | ins (C dx : Addr) (fs : List (Str × V))
  /-- the dict of the instance at x -/
  | own (x : Addr)
  /-- the dict of an exception -/
  | xd (fs : List (Str × V))
  /-- a bound method, f of x -/
  | met (f x : Addr)
  /-- a range object lo, lo + 1, .. below hi -/
  | rng (lo hi : Int)
  /-- a thing that is known to the object (the script; a dict while a loop walks it): read, never written while it is so -/
  | frz (o : Obj) (u : HO)
  /-- a code object's table -/
  | tbl (ps : Array Value)
  /-- any other thing, by what is true of its one object (a def of one's own: SetO a S n := HO.ext fun h => ..) -/
  | ext (φ : Heap → Prop)

abbrev Hp := Addr → Option HO
def upd (H : Hp) (a : Addr) (o : HO) : Hp := fun b => if b = a then some o else H b
theorem upd_same {H : Hp} {a : Addr} {o : HO} : upd H a o a = some o := by unfold upd; rw [if_pos rfl]
theorem upd_ne {H : Hp} {a b : Addr} {o : HO} (h : b ≠ a) : upd H a o b = H b := by unfold upd; rw [if_neg h]
theorem ne_of_none {H : Hp} {a b : Addr} {o : HO} (h : H a = some o) (h' : H b = none) : a ≠ b := by
  intro e; subst e; rw [h] at h'; cases h'

section
variable (P : Program) (w : World)
def ObjOk (H : Hp) (h : Heap) (a : Addr) : HO → Prop
  | .lst xs => xs.length ≤ sizeLine ∧ ∃ (its : List Value) (n : Nat), Vals xs its ∧ h.get? a = some { cls := .type "list", data := .seq its.toArray n }
  | .tup xs => xs.length ≤ sizeLine ∧ ∃ its : List Value, Vals xs its ∧ IsTup h a its.toArray
  | .dK kvs => kvs.length ≤ sizeLine ∧ (a == sysModules) = false ∧ ∃ vs, KV kvs vs ∧ h.DictOf (mixKind P w) a vs
  | .dT kvs => kvs.length ≤ sizeLine ∧ (a == sysModules) = false ∧ ∃ xs : List (List Key × Addr × Value),
      Paired (fun (p : List Key × V) (q : List Key × Addr × Value) => p.1 = q.1 ∧ H q.2.1 = some (.tup (p.1.map kV)) ∧ RelV p.2 q.2.2) kvs xs ∧
      ∃ o es ep, h.get? a = some o ∧ o.ExactDict ∧ o.data = .dict es ep ∧ es.toList = xs.map (entryOfKey (tupleKind (mixKind P w))) ∧ (xs.map (·.1)).Nodup
  | .set S n => h.SetOf (intKind P w) a S n
  | .ins C dx fs => H dx = some (.own a) ∧ fs.length ≤ 1000 ∧ dx ≠ a ∧ h.get? a = some (PySem.W.instObj C dx) ∧
      ∃ mA, h.Ns1 dx mA ∧ (∀ f, RelO (fs.lookup f) (mA f)) ∧ PySem.Within mA (fs.map (·.1))
  | .own _ => ∃ o, h.get? a = some o
  | .xd fs => ∃ mA, h.Ns1 a mA ∧ ∀ f, RelO (fs.lookup f) (mA f)
  | .rng lo hi => ∃ t u v, h.get? a = some { cls := .type "range", data := .fields #[.int lo t, .int hi u, .int 1 v] }
  | .frz o u => h.get? a = some o ∧ ObjOk H h a u
  | .tbl ps => h.get? a = some { cls := .none, data := .fields ps }
  | .met f x => h.get? a = some (PySem.W.methodObj (.ref f) (.ref x))
  | .ext φ => φ h ∧ (∃ o, h.get? a = some o) ∧ ∀ h1 h2 : Heap, φ h1 → (∀ o, h1.get? a = some o → h2.get? a = some o) → φ h2
/-- the abstract heap is held -/
def HOk (H : Hp) (h : Heap) : Prop := ∀ a o, H a = some o → ObjOk P w H h a o
end

section
variable {P : Program} {w : World} {H H' : Hp} {h h' : Heap} {a : Addr} {o : HO}
theorem ObjOk.lt (x : ObjOk P w H h a o) : a < h.objs.size := by
  cases o with
  | lst xs => obtain ⟨_, _, _, _, e⟩ := x; exact Heap.lt_size e
  | tup xs => obtain ⟨_, _, _, p⟩ := x; exact p.lt
  | dK kvs => obtain ⟨_, _, _, _, o, _, _, e, _⟩ := x; exact Heap.lt_size e
  | dT kvs => obtain ⟨_, _, _, _, o, _, _, e, _⟩ := x; exact Heap.lt_size e
  | set S n => obtain ⟨o, _, _, _, e, _⟩ := x; exact Heap.lt_size e
  | ins C dx fs => obtain ⟨_, _, _, e, _⟩ := x; exact Heap.lt_size e
  | own y => obtain ⟨_, e⟩ := x; exact Heap.lt_size e
  | xd fs => obtain ⟨_, ⟨_, _, _, e, _⟩, _⟩ := x; exact Heap.lt_size e
  | rng lo hi => obtain ⟨_, _, _, e⟩ := x; exact Heap.lt_size e
  | frz ob u => obtain ⟨e, _⟩ := x; exact Heap.lt_size e
  | tbl ps => exact Heap.lt_size (show h.get? a = some _ from x)
  | met f y => exact Heap.lt_size (show h.get? a = some _ from x)
  | ext φ => obtain ⟨_, ⟨_, e⟩, _⟩ := x; exact Heap.lt_size e
theorem Paired.mapP {α β : Type} {F G : α → β → Prop} : ∀ {l₁ : List α} {l₂ : List β}, Paired F l₁ l₂ → (∀ a b, F a b → G a b) → Paired G l₁ l₂
  | _, _, .nil, _ => .nil
  | _, _, .cons r t, f => .cons (f _ _ r) (Paired.mapP t f)
/-- what an object's description leans on: its own object, its own dict, the tuples -/
theorem ObjOk.stay (x : ObjOk P w H h a o) (k : ∀ b u, (b = a ∨ H b = some (.own a)) → h.get? b = some u → h'.get? b = some u)
    (ho : ∀ b, H b = some (.own a) → H' b = some (.own a)) (ht : ∀ b xs, H b = some (.tup xs) → H' b = some (.tup xs)) : ObjOk P w H' h' a o := by
  induction o with
  | lst xs => obtain ⟨z, its, n, r, e⟩ := x; exact ⟨z, its, n, r, k _ _ (.inl rfl) e⟩
  | tup xs => obtain ⟨z, its, r, ob, e, c⟩ := x; exact ⟨z, its, r, ob, k _ _ (.inl rfl) e, c⟩
  | dK kvs => obtain ⟨z, y, vs, r, ob, es, ep, e, c⟩ := x; exact ⟨z, y, vs, r, ob, es, ep, k _ _ (.inl rfl) e, c⟩
  | dT kvs =>
    obtain ⟨z, y, xs, r, ob, es, ep, e, c⟩ := x
    exact ⟨z, y, xs, Paired.mapP r fun p q z => ⟨z.1, ht _ _ z.2.1, z.2.2⟩, ob, es, ep, k _ _ (.inl rfl) e, c⟩
  | set S n => obtain ⟨ob, es, ep, t, e, c⟩ := x; exact ⟨ob, es, ep, t, k _ _ (.inl rfl) e, c⟩
  | ins C dx fs =>
    obtain ⟨d, z, ne, e, mA, ⟨od, es, ep, e2, c⟩, r⟩ := x
    exact ⟨ho _ d, z, ne, k _ _ (.inl rfl) e, mA, ⟨od, es, ep, k _ _ (.inr d) e2, c⟩, r⟩
  | own y => obtain ⟨ob, e⟩ := x; exact ⟨ob, k _ _ (.inl rfl) e⟩
  | xd fs => obtain ⟨mA, ⟨od, es, ep, e, c⟩, r⟩ := x; exact ⟨mA, ⟨od, es, ep, k _ _ (.inl rfl) e, c⟩, r⟩
  | rng lo hi => obtain ⟨t, u, v, e⟩ := x; exact ⟨t, u, v, k _ _ (.inl rfl) e⟩
  | frz ob u ih => obtain ⟨e, q⟩ := x; exact ⟨k _ _ (.inl rfl) e, ih q⟩
  | tbl ps =>
    have e : h.get? a = some { cls := .none, data := .fields ps } := x
    show h'.get? a = some { cls := .none, data := .fields ps }
    exact k a _ (.inl rfl) e
  | met f y =>
    have e : h.get? a = some (PySem.W.methodObj (.ref f) (.ref y)) := x
    show h'.get? a = some (PySem.W.methodObj (.ref f) (.ref y))
    exact k a _ (.inl rfl) e
  | ext φ => obtain ⟨p, ⟨o, e⟩, st⟩ := x; exact ⟨st _ _ p fun o q => k _ _ (.inl rfl) q, ⟨o, k _ _ (.inl rfl) e⟩, st⟩
theorem HOk.lt (x : HOk P w H h) (e : H a = some o) : a < h.objs.size := (x a o e).lt
theorem HOk.fresh (x : HOk P w H h) (e : h.objs.size ≤ a) : H a = none := by
  cases q : H a with
  | none => rfl
  | some u => exact absurd (Nat.lt_of_lt_of_le (x.lt q) e) (Nat.lt_irrefl _)
/-- every object of the heap is kept -/
theorem HOk.kept (x : HOk P w H h) (k : ∀ b u, h.get? b = some u → h'.get? b = some u) : HOk P w H h' := fun a o e =>
  (x a o e).stay (fun b u _ q => k b u q) (fun _ q => q) fun _ _ q => q
/-- a new object is laid and tracked -/
theorem HOk.laid (x : HOk P w H h) (k : ∀ b u, h.get? b = some u → h'.get? b = some u) (hp : h.objs.size ≤ a) (new : ObjOk P w (upd H a o) h' a o) : HOk P w (upd H a o) h' := fun b u e => by
  have hn := x.fresh hp
  by_cases hb : b = a
  · subst hb; rw [upd_same] at e; cases e; exact new
  · rw [upd_ne hb] at e
    exact (x b u e).stay (fun c v _ q => k c v q) (fun c q => by rw [upd_ne (ne_of_none q hn)]; exact q) fun c xs q => by rw [upd_ne (ne_of_none q hn)]; exact q
end

/-- what may be read as u: it is u, or a known u -/
def Rd (H : Hp) (a : Addr) (u : HO) : Prop := H a = some u ∨ ∃ o, H a = some (.frz o u)
theorem Rd.ok {P : Program} {w : World} {H : Hp} {h : Heap} {a : Addr} {u : HO} (r : Rd H a u) (x : HOk P w H h) : ObjOk P w H h a u := by
  rcases r with r | ⟨o, r⟩
  · exact x a u r
  · obtain ⟨_, q⟩ := x a _ r
    exact q
/-- what may be written -/
def Mut : Option HO → Prop
  | some (.lst _) => True
  | some (.dK _) => True
  | some (.dT _) => True
  | some (.set _ _) => True
  | some (.ins _ _ _) => True
  | some (.ext _) => True
  | _ => False
section
variable {P : Program} {w : World} {H : Hp} {h h' : Heap} {x e : Addr} {o' : HO}
/-- the object at e is changed: x itself, or the dict of the instance x -/
theorem HOk.write (ok : HOk P w H h) (mu : Mut (H x)) (he : e = x ∨ H e = some (.own x)) (k : ∀ b u, b ≠ e → h.get? b = some u → h'.get? b = some u) (heo : ∃ u, h'.get? e = some u)
    (new : ObjOk P w (upd H x o') h' x o') : HOk P w (upd H x o') h' := fun b u q => by
  have nown : ∀ c y, H c = some (.own y) → c ≠ x := fun c y r z => by subst z; rw [r] at mu; exact mu
  have ntup : ∀ c xs, H c = some (.tup xs) → c ≠ x := fun c xs r z => by subst z; rw [r] at mu; exact mu
  by_cases hb : b = x
  · subst hb; rw [upd_same] at q; cases q; exact new
  · rw [upd_ne hb] at q
    by_cases hbe : b = e
    · have q' : H b = some (.own x) := by
        rcases he with z | z
        · exact absurd (hbe.trans z) hb
        · rw [hbe]; exact z
      rw [q] at q'; cases q'
      obtain ⟨v, hv⟩ := heo
      exact ⟨v, by rw [hbe]; exact hv⟩
    · refine (ok b u q).stay (fun c v hc r => k c v ?_ r) (fun c r => by rw [upd_ne (nown c b r)]; exact r) fun c xs r => by rw [upd_ne (ntup c xs r)]; exact r
      rcases hc with rfl | hc
      · exact hbe
      · rintro rfl
        rcases he with z | z
        · exact nown c b hc z
        · rw [hc] at z; cases z; exact hb rfl
end

/-! ### kept unless tracked; of the frames at fs (the callers') the slots may change (an exception that passes writes there); of the records at ex (iterators) nothing is said -/
structure Un (fs ex : List Addr) (H H' : Hp) (h h' : Heap) : Prop where
  keep : ∀ b o, h.get? b = some o → H b = none → b ∉ fs → b ∉ ex → h'.get? b = some o
  slot : ∀ b o, h.get? b = some o → H b = none → b ∈ fs → b ∉ ex → ∃ sl, h'.get? b = some { o with slots := sl }
  free : ∀ b o, h.get? b = some o → H b = none → b ∉ ex → H' b = none
  there : ∀ b o, h.get? b = some o → b ∉ ex → ∃ o', h'.get? b = some o'
  tups : ∀ b xs, H b = some (.tup xs) → H' b = some (.tup xs)
  frzs : ∀ b o u, H b = some (.frz o u) → H' b = some (.frz o u)
  tbls : ∀ b ps, H b = some (.tbl ps) → ∃ more, H' b = some (.tbl (ps ++ more))
section
variable {fs fs' ex ex' : List Addr} {H H1 H2 : Hp} {h h1 h2 h' : Heap} {a x e : Addr} {o : HO}
theorem Un.any (u : Un fs ex H H1 h h1) {b : Addr} {ob : Obj} (q : h.get? b = some ob) (n : H b = none) (hx : b ∉ ex) : ∃ sl, h1.get? b = some { ob with slots := sl } := by
  by_cases hb : b ∈ fs
  · exact u.slot b ob q n hb hx
  · exact ⟨ob.slots, u.keep b ob q n hb hx⟩
theorem Un.kept (k : ∀ b u, h.get? b = some u → h'.get? b = some u) : Un fs ex H H h h' :=
  ⟨fun b ob q _ _ _ => k b ob q, fun b ob q _ _ _ => ⟨ob.slots, k b ob q⟩, fun _ _ _ n _ => n, fun b ob q _ => ⟨ob, k b ob q⟩, fun _ _ q => q, fun _ _ _ q => q, fun _ ps q => ⟨#[], by rw [q]; simp⟩⟩
theorem Un.refl : Un fs ex H H h h := Un.kept fun _ _ q => q
theorem Un.laid (k : ∀ b u, h.get? b = some u → h'.get? b = some u) (hp : h.objs.size ≤ a) (hn : H a = none) : Un fs ex H (upd H a o) h h' where
  keep := fun b u q _ _ _ => k b u q
  slot := fun b u q _ _ _ => ⟨u.slots, k b u q⟩
  free := fun b u q n _ => by rw [upd_ne (Nat.ne_of_lt (Nat.lt_of_lt_of_le (Heap.lt_size q) hp))]; exact n
  there := fun b u q _ => ⟨u, k b u q⟩
  tups := fun b xs q => by rw [upd_ne (ne_of_none q hn)]; exact q
  frzs := fun b u xs q => by rw [upd_ne (ne_of_none q hn)]; exact q
  tbls := fun b ps q => ⟨#[], by rw [upd_ne (ne_of_none q hn), q]; simp⟩
theorem Un.write (mu : Mut (H x)) (he : e = x ∨ H e = some (.own x)) (k : ∀ b u, b ≠ e → h.get? b = some u → h'.get? b = some u) (heo : ∃ u, h'.get? e = some u) : Un fs ex H (upd H x o) h h' := by
  have hx : ∀ b, H b = none → b ≠ x := fun b n z => by subst z; rw [n] at mu; exact mu
  have hb : ∀ b, H b = none → b ≠ e := fun b n z => by
    subst z
    rcases he with r | r
    · exact hx b n r
    · rw [n] at r; cases r
  have hm : ∀ b u, H b = some u → ¬ Mut (some u) → b ≠ x := fun b u q nm z => by subst z; rw [q] at mu; exact nm mu
  refine ⟨fun b u q n _ _ => k b u (hb b n) q, fun b u q n _ _ => ⟨u.slots, k b u (hb b n) q⟩, fun b u q n _ => by rw [upd_ne (hx b n)]; exact n, fun b u q _ => ?_,
    fun b xs q => by rw [upd_ne (hm b _ q fun z => z)]; exact q, fun b u xs q => by rw [upd_ne (hm b _ q fun z => z)]; exact q, fun b ps q => ⟨#[], by rw [upd_ne (hm b _ q fun z => z), q]; simp⟩⟩
  by_cases hbe : b = e
  · subst hbe; exact heo
  · exact ⟨u, k b u hbe q⟩
end

/-! ### the heap without what is tracked -/
def trk (h : Heap) (H : Hp) : List Addr := (List.range h.objs.size).filter fun a => (H a).isSome
def hidT (h : Heap) (H : Hp) : Heap := PySem.W.hideAll h (trk h H)
theorem hidT_size (h : Heap) (H : Hp) : (hidT h H).objs.size = h.objs.size := PySem.W.hideAll_size _ _
theorem hidT_get {h : Heap} {H : Hp} {b : Addr} {o : Obj} (e : h.get? b = some o) (n : H b = none) : (hidT h H).get? b = some o :=
  PySem.W.hideAll_get _ e fun hm => by
    have q : (H b).isSome = true := (List.mem_filter.mp hm).2
    rw [n] at q; simp at q
theorem of_hidT {h : Heap} {H : Hp} {b : Addr} {o : Obj} (e : (hidT h H).get? b = some o) : h.get? b = some o ∧ H b = none := by
  have e' : h.get? b = some o := PySem.W.of_hideAll (trk h H) e
  refine ⟨e', ?_⟩
  cases q : H b with
  | none => rfl
  | some x =>
    have hm : b ∈ trk h H := List.mem_filter.mpr ⟨List.mem_range.mpr (Heap.lt_size e'), by simp [q]⟩
    have z : (hidT h H).get? b = none := PySem.W.hideAll_none (trk h H) hm
    rw [z] at e; cases e

/-! ### OpenK's ledger, filled with every new object but one -/
end L2

namespace L2
open PySem PySem.Spec PyProof.Rows

/-- the module's facts, over the base: the heap at the law's entry without what is tracked there -/
structure Mod (K : PySem.W.Frag) (mg : Str → Option Value) (base : Heap) : Prop where
  kin : K.In base
  glob : base.Ns mainGlobals mg
  blt : ∃ mb, base.Ns builtinsNs mb ∧ ∀ x : Str, x ≠ "__name__" → mb x = bootBuiltins x
  nolimit : base.NoLimit

/-- the context: a def's body (or a comprehension's block) running. base: fixed through the whole law; s₀, H₀: the entry; outer: the frames whose slots others may change (a def's callers); stack: all frames that run;
   ex: iterators that were made ahead of the entry and are walked here (a comprehension's); fn: the names whose cells were made at the entry (a def: all; a comprehension's block: its own); calm: not within an except suite; pn: pins that every state bears; xe: what is wanted of an exception that leaves the code -/
structure Cx where
  prog : Program
  w : World
  K : PySem.W.Frag
  mg : Str → Option Value
  base : Heap
  A : Around
  N : List Str
  s₀ : Shared
  H₀ : Hp
  env : Env
  outer : List Env
  stack : List Env
  ex : List Addr
  fn : Str → Bool
  calm : Bool
  pn : List (Addr × Obj)
  xe : Value → Shared → Prop
/-- the callers' frames -/
def frs (l : List Env) : List Addr := l.filterMap (·.frame)
abbrev Cx.fs (X : Cx) : List Addr := frs X.outer

def Vis (sc : Scope) (x : Str) : Prop := sc.names.lookup x = some .local ∨ sc.names.lookup x = some .cell ∨ sc.names.lookup x = some .free
def Loc (sc : Scope) (x : Str) : Prop := sc.names.lookup x = some .local ∨ sc.names.lookup x = some .cell
def Look (env : Env) (h : Heap) (m : Str → Option Value) (x : Str) (u : Value) : Prop :=
  (env.kindOf x = some .local ∧ m x = some u) ∨ ((env.kindOf x = some .cell ∨ env.kindOf x = some .free) ∧ ∃ c, env.cells.lookup x = some c ∧ h.IsCell c (some u))

structure Cx.Ok (X : Cx) : Prop where
  mod : Mod X.K X.mg X.base
  kind : X.env.scope.kind = .function
  glob : X.env.globals = mainGlobals
  blt : X.env.builtins = builtinsNs
  above : X.s₀.heap.objs.size ≤ X.env.locals
  inj : ∀ x y c, X.env.cells.lookup x = some c → X.env.cells.lookup y = some c → x = y
  has : ∀ x, (X.env.kindOf x = some .cell ∨ X.env.kindOf x = some .free) → ∃ c, X.env.cells.lookup x = some c
  cab : ∀ x c, X.fn x = true → X.env.cells.lookup x = some c → X.s₀.heap.objs.size ≤ c
  hd : X.calm = true → X.A.handled = none
  frames : X.A.frames = some X.stack
  stk : X.stack = X.outer ∨ (X.stack = X.env :: X.outer ∧ X.env.frame = some X.env.locals)
  exf : ∀ b ∈ X.ex, b ≠ X.env.locals ∧ ∀ x c, X.env.cells.lookup x = some c → c ≠ b
  bs : ∀ b o, X.base.get? b = some o → X.s₀.heap.get? b = some o ∧ X.H₀ b = none
  bsz : X.base.objs.size ≤ X.s₀.heap.objs.size
  noex : ∀ b o, X.base.get? b = some o → b ∉ X.ex
  exfs : ∀ b ∈ X.ex, b ∉ X.fs
  funs : X.s₀.heap.FunFrames X.base X.outer
  frf : ∀ b ∈ X.fs, X.H₀ b = none

structure Inv (X : Cx) (pins : List (Addr × Obj)) (σ : List (Option V)) (H : Hp) (s : Shared) : Prop where
  ok : X.Ok
  os : s.os = X.s₀.os
  bare : AllBare s.gens
  base : Un X.fs X.ex X.H₀ H X.s₀.heap s.heap
  loc : ∃ m, s.heap.Ns X.env.locals m ∧ ∀ (i : Nat) (x : Str) (v : V), X.N[i]? = some x → σ[i]? = some (some v) → Vis X.env.scope x → ∃ u, RelV v u ∧ Look X.env s.heap m x u
  cell : ∀ x c, X.env.cells.lookup x = some c → ∃ v, s.heap.IsCell c v
  free : H X.env.locals = none
  freeC : ∀ x c, X.env.cells.lookup x = some c → H c = none
  pin : ∀ p ∈ X.pn ++ pins, s.heap.get? p.1 = some p.2 ∧ H p.1 = none ∧ p.1 ≠ X.env.locals ∧ p.1 ∉ X.fs ∧ ∀ v, p.2.data ≠ .cell v
  hok : HOk X.prog X.w H s.heap
  len : σ.length = X.N.length

section
variable {X : Cx} {pins : List (Addr × Obj)} {σ : List (Option V)} {H H' : Hp} {s : Shared} {h' : Heap}

theorem Cx.Ok.nofr (ok : X.Ok) {b : Addr} {o : Obj} (e : X.base.get? b = some o) : b ∉ X.fs := fun hb => by
  have := (ok.funs.mem hb).1
  rw [e] at this; cases this
theorem Inv.bs (I : Inv X pins σ H s) : ∀ b o, X.base.get? b = some o → s.heap.get? b = some o ∧ H b = none := fun b o e =>
  ⟨I.base.keep b o (I.ok.bs b o e).1 (I.ok.bs b o e).2 (I.ok.nofr e) (I.ok.noex b o e), I.base.free b o (I.ok.bs b o e).1 (I.ok.bs b o e).2 (I.ok.noex b o e)⟩
theorem Inv.bk (I : Inv X pins σ H s) : ∀ b o, X.base.get? b = some o → s.heap.get? b = some o := fun b o e => (I.bs b o e).1
theorem Inv.mod (I : Inv X pins σ H s) : Mod X.K X.mg X.base := I.ok.mod
theorem Inv.kIn (I : Inv X pins σ H s) : X.K.In s.heap := I.ok.mod.kin.keeps I.bk
theorem Inv.lt (I : Inv X pins σ H s) : X.env.locals < s.heap.objs.size := let ⟨_, hn, _⟩ := I.loc; hn.lt
theorem Inv.sz (I : Inv X pins σ H s) : X.s₀.heap.objs.size ≤ s.heap.objs.size := Nat.le_trans I.ok.above (Nat.le_of_lt I.lt)
theorem Inv.nofs (I : Inv X pins σ H s) {a : Addr} (h : s.heap.objs.size ≤ a) : a ∉ X.fs := fun hb => by
  obtain ⟨_, o, ho, _⟩ := I.ok.funs.mem hb
  exact absurd (Nat.lt_of_lt_of_le (Heap.lt_size ho) (Nat.le_trans I.sz h)) (Nat.lt_irrefl _)
theorem Inv.cne (I : Inv X pins σ H s) : ∀ x c, X.env.cells.lookup x = some c → c ≠ X.env.locals := fun x c e z => by
  obtain ⟨v, o, ho, hd⟩ := I.cell x c e
  obtain ⟨m, ⟨o', es, ep, ho', hd', _⟩, _⟩ := I.loc
  rw [z, ho'] at ho; cases ho; rw [hd'] at hd; cases hd
theorem Inv.funs (I : Inv X pins σ H s) : s.heap.FunFrames X.base X.outer := by
  have all : ∀ (l : List Env), (∀ b ∈ frs l, b ∈ X.fs) → X.s₀.heap.FunFrames X.base l → s.heap.FunFrames X.base l := by
    intro l
    induction l with
    | nil => intro _ _; trivial
    | cons env r ih =>
      intro hs hl
      obtain ⟨hk, ⟨L, o, hf, hn, ho, hd⟩, hr⟩ := hl
      have hL : L ∈ X.fs := hs L (by unfold frs; rw [List.filterMap_cons, hf]; exact List.mem_cons_self)
      obtain ⟨sl, e⟩ := I.base.slot L o ho (I.ok.frf L hL) hL fun z => I.ok.exfs L z hL
      exact ⟨hk, ⟨L, _, hf, hn, e, hd⟩, ih (fun b hb => hs b (by unfold frs; rw [List.filterMap_cons, hf]; exact List.mem_cons_of_mem _ hb)) hr⟩
  exact all X.outer (fun _ hb => hb) I.ok.funs

/-- the frames that run, for a call -/
theorem Inv.stack (I : Inv X pins σ H s) : s.heap.FunFrames X.base X.stack := by
  rcases I.ok.stk with e | ⟨e, hf⟩
  · rw [e]; exact I.funs
  · rw [e]
    obtain ⟨m, hn, _⟩ := I.loc
    refine .cons (by rw [I.ok.kind]; decide) hf hn ?_ I.funs
    exact Heap.get?_none_of_le (Nat.le_trans I.ok.bsz I.ok.above)
theorem Inv.stkSub (I : Inv X pins σ H s) : ∀ b ∈ frs X.stack, b ∈ X.env.locals :: X.fs := fun b hb => by
  rcases I.ok.stk with e | ⟨e, hf⟩
  · rw [e] at hb; exact List.mem_cons_of_mem _ hb
  · rw [e] at hb
    unfold frs at hb
    rw [List.filterMap_cons, hf] at hb
    exact hb
theorem Inv.stkFree (I : Inv X pins σ H s) : ∀ b ∈ frs X.stack, H b = none := fun b hb => by
  rcases List.mem_cons.mp (I.stkSub b hb) with e | hb
  · rw [e]; exact I.free
  · obtain ⟨_, o, ho, _⟩ := I.ok.funs.mem hb
    exact I.base.free b o ho (I.ok.frf b hb) fun z => I.ok.exfs b z hb

/-- THE STEP: the untracked objects but the frame and the records at ch are kept (the callers' frames up to slots), the frame's map is kept, the new abstract heap is held -/
theorem Inv.step {g' : Array GenState} {t' : Nat} {d' : Drawn} {ch : List Addr} (I : Inv X pins σ H s)
    (hch : ∀ b ∈ ch, (b ∈ X.ex ∨ X.s₀.heap.objs.size ≤ b) ∧ b ≠ X.env.locals ∧ (∀ x c, X.env.cells.lookup x = some c → c ≠ b) ∧ ∀ p ∈ X.pn ++ pins, p.1 ≠ b)
    (keep : ∀ b o, b ≠ X.env.locals → b ∉ X.fs → b ∉ ch → s.heap.get? b = some o → H b = none → h'.get? b = some o)
    (slot : ∀ b o, b ≠ X.env.locals → b ∈ X.fs → b ∉ ch → s.heap.get? b = some o → H b = none → ∃ sl, h'.get? b = some { o with slots := sl }) (free : ∀ b o, b ∉ ch → s.heap.get? b = some o → H b = none → H' b = none)
    (there : ∀ b o, b ∉ ch → s.heap.get? b = some o → ∃ o', h'.get? b = some o')
    (tups : ∀ b xs, H b = some (.tup xs) → H' b = some (.tup xs)) (frzs : ∀ b o u, H b = some (.frz o u) → H' b = some (.frz o u)) (tbls : ∀ b ps, H b = some (.tbl ps) → ∃ more, H' b = some (.tbl (ps ++ more)))
    (ns : ∀ m, s.heap.Ns X.env.locals m → h'.Ns X.env.locals m) (hok : HOk X.prog X.w H' h') (hg : AllBare g') :
    Inv X pins σ H' { s with heap := h', gens := g', drawn := d', toks := t' } := by
  have neL : ∀ b o, X.s₀.heap.get? b = some o → b ≠ X.env.locals := fun b o e => Nat.ne_of_lt (Nat.lt_of_lt_of_le (Heap.lt_size e) I.ok.above)
  have neC : ∀ b o, X.s₀.heap.get? b = some o → b ∉ X.ex → b ∉ ch := fun b o e hx hb => by
    rcases (hch b hb).1 with z | z
    · exact hx z
    · exact absurd (Nat.lt_of_lt_of_le (Heap.lt_size e) z) (Nat.lt_irrefl _)
  have cellK : ∀ x c, X.env.cells.lookup x = some c → ∀ v, s.heap.IsCell c v → h'.IsCell c v := fun x c e v ⟨o, ho, hd⟩ => by
    have nch : c ∉ ch := fun z => (hch c z).2.2.1 x c e rfl
    by_cases hc : c ∈ X.fs
    · obtain ⟨sl, q⟩ := slot c o (I.cne x c e) hc nch ho (I.freeC x c e)
      exact ⟨_, q, hd⟩
    · exact ⟨o, keep c o (I.cne x c e) hc nch ho (I.freeC x c e), hd⟩
  refine ⟨I.ok, I.os, hg, ⟨fun b o e n hb hx => ?_, fun b o e n hb hx => ?_, fun b o e n hx => ?_, fun b o e hx => ?_, fun b xs e => tups b xs (I.base.tups b xs e), fun b o xs e => frzs b o xs (I.base.frzs b o xs e), fun b ps e => ?_⟩, ?_, fun x c e => ?_, ?_, fun x c e => ?_, fun p hp => ?_, hok, I.len⟩
  · exact keep b o (neL b o e) hb (neC b o e hx) (I.base.keep b o e n hb hx) (I.base.free b o e n hx)
  · obtain ⟨sl, e1⟩ := I.base.slot b o e n hb hx
    obtain ⟨sl', e2⟩ := slot b _ (neL b o e) hb (neC b o e hx) e1 (I.base.free b o e n hx)
    exact ⟨sl', e2⟩
  · obtain ⟨o', e1⟩ := I.base.there b o e hx
    exact free b o' (neC b o e hx) e1 (I.base.free b o e n hx)
  · obtain ⟨o', e1⟩ := I.base.there b o e hx
    exact there b o' (neC b o e hx) e1
  · obtain ⟨m1, e1⟩ := I.base.tbls b ps e
    obtain ⟨m2, e2⟩ := tbls b _ e1
    exact ⟨m1 ++ m2, by rw [e2, Array.append_assoc]⟩
  · obtain ⟨m, hn, hl⟩ := I.loc
    refine ⟨m, ns m hn, fun i x v e1 e2 e3 => ?_⟩
    obtain ⟨u, r, l⟩ := hl i x v e1 e2 e3
    refine ⟨u, r, ?_⟩
    rcases l with l | ⟨k, c, e, z⟩
    · exact .inl l
    · exact .inr ⟨k, c, e, cellK x c e _ z⟩
  · obtain ⟨v, z⟩ := I.cell x c e
    exact ⟨v, cellK x c e v z⟩
  · obtain ⟨m, ⟨o, _, _, ho, _⟩, _⟩ := I.loc
    exact free _ o (fun z => (hch _ z).2.1 rfl) ho I.free
  · obtain ⟨v, o, ho, hd⟩ := I.cell x c e
    exact free c o (fun z => (hch c z).2.2.1 x c e rfl) ho (I.freeC x c e)
  · obtain ⟨e, n, ne, nf, d⟩ := I.pin p hp
    have nch : p.1 ∉ ch := fun z => (hch p.1 z).2.2.2 p hp rfl
    exact ⟨keep p.1 p.2 ne nf nch e n, free p.1 p.2 nch e n, ne, nf, d⟩
/-- .. where the frame's own object is kept too -/
theorem Inv.un {t' : Nat} (I : Inv X pins σ H s) (u : Un X.fs [] H H' s.heap h') (hok : HOk X.prog X.w H' h') : Inv X pins σ H' { s with heap := h', toks := t' } := by
  obtain ⟨m, ⟨o, es, ep, ho, r⟩, _⟩ := id I.loc
  obtain ⟨sl, hL⟩ := u.any ho I.free (by simp)
  exact I.step (g' := s.gens) (d' := s.drawn) (ch := []) (fun _ z => nomatch z) (fun b o _ hb _ e n => u.keep b o e n hb (by simp)) (fun b o _ hb _ e n => u.slot b o e n hb (by simp)) (fun b o _ e n => u.free b o e n (by simp)) (fun b o _ e => u.there b o e (by simp)) u.tups u.frzs u.tbls (fun m' hm => by
    obtain ⟨o', es', ep', ho', r'⟩ := hm
    rw [ho] at ho'; cases ho'
    exact ⟨_, es', ep', hL, r'⟩) hok I.bare
/-- behind a call (or a comprehension's block): the slots of this frame may have changed too, the records at ch may have turned -/
theorem Inv.call {g' : Array GenState} {t' : Nat} {d' : Drawn} {ch : List Addr} (I : Inv X pins σ H s) (u : Un (frs X.stack) ch H H' s.heap h') (hok : HOk X.prog X.w H' h') (hg : AllBare g')
    (hch : ∀ b ∈ ch, (b ∈ X.ex ∨ X.s₀.heap.objs.size ≤ b) ∧ b ≠ X.env.locals ∧ (∀ x c, X.env.cells.lookup x = some c → c ≠ b) ∧ ∀ p ∈ X.pn ++ pins, p.1 ≠ b) :
    Inv X pins σ H' { s with heap := h', gens := g', drawn := d', toks := t' } := by
  obtain ⟨m, ⟨o, es, ep, ho, r⟩, _⟩ := id I.loc
  obtain ⟨sl, hL⟩ := u.any ho I.free fun z => (hch _ z).2.1 rfl
  exact I.step (ch := ch) hch (fun b o hL hb hc e n => u.keep b o e n (fun z => (List.mem_cons.mp (I.stkSub b z)).elim hL hb) hc) (fun b o _ _ hc e n => u.any e n hc) (fun b o hc e n => u.free b o e n hc) (fun b o hc e => u.there b o e hc) u.tups u.frzs u.tbls (fun m' hm => by
    obtain ⟨o', es', ep', ho', r'⟩ := hm
    rw [ho] at ho'; cases ho'
    exact ⟨_, es', ep', hL, r'⟩) hok hg
/-- an untracked record of ours (an iterator) has turned -/
theorem Inv.turned {t' : Nat} {it : Addr} (I : Inv X pins σ H s) (k : ∀ b o, b ≠ it → s.heap.get? b = some o → h'.get? b = some o) (hn : H it = none) (hL : it ≠ X.env.locals)
    (h1 : it ∈ X.ex ∨ X.s₀.heap.objs.size ≤ it) (h2 : ∀ x c, X.env.cells.lookup x = some c → c ≠ it) (h3 : ∀ p ∈ X.pn ++ pins, p.1 ≠ it) : Inv X pins σ H { s with heap := h', toks := t' } := by
  have nit : ∀ b u, H b = some u → b ≠ it := fun b u e z => by rw [z, hn] at e; cases e
  refine I.step (g' := s.gens) (d' := s.drawn) (ch := [it]) (fun b hb => ?_) (fun b o _ _ hc e _ => k b o (fun z => hc (by simp [z])) e) (fun b o _ _ hc e _ => ⟨o.slots, k b o (fun z => hc (by simp [z])) e⟩) (fun _ _ _ _ n => n)
    (fun b o hc e => ⟨o, k b o (fun z => hc (by simp [z])) e⟩) (fun _ _ e => e) (fun _ _ _ e => e) (fun b ps e => ⟨#[], by rw [e]; simp⟩) (fun m hm => ?_) (fun b u e => ?_) I.bare
  · have e : b = it := by simpa using hb
    subst e
    exact ⟨h1, hL, h2, h3⟩
  · obtain ⟨o, es, ep, ho, r⟩ := hm
    exact ⟨o, es, ep, k _ o (Ne.symm hL) ho, r⟩
  · refine (I.hok b u e).stay (fun c v hc q => k c v ?_ q) (fun _ q => q) fun _ _ q => q
    rcases hc with z | z
    · rw [z]; exact nit b u e
    · exact nit c _ z
theorem Inv.tok (I : Inv X pins σ H s) (t : Nat) : Inv X pins σ H { s with toks := t } := I.un (h' := s.heap) (t' := t) Un.refl I.hok
/-- all objects kept -/
theorem Inv.kept {t' : Nat} (I : Inv X pins σ H s) (k : ∀ b u, s.heap.get? b = some u → h'.get? b = some u) : Inv X pins σ H { s with heap := h', toks := t' } := I.un (Un.kept k) (I.hok.kept k)
/-- a new object laid and tracked -/
theorem Inv.laid {a : Addr} {o : HO} {t' : Nat} (I : Inv X pins σ H s) (k : ∀ b u, s.heap.get? b = some u → h'.get? b = some u) (hp : s.heap.objs.size ≤ a) (new : ObjOk X.prog X.w (upd H a o) h' a o) :
    Inv X pins σ (upd H a o) { s with heap := h', toks := t' } := I.un (Un.laid k hp (I.hok.fresh hp)) (I.hok.laid k hp new)
/-- an object written -/
theorem Inv.write {x e : Addr} {o : HO} {t' : Nat} (I : Inv X pins σ H s) (mu : Mut (H x)) (he : e = x ∨ H e = some (.own x)) (k : ∀ b u, b ≠ e → s.heap.get? b = some u → h'.get? b = some u) (heo : ∃ u, h'.get? e = some u)
    (new : ObjOk X.prog X.w (upd H x o) h' x o) : Inv X pins σ (upd H x o) { s with heap := h', toks := t' } := I.un (Un.write mu he k heo) (I.hok.write mu he k heo new)
theorem Inv.pins_of {pins' : List (Addr × Obj)} (I : Inv X pins σ H s) (h : ∀ p ∈ pins', s.heap.get? p.1 = some p.2 ∧ H p.1 = none ∧ p.1 ≠ X.env.locals ∧ p.1 ∉ X.fs ∧ ∀ v, p.2.data ≠ .cell v) : Inv X pins' σ H s :=
  ⟨I.ok, I.os, I.bare, I.base, I.loc, I.cell, I.free, I.freeC, fun p hp => (List.mem_append.mp hp).elim (fun z => I.pin p (List.mem_append_left _ z)) (h p), I.hok, I.len⟩

theorem nodup_ix {N : List Str} (hN : N.Nodup) {i j : Nat} {x : Str} (a : N[i]? = some x) (b : N[j]? = some x) : i = j := by
  obtain ⟨h1, e1⟩ := List.getElem?_eq_some_iff.mp a
  obtain ⟨h2, e2⟩ := List.getElem?_eq_some_iff.mp b
  exact (List.getElem_inj hN).mp (e1.trans e2.symm)

/-- a name is stored; what changed -/
theorem store_ok2 {M : Model} {A : Around} {E : Value → Shared → Prop} {i : Nat} {x : Str} {v : V} {u : Value} {Q : Unit → Shared → Prop} (I : Inv X pins σ H s) (hN : X.N.Nodup) (hi : X.N[i]? = some x) (hx : Loc X.env.scope x) (r : RelV v u)
    (h : ∀ s', Inv X pins (σ.set i (some v)) H s' → (∃ a, Heap.SameBut a s.heap s'.heap ∧ (a = X.env.locals ∨ X.env.cells.lookup x = some a)) → Q () s') (hf : X.fn x = true ∨ X.env.scope.names.lookup x = some .local := by first | exact .inl rfl | exact .inr rfl | assumption) : wpAny M A (storeName X.env x u) Q E s := by
  obtain ⟨m, hn, hl⟩ := id I.loc
  have hcls : (X.env.scope.kind == .class || (X.env.scope.kind == .module && X.env.locals != X.env.globals)) = false := by rw [I.ok.kind]; rfl
  have hiσ : i < σ.length := by rw [I.len]; exact (List.getElem?_eq_some_iff.mp hi).1
  have cne := I.cne
  have tracked : ∀ {a : Addr} {h' : Heap}, (∃ o, s.heap.get? a = some o ∧ H a = none) → Heap.SameBut a s.heap h' → HOk X.prog X.w H h' := fun {a h'} ha hs b ob e => by
    obtain ⟨_, _, hfree⟩ := ha
    refine (I.hok b ob e).stay (fun c w' hc q => (hs.2 c ?_).trans q) (fun _ q => q) fun _ _ q => q
    rintro rfl
    rcases hc with rfl | hc
    · rw [hfree] at e; cases e
    · rw [hfree] at hc; cases hc
  rcases hx with hk | hk
  · refine wpAny_storeName_local hk hn (fun h' hn' hs => ?_) hcls
    obtain ⟨oL, _, _, hoL, _⟩ := id hn
    refine h _ ⟨I.ok, I.os, I.bare, ⟨fun b o e n hb hx => ?_, fun b o e n hb hx => ?_, I.base.free, fun b o e hx => ?_, I.base.tups, I.base.frzs, I.base.tbls⟩, ⟨_, hn', fun j y v' e1 e2 e3 => ?_⟩, fun y c e => ?_, I.free, I.freeC, fun p hp => ?_, tracked ⟨oL, hoL, I.free⟩ hs, by simpa using I.len⟩ ⟨_, hs, .inl rfl⟩
    · exact (hs.2 b (Nat.ne_of_lt (Nat.lt_of_lt_of_le (Heap.lt_size e) I.ok.above))).trans (I.base.keep b o e n hb hx)
    · obtain ⟨sl, e1⟩ := I.base.slot b o e n hb hx
      exact ⟨sl, (hs.2 b (Nat.ne_of_lt (Nat.lt_of_lt_of_le (Heap.lt_size e) I.ok.above))).trans e1⟩
    · obtain ⟨o', e1⟩ := I.base.there b o e hx
      exact ⟨o', (hs.2 b (Nat.ne_of_lt (Nat.lt_of_lt_of_le (Heap.lt_size e) I.ok.above))).trans e1⟩
    · by_cases hj : j = i
      · subst hj
        rw [hi] at e1; cases e1
        rw [List.getElem?_set_self hiσ] at e2
        cases e2
        exact ⟨u, r, .inl ⟨hk, by simp⟩⟩
      · rw [List.getElem?_set_ne (Ne.symm hj)] at e2
        obtain ⟨u', r', q⟩ := hl j y v' e1 e2 e3
        refine ⟨u', r', ?_⟩
        rcases q with ⟨k, e⟩ | ⟨k, c, e, z⟩
        · refine .inl ⟨k, ?_⟩
          have : y ≠ x := fun e => hj (nodup_ix hN e1 (e ▸ hi))
          simp [this, e]
        · exact .inr ⟨k, c, e, z.sameBut hs (cne y c e)⟩
    · obtain ⟨w', z⟩ := I.cell y c e
      exact ⟨w', z.sameBut hs (cne y c e)⟩
    · obtain ⟨e, n, ne, nf, d⟩ := I.pin p hp
      exact ⟨(hs.2 p.1 ne).trans e, n, ne, nf, d⟩
  · have hfn : X.fn x = true := by
      rcases hf with z | z
      · exact z
      · rw [z] at hk; cases hk
    obtain ⟨c, hc⟩ := I.ok.has x (.inl hk)
    obtain ⟨w', z⟩ := I.cell x c hc
    refine wpAny_storeName_cell I.ok.kind hk hc z (fun h' hc' hs => ?_)
    obtain ⟨oc, hoc, hocd⟩ := id z
    refine h { s with heap := h' } ⟨I.ok, I.os, I.bare, ⟨fun b o e n hb hx => ?_, fun b o e n hb hx => ?_, I.base.free, fun b o e hx => ?_, I.base.tups, I.base.frzs, I.base.tbls⟩, ⟨m, hn.sameBut hs (Ne.symm (cne x c hc)), fun j y v' e1 e2 e3 => ?_⟩, fun y c' e => ?_, I.free, I.freeC, fun p hp => ?_, tracked ⟨oc, hoc, I.freeC x c hc⟩ hs, by simpa using I.len⟩ ⟨c, hs, .inr hc⟩
    · exact (hs.2 b (Nat.ne_of_lt (Nat.lt_of_lt_of_le (Heap.lt_size e) (I.ok.cab x c hfn hc)))).trans (I.base.keep b o e n hb hx)
    · obtain ⟨sl, e1⟩ := I.base.slot b o e n hb hx
      exact ⟨sl, (hs.2 b (Nat.ne_of_lt (Nat.lt_of_lt_of_le (Heap.lt_size e) (I.ok.cab x c hfn hc)))).trans e1⟩
    · obtain ⟨o', e1⟩ := I.base.there b o e hx
      exact ⟨o', (hs.2 b (Nat.ne_of_lt (Nat.lt_of_lt_of_le (Heap.lt_size e) (I.ok.cab x c hfn hc)))).trans e1⟩
    · by_cases hj : j = i
      · subst hj
        rw [hi] at e1; cases e1
        rw [List.getElem?_set_self hiσ] at e2
        cases e2
        exact ⟨u, r, .inr ⟨.inl hk, c, hc, hc'⟩⟩
      · rw [List.getElem?_set_ne (Ne.symm hj)] at e2
        obtain ⟨u', r', q⟩ := hl j y v' e1 e2 e3
        refine ⟨u', r', ?_⟩
        rcases q with q | ⟨k, c', e, z'⟩
        · exact .inl q
        · refine .inr ⟨k, c', e, z'.sameBut hs ?_⟩
          rintro rfl
          exact hj (nodup_ix hN e1 (I.ok.inj _ _ _ e hc ▸ hi))
    · by_cases hcc : c' = c
      · subst hcc; exact ⟨_, hc'⟩
      · obtain ⟨w2, z2⟩ := I.cell y c' e
        exact ⟨w2, z2.sameBut hs hcc⟩
    · obtain ⟨e, n, ne, nf, d⟩ := I.pin p hp
      refine ⟨(hs.2 p.1 ?_).trans e, n, ne, nf, d⟩
      intro q
      rw [q, hoc] at e
      have q' : oc = p.2 := Option.some.inj e
      exact d w' (by rw [← q']; exact hocd)
theorem store_ok {M : Model} {A : Around} {E : Value → Shared → Prop} {i : Nat} {x : Str} {v : V} {u : Value} {Q : Unit → Shared → Prop} (I : Inv X pins σ H s) (hN : X.N.Nodup) (hi : X.N[i]? = some x) (hx : Loc X.env.scope x) (r : RelV v u)
    (h : ∀ s', Inv X pins (σ.set i (some v)) H s' → Q () s') (hf : X.fn x = true ∨ X.env.scope.names.lookup x = some .local := by first | exact .inl rfl | exact .inr rfl | assumption) : wpAny M A (storeName X.env x u) Q E s :=
  store_ok2 I hN hi hx r (fun s' I' _ => h s' I') hf
/-- behind a call or a block, the state as it is -/
theorem Inv.call' {s' : Shared} {ch : List Addr} (I : Inv X pins σ H s) (ho : s'.os = s.os) (u : Un (frs X.stack) ch H H' s.heap s'.heap) (hok : HOk X.prog X.w H' s'.heap) (hg : AllBare s'.gens)
    (hch : ∀ b ∈ ch, (b ∈ X.ex ∨ X.s₀.heap.objs.size ≤ b) ∧ b ≠ X.env.locals ∧ (∀ x c, X.env.cells.lookup x = some c → c ≠ b) ∧ ∀ p ∈ X.pn ++ pins, p.1 ≠ b) : Inv X pins σ H' s' := by
  obtain ⟨h', g', d', t', o'⟩ := s'
  have e : o' = s.os := ho
  subst e
  exact I.call (g' := g') (t' := t') (d' := d') u hok hg hch
end

/-! ### the judgements -/
/-- an exception: its class, its own dict's address (where it has one), the abstract heap behind it -/
abbrev XK := Value → Option Addr → Hp → Prop
abbrev St := List (Option V)
abbrev VK := V → Hp → Prop
/-- an expression's reading; a test's; an argument list's -/
abbrev TE := St → Hp → VK → Prop
abbrev TT := St → Hp → (Bool → Hp → Prop) → Prop
abbrev TA := St → Hp → (List V → Hp → Prop) → Prop
/-- what is wanted behind a statement -/
structure Ends where
  nx : St → Hp → Prop
  rt : VK
  bk : St → Hp → Prop := fun _ _ => False
  ct : St → Hp → Prop := fun _ _ => False
abbrev TS := Ends → St → Hp → Prop

def EP (X : Cx) (pins : List (Addr × Obj)) (σ : St) (Q : VK) (u : Value) (s' : Shared) : Prop := ∃ v H', Inv X pins σ H' s' ∧ RelV v u ∧ Q v H'
def TP (X : Cx) (pins : List (Addr × Obj)) (σ : St) (Q : Bool → Hp → Prop) (b : Bool) (s' : Shared) : Prop := ∃ H', Inv X pins σ H' s' ∧ Q b H'
def AP (X : Cx) (pins : List (Addr × Obj)) (σ : St) (Q : List V → Hp → Prop) (us : List Value) (s' : Shared) : Prop := ∃ vs H', Inv X pins σ H' s' ∧ Vals vs us ∧ Q vs H'
def SP (X : Cx) (pins : List (Addr × Obj)) (D : Ends) (f : Flow) (s' : Shared) : Prop :=
  match f with
  | .next => ∃ σ' H', Inv X pins σ' H' s' ∧ D.nx σ' H'
  | .brk => ∃ σ' H', Inv X pins σ' H' s' ∧ D.bk σ' H'
  | .cont => ∃ σ' H', Inv X pins σ' H' s' ∧ D.ct σ' H'
  | .ret u => ∃ v σ' H', Inv X pins σ' H' s' ∧ RelV v u ∧ D.rt v H'

def PE (X : Cx) (e : Expr) (t : TE) : Prop :=
  ∀ (pins : List (Addr × Obj)) (s : Shared) (σ : St) (H : Hp) (Q : VK), Inv X pins σ H s → t σ H Q → wpAny (model X.prog X.w) X.A (eval e X.env) (EP X pins σ Q) X.xe s
def PT (X : Cx) (e : Expr) (t : TT) : Prop :=
  ∀ (pins : List (Addr × Obj)) (s : Shared) (σ : St) (H : Hp) (Q : Bool → Hp → Prop), Inv X pins σ H s → t σ H Q → wpAny (model X.prog X.w) X.A (isTrue e X.env (eval e X.env)) (TP X pins σ Q) X.xe s
/-- a test whatever its 'whole' is (and, or) -/
def PW (X : Cx) (e : Expr) (t : TT) : Prop :=
  ∀ (whole : Sem Value) (pins : List (Addr × Obj)) (s : Shared) (σ : St) (H : Hp) (Q : Bool → Hp → Prop), Inv X pins σ H s → t σ H Q → wpAny (model X.prog X.w) X.A (isTrue e X.env whole) (TP X pins σ Q) X.xe s
theorem PW.pt {X : Cx} {e : Expr} {t : TT} (h : PW X e t) : PT X e t := h _
/-- an argument list (no star), from the left -/
def PA (X : Cx) (es : List Expr) (t : TA) : Prop :=
  ∀ (pos : Pos) (pins : List (Addr × Obj)) (s : Shared) (σ : St) (H : Hp) (Q : List V → Hp → Prop), Inv X pins σ H s → t σ H Q → wpAny (model X.prog X.w) X.A (spliced (backTo pos (starEach es X.env))) (AP X pins σ Q) X.xe s
def PS (X : Cx) (st : Stmt) (t : TS) : Prop :=
  ∀ (pins : List (Addr × Obj)) (s : Shared) (σ : St) (H : Hp) (D : Ends), Inv X pins σ H s → t D σ H → wpAny (model X.prog X.w) X.A (exec st X.env) (SP X pins D) X.xe s
def PSs (X : Cx) (st : List Stmt) (t : TS) : Prop :=
  ∀ (pins : List (Addr × Obj)) (s : Shared) (σ : St) (H : Hp) (D : Ends), Inv X pins σ H s → t D σ H → wpAny (model X.prog X.w) X.A (execs st X.env) (SP X pins D) X.xe s
/-- weaken the end -/
theorem thn {α : Type} {t : Sem α} {Q Q' : α → Shared → Prop} {M : Model} {A : Around} {E : Value → Shared → Prop} {s : Shared} (h : wpAny M A t Q E s) (hQ : ∀ a s, Q a s → Q' a s) : wpAny M A t Q' E s := wpAny_mono h hQ fun _ _ x => x
end L2

namespace L2
open PySem PySem.Spec PyProof.Rows
section
variable {X : Cx}

/-- two expressions in a row -/
theorem bin {a b : Expr} {ta tb : TE} (ha : PE X a ta) (hb : PE X b tb) {pins : List (Addr × Obj)} {s : Shared} {σ : St} {H : Hp} {R : V → V → Hp → Prop} (I : Inv X pins σ H s) (h : ta σ H fun x H1 => tb σ H1 fun y H2 => R x y H2)
    {α : Type} {Q : α → Shared → Prop} {f : Value → Value → Sem α}
    (hf : ∀ v u s2 x y H2, Inv X pins σ H2 s2 → RelV x v → RelV y u → R x y H2 → wpAny (model X.prog X.w) X.A (f v u) Q X.xe s2) :
    wpAny (model X.prog X.w) X.A (eval a X.env) (fun v s₁ => wpAny (model X.prog X.w) X.A (eval b X.env) (fun u s₂ => wpAny (model X.prog X.w) X.A (f v u) Q X.xe s₂) X.xe s₁) X.xe s := by
  refine thn (ha pins s σ H _ I h) fun v s1 ⟨x, H1, I1, r1, q1⟩ => ?_
  refine thn (hb pins s1 σ H1 _ I1 q1) fun u s2 ⟨y, H2, I2, r2, q2⟩ => ?_
  exact hf v u s2 x y H2 I2 r1 r2 q2

/-! ### names and constants -/
def tVar (i : Nat) : TE := fun σ H Q => ∃ v, σ[i]? = some (some v) ∧ Q v H
def tC (v : V) : TE := fun _ H Q => Q v H
theorem pe_var {i : Nat} {x : Str} {pos : Pos} (hN : X.N[i]? = some x) (hv : Vis X.env.scope x) (hd : (x == ("__debug__" : Str)) = false := by decide) (hcd : (x == ("__classdict__" : Str)) = false := by decide) : PE X (.Name x pos) (tVar i) := by
  intro pins s σ H Q I h
  obtain ⟨v, e, h⟩ := h
  obtain ⟨m, hn, hl⟩ := I.loc
  obtain ⟨u, r, l⟩ := hl i x v hN e hv
  have fin : EP X pins σ Q u s := ⟨v, H, I, r, h⟩
  rcases l with ⟨hk, hm⟩ | ⟨hk, c, hc, hcell⟩
  · exact wpAny_Name (wpAny_loadName_local I.ok.kind hk hn hm fin) hd
  · rcases hk with hk | hk
    · exact wpAny_Name (wpAny_loadName_cell I.ok.kind hk hc hcell fin) hd
    · exact wpAny_Name (wpAny_loadName_free I.ok.kind hk hc hcell fin hcd) hd
theorem pe_int {i j pos} : PE X (.Constant (.int i) j pos) (tC (.int i)) := fun _ _ _ H _ I h => wpAny_Constant_int ⟨.int i, H, I.tok _, ⟨_, rfl⟩, h⟩
theorem pe_bl {b j pos} : PE X (.Constant (.bool b) j pos) (tC (.bl b)) := fun _ _ _ H _ I h => Constant_bool ⟨.bl b, H, I, rfl, h⟩
theorem pe_non {j pos} : PE X (.Constant .none j pos) (tC .non) := fun _ _ _ H _ I h => Constant_none ⟨.non, H, I, rfl, h⟩
theorem pe_str {x j pos} : PE X (.Constant (.str x) j pos) (tC (.str x)) := fun _ _ _ H _ I h => Calls.Constant_str ⟨.str x, H, I.tok _, ⟨_, rfl⟩, h⟩

/-- a global name of the def -/
def Gl (X : Cx) (x : Str) : Prop := X.env.kindOf x = some .globalImplicit
theorem ld_glob {E : Value → Shared → Prop} {pins : List (Addr × Obj)} {s : Shared} {σ : St} {H : Hp} {x : Str} {u : Value} {pos : Pos} {Q : Value → Shared → Prop} (I : Inv X pins σ H s) (hg : Gl X x) (hm : X.mg x = some u) (h : Q u s)
    (hd : (x == ("__debug__" : Str)) = false := by decide) : wpAny (model X.prog X.w) X.A (eval (.Name x pos) X.env) Q E s :=
  Calls.Name_function_global I.ok.kind hg (Calls.loadGlobal_global (by rw [I.ok.glob]; exact I.mod.glob.keeps I.bk) hm h) hd
theorem ld_blt {E : Value → Shared → Prop} {pins : List (Addr × Obj)} {s : Shared} {σ : St} {H : Hp} {x : Str} {u : Value} {pos : Pos} {Q : Value → Shared → Prop} (I : Inv X pins σ H s) (hg : Gl X x) (hm : X.mg x = none) (hv : bootBuiltins x = some u) (h : Q u s)
    (hn : x ≠ "__name__" := by decide) (hd : (x == ("__debug__" : Str)) = false := by decide) : wpAny (model X.prog X.w) X.A (eval (.Name x pos) X.env) Q E s := by
  obtain ⟨mb, h1, h2⟩ := I.mod.blt
  exact Calls.Name_function_global I.ok.kind hg (Calls.loadGlobal_builtin (by rw [I.ok.glob]; exact I.mod.glob.keeps I.bk) hm (by rw [I.ok.blt]; exact h1.keeps I.bk) ((h2 x hn).trans hv) h) hd
/-- a module's constant, a class, a function, as a value -/
theorem pe_glob {x : Str} {v : V} {u : Value} {pos : Pos} (hg : Gl X x) (hm : X.mg x = some u) (r : RelV v u) (hd : (x == ("__debug__" : Str)) = false := by decide) : PE X (.Name x pos) (tC v) :=
  fun _ _ _ H _ I h => ld_glob I hg hm ⟨v, H, I, r, h⟩ hd
theorem pe_bltn {x : Str} {v : V} {u : Value} {pos : Pos} (hg : Gl X x) (hm : X.mg x = none) (hv : bootBuiltins x = some u) (r : RelV v u) (hn : x ≠ "__name__" := by decide) (hd : (x == ("__debug__" : Str)) = false := by decide) : PE X (.Name x pos) (tC v) :=
  fun _ _ _ H _ I h => ld_blt I hg hm hv ⟨v, H, I, r, h⟩ hn hd

/-! ### arithmetic -/
variable {a b : Expr} {ta tb : TE} {pos : Pos}

/-! ### comparisons -/
def PC (X : Cx) (op : CmpOp) (a b : Expr) (t : TE) : Prop :=
  ∀ (pins : List (Addr × Obj)) (s : Shared) (σ : St) (H : Hp) (Q : VK), Inv X pins σ H s → t σ H Q →
    wpAny (model X.prog X.w) X.A (eval a X.env) (fun v s₁ => wpAny (model X.prog X.w) X.A (eval b X.env) (fun u s₂ => wpAny (model X.prog X.w) X.A (compareOp op v u) (EP X pins σ Q) X.xe s₂) X.xe s₁) X.xe s
/-- a comparison as a value, as a test -/
def tB (t : TE) : TT := fun σ H Q => t σ H fun x H1 => ∃ c, x = .bl c ∧ Q c H1
theorem pt_cmp {op : CmpOp} {t : TE} (h : PC X op a b t) (h1 : behindInMarks op b = false := by first | exact nobehind _ (by decide) (by decide) | rfl) : PT X (.Compare a [op] [b] pos) (tB t) := by
  intro pins s σ H Q I hw
  refine wpAny_isTrue_Compare1 (thn (h pins s σ H _ I hw) fun v s1 h1 => thn h1 fun u s2 h2 => thn h2 fun c s3 ⟨x, H1, I1, r1, q1⟩ => ?_) h1
  obtain ⟨d, rfl, q⟩ := q1
  cases r1
  exact wpAny_truthy_bool ⟨H1, I1, q⟩
/-- an expression whose value is a bool, as a test -/
theorem pt_val {e : Expr} {t : TE} (h : PE X e t) (he : ∀ whole, isTrue e X.env whole = (do let v ← whole; standAt e.pos; holding [v] (truthy v)) := by intro _; rfl) : PT X e (tB t) := by
  intro pins s σ H Q I hw
  refine isTrue_plain (thn (h pins s σ H _ I hw) fun v s1 ⟨x, H1, I1, r1, q1⟩ => ?_) (he _)
  obtain ⟨d, rfl, q⟩ := q1
  cases r1
  exact wpAny_truthy_bool ⟨H1, I1, q⟩

/-! ### and, or, not -/
variable {tA tB' : TT} {rest : List Expr}
def tAnd (t u : TT) : TT := fun σ H Q => t σ H fun c H1 => if c = true then u σ H1 Q else Q false H1
def tOr (t u : TT) : TT := fun σ H Q => t σ H fun c H1 => if c = true then Q true H1 else u σ H1 Q
def tNot (t : TT) : TT := fun σ H Q => t σ H fun c H1 => Q (!c) H1
theorem pw_and1 (ha : PT X a tA) : PW X (.BoolOp .And [a] pos) tA := by
  intro wh pins s σ H Q I h
  refine isTrue_and (thn (ha pins s σ H Q I h) fun c s1 e => ?_)
  cases c with
  | true => exact isTrue_and_nil e
  | false => exact e
theorem pw_or1 (ha : PT X a tA) : PW X (.BoolOp .Or [a] pos) tA := by
  intro wh pins s σ H Q I h
  refine isTrue_or (thn (ha pins s σ H Q I h) fun c s1 e => ?_)
  cases c with
  | false => exact isTrue_or_nil e
  | true => exact e
theorem pw_and (ha : PT X a tA) (hb : PW X (.BoolOp .And (b :: rest) pos) tB') : PW X (.BoolOp .And (a :: b :: rest) pos) (tAnd tA tB') := by
  intro wh pins s σ H Q I h
  refine isTrue_and (thn (ha pins s σ H _ I h) fun c s1 ⟨H1, I1, q1⟩ => ?_)
  cases c with
  | true => exact hb wh pins s1 σ H1 Q I1 q1
  | false => exact ⟨H1, I1, q1⟩
theorem pw_or (ha : PT X a tA) (hb : PW X (.BoolOp .Or (b :: rest) pos) tB') : PW X (.BoolOp .Or (a :: b :: rest) pos) (tOr tA tB') := by
  intro wh pins s σ H Q I h
  refine isTrue_or (thn (ha pins s σ H _ I h) fun c s1 ⟨H1, I1, q1⟩ => ?_)
  cases c with
  | true => exact ⟨H1, I1, q1⟩
  | false => exact hb wh pins s1 σ H1 Q I1 q1
theorem pt_not (ha : PT X a tA) : PT X (.UnaryOp .Not a pos) (tNot tA) := by
  intro pins s σ H Q I h
  exact isTrue_not (ha pins s σ H (fun c H1 => Q (!c) H1) I h)
/-- .. as values (bools) -/
def tAndV (ta tb : TE) : TE := fun σ H Q => ta σ H fun x H1 => ∃ c, x = .bl c ∧ if c = true then tb σ H1 Q else Q (.bl false) H1
def tOrV (ta tb : TE) : TE := fun σ H Q => ta σ H fun x H1 => ∃ c, x = .bl c ∧ if c = true then Q (.bl true) H1 else tb σ H1 Q
def tNotV (ta : TE) : TE := fun σ H Q => ta σ H fun x H1 => ∃ c, x = .bl c ∧ Q (.bl (!c)) H1
theorem pe_one {op} {t : TE} (h : PE X a t) : PE X (.BoolOp op [a] pos) t := fun pins s σ H Q I hw => BoolOp_one (h pins s σ H Q I hw)
theorem pe_and (ha : PE X a ta) (hb : PE X (.BoolOp .And (b :: rest) pos) tb) : PE X (.BoolOp .And (a :: b :: rest) pos) (tAndV ta tb) := by
  intro pins s σ H Q I h
  refine BoolOp_and (thn (ha pins s σ H _ I h) fun v s1 ⟨x, H1, I1, r1, q1⟩ => ?_)
  obtain ⟨c, rfl, q1⟩ := q1
  cases r1
  refine wpAny_truthy_bool ?_
  cases c with
  | true => exact hb pins s1 σ H1 Q I1 q1
  | false => exact ⟨.bl false, H1, I1, rfl, q1⟩
theorem pe_or (ha : PE X a ta) (hb : PE X (.BoolOp .Or (b :: rest) pos) tb) : PE X (.BoolOp .Or (a :: b :: rest) pos) (tOrV ta tb) := by
  intro pins s σ H Q I h
  refine BoolOp_or (thn (ha pins s σ H _ I h) fun v s1 ⟨x, H1, I1, r1, q1⟩ => ?_)
  obtain ⟨c, rfl, q1⟩ := q1
  cases r1
  refine wpAny_truthy_bool ?_
  cases c with
  | false => exact hb pins s1 σ H1 Q I1 q1
  | true => exact ⟨.bl true, H1, I1, rfl, q1⟩
theorem pe_not (ha : PE X a ta) : PE X (.UnaryOp .Not a pos) (tNotV ta) := by
  intro pins s σ H Q I h
  refine UnaryOp_ (thn (ha pins s σ H _ I h) fun v s1 ⟨x, H1, I1, r1, q1⟩ => ?_)
  obtain ⟨c, rfl, q1⟩ := q1
  cases r1
  exact not_of (wpAny_truthy_bool ⟨.bl (!c), H1, I1, rfl, q1⟩)
end
end L2

namespace L2
open PySem PySem.Spec PyProof.Rows

/-! ### a list, a tuple that is read: tracked, frozen, or an object of the module -/
def SqL (K : PySem.W.Frag) (H : Hp) (a : Addr) (xs : List V) : Prop :=
  Rd H a (.lst xs) ∨
    ∃ (o : Obj) (its : Array Value) (n : Nat), K.lookup a = some o ∧ o.cls = .type "list" ∧ o.dict = none ∧ o.data = .seq its n ∧ its.size ≤ sizeLine ∧ Vals xs its.toList
def SqT (K : PySem.W.Frag) (H : Hp) (a : Addr) (xs : List V) : Prop :=
  Rd H a (.tup xs) ∨
    ∃ (o : Obj) (its : Array Value) (n : Nat), K.lookup a = some o ∧ o.cls = .type "tuple" ∧ o.data = .seq its n ∧ its.size ≤ sizeLine ∧ Vals xs its.toList
def absV : Value → Option V
  | .none => some .non
  | .bool b => some (.bl b)
  | .int i _ => some (.int i)
  | .str x _ => some (.str x)
  | .bytes b _ => some (.byt b)
  | .float b _ => some (.flt b)
  | .ref a => some (.ref a)
  | .type n => some (.ty n)
  | _ => none
theorem RelV.abs {x : V} {u : Value} (r : RelV x u) : absV u = some x := by
  cases x with
  | non => cases r; rfl
  | bl _ => cases r; rfl
  | int _ => obtain ⟨t, rfl⟩ := r; rfl
  | str _ => obtain ⟨t, rfl⟩ := r; rfl
  | byt _ => obtain ⟨t, rfl⟩ := r; rfl
  | flt _ => obtain ⟨t, rfl⟩ := r; rfl
  | ref _ => cases r; rfl
  | ty _ => cases r; rfl
theorem RelV.inj {x y : V} {u : Value} (r : RelV x u) (q : RelV y u) : x = y := Option.some.inj (r.abs.symm.trans q.abs)
theorem Vals.inj : ∀ {xs ys : List V} {us : List Value}, Vals xs us → Vals ys us → xs = ys
  | _, _, _, .nil, .nil => rfl
  | _, _, _, .cons r t, .cons r' t' => by rw [r.inj r', Vals.inj t t']
section
variable {X : Cx} {pins : List (Addr × Obj)} {σ : St} {H : Hp} {s : Shared} {a : Addr} {xs ys : List V}
theorem SqL.of {K : PySem.W.Frag} (h : H a = some (.lst xs)) : SqL K H a xs := .inl (.inl h)
theorem SqT.of {K : PySem.W.Frag} (h : H a = some (.tup xs)) : SqT K H a xs := .inl (.inl h)
theorem Inv.list (I : Inv X pins σ H s) (h : SqL X.K H a xs) : ∃ its : List Value, Vals xs its ∧ PlainL s.heap a its.toArray ∧ xs.length ≤ sizeLine := by
  rcases h with h | ⟨o, its, n, hk, hc, hd, hs, hz, r⟩
  · obtain ⟨z, its, n, r, e⟩ := h.ok I.hok
    exact ⟨its, r, ⟨_, n, e, rfl, rfl, rfl⟩, z⟩
  · refine ⟨its.toList, r, ⟨o, n, I.kIn a o hk, hc, hd, by simpa using hs⟩, ?_⟩
    have e := r.length
    simp only [Array.length_toList] at e
    omega
theorem Inv.tuple (I : Inv X pins σ H s) (h : SqT X.K H a xs) : ∃ its : List Value, Vals xs its ∧ IsTup s.heap a its.toArray ∧ xs.length ≤ sizeLine := by
  rcases h with h | ⟨o, its, n, hk, hc, hs, hz, r⟩
  · obtain ⟨z, its, r, p⟩ := h.ok I.hok
    exact ⟨its, r, p, z⟩
  · refine ⟨its.toList, r, ⟨o, I.kIn a o hk, hc, n, by simpa using hs⟩, ?_⟩
    have e := r.length
    simp only [Array.length_toList] at e
    omega
theorem Inv.list_inj (I : Inv X pins σ H s) (h : SqL X.K H a xs) (h' : SqL X.K H a ys) : xs = ys := by
  obtain ⟨its, r, ⟨o, n, e, _, _, d⟩, _⟩ := I.list h
  obtain ⟨its', r', ⟨o', n', e', _, _, d'⟩, _⟩ := I.list h'
  rw [e] at e'; cases e'
  rw [d] at d'
  injection d' with d1 _
  have : its = its' := by simpa using congrArg Array.toList d1
  subst this
  exact r.inj r'
end

/-! ### another wish about exceptions -/
abbrev Cx.wish (X : Cx) (E : Value → Shared → Prop) : Cx := { X with xe := E }
/-- no exception leaves -/
abbrev Cx.nox (X : Cx) : Cx := X.wish fun _ _ => False
theorem Cx.Ok.wish {X : Cx} (ok : X.Ok) (E : Value → Shared → Prop) : (X.wish E).Ok :=
  ⟨ok.mod, ok.kind, ok.glob, ok.blt, ok.above, ok.inj, ok.has, ok.cab, ok.hd, ok.frames, ok.stk, ok.exf, ok.bs, ok.bsz, ok.noex, ok.exfs, ok.funs, ok.frf⟩
theorem Cx.Ok.unwish {X : Cx} {E : Value → Shared → Prop} (ok : (X.wish E).Ok) : X.Ok :=
  ⟨ok.mod, ok.kind, ok.glob, ok.blt, ok.above, ok.inj, ok.has, ok.cab, ok.hd, ok.frames, ok.stk, ok.exf, ok.bs, ok.bsz, ok.noex, ok.exfs, ok.funs, ok.frf⟩
section
variable {X : Cx} {pins : List (Addr × Obj)} {σ : St} {H : Hp} {s : Shared} {E : Value → Shared → Prop}
theorem Inv.wish (I : Inv X pins σ H s) (E : Value → Shared → Prop) : Inv (X.wish E) pins σ H s := ⟨I.ok.wish E, I.os, I.bare, I.base, I.loc, I.cell, I.free, I.freeC, I.pin, I.hok, I.len⟩
theorem Inv.unwish (I : Inv (X.wish E) pins σ H s) : Inv X pins σ H s := ⟨I.ok.unwish, I.os, I.bare, I.base, I.loc, I.cell, I.free, I.freeC, I.pin, I.hok, I.len⟩
theorem SP.unwish {D : Ends} {f : Flow} {s' : Shared} (h : SP (X.wish E) pins D f s') : SP X pins D f s' := by
  cases f with
  | next => obtain ⟨σ', H', I, q⟩ := h; exact ⟨σ', H', I.unwish, q⟩
  | brk => obtain ⟨σ', H', I, q⟩ := h; exact ⟨σ', H', I.unwish, q⟩
  | cont => obtain ⟨σ', H', I, q⟩ := h; exact ⟨σ', H', I.unwish, q⟩
  | ret u => obtain ⟨v, σ', H', I, r, q⟩ := h; exact ⟨v, σ', H', I.unwish, r, q⟩
theorem PSs.nox {st : List Stmt} {t : TS} (h : PSs X.nox st t) : PSs X st t := fun pins s σ H D I hw =>
  wpAny_mono (h pins s σ H D (I.wish _) hw) (fun _ _ q => q.unwish) fun _ _ z => False.elim z
end

/-! ### blocks and small statements -/
section
variable {X : Cx} {st : Stmt} {rest : List Stmt} {t u : TS} {e : Expr} {te : TE} {pos : Pos}
def tNext : TS := fun D σ H => D.nx σ H
def tSeq (t u : TS) : TS := fun D σ H => t { D with nx := u D } σ H
theorem pss_nil : PSs X [] tNext := fun _ _ σ H _ I h => wpAny_execs_nil ⟨σ, H, I, h⟩
theorem pss_cons (h1 : PS X st t) (h2 : PSs X rest u) : PSs X (st :: rest) (tSeq t u) := by
  intro pins s σ H D I h
  refine wpAny_execs_cons (thn (h1 pins s σ H { D with nx := u D } I h) fun f s1 q => ?_)
  cases f with
  | next =>
    obtain ⟨σ', H', I', q⟩ := q
    exact h2 pins s1 σ' H' D I' q
  | ret v => exact q
  | brk => exact q
  | cont => exact q
theorem pss_one (h1 : PS X st t) : PSs X [st] t := by
  intro pins s σ H D I h
  refine wpAny_execs_cons (thn (h1 pins s σ H D I h) fun f s1 q => ?_)
  cases f with
  | next => exact wpAny_execs_nil q
  | ret v => exact q
  | brk => exact q
  | cont => exact q
/-- in a def's body nothing is shown -/
theorem Inv.quiet {pins : List (Addr × Obj)} {σ : St} {H : Hp} {s : Shared} (I : Inv X pins σ H s) : interactive X.env = false := by simp [interactive, I.ok.kind]
/-- an expression whose value is dropped -/
def tDrop (te : TE) : TS := fun D σ H => te σ H fun _ H1 => D.nx σ H1
theorem ps_expr (he : PE X e te) (hs : swapsWith e none pos.line X.env = pure false := by rfl) : PS X (.Expr e pos) (tDrop te) := by
  intro pins s σ H D I h
  exact wpAny_Expr_any (thn (he pins s σ H _ I h) fun v s1 ⟨x, H1, I1, r1, q1⟩ => ⟨σ, H1, I1, q1⟩) I.quiet hs
def tRet (te : TE) : TS := fun D σ H => te σ H D.rt
theorem ps_ret (he : PE X e te) : PS X (.Return (some e) pos) (tRet te) := by
  intro pins s σ H D I h
  exact wpAny_Return_some (thn (he pins s σ H _ I h) fun v s1 ⟨x, H1, I1, r1, q1⟩ => ⟨x, σ, H1, I1, r1, q1⟩)
def tIfS (c : TT) (t u : TS) : TS := fun D σ H => c σ H fun b H1 => if b = true then t D σ H1 else u D σ H1
theorem ps_if {c : Expr} {a b : List Stmt} {tc : TT} (hc : PT X c tc) (ha : PSs X a t) (hb : PSs X b u) : PS X (.If c a b pos) (tIfS tc t u) := by
  intro pins s σ H D I h
  refine wpAny_If (thn (hc pins s σ H _ I h) fun d s1 ⟨H1, I1, q1⟩ => ?_)
  cases d with
  | true => exact ha pins s1 σ H1 D I1 q1
  | false => exact hb pins s1 σ H1 D I1 q1
end

/-! ### targets -/
abbrev TG := V → St → Hp → (St → Hp → Prop) → Prop
abbrev TGs := List V → St → Hp → (St → Hp → Prop) → Prop
def PG (X : Cx) (target : Expr) (t : TG) : Prop :=
  ∀ (pins : List (Addr × Obj)) (s : Shared) (σ : St) (H : Hp) (v : V) (u : Value) (Q : St → Hp → Prop), Inv X pins σ H s → RelV v u → t v σ H Q →
    wpAny (model X.prog X.w) X.A (assign target X.env u) (fun _ s' => ∃ σ' H', Inv X pins σ' H' s' ∧ Q σ' H') X.xe s
/-- several targets, one after another -/
def PGs (X : Cx) (ts : List Expr) (t : TGs) : Prop :=
  ∀ (pins : List (Addr × Obj)) (s : Shared) (σ : St) (H : Hp) (vs : List V) (us : List Value) (Q : St → Hp → Prop), Inv X pins σ H s → Vals vs us → t vs σ H Q →
    wpAny (model X.prog X.w) X.A (assignInOrder ((assignEach ts X.env).map (·.2)) us) (fun _ s' => ∃ σ' H', Inv X pins σ' H' s' ∧ Q σ' H') X.xe s
/-- o[i] = v, by values -/
abbrev TSet := V → V → V → Hp → (Hp → Prop) → Prop
def PSet (X : Cx) (t : TSet) : Prop :=
  ∀ (pins : List (Addr × Obj)) (s : Shared) (σ : St) (H : Hp) (o i v : V) (ov iv u : Value) (Q : Hp → Prop), Inv X pins σ H s → RelV o ov → RelV i iv → RelV v u → t o i v H Q →
    wpAny (model X.prog X.w) X.A (setItem ov iv u) (fun _ s' => ∃ H', Inv X pins σ H' s' ∧ Q H') X.xe s
section
variable {X : Cx} {pos : Pos}
def gName (i : Nat) : TG := fun v σ H Q => Q (σ.set i (some v)) H
theorem pg_name {i : Nat} {x : Str} (hN : X.N.Nodup) (hi : X.N[i]? = some x) (hx : Loc X.env.scope x) (hf : X.fn x = true ∨ X.env.scope.names.lookup x = some .local := by first | exact .inl rfl | exact .inr rfl | assumption) : PG X (.Name x pos) (gName i) := by
  intro pins s σ H v u Q I r h
  exact wpAny_assign_Name (store_ok I hN hi hx r (fun s' I' => ⟨_, H, I', h⟩) hf)
def gNil : TGs := fun vs σ H Q => vs = [] ∧ Q σ H
def gCons (t : TG) (u : TGs) : TGs := fun vs σ H Q => ∃ v r, vs = v :: r ∧ t v σ H fun σ' H' => u r σ' H' Q
theorem pgs_nil : PGs X [] gNil := by
  intro pins s σ H vs us Q I r h
  obtain ⟨e, h⟩ := h
  subst e
  cases r
  exact assignInOrder_nil ⟨σ, H, I, h⟩
theorem pgs_cons {e : Expr} {es : List Expr} {t : TG} {u : TGs} (h1 : PG X e t) (h2 : PGs X es u)
    (hs : (assignEach (e :: es) X.env).map (·.2) = assign e X.env :: (assignEach es X.env).map (·.2) := by rfl) : PGs X (e :: es) (gCons t u) := by
  intro pins s σ H vs us Q I r h
  obtain ⟨v, vr, e1, h⟩ := h
  subst e1
  cases r with
  | cons r rr =>
    rw [hs]
    refine assignInOrder_cons (thn (h1 pins s σ H _ _ _ I r h) fun _ s1 ⟨σ1, H1, I1, q1⟩ => ?_)
    exact h2 pins s1 σ1 H1 _ _ Q I1 rr q1
/-- (a, b, ..) = a tuple of that length -/
def gTup (K : PySem.W.Frag) (n : Nat) (t : TGs) : TG := fun v σ H Q => ∃ a xs, v = .ref a ∧ SqT K H a xs ∧ xs.length = n ∧ t xs σ H Q
theorem pg_tup {es : List Expr} {k : Nat} {t : TGs} {n : Nat} (hc : X.calm = true) (h : PGs X es t)
    (hn : (assignEach es X.env).length = n := by rfl) (hst : (assignEach es X.env).findIdx? (·.1) = none := by rfl) : PG X (.Tuple es k pos) (gTup X.K n t) := by
  intro pins s σ H v u Q I r hw
  obtain ⟨a, xs, e1, hq, hl, hw⟩ := hw
  subst e1
  cases r
  obtain ⟨its, rv, ht, hz⟩ := I.tuple hq
  refine assign_Tuple_tuple (I.ok.hd hc) ht (by simp [hn, ← hl, rv.length]) hst fun h' hx => ?_
  have I1 : Inv X pins σ H { s with heap := h' } := I.kept (t' := s.toks) fun b o e => hx b o (Nat.ne_of_lt (Heap.lt_size e)) e
  exact h pins _ σ H xs _ Q I1 (by simpa using rv) hw
/-- o[i] = .. -/
def gSub (to ti : TE) (t : TSet) : TG := fun v σ H Q => to σ H fun o H1 => ti σ H1 fun i H2 => t o i v H2 fun H3 => Q σ H3
theorem pg_sub {o i : Expr} {to ti : TE} {t : TSet} (ho : PE X o to) (hi : PE X i ti) (hs : PSet X t)
    (ha : ∀ v, assign (.Subscript o i pos) X.env v = (do
      let ov ← holding [v] (eval o X.env)
      let iv ← holding [v, ov] (eval i X.env)
      standAt pos
      holding [v, ov, iv] (setItem ov iv v)
      release [v, ov, iv] []) := by intro _; rfl) : PG X (.Subscript o i pos) (gSub to ti t) := by
  intro pins s σ H v u Q I r h
  rw [ha]
  refine wpAny_bind (wpAny_holding (thn (ho pins s σ H _ I h) fun ov s1 ⟨x, H1, I1, r1, q1⟩ => ?_))
  refine wpAny_bind (wpAny_holding (thn (hi pins s1 σ H1 _ I1 q1) fun iv s2 ⟨y, H2, I2, r2, q2⟩ => ?_))
  refine wpAny_bind (wpAny_standAt (wpAny_bind (wpAny_holding (thn (hs pins s2 σ H2 x y v ov iv u _ I2 r1 r2 r q2) fun _ s3 ⟨H3, I3, q3⟩ => ?_))))
  exact wpAny_release ⟨σ, H3, I3, q3⟩
/-- target = value -/
def tAsg (te : TE) (g : TG) : TS := fun D σ H => te σ H fun x H1 => g x σ H1 D.nx
theorem ps_asg {tg e : Expr} {te : TE} {g : TG} (he : PE X e te) (hg : PG X tg g) (hs : swapsWithSole [tg] e pos.line X.env = pure false := by rfl) (hw : swappedStores [tg] e X.env = pure none := by rfl)
    (h1 : (assignEach [tg] X.env).map (·.2) = [assign tg X.env] := by rfl) : PS X (.Assign [tg] e pos) (tAsg te g) := by
  intro pins s σ H D I h
  refine wpAny_Assign_stores (thn (he pins s σ H _ I h) fun v s1 ⟨x, H1, I1, r1, q1⟩ => ?_) hs hw
  rw [h1]
  exact thn (hg pins s1 σ H1 x v _ I1 r1 q1) fun _ s2 q => q
/-- name = value -/
theorem ps_set {i : Nat} {x : Str} {e : Expr} {te : TE} {pos' : Pos} (hN : X.N.Nodup) (hi : X.N[i]? = some x) (hx : Loc X.env.scope x) (he : PE X e te) (hs : swapsWith e (some (.Name x pos')) pos.line X.env = pure false := by rfl) (hf : X.fn x = true ∨ X.env.scope.names.lookup x = some .local := by first | exact .inl rfl | exact .inr rfl | assumption) :
    PS X (.Assign [.Name x pos'] e pos) (tAsg te (gName i)) := by
  intro pins s σ H D I h
  refine wpAny_Assign_Name (thn (he pins s σ H _ I h) fun v s1 ⟨y, H1, I1, r1, q1⟩ => ?_) hs
  exact store_ok I1 hN hi hx r1 (fun s2 I2 => ⟨_, H1, I2, q1⟩) hf
end

/-! ### while -/
section
variable {X : Cx} {pos : Pos}
/-- the invariant W with its measure -/
def tWhile (c : TT) (tb : TS) : TS := fun D σ H => ∃ W : Nat → St → Hp → Prop, (∃ m, W m σ H) ∧ ∀ m σ H, W m σ H →
  c σ H fun b H1 => if b = true then ∃ N : St → Hp → Prop, (∀ σ' H', N σ' H' → ∃ m', m' < m ∧ W m' σ' H') ∧ tb { D with nx := N, ct := N, bk := D.nx } σ H1 else D.nx σ H1
theorem ps_while {c : Expr} {body : List Stmt} {tc : TT} {tb : TS} (hp : PassesOwn (model X.prog X.w) X.A X.env X.xe) (hc : PT X c tc) (hb : PSs X body tb) : PS X (.While c body [] pos) (tWhile tc tb) := by
  intro pins s σ H D I h
  obtain ⟨W, ⟨m0, w0⟩, turn⟩ := h
  refine wpAny_While (codeAny_whileLoop (fun n s' => ∃ σ' H', Inv X pins σ' H' s' ∧ W n σ' H') ?_ m0 ⟨σ, H, I, w0⟩)
  rintro n s1 ⟨σ1, H1, I1, w1⟩
  refine wpAny_passesOwn hp (thn (hc pins s1 σ1 H1 _ I1 (turn n σ1 H1 w1)) fun b s2 ⟨H2, I2, q2⟩ => ?_)
  cases b with
  | true =>
    obtain ⟨N, hN, q2⟩ := q2
    rw [if_pos rfl]
    refine wpAny_passesOwn hp (thn (hb pins s2 σ1 H2 _ I2 q2) fun f s3 q3 => ?_)
    cases f with
    | next =>
      obtain ⟨σ3, H3, I3, n3⟩ := q3
      obtain ⟨m', hm, w3⟩ := hN σ3 H3 n3
      exact ⟨m', hm, σ3, H3, I3, w3⟩
    | cont =>
      obtain ⟨σ3, H3, I3, n3⟩ := q3
      obtain ⟨m', hm, w3⟩ := hN σ3 H3 n3
      exact ⟨m', hm, σ3, H3, I3, w3⟩
    | brk => exact q3
    | ret v => exact q3
  | false =>
    rw [if_neg Bool.false_ne_true]
    exact wpAny_execs_nil ⟨σ1, H2, I2, q2⟩
end

/-! ### what a loop or a comprehension walks -/
/-- at turn i: it yields x (the heap may grow), or it stops -/
structure It where
  go : Nat → Hp → Prop
  yld : Nat → Hp → V → Hp → Prop
  stop : Nat → Hp → Prop
/-- the iterator's own objects may turn: they are not the frame's, not pinned, younger than the entry (or a comprehension's own) -/
def FpOk (X : Cx) (pins : List (Addr × Obj)) (H : Hp) (b : Addr) : Prop :=
  H b = none ∧ b ≠ X.env.locals ∧ b ∉ X.fs ∧ (b ∈ X.ex ∨ X.s₀.heap.objs.size ≤ b) ∧ (∀ x c, X.env.cells.lookup x = some c → c ≠ b) ∧ ∀ p ∈ X.pn ++ pins, p.1 ≠ b
theorem Inv.fpOk {X : Cx} {pins : List (Addr × Obj)} {σ : St} {H H' : Hp} {s : Shared} {b : Addr} (I : Inv X pins σ H s) (hb : s.heap.objs.size ≤ b) (hn : H' b = none) : FpOk X pins H' b := by
  refine ⟨hn, Nat.ne_of_gt (Nat.lt_of_lt_of_le I.lt hb), I.nofs hb, .inr (Nat.le_trans I.sz hb), fun x c e z => ?_, fun p hp z => ?_⟩
  · obtain ⟨v, q⟩ := I.cell x c e
    exact absurd (Nat.lt_of_lt_of_le q.lt (by rw [z]; exact hb)) (Nat.lt_irrefl _)
  · exact absurd (Nat.lt_of_lt_of_le (Heap.lt_size (I.pin p hp).1) (by rw [z]; exact hb)) (Nat.lt_irrefl _)
structure Turn (P : Program) (w : World) (K : PySem.W.Frag) (tg : Expr) (J : It) (fp : List Addr) (it : Addr) (tn : Nat → Heap → Prop) : Prop where
  mem : it ∈ fp
  obj : ∀ i h, tn i h → ∀ b ∈ fp, ∃ o, h.get? b = some o ∧ ∀ v, o.data ≠ .cell v
  keep : ∀ i h h', tn i h → (∀ b ∈ fp, ∀ o, h.get? b = some o → h'.get? b = some o) → tn i h'
  item : ∀ (X : Cx), X.prog = P → X.w = w → X.K = K → X.calm = true → ∀ (i : Nat) (pins : List (Addr × Obj)) (s : Shared) (σ : St) (H : Hp) (E : Value → Shared → Prop), Inv X pins σ H s → (∀ b ∈ fp, FpOk X pins H b) → tn i s.heap → J.go i H →
    wpAny (model P w) X.A (pyNext (.ref it)) (fun r s1 => ∃ u, r = some u ∧
      wpAny (model P w) X.A (letOwnedTupleGo tg (.ref it) u) (fun _ s2 => ∃ x H', Inv X pins σ H' s2 ∧ RelV x u ∧ J.yld i H x H' ∧ tn (i + 1) s2.heap ∧ ∀ b ∈ fp, H' b = none) E s1) E s
  done : ∀ (X : Cx), X.prog = P → X.w = w → X.K = K → X.calm = true → ∀ (i : Nat) (pins : List (Addr × Obj)) (s : Shared) (σ : St) (H : Hp) (E : Value → Shared → Prop), Inv X pins σ H s → (∀ b ∈ fp, FpOk X pins H b) → tn i s.heap → J.stop i H →
    wpAny (model P w) X.A (pyNext (.ref it)) (fun r s1 => r = none ∧ Inv X pins σ H s1) E s
  self : ∀ (A : Around) (i : Nat) (s : Shared) (Q : Value → Shared → Prop) (E : Value → Shared → Prop), tn i s.heap → Q (.ref it) s → wpAny (model P w) A (pyIter (.ref it)) Q E s
abbrev TI := St → Hp → (It → Hp → Prop) → Prop
/-- an iterator has come -/
def PIE (X : Cx) (pins : List (Addr × Obj)) (σ : St) (tg : Expr) (R : It → Hp → Prop) (itv : Value) (s2 : Shared) : Prop :=
  ∃ (it : Addr) (fp : List Addr) (tn : Nat → Heap → Prop) (J : It) (H' : Hp), itv = .ref it ∧ Inv X pins σ H' s2 ∧ Turn X.prog X.w X.K tg J fp it tn ∧ tn 0 s2.heap ∧ (∀ b ∈ fp, FpOk X pins H' b) ∧ R J H'
def PI (X : Cx) (tg iter : Expr) (wi : TI) : Prop :=
  ∀ (pins : List (Addr × Obj)) (s : Shared) (σ : St) (H : Hp) (R : It → Hp → Prop), Inv X pins σ H s → wi σ H R →
    wpAny (model X.prog X.w) X.A (eval iter X.env) (fun v s1 => wpAny (model X.prog X.w) X.A (pyIter v) (PIE X pins σ tg R) X.xe s1) X.xe s

/-- the step ahead of the store is nothing for an iterator that keeps no tuple -/
theorem go_of {M : Model} {A : Around} {E : Value → Shared → Prop} {s : Shared} {tg : Expr} {it : Addr} {u : Value} {o : Obj} {n : String} {vs : Array Value} {Q : Unit → Shared → Prop} (ho : s.heap.get? it = some o) (hc : o.cls = .type n) (hd : o.data = .fields vs)
    (hn : ["enumerate", "zip", "dict_itemiterator", "dict_reverseitemiterator", "odict_iterator", "itertools.zip_longest", "itertools.pairwise"].contains n = false) (hQ : Q () s) : wpAny M A (letOwnedTupleGo tg (.ref it) u) Q E s := by
  unfold letOwnedTupleGo
  cases tg <;> first
    | exact wpAny_pure hQ
    | (cases u <;> first
        | exact wpAny_pure hQ
        | (refine wpAny_bind (wpAny_load ho ?_)
           rw [hc, hd]
           show wpAny M A (if (["enumerate", "zip", "dict_itemiterator", "dict_reverseitemiterator", "odict_iterator", "itertools.zip_longest", "itertools.pairwise"].contains n && vs[0]? == some (rawInt _)) = true then _ else _) Q E s
           rw [if_neg (by intro h; rw [hn, Bool.false_and] at h; cases h)]
           exact wpAny_pure hQ))

/-- the list at a, as it stands at each turn (a loop may append to it) -/
def Itl (K : PySem.W.Frag) (a : Addr) : It :=
  ⟨fun i H => ∃ xs x, SqL K H a xs ∧ xs[i]? = some x, fun i H x H' => H' = H ∧ ∀ xs, SqL K H a xs → xs[i]? = some x, fun i H => ∃ xs, SqL K H a xs ∧ xs.length ≤ i⟩
/-- lo, lo + 1, .. (n of them) -/
def Itr (lo : Int) (n : Nat) : It := ⟨fun i _ => i < n, fun i H x H' => H' = H ∧ x = .int (lo + i), fun i _ => n ≤ i⟩
theorem turn_list {P : Program} {w : World} {K : PySem.W.Frag} {tg : Expr} (a it : Addr) : Turn P w K tg (Itl K a) [it] it (fun i h => h.IsListIter it a i) where
  mem := by simp
  obj := fun i h st b hb => by
    have e : b = it := by simpa using hb
    subst e
    obtain ⟨o, e, c, d⟩ := st
    exact ⟨o, e, fun v z => by rw [d] at z; cases z⟩
  keep := fun i h h' st k => st.at fun o e => k it (by simp) o e
  item := by
    intro X hP hw hK hc i pins s σ H E I hf st hg
    subst hP hw hK
    obtain ⟨xs, x, hq, hx⟩ := hg
    obtain ⟨its, rv, p, hz⟩ := I.list hq
    obtain ⟨u, hu, ru⟩ := rv.get hx
    obtain ⟨f0, f1, f2, f3, f4, f5⟩ := hf it (by simp)
    refine wpAny_pyNext_list_item st p.isList (x := u) (by simpa using hu) fun h' st' sb => ?_
    have I1 : Inv X pins σ H { s with heap := h' } := I.turned (t' := s.toks) (fun b o hb e => (sb.2 b hb).trans e) f0 f1 f3 f4 f5
    obtain ⟨o, e, c, d⟩ := id st'
    exact ⟨u, rfl, go_of (s := { s with heap := h' }) e c d (by decide) ⟨x, H, I1, ru, ⟨rfl, fun ys hy => by rw [I.list_inj hy hq]; exact hx⟩, st', fun b hb => (hf b hb).1⟩⟩
  done := by
    intro X hP hw hK hc i pins s σ H E I hf st hg
    subst hP hw hK
    obtain ⟨xs, hq, hx⟩ := hg
    obtain ⟨its, rv, p, hz⟩ := I.list hq
    obtain ⟨f0, f1, f2, f3, f4, f5⟩ := hf it (by simp)
    have hl := rv.length
    exact wpAny_pyNext_list_end (I.ok.hd hc) st p.isList (by simp; omega) fun h' eb => ⟨rfl, I.turned (t' := s.toks) (fun b o hb e => eb b o hb e) f0 f1 f3 f4 f5⟩
  self := fun _ _ _ _ _ st h => wpAny_pyIter_listiter st h
theorem turn_range {P : Program} {w : World} {K : PySem.W.Frag} {tg : Expr} (it : Addr) (lo : Int) (n : Nat) : Turn P w K tg (Itr lo n) [it] it (fun i h => IsRangeIter h it (lo + (i : Nat) * 1) ((n : Int) - (i : Nat)) 1) where
  mem := by simp
  obj := fun i h st b hb => by
    have e : b = it := by simpa using hb
    subst e
    exact ⟨_, st, fun v z => by
      have z' : Data.fields _ = Data.cell v := z
      cases z'⟩
  keep := fun i h h' st k => k it (by simp) _ st
  item := by
    intro X hP hw hK hc i pins s σ H E I hf st hg
    subst hP hw hK
    obtain ⟨f0, f1, f2, f3, f4, f5⟩ := hf it (by simp)
    have W := Walks.range (prog := X.prog) (w := X.w) (I.ok.hd hc) it lo 1 n
    refine W.item i s _ _ hg st fun v h' tk hv st' kk => ?_
    obtain ⟨t, rfl⟩ := hv
    have I1 : Inv X pins σ H { s with heap := h', toks := tk } := I.turned (fun b o hb e => kk b o (by simpa using hb) e) f0 f1 f3 f4 f5
    refine ⟨_, rfl, go_of (s := { s with heap := h', toks := tk }) (n := "range_iterator") st' rfl rfl (by decide) ⟨.int (lo + i), H, I1, ⟨t, ?_⟩, ⟨rfl, rfl⟩, st', fun b hb => (hf b hb).1⟩⟩
    rw [Int.mul_one]
  done := by
    intro X hP hw hK hc i pins s σ H E I hf st hg
    subst hP hw hK
    obtain ⟨f0, f1, f2, f3, f4, f5⟩ := hf it (by simp)
    exact wpAny_pyNext_range_end (I.ok.hd hc) st (by have : n ≤ i := hg; omega) fun h' eb => ⟨rfl, I.turned (t' := s.toks) (fun b o hb e => eb b o hb e) f0 f1 f3 f4 f5⟩
  self := fun _ _ _ _ _ st h => wpAny_pyIter_rangeiter st h
end L2

namespace L2
open PySem PySem.Spec PyProof.Rows
section
variable {X : Cx} {tg : Expr}
def iList (K : PySem.W.Frag) (tl : TE) : TI := fun σ H R => tl σ H fun x H1 => ∃ a, x = .ref a ∧ (∃ xs, SqL K H1 a xs) ∧ R (Itl K a) H1
theorem pi_list {l : Expr} {tl : TE} (hl : PE X l tl) : PI X tg l (iList X.K tl) := by
  intro pins s σ H R I h
  refine thn (hl pins s σ H _ I h) fun v s1 ⟨x, H1, I1, r1, q1⟩ => ?_
  obtain ⟨a, e, ⟨xs, hq⟩, q⟩ := q1
  subst e
  cases r1
  obtain ⟨its, rv, p, hz⟩ := I1.list hq
  refine wpAny_pyIter_list p.isList ?_
  refine ⟨s1.heap.objs.size, [s1.heap.objs.size], _, _, H1, rfl, I1.kept (t' := s1.toks) fun b o e => Heap.get?_push_of_some _ e, turn_list a _, ⟨_, Heap.get?_push_size _ rfl, rfl, rfl⟩, fun b hb => ?_, q⟩
  have e : b = s1.heap.objs.size := by simpa using hb
  subst e
  exact I1.fpOk (Nat.le_refl _) (I1.hok.fresh (Nat.le_refl _))
/-- a range object just made, walked -/
theorem range_it {pins : List (Addr × Obj)} {σ : St} {H : Hp} {s : Shared} {R : It → Hp → Prop} {E : Value → Shared → Prop} {lo hi : Int} {t u v : Tok} {tk : Nat} (I : Inv X pins σ H s) (h1 : -(2 ^ 62) ≤ lo) (h2 : lo < 2 ^ 62) (h3 : -(2 ^ 62) ≤ hi) (h4 : hi < 2 ^ 62)
    (q : R (Itr lo (hi - lo).toNat) H) : wpAny (model X.prog X.w) X.A (pyIter (.ref s.heap.objs.size)) (PIE X pins σ tg R) E { s with heap := s.heap.push { cls := .type "range", data := .fields #[.int lo t, .int hi u, .int 1 v] }, toks := tk } := by
  refine wpAny_pyIter_range (IsRange.new ..) (small_one h1 h2 h3 h4) ?_
  have I1 : Inv X pins σ H { s with heap := s.heap.push { cls := .type "range", data := .fields #[.int lo t, .int hi u, .int 1 v] }, toks := tk } := I.kept fun b o e => Heap.get?_push_of_some _ e
  refine ⟨(s.heap.push { cls := .type "range", data := .fields #[.int lo t, .int hi u, .int 1 v] }).objs.size, [(s.heap.push { cls := .type "range", data := .fields #[.int lo t, .int hi u, .int 1 v] }).objs.size], _, _, H, rfl,
    I1.kept (t' := tk) fun b o e => Heap.get?_push_of_some _ e, turn_range _ lo (hi - lo).toNat, ?_, fun b hb => ?_, q⟩
  · have e1 : lo + ((0 : Nat) : Int) * 1 = lo := by simp
    have e2 : (((hi - lo).toNat : Nat) : Int) - ((0 : Nat) : Int) = Builtin.Range.rangeSize lo hi 1 := by rw [rangeSize_one]; split <;> omega
    show IsRangeIter _ _ (lo + ((0 : Nat) : Int) * 1) ((((hi - lo).toNat : Nat) : Int) - ((0 : Nat) : Int)) 1
    rw [e1, e2]
    exact Heap.get?_push_size _ rfl
  · have e : b = (s.heap.push { cls := .type "range", data := .fields #[.int lo t, .int hi u, .int 1 v] }).objs.size := by simpa using hb
    subst e
    exact I1.fpOk (Nat.le_refl _) (I1.hok.fresh (Nat.le_refl _))
def iRng1 (ta : TA) : TI := fun σ H R => ta σ H fun vs H1 => ∃ j : Int, vs = [.int j] ∧ -(2 ^ 62) ≤ j ∧ j < 2 ^ 62 ∧ R (Itr 0 j.toNat) H1
def iRng2 (ta : TA) : TI := fun σ H R => ta σ H fun vs H1 => ∃ i j : Int, vs = [.int i, .int j] ∧ (-(2 ^ 62) ≤ i ∧ i < 2 ^ 62 ∧ -(2 ^ 62) ≤ j ∧ j < 2 ^ 62) ∧ R (Itr i (j - i).toNat) H1
theorem pi_range1 {a : Expr} {ta : TA} {p pos : Pos} (hg : Gl X "range") (hm : X.mg "range" = none) (ha : PA X [a] ta) (hs : starEach [a] X.env = [(false, eval a X.env)] := by rfl) : PI X tg (.Call (.Name "range" p) [a] [] pos) (iRng1 ta) := by
  intro pins s σ H R I h
  refine Call_ (ld_blt I hg hm boot_range (PyProof.Rows.callWith_type1 (thn (ha pos pins s σ H _ I h) fun us s1 ⟨vs, H1, I1, r1, q1⟩ => ?_) hs rfl))
  obtain ⟨j, e, q1, q2, q⟩ := q1
  subst e
  cases r1 with
  | cons r rr =>
    cases rr
    obtain ⟨t, rfl⟩ := r
    exact call_range_1 (range_it I1 (by omega) (by omega) q1 q2 (by simpa using q))
theorem pi_range2 {a b : Expr} {ta : TA} {p pos : Pos} (hg : Gl X "range") (hm : X.mg "range" = none) (ha : PA X [a, b] ta) (hs : starEach [a, b] X.env = [(false, eval a X.env), (false, eval b X.env)] := by rfl) (hs2 : starEach [b] X.env = [(false, eval b X.env)] := by rfl) :
    PI X tg (.Call (.Name "range" p) [a, b] [] pos) (iRng2 ta) := by
  intro pins s σ H R I h
  refine Call_ (ld_blt I hg hm boot_range (PyProof.Rows.callWith_type1 (thn (ha pos pins s σ H _ I h) fun us s1 ⟨vs, H1, I1, r1, q1⟩ => ?_) (by rw [hs, hs2]) (by rw [hs2]; rfl)))
  obtain ⟨i, j, e, ⟨q1, q2, q3, q4⟩, q⟩ := q1
  subst e
  cases r1 with
  | cons r rr =>
    cases rr with
    | cons r' rr =>
      cases rr
      obtain ⟨t, rfl⟩ := r
      obtain ⟨t', rfl⟩ := r'
      exact call_range_2 (range_it I1 q1 q2 q3 q4 q)

/-! ### for -/
/-- W: the invariant by the turn and a measure; N: what the body is to reach -/
def tFor (wi : TI) (g : TG) (tb : TS) : TS := fun D σ H => wi σ H fun J H1 => ∃ W : Nat → Nat → St → Hp → Prop, (∃ m, W 0 m σ H1) ∧ ∀ i m σ H, W i m σ H →
  (J.stop i H ∧ D.nx σ H) ∨ (J.go i H ∧ ∃ N : St → Hp → Prop, (∀ σ' H', N σ' H' → ∃ m', m' < m ∧ W (i + 1) m' σ' H') ∧ ∀ x H', J.yld i H x H' → g x σ H' fun σ2 H2 => tb { D with nx := N, ct := N, bk := D.nx } σ2 H2)
/-- the records at fp as they stand -/
def pinsAt (fp : List Addr) (h : Heap) : List (Addr × Obj) := fp.filterMap fun b => (h.get? b).map fun o => (b, o)
theorem mem_pinsAt {fp : List Addr} {h : Heap} {b : Addr} {o : Obj} (hb : b ∈ fp) (e : h.get? b = some o) : (b, o) ∈ pinsAt fp h := List.mem_filterMap.mpr ⟨b, hb, by rw [e]; rfl⟩
theorem of_pinsAt {fp : List Addr} {h : Heap} {p : Addr × Obj} (hp : p ∈ pinsAt fp h) : p.1 ∈ fp ∧ h.get? p.1 = some p.2 := by
  obtain ⟨b, hb, e⟩ := List.mem_filterMap.mp hp
  cases q : h.get? b with
  | none => rw [q] at e; cases e
  | some o =>
    rw [q] at e
    have e' : (b, o) = p := Option.some.inj e
    subst e'
    exact ⟨hb, q⟩
theorem Inv.pinned {pins : List (Addr × Obj)} {σ : St} {H : Hp} {s : Shared} {fp : List Addr} (I : Inv X pins σ H s) (hf : ∀ b ∈ fp, FpOk X pins H b) (ho : ∀ b ∈ fp, ∃ o, s.heap.get? b = some o ∧ ∀ v, o.data ≠ .cell v) : Inv X (pins ++ pinsAt fp s.heap) σ H s :=
  I.pins_of fun p hp => (List.mem_append.mp hp).elim (fun z => I.pin p (List.mem_append_right _ z)) fun z => by
    obtain ⟨hb, e⟩ := of_pinsAt z
    obtain ⟨f0, f1, f2, _⟩ := hf p.1 hb
    obtain ⟨o, e', d⟩ := ho p.1 hb
    rw [e] at e'; cases e'
    exact ⟨e, f0, f1, f2, d⟩
theorem Inv.unpinned {pins pl : List (Addr × Obj)} {σ : St} {H : Hp} {s : Shared} (I : Inv X (pins ++ pl) σ H s) : Inv X pins σ H s := I.pins_of fun p hp => I.pin p (List.mem_append_right _ (List.mem_append_left _ hp))
theorem ps_for {iter : Expr} {body : List Stmt} {wi : TI} {g : TG} {tb : TS} {pos : Pos} (hp : PassesOwn (model X.prog X.w) X.A X.env X.xe) (hc : X.calm = true) (hi : PI X tg iter wi) (hg : PG X tg g) (hb : PSs X body tb)
    (hs : ∀ x, foldedSetIterable iter X.env x = pure x := by intro _; rfl) : PS X (.For tg iter body [] pos) (tFor wi g tb) := by
  intro pins s σ H D I h
  refine wpAny_For (thn (hi pins s σ H _ I h) fun v s1 h1 => thn h1 fun itv s2 h2 => ?_) hs
  obtain ⟨it, fp, tn, J, H2, e, I2, T, st2, f2, W, ⟨m0, w0⟩, turn⟩ := h2
  subst e
  -- what stays true of the iterator's objects through the loop
  have stat : ∀ {H' : Hp}, (∀ b ∈ fp, H' b = none) → ∀ b ∈ fp, FpOk X pins H' b := fun hn b hb => ⟨hn b hb, (f2 b hb).2⟩
  refine codeAny_forLoop_any (fun n s' => ∃ i σ' H', Inv X pins σ' H' s' ∧ tn i s'.heap ∧ (∀ b ∈ fp, H' b = none) ∧ W i n σ' H') ?_ m0 ⟨0, σ, H2, I2, st2, fun b hb => (f2 b hb).1, w0⟩
  rintro n s3 ⟨i, σ3, H3, I3, st3, fr3, w3⟩
  rcases turn i n σ3 H3 w3 with ⟨stop, qn⟩ | ⟨go, N, hN, step⟩
  · refine wpAny_passesOwn hp (thn (T.done X rfl rfl rfl hc i pins s3 σ3 H3 X.xe I3 (stat fr3) st3 stop) fun r s4 ⟨hr, I4⟩ => ?_)
    subst hr
    exact wpAny_execs_nil ⟨σ3, H3, I4, qn⟩
  · refine wpAny_passesOwn hp (thn (T.item X rfl rfl rfl hc i pins s3 σ3 H3 X.xe I3 (stat fr3) st3 go) fun r s4 ⟨u, hr, h4⟩ => ?_)
    subst hr
    refine wpAny_passesOwn hp (thn h4 fun _ s5 ⟨x, H5, I5, r5, y5, st5, fr5⟩ => ?_)
    have I5' := I5.pinned (stat fr5) (T.obj _ _ st5)
    refine wpAny_passesOwn hp (thn (hg _ s5 σ3 H5 x u _ I5' r5 (step x H5 y5)) fun _ s6 ⟨σ6, H6, I6, q6⟩ => ?_)
    refine wpAny_passesOwn hp (thn (hb _ s6 σ6 H6 _ I6 q6) fun f s7 q7 => ?_)
    have again : ∀ {σ7 : St} {H7 : Hp}, Inv X (pins ++ pinsAt fp s5.heap) σ7 H7 s7 → N σ7 H7 → ∃ m, m < n ∧ ∃ i σ' H', Inv X pins σ' H' s7 ∧ tn i s7.heap ∧ (∀ b ∈ fp, H' b = none) ∧ W i m σ' H' := fun {σ7 H7} I7 n7 => by
      obtain ⟨m', hm, w7⟩ := hN σ7 H7 n7
      refine ⟨m', hm, i + 1, σ7, H7, I7.unpinned, T.keep _ _ _ st5 fun b hb o e => (I7.pin (b, o) (List.mem_append_right _ (List.mem_append_right _ (mem_pinsAt hb e)))).1, fun b hb => ?_, w7⟩
      obtain ⟨o, e, d⟩ := T.obj _ _ st5 b hb
      exact (I7.pin (b, o) (List.mem_append_right _ (List.mem_append_right _ (mem_pinsAt hb e)))).2.1
    cases f with
    | next => obtain ⟨σ7, H7, I7, n7⟩ := q7; exact again I7 n7
    | cont => obtain ⟨σ7, H7, I7, n7⟩ := q7; exact again I7 n7
    | brk => obtain ⟨σ7, H7, I7, q7⟩ := q7; exact ⟨σ7, H7, I7.unpinned, q7⟩
    | ret v => obtain ⟨x7, σ7, H7, I7, r7, q7⟩ := q7; exact ⟨x7, σ7, H7, I7.unpinned, r7, q7⟩
end

/-! ### the forms one uses -/
/-- over a list that the body leaves as it is -/
theorem for_list {K : PySem.W.Frag} {a : Addr} {xs : List V} {g : TG} {tb : TS} {D : Ends} {σ : St} {H : Hp} (Pv : Nat → St → Hp → Prop) (h0 : Pv 0 σ H) (hl : ∀ i σ H, i ≤ xs.length → Pv i σ H → SqL K H a xs)
    (hs : ∀ i x σ H, xs[i]? = some x → Pv i σ H → g x σ H fun σ2 H2 => tb { D with nx := Pv (i + 1), ct := Pv (i + 1), bk := D.nx } σ2 H2) (hd : ∀ σ H, Pv xs.length σ H → D.nx σ H) :
    ∃ W : Nat → Nat → St → Hp → Prop, (∃ m, W 0 m σ H) ∧ ∀ i m σ H, W i m σ H →
      ((Itl K a).stop i H ∧ D.nx σ H) ∨ ((Itl K a).go i H ∧ ∃ N : St → Hp → Prop, (∀ σ' H', N σ' H' → ∃ m', m' < m ∧ W (i + 1) m' σ' H') ∧ ∀ x H', (Itl K a).yld i H x H' → g x σ H' fun σ2 H2 => tb { D with nx := N, ct := N, bk := D.nx } σ2 H2) := by
  refine ⟨fun i m σ H => m = xs.length - i ∧ i ≤ xs.length ∧ Pv i σ H, ⟨xs.length, by simp, Nat.zero_le _, h0⟩, ?_⟩
  rintro i m σ H ⟨rfl, hi, p⟩
  have q := hl i σ H hi p
  by_cases hlt : i < xs.length
  · refine .inr ⟨⟨xs, xs[i], q, by simp [hlt]⟩, Pv (i + 1), fun σ' H' p' => ⟨xs.length - (i + 1), by omega, rfl, hlt, p'⟩, fun x H' y => ?_⟩
    obtain ⟨e, y⟩ := y
    subst e
    exact hs i x σ _ (y xs q) p
  · have e : i = xs.length := by omega
    subst e
    exact .inl ⟨⟨xs, q, Nat.le_refl _⟩, hd σ H p⟩
theorem for_range {lo : Int} {n : Nat} {g : TG} {tb : TS} {D : Ends} {σ : St} {H : Hp} (Pv : Nat → St → Hp → Prop) (h0 : Pv 0 σ H)
    (hs : ∀ i σ H, i < n → Pv i σ H → g (.int (lo + i)) σ H fun σ2 H2 => tb { D with nx := Pv (i + 1), ct := Pv (i + 1), bk := D.nx } σ2 H2) (hd : ∀ σ H, Pv n σ H → D.nx σ H) :
    ∃ W : Nat → Nat → St → Hp → Prop, (∃ m, W 0 m σ H) ∧ ∀ i m σ H, W i m σ H →
      ((Itr lo n).stop i H ∧ D.nx σ H) ∨ ((Itr lo n).go i H ∧ ∃ N : St → Hp → Prop, (∀ σ' H', N σ' H' → ∃ m', m' < m ∧ W (i + 1) m' σ' H') ∧ ∀ x H', (Itr lo n).yld i H x H' → g x σ H' fun σ2 H2 => tb { D with nx := N, ct := N, bk := D.nx } σ2 H2) := by
  refine ⟨fun i m σ H => m = n - i ∧ i ≤ n ∧ Pv i σ H, ⟨n, by simp, Nat.zero_le _, h0⟩, ?_⟩
  rintro i m σ H ⟨rfl, hi, p⟩
  by_cases hlt : i < n
  · refine .inr ⟨hlt, Pv (i + 1), fun σ' H' p' => ⟨n - (i + 1), by omega, rfl, hlt, p'⟩, fun x H' y => ?_⟩
    obtain ⟨e, y⟩ := y
    subst e y
    exact hs i σ _ hlt p
  · have e : i = n := by omega
    subst e
    exact .inl ⟨Nat.le_refl _, hd σ H p⟩
end L2

namespace L2
open PySem PySem.Spec PyProof.Rows

abbrev R2 := V → V → Hp → VK → Prop
/-- a two-place operation on values: f is binaryOp op, inplaceOp op or compareOp op -/
def OpR (X : Cx) (f : Value → Value → Sem Value) (r : R2) : Prop :=
  ∀ (pins : List (Addr × Obj)) (s : Shared) (σ : St) (H : Hp) (x y : V) (v u : Value) (Q : VK), Inv X pins σ H s → RelV x v → RelV y u → r x y H Q →
    wpAny (model X.prog X.w) X.A (f v u) (EP X pins σ Q) X.xe s
/-- a one-place operation -/
def UnR (X : Cx) (f : Value → Sem Value) (r : V → Hp → VK → Prop) : Prop :=
  ∀ (pins : List (Addr × Obj)) (s : Shared) (σ : St) (H : Hp) (x : V) (v : Value) (Q : VK), Inv X pins σ H s → RelV x v → r x H Q →
    wpAny (model X.prog X.w) X.A (f v) (EP X pins σ Q) X.xe s
/-- a call of a value that is known (a builtin, a type) with values -/
def CallR (X : Cx) (f : Value) (r : List V → Hp → VK → Prop) : Prop :=
  ∀ (pins : List (Addr × Obj)) (s : Shared) (σ : St) (H : Hp) (xs : List V) (us : List Value) (Q : VK), Inv X pins σ H s → Vals xs us → r xs H Q →
    wpAny (model X.prog X.w) X.A (call f us) (EP X pins σ Q) X.xe s
/-- a value's truth -/
def TruR (X : Cx) (r : V → Hp → (Bool → Hp → Prop) → Prop) : Prop :=
  ∀ (pins : List (Addr × Obj)) (s : Shared) (σ : St) (H : Hp) (x : V) (v : Value) (Q : Bool → Hp → Prop), Inv X pins σ H s → RelV x v → r x H Q →
    wpAny (model X.prog X.w) X.A (truthy v) (TP X pins σ Q) X.xe s

def tOp (r : R2) (ta tb : TE) : TE := fun σ H Q => ta σ H fun x H1 => tb σ H1 fun y H2 => r x y H2 Q
def tUn (r : V → Hp → VK → Prop) (ta : TE) : TE := fun σ H Q => ta σ H fun x H1 => r x H1 Q
/-- ints in, under C, and a value out -/
def rI (C : Int → Int → Prop) (g : Int → Int → V) : R2 := fun x y H Q => ∃ i j, x = .int i ∧ y = .int j ∧ C i j ∧ Q (g i j) H
def rI0 (g : Int → Int → V) : R2 := fun x y H Q => ∃ i j, x = .int i ∧ y = .int j ∧ Q (g i j) H
def rU (g : Int → V) : V → Hp → VK → Prop := fun x H Q => ∃ i, x = .int i ∧ Q (g i) H

section
variable {X : Cx} {a b c : Expr} {ta tb tc : TE} {pos : Pos}

theorem binT (ha : PE X a ta) (hb : PE X b tb) {pins : List (Addr × Obj)} {s : Shared} {σ : St} {H : Hp} {R : V → V → Hp → Prop} (I : Inv X pins σ H s)
    (h : ta σ H fun x H1 => tb σ H1 fun y H2 => R x y H2) {Q : Value → Shared → Prop} {f : Value → Value → Sem Value}
    (hf : ∀ v u s2 x y H2, Inv X pins σ H2 s2 → RelV x v → RelV y u → R x y H2 → wpAny (model X.prog X.w) X.A (f v u) Q X.xe s2) :
    wpAny (model X.prog X.w) X.A (eval a X.env) (fun v s₁ => wpAny (model X.prog X.w) X.A (eval b X.env) (fun u s₂ => wpAny (model X.prog X.w) X.A (f v u) Q X.xe s₂) X.xe s₁) X.xe s := by
  refine thn (ha pins s σ H _ I h) fun v s1 ⟨x, H1, I1, r1, q1⟩ => ?_
  refine thn (hb pins s1 σ H1 _ I1 q1) fun u s2 ⟨y, H2, I2, r2, q2⟩ => ?_
  exact hf v u s2 x y H2 I2 r1 r2 q2

theorem pe_op {op : Operator} {r : R2} (ho : OpR X (binaryOp op) r) (ha : PE X a ta) (hb : PE X b tb) : PE X (.BinOp a op b pos) (tOp r ta tb) := by
  intro pins s σ H Q I h
  exact wpAny_BinOp (binT ha hb I h fun v u s2 x y H2 I2 rx ry q => ho pins s2 σ H2 x y v u Q I2 rx ry q)
theorem pe_un {op : UnaryOp} {r : V → Hp → VK → Prop} (ho : UnR X (unaryOp op) r) (ha : PE X a ta) : PE X (.UnaryOp op a pos) (tUn r ta) := by
  intro pins s σ H Q I h
  exact UnaryOp_ (thn (ha pins s σ H _ I h) fun v s1 ⟨x, H1, I1, r1, q1⟩ => ho pins s1 σ H1 x v Q I1 r1 q1)

/-! ### ints -/
theorem opI {f : Value → Value → Sem Value} {C : Int → Int → Prop} {g : Int → Int → Int}
    (rule : ∀ (i j : Int) (t u : Tok) (s : Shared) (Q : Value → Shared → Prop) (E : Value → Shared → Prop), C i j → Q (.int (g i j) s.toks) { s with toks := s.toks + 1 } → wpAny (model X.prog X.w) X.A (f (.int i t) (.int j u)) Q E s) :
    OpR X f (rI C fun i j => .int (g i j)) := by
  intro pins s σ H x y v u Q I rx ry h
  obtain ⟨i, j, rfl, rfl, hc, q⟩ := h
  obtain ⟨t, rfl⟩ := rx
  obtain ⟨t', rfl⟩ := ry
  exact rule i j t t' s _ _ hc ⟨.int (g i j), H, I.tok _, ⟨_, rfl⟩, q⟩
theorem opI0 {f : Value → Value → Sem Value} {g : Int → Int → Int}
    (rule : ∀ (i j : Int) (t u : Tok) (s : Shared) (Q : Value → Shared → Prop) (E : Value → Shared → Prop), Q (.int (g i j) s.toks) { s with toks := s.toks + 1 } → wpAny (model X.prog X.w) X.A (f (.int i t) (.int j u)) Q E s) :
    OpR X f (rI0 fun i j => .int (g i j)) := by
  intro pins s σ H x y v u Q I rx ry h
  obtain ⟨i, j, rfl, rfl, q⟩ := h
  obtain ⟨t, rfl⟩ := rx
  obtain ⟨t', rfl⟩ := ry
  exact rule i j t t' s _ _ ⟨.int (g i j), H, I.tok _, ⟨_, rfl⟩, q⟩
theorem opB0 {f : Value → Value → Sem Value} {g : Int → Int → Bool}
    (rule : ∀ (i j : Int) (t u : Tok) (s : Shared) (Q : Value → Shared → Prop) (E : Value → Shared → Prop), Q (.bool (g i j)) s → wpAny (model X.prog X.w) X.A (f (.int i t) (.int j u)) Q E s) :
    OpR X f (rI0 fun i j => .bl (g i j)) := by
  intro pins s σ H x y v u Q I rx ry h
  obtain ⟨i, j, rfl, rfl, q⟩ := h
  obtain ⟨t, rfl⟩ := rx
  obtain ⟨t', rfl⟩ := ry
  exact rule i j t t' s _ _ ⟨.bl (g i j), H, I, rfl, q⟩

def CDiv (i j : Int) : Prop := 0 < j ∧ j < 1073741824
def CPow (i j : Int) : Prop := 0 ≤ j ∧ j ≤ 1000000 ∧ i.natAbs < 2 ^ 64
def CMul (i j : Int) : Prop := (-(2 ^ 64) < i ∧ i < 2 ^ 64) ∨ (-(2 ^ 64) < j ∧ j < 2 ^ 64)
theorem CMul.ok {i j : Int} (h : CMul i j) : IntMulOk i j := by
  rcases h with ⟨h1, h2⟩ | ⟨h1, h2⟩
  · exact .of_left (intBits_le_64 h1 h2)
  · exact .of_right (intBits_le_64 h1 h2)
theorem two_pow_nn (k : Nat) : (0 : Int) ≤ 2 ^ k := by
  rw [two_pow_cast]
  exact Int.natCast_nonneg _

theorem op_add : OpR X (binaryOp .Add) (rI0 fun i j => .int (i + j)) := opI0 fun _ _ _ _ _ _ _ q => add_int q
theorem op_sub : OpR X (binaryOp .Sub) (rI0 fun i j => .int (i - j)) := opI0 fun _ _ _ _ _ _ _ q => sub_int q
theorem op_mul : OpR X (binaryOp .Mult) (rI CMul fun i j => .int (i * j)) := opI fun _ _ _ _ _ _ _ hc q => mul_int q hc.ok
/-- // by a positive divisor -/
theorem op_fdiv : OpR X (binaryOp .FloorDiv) (rI CDiv fun i j => .int (i / j)) := opI fun i j _ _ _ _ _ hc q => by
  have h1 : (0 : Int) < j := hc.1
  have h2 : j < 1073741824 := hc.2
  exact floordiv_int (by omega) (by rw [Int.fdiv_eq_ediv_of_nonneg i (by omega)]; exact q) (.inl (PyProof.noPylong_small (by omega)))
/-- % by a positive divisor of any size -/
theorem op_mod : OpR X (binaryOp .Mod) (rI (fun _ j => 0 < j) fun i j => .int (i % j)) := opI fun i j _ _ _ _ _ hc q => by
  have h1 : (0 : Int) < j := hc
  exact mod_int' (by omega) (by rw [Int.fmod_eq_emod_of_nonneg i (by omega)]; exact q)
theorem op_shl : OpR X (binaryOp .LShift) (rI CPow fun i j => .int (i * 2 ^ j.toNat)) := opI fun _ _ _ _ _ _ _ hc q => lshift_int_small hc.1 hc.2.1 hc.2.2 q
theorem op_shr : OpR X (binaryOp .RShift) (rI (fun _ j => 0 ≤ j) fun i j => .int (i / 2 ^ j.toNat)) := opI fun i j _ _ _ _ _ hc q =>
  rshift_int hc (by rw [Int.fdiv_eq_ediv_of_nonneg i (two_pow_nn _)]; exact q)

theorem unI {f : Value → Sem Value} {g : Int → Int}
    (rule : ∀ (i : Int) (t : Tok) (s : Shared) (Q : Value → Shared → Prop) (E : Value → Shared → Prop), Q (.int (g i) s.toks) { s with toks := s.toks + 1 } → wpAny (model X.prog X.w) X.A (f (.int i t)) Q E s) :
    UnR X f (rU fun i => .int (g i)) := by
  intro pins s σ H x v Q I rx h
  obtain ⟨i, rfl, q⟩ := h
  obtain ⟨t, rfl⟩ := rx
  exact rule i t s _ _ ⟨.int (g i), H, I.tok _, ⟨_, rfl⟩, q⟩
theorem un_neg : UnR X (unaryOp .USub) (rU fun i => .int (-i)) := unI fun _ _ _ _ _ q => neg_int q

/-! ### bools among ints: n += (a < b) -/
end

/-! ### comparisons -/
/-- the scalars that == tells apart as data does -/
def scal : V → V → Bool
  | .non, .non => true | .non, .int _ => true | .int _, .non => true | .non, .bl _ => true | .bl _, .non => true | .non, .str _ => true | .str _, .non => true
  | .int _, .int _ => true | .bl _, .bl _ => true | .str _, .str _ => true | .byt _, .byt _ => true
  | .int _, .str _ => true | .str _, .int _ => true | .bl _, .str _ => true | .str _, .bl _ => true
  | _, _ => false
def rEq : R2 := fun x y H Q => scal x y = true ∧ Q (.bl (decide (x = y))) H
def rNe : R2 := fun x y H Q => scal x y = true ∧ Q (.bl (!decide (x = y))) H

theorem dec_int {i j : Int} : decide (V.int i = V.int j) = (i == j) := by
  rw [Bool.eq_iff_iff]
  simp
theorem dec_bl {i j : Bool} : decide (V.bl i = V.bl j) = (i == j) := by
  rw [Bool.eq_iff_iff]
  simp
theorem dec_str {i j : Str} : decide (V.str i = V.str j) = (i == j) := by
  rw [Bool.eq_iff_iff]
  simp
theorem dec_byt {i j : Array UInt8} : decide (V.byt i = V.byt j) = (i.toList == j.toList) := by
  rw [Bool.eq_iff_iff]
  cases i
  cases j
  simp

section
variable {X : Cx} {a b c : Expr} {ta tb tc : TE} {pos : Pos}
theorem fin_bl {pins : List (Addr × Obj)} {σ : St} {H : Hp} {s : Shared} {Q : VK} {k k' : Bool} (I : Inv X pins σ H s) (q : Q (.bl k) H) (e : k = k') : EP X pins σ Q (.bool k') s := by
  subst e
  exact ⟨.bl k, H, I, rfl, q⟩
theorem op_eq : OpR X (compareOp .Eq) rEq := by
  intro pins s σ H x y v u Q I rx ry h
  obtain ⟨hs, q⟩ := h
  cases x with
  | non =>
    cases rx
    cases y with
    | non => cases ry; exact PySem.EqNone.eq_none_none (fin_bl I q (by simp))
    | bl j => cases ry; exact PySem.EqNone.eq_none_bool (fin_bl I q (by simp))
    | int j => obtain ⟨t', rfl⟩ := ry; exact PySem.EqNone.eq_none_int (fin_bl I q (by simp))
    | str j => obtain ⟨t', rfl⟩ := ry; exact PySem.EqNone.eq_none_str (fin_bl I q (by simp))
    | _ => exact absurd (show false = true from hs) Bool.false_ne_true
  | bl i =>
    cases rx
    cases y with
    | non => cases ry; exact PySem.EqNone.eq_bool_none (fin_bl I q (by simp))
    | bl j => cases ry; exact eq_bool (fin_bl I q dec_bl)
    | str j => obtain ⟨t', rfl⟩ := ry; exact PySem.EqMixed.eq_bool_str (fin_bl I q (by simp))
    | _ => exact absurd (show false = true from hs) Bool.false_ne_true
  | int i =>
    obtain ⟨t, rfl⟩ := rx
    cases y with
    | non => cases ry; exact PySem.EqNone.eq_int_none (fin_bl I q (by simp))
    | int j => obtain ⟨t', rfl⟩ := ry; exact eq_int (fin_bl I q dec_int)
    | str j => obtain ⟨t', rfl⟩ := ry; exact PySem.EqMixed.eq_int_str (fin_bl I q (by simp))
    | _ => exact absurd (show false = true from hs) Bool.false_ne_true
  | str i =>
    obtain ⟨t, rfl⟩ := rx
    cases y with
    | non => cases ry; exact PySem.EqNone.eq_str_none (fin_bl I q (by simp))
    | bl j => cases ry; exact PySem.EqMixed.eq_str_bool (fin_bl I q (by simp))
    | int j => obtain ⟨t', rfl⟩ := ry; exact PySem.EqMixed.eq_str_int (fin_bl I q (by simp))
    | str j => obtain ⟨t', rfl⟩ := ry; exact eq_str (fin_bl I q dec_str)
    | _ => exact absurd (show false = true from hs) Bool.false_ne_true
  | byt i =>
    obtain ⟨t, rfl⟩ := rx
    cases y with
    | byt j => obtain ⟨t', rfl⟩ := ry; exact PySem.W.eq_bytes (fin_bl I q dec_byt)
    | _ => exact absurd (show false = true from hs) Bool.false_ne_true
  | _ => cases y <;> exact absurd (show false = true from hs) Bool.false_ne_true
theorem op_ne : OpR X (compareOp .NotEq) rNe := by
  intro pins s σ H x y v u Q I rx ry h
  obtain ⟨hs, q⟩ := h
  cases x with
  | non =>
    cases rx
    cases y with
    | non => cases ry; exact PySem.EqNone.ne_none_none (fin_bl I q (by simp))
    | bl j => cases ry; exact PySem.EqNone.ne_none_bool (fin_bl I q (by simp))
    | int j => obtain ⟨t', rfl⟩ := ry; exact PySem.EqNone.ne_none_int (fin_bl I q (by simp))
    | str j => obtain ⟨t', rfl⟩ := ry; exact PySem.EqNone.ne_none_str (fin_bl I q (by simp))
    | _ => exact absurd (show false = true from hs) Bool.false_ne_true
  | bl i =>
    cases rx
    cases y with
    | non => cases ry; exact PySem.EqNone.ne_bool_none (fin_bl I q (by simp))
    | bl j => cases ry; exact ne_bool (fin_bl I q (congrArg not dec_bl))
    | str j => obtain ⟨t', rfl⟩ := ry; exact PySem.EqMixed.ne_bool_str (fin_bl I q (by simp))
    | _ => exact absurd (show false = true from hs) Bool.false_ne_true
  | int i =>
    obtain ⟨t, rfl⟩ := rx
    cases y with
    | non => cases ry; exact PySem.EqNone.ne_int_none (fin_bl I q (by simp))
    | int j => obtain ⟨t', rfl⟩ := ry; exact ne_int (fin_bl I q (congrArg not dec_int))
    | str j => obtain ⟨t', rfl⟩ := ry; exact PySem.EqMixed.ne_int_str (fin_bl I q (by simp))
    | _ => exact absurd (show false = true from hs) Bool.false_ne_true
  | str i =>
    obtain ⟨t, rfl⟩ := rx
    cases y with
    | non => cases ry; exact PySem.EqNone.ne_str_none (fin_bl I q (by simp))
    | bl j => cases ry; exact PySem.EqMixed.ne_str_bool (fin_bl I q (by simp))
    | int j => obtain ⟨t', rfl⟩ := ry; exact PySem.EqMixed.ne_str_int (fin_bl I q (by simp))
    | str j => obtain ⟨t', rfl⟩ := ry; exact ne_str (fin_bl I q (congrArg not dec_str))
    | _ => exact absurd (show false = true from hs) Bool.false_ne_true
  | byt i =>
    obtain ⟨t, rfl⟩ := rx
    cases y with
    | byt j => obtain ⟨t', rfl⟩ := ry; exact PySem.W.ne_bytes (fin_bl I q (congrArg not dec_byt))
    | _ => exact absurd (show false = true from hs) Bool.false_ne_true
  | _ => cases y <;> exact absurd (show false = true from hs) Bool.false_ne_true

theorem op_lt : OpR X (compareOp .Lt) (rI0 fun i j => .bl (decide (i < j))) := opB0 fun _ _ _ _ _ _ _ q => lt_int q
theorem op_gt : OpR X (compareOp .Gt) (rI0 fun i j => .bl (decide (j < i))) := opB0 fun _ _ _ _ _ _ _ q => gt_int q
theorem op_ge : OpR X (compareOp .GtE) (rI0 fun i j => .bl (decide (j ≤ i))) := opB0 fun _ _ _ _ _ _ _ q => ge_int q

/-- is None, is not None: the right side a value none -/
theorem op_isN : OpR X (compareOp .Is) (fun x y H Q => y = .non ∧ Q (.bl (decide (x = .non))) H) := by
  intro pins s σ H x y v u Q I rx ry h
  obtain ⟨rfl, q⟩ := h
  cases ry
  refine is_none_gen (fin_bl I q ?_)
  cases x <;> first
    | (cases rx; rfl)
    | (obtain ⟨t, rfl⟩ := rx; rfl)

theorem op_notin_str : OpR X (compareOp .NotIn) (fun x y H Q => ∃ i j, x = .str i ∧ y = .str j ∧ Q (.bl (!(!(Builtin.Str.occurrences j i 0 j.length 1).isEmpty))) H) := by
  intro pins s σ H x y v u Q I rx ry h
  obtain ⟨i, j, rfl, rfl, q⟩ := h
  obtain ⟨t, rfl⟩ := rx
  obtain ⟨t', rfl⟩ := ry
  exact notIn_str (fin_bl I q rfl)

theorem nomark (b : Expr) {op : CmpOp} (h : op ≠ .In := by decide) (h2 : op ≠ .NotIn := by decide) : behindInMarks op b = false := by
  have e1 : (op == CmpOp.In) = false := by cases op <;> first | rfl | exact absurd rfl h
  have e2 : (op == CmpOp.NotIn) = false := by cases op <;> first | rfl | exact absurd rfl h2
  cases b <;> simp [behindInMarks, e1, e2]
/-- a comparison as a value; hm: nomark b, or (for in, not in) by with_unfolding_all rfl -/
theorem pe_cmpR {op : CmpOp} {r : R2} (ho : OpR X (compareOp op) r) (ha : PE X a ta) (hb : PE X b tb) (hm : behindInMarks op b = false) : PE X (.Compare a [op] [b] pos) (tOp r ta tb) := by
  intro pins s σ H Q I h
  exact wpAny_Compare1 (binT ha hb I h fun v u s2 x y H2 I2 rx ry q => ho pins s2 σ H2 x y v u Q I2 rx ry q) hm
/-- a reading of a value as a test -/
def tTest (t : TE) : TT := fun σ H Q => t σ H fun x H' => ∃ k, x = .bl k ∧ Q k H'
theorem pt_cmpR {op : CmpOp} {r : R2} (ho : OpR X (compareOp op) r) (ha : PE X a ta) (hb : PE X b tb) (hm : behindInMarks op b = false) : PT X (.Compare a [op] [b] pos) (tTest (tOp r ta tb)) := by
  intro pins s σ H Q I h
  refine wpAny_isTrue_Compare1 (thn (ha pins s σ H _ I h) fun v s1 ⟨x, H1, I1, r1, q1⟩ => thn (hb pins s1 σ H1 _ I1 q1) fun u s2 ⟨y, H2, I2, r2, q2⟩ =>
    thn (ho pins s2 σ H2 x y v u _ I2 r1 r2 q2) fun c s3 ⟨z, H3, I3, r3, k, e, q3⟩ => ?_) hm
  subst e
  cases r3
  exact wpAny_truthy_bool ⟨H3, I3, q3⟩

/-! ### truth -/
/-- a value's truth by the abstract heap -/
def TruV (K : PySem.W.Frag) (x : V) (H : Hp) (k : Bool) : Prop :=
  match x with
  | .non => k = false
  | .bl b => k = b
  | .int i => k = (i != 0)
  | .str y => y.length ≤ sizeLine ∧ k = ((y.length : Int) != 0)
  | .byt y => y.size ≤ sizeLine ∧ k = ((y.size : Int) != 0)
  | .ref p => (∃ xs, SqL K H p xs ∧ k = !xs.isEmpty) ∨ (∃ xs, SqT K H p xs ∧ k = !xs.isEmpty) ∨ ∃ kvs, H p = some (.dK kvs) ∧ k = !kvs.isEmpty
  | _ => False
theorem isEmpty_kv {κ : Type} {kvs : List (κ × V)} {vs : List (κ × Value)} (r : KV kvs vs) : (!vs.isEmpty) = !kvs.isEmpty := by
  cases r <;> rfl
theorem isEmpty_of {xs : List V} {its : List Value} (r : Vals xs its) : (!its.toArray.isEmpty) = !xs.isEmpty := by
  cases r <;> simp
theorem line63 : (sizeLine : Nat) < 2 ^ 63 := by rw [sizeLine_eq]; decide
theorem tru_ok : TruR X (fun x H Q => ∃ k, TruV X.K x H k ∧ Q k H) := by
  intro pins s σ H x v Q I rx h
  obtain ⟨k, e, q⟩ := h
  have hl := line63
  have hs : sizeLine = 16777216 := sizeLine_eq
  cases x with
  | non =>
    cases rx
    have e' : k = false := e
    subst e'
    exact truthy_none ⟨H, I, q⟩
  | bl b =>
    cases rx
    have e' : k = b := e
    subst e'
    exact wpAny_truthy_bool ⟨H, I, q⟩
  | int i =>
    obtain ⟨t, rfl⟩ := rx
    have e' : k = (i != 0) := e
    subst e'
    exact PySem.P.truthy_int ⟨H, I, q⟩
  | str y =>
    obtain ⟨t, rfl⟩ := rx
    obtain ⟨hy, e'⟩ : y.length ≤ sizeLine ∧ k = ((y.length : Int) != 0) := e
    subst e'
    exact PySem.P.truthy_str (by omega) ⟨H, I.tok _, q⟩
  | byt y =>
    obtain ⟨t, rfl⟩ := rx
    obtain ⟨hy, e'⟩ : y.size ≤ sizeLine ∧ k = ((y.size : Int) != 0) := e
    subst e'
    exact PySem.W.truthy_bytes (by omega) ⟨H, I.tok _, q⟩
  | ref p =>
    cases rx
    have e' : (∃ xs, SqL X.K H p xs ∧ k = !xs.isEmpty) ∨ (∃ xs, SqT X.K H p xs ∧ k = !xs.isEmpty) ∨ ∃ kvs, H p = some (.dK kvs) ∧ k = !kvs.isEmpty := e
    rcases e' with ⟨xs, hx, e'⟩ | ⟨xs, hx, e'⟩ | ⟨kvs, hx, e'⟩
    · subst e'
      obtain ⟨its, r, pl, hz⟩ := I.list hx
      have hlen := r.length
      exact wpAny_truthy_list pl.isList (by simp only [List.size_toArray]; omega) ⟨H, I.tok _, by rw [isEmpty_of r]; exact q⟩
    · subst e'
      obtain ⟨its, r, pl, hz⟩ := I.tuple hx
      have hlen := r.length
      exact truthy_tuple pl (by simp only [List.size_toArray]; omega) ⟨H, I.tok _, by rw [isEmpty_of r]; exact q⟩
    · subst e'
      obtain ⟨hz, hS, vs, r, m⟩ : kvs.length ≤ sizeLine ∧ (p == sysModules) = false ∧ ∃ vs, KV kvs vs ∧ s.heap.DictOf (mixKind X.prog X.w) p vs := I.hok p _ hx
      have hlen : kvs.length = vs.length := Paired.length r
      exact wpAny_truthy_dict hS m (by omega) ⟨H, I.tok _, by rw [isEmpty_kv r]; exact q⟩
  | _ => exact (show False from e).elim

/-! ### strs and bytes -/
theorem op_add_str : OpR X (binaryOp .Add) (fun x y H Q => ∃ i j, x = .str i ∧ y = .str j ∧ i.length + j.length ≤ sizeLine ∧ Q (.str (i ++ j)) H) := by
  intro pins s σ H x y v u Q I rx ry h
  obtain ⟨i, j, rfl, rfl, hz, q⟩ := h
  obtain ⟨t, rfl⟩ := rx
  obtain ⟨t', rfl⟩ := ry
  exact add_str (fun t' tk => ⟨.str (i ++ j), H, I.tok _, ⟨_, rfl⟩, q⟩) hz

/-! ### scalar builtins, by CallR -/
theorem vals1 {x : V} {us : List Value} (r : Vals [x] us) : ∃ u, us = [u] ∧ RelV x u := by
  cases r with
  | cons r1 r2 => cases r2; exact ⟨_, rfl, r1⟩
theorem vals2 {x y : V} {us : List Value} (r : Vals [x, y] us) : ∃ u w', us = [u, w'] ∧ RelV x u ∧ RelV y w' := by
  cases r with
  | cons r1 r2 =>
    cases r2 with
    | cons r3 r4 => cases r4; exact ⟨_, _, rfl, r1, r3⟩
theorem call_min2 (hc : X.calm = true) : CallR X (.builtin "min") (fun xs H Q => ∃ i j, xs = [.int i, .int j] ∧ Q (.int (if j < i then j else i)) H) := by
  intro pins s σ H xs us Q I r h
  obtain ⟨i, j, rfl, q⟩ := h
  obtain ⟨u, w', rfl, ⟨t, rfl⟩, ⟨t', rfl⟩⟩ := vals2 r
  refine min_two_ints (I.ok.hd hc) fun h' tk k => ⟨_, H, I.kept k, ?_, q⟩
  by_cases hj : j < i
  · rw [if_pos hj, if_pos hj]; exact ⟨_, rfl⟩
  · rw [if_neg hj, if_neg hj]; exact ⟨_, rfl⟩
theorem call_int1 : CallR X (.type "int") (fun xs H Q => (∃ i, xs = [.int i] ∧ Q (.int i) H) ∨ ∃ k, xs = [.bl k] ∧ Q (.int (if k then 1 else 0)) H) := by
  intro pins s σ H xs us Q I r h
  rcases h with ⟨i, rfl, q⟩ | ⟨k, rfl, q⟩
  · obtain ⟨u, rfl, t, rfl⟩ := vals1 r
    exact call_int_int ⟨.int i, H, I, ⟨_, rfl⟩, q⟩
  · obtain ⟨u, rfl, r1⟩ := vals1 r
    cases r1
    exact call_int_bool ⟨.int (if k then 1 else 0), H, I.tok _, ⟨_, rfl⟩, q⟩
theorem call_str_int : CallR X (.type "str") (fun xs H Q => ∃ i, xs = [.int i] ∧ i.natAbs.log2 < 1920 ∧ Q (.str (toString i)) H) := by
  intro pins s σ H xs us Q I r h
  obtain ⟨i, rfl, hz, q⟩ := h
  obtain ⟨u, rfl, t, rfl⟩ := vals1 r
  exact PySem.P.str_of_int hz ⟨.str _, H, I.tok _, ⟨_, rfl⟩, q⟩
/-- len of a str, a bytes, a list, a tuple -/
def LenV (K : PySem.W.Frag) (x : V) (H : Hp) (n : Nat) : Prop :=
  match x with
  | .str y => y.length ≤ sizeLine ∧ n = y.length
  | .byt y => y.size ≤ sizeLine ∧ n = y.size
  | .ref p => (∃ xs, SqL K H p xs ∧ n = xs.length) ∨ ∃ xs, SqT K H p xs ∧ n = xs.length
  | _ => False
theorem call_len : CallR X (.builtin "len") (fun xs H Q => ∃ x n, xs = [x] ∧ LenV X.K x H n ∧ Q (.int n) H) := by
  intro pins s σ H xs us Q I r h
  obtain ⟨x, n, rfl, e, q⟩ := h
  obtain ⟨u, rfl, rx⟩ := vals1 r
  have hl := line63
  have hs : sizeLine = 16777216 := sizeLine_eq
  cases x with
  | str y =>
    obtain ⟨t, rfl⟩ := rx
    obtain ⟨hy, e'⟩ : y.length ≤ sizeLine ∧ n = y.length := e
    subst e'
    exact len_str (by omega) ⟨.int _, H, I.tok _, ⟨_, rfl⟩, q⟩
  | byt y =>
    obtain ⟨t, rfl⟩ := rx
    obtain ⟨hy, e'⟩ : y.size ≤ sizeLine ∧ n = y.size := e
    subst e'
    exact PySem.W.len_bytes (by omega) ⟨.int _, H, I.tok _, ⟨_, rfl⟩, q⟩
  | ref p =>
    cases rx
    have e' : (∃ xs, SqL X.K H p xs ∧ n = xs.length) ∨ ∃ xs, SqT X.K H p xs ∧ n = xs.length := e
    rcases e' with ⟨xs, hx, e'⟩ | ⟨xs, hx, e'⟩
    · subst e'
      obtain ⟨its, r', pl, hz⟩ := I.list hx
      have hlen := r'.length
      exact Calls.call_len_list pl.isList (by simp only [List.size_toArray]; omega) ⟨.int xs.length, H, I.tok _, ⟨_, by simp only [List.size_toArray]; rw [hlen]⟩, q⟩
    · subst e'
      obtain ⟨its, r', pl, hz⟩ := I.tuple hx
      have hlen := r'.length
      exact len_tuple pl (by simp only [List.size_toArray]; omega) ⟨.int xs.length, H, I.tok _, ⟨_, by simp only [List.size_toArray]; rw [hlen]⟩, q⟩
  | _ => exact (show False from e).elim
end
end L2

namespace L2
open PySem PySem.Spec PyProof.Rows

/-! ### an instance, its attributes a map -/
structure ObjM (h : Heap) (x dx C : Addr) (mA : Str → Option Value) : Prop where
  obj : h.get? x = some (PySem.W.instObj C dx)
  ns : h.Ns1 dx mA
  ne : dx ≠ x

theorem lookIn_ns {h : Heap} {dx : Addr} {mA : Str → Option Value} (n : h.Ns1 dx mA) : ∃ od, h.get? dx = some od ∧ ∀ name, PySem.W.lookIn name od = some (mA name) := by
  obtain ⟨o, es, ep, ho, hd, hk, _, hm⟩ := n
  refine ⟨o, ho, fun name => ?_⟩
  have e := hm name
  unfold nsFind findBy at e
  rw [← Array.find?_toList] at e
  unfold PySem.W.lookIn
  rw [hd]
  dsimp only
  split
  · rename_i y q
    rw [q] at e
    exact congrArg some e
  · rename_i q
    rw [q] at e
    have a : es.toList.any (·.refKey) = false := by
      rw [List.any_eq_false]
      intro y hy
      obtain ⟨z, t, hkey⟩ := hk y (Array.mem_toList_iff.mp hy)
      simp [DictEntry.refKey, hkey]
    have a' : ¬ es.toList.any (·.refKey) = true := by rw [a]; exact Bool.false_ne_true
    rw [if_neg a']
    exact congrArg some e

theorem ObjM.look {h : Heap} {x dx C : Addr} {mA : Str → Option Value} (I : ObjM h x dx C mA) : ∃ od, PySem.W.InstAt h x (PySem.W.instObj C dx) C (some od) ∧ ∀ name, PySem.W.lookIn name od = some (mA name) :=
  let ⟨od, ho, hl⟩ := lookIn_ns I.ns
  ⟨od, ⟨I.obj, rfl, rfl, ho⟩, hl⟩

section
variable {prog : Program} {w : World} {A : Around} {E : Value → Shared → Prop} {s : Shared} {K : PySem.W.Frag} {x dx C f : Addr} {mA : Str → Option Value} {name : Str} {v : Value}

end

/-! ### the attributes as a list of pairs -/

theorem RelO.some_of {v : V} {o : Option Value} (r : RelO (some v) o) : ∃ u, o = some u ∧ RelV v u := by
  cases o with
  | none => exact (show False from r).elim
  | some u => exact ⟨u, rfl, r⟩

section
variable {P : Program} {w : World} {H H' : Hp} {h h' : Heap} {a C dx : Addr} {fs fs' : List (Str × V)}
theorem ins_get (hok : HOk P w H h) (e : H a = some (.ins C dx fs)) : ∃ mA, ObjM h a dx C mA ∧ (∀ f, RelO (fs.lookup f) (mA f)) ∧ PySem.Within mA (fs.map (·.1)) ∧ fs.length ≤ 1000 ∧ H dx = some (.own a) := by
  obtain ⟨d, z, ne, ob, mA, n, r, q⟩ := (show ObjOk P w H h a (.ins C dx fs) from hok a _ e)
  exact ⟨mA, ⟨ob, n, ne⟩, r, q, z, d⟩
end

/-! ### what of the text a class must have -/
structure Cls (K : PySem.W.Frag) (C : Addr) : Prop where
  pg : PySem.W.plainGet K C Str.empty = true
  hd : PySem.W.hasDictIn K C = true
  po : PySem.W.plainOver K C = true
  sa : PySem.W.findIn K (.ref C) "__setattr__" = some (some (.builtin "object.__setattr__"))
theorem Cls.get {K : PySem.W.Frag} {C : Addr} (c : Cls K C) (f : Str) : PySem.W.plainGet K C f = true := c.pg

section
variable {X : Cx} {pins : List (Addr × Obj)} {σ : St} {H : Hp} {s : Shared} {a C dx : Addr} {fs : List (Str × V)} {f : Str} {v : V} {A : Around} {E : Value → Shared → Prop}

end

/-! ### readings and rules -/

section
variable {X : Cx} {o e value : Expr} {f : Str} {pos pos' tpos : Pos} {ta tv : TE}

end

/-! ### isinstance -/
section
variable {X : Cx} {pins : List (Addr × Obj)} {σ : St} {H : Hp} {s : Shared} {A : Around} {E : Value → Shared → Prop} {Q : Value → Shared → Prop} {c : Value} {b : Bool}
/-- the type of a value, as the fragment's deciders take it; for an instance its class -/
inductive TyOf (K : PySem.W.Frag) (H : Hp) : V → Value → Prop where
  | non : TyOf K H .non (.type "NoneType")
  | bl (x : Bool) : TyOf K H (.bl x) (.type "bool")
  | int (i : Int) : TyOf K H (.int i) (.type "int")
  | str (x : Str) : TyOf K H (.str x) (.type "str")
  | flt (x : UInt64) : TyOf K H (.flt x) (.type "float")
  | lst {a : Addr} {xs : List V} (e : H a = some (.lst xs)) : TyOf K H (.ref a) (.type "list")
  | frz {a : Addr} {o : Obj} {xs : List V} (e : H a = some (.frz o (.lst xs))) : TyOf K H (.ref a) (.type "list")
  | tup {a : Addr} {xs : List V} (e : H a = some (.tup xs)) : TyOf K H (.ref a) (.type "tuple")
  | dK {a : Addr} {kvs : List (Key × V)} (e : H a = some (.dK kvs)) : TyOf K H (.ref a) (.type "dict")
  | dT {a : Addr} {kvs : List (List Key × V)} (e : H a = some (.dT kvs)) : TyOf K H (.ref a) (.type "dict")
  | ins {a C dx : Addr} {fs : List (Str × V)} (e : H a = some (.ins C dx fs)) (cl : Cls K C) (ha : PySem.W.findIn K (.ref C) "__class__" = some (some (.builtin "object.__class__")))
      (hn : PySem.W.specialIn K (.builtin "object.__class__") "__get__" = some (some (.builtin "getset_descriptor.__get__"))) (htk : PySem.W.takesIn K (.builtin "object.__class__") = some true)
      (hm : PySem.W.mroIn K C (.type "object") = some true) : TyOf K H (.ref a) (.ref C)
/-- isinstance(x, c) for one class c, a built-in or an own one: kitOne's answer -/
theorem isinst_ok {x : V} {u t : Value} (I : Inv X pins σ H s) (rx : RelV x u) (ty : TyOf X.K H x t) (e : PySem.W.kitOne X.K t c = some b) (h : ∀ tk, Q (.bool b) { s with toks := tk }) :
    wpAny (model X.prog X.w) A (call (.builtin "isinstance") [u, c]) Q E s := by
  cases ty with
  | non => cases (show u = Value.none from rx); exact PySem.W.kia_one PySem.W.kitx_none I.kIn True.intro e (fun z => nomatch z) h
  | bl y => cases (show u = Value.bool y from rx); exact PySem.W.kia_one PySem.W.kitx_bool I.kIn True.intro e (fun z => nomatch z) h
  | int i => obtain ⟨t, q⟩ := (show ∃ t, u = Value.int i t from rx); cases q; exact PySem.W.kia_one PySem.W.kitx_int I.kIn True.intro e (fun z => nomatch z) h
  | str y => obtain ⟨t, q⟩ := (show ∃ t, u = Value.str y t from rx); cases q; exact PySem.W.kia_one PySem.W.kitx_str I.kIn True.intro e (fun z => nomatch z) h
  | flt y => obtain ⟨t, q⟩ := (show ∃ t, u = Value.float y t from rx); cases q; exact PySem.W.kia_one PySem.W.kitx_float I.kIn True.intro e (fun z => nomatch z) h
  | @lst a xs ea =>
    cases (show u = Value.ref a from rx)
    obtain ⟨_, _, n, _, h1⟩ := (show ObjOk X.prog X.w H s.heap a (.lst xs) from I.hok a _ ea)
    exact PySem.W.kia_one PySem.W.kitx_list I.kIn ⟨_, h1, rfl⟩ e (fun z => nomatch z) h
  | @frz a ob xs ea =>
    cases (show u = Value.ref a from rx)
    obtain ⟨_, _, _, n, _, h1⟩ := (show ObjOk X.prog X.w H s.heap a (.frz ob (.lst xs)) from I.hok a _ ea)
    exact PySem.W.kia_one PySem.W.kitx_list I.kIn ⟨_, h1, rfl⟩ e (fun z => nomatch z) h
  | @tup a xs ea =>
    cases (show u = Value.ref a from rx)
    obtain ⟨_, _, _, p⟩ := (show ObjOk X.prog X.w H s.heap a (.tup xs) from I.hok a _ ea)
    obtain ⟨o, h1, h2, _⟩ := p
    exact PySem.W.kia_one PySem.W.kitx_tuple I.kIn ⟨o, h1, h2⟩ e (fun z => nomatch z) h
  | @dK a kvs ea =>
    cases (show u = Value.ref a from rx)
    obtain ⟨_, _, vs, _, p⟩ := (show ObjOk X.prog X.w H s.heap a (.dK kvs) from I.hok a _ ea)
    obtain ⟨o, es, ep, h1, h2, _⟩ := p
    exact PySem.W.kia_one PySem.W.kitx_dict I.kIn ⟨o, h1, h2.1⟩ e (fun z => nomatch z) h
  | @dT a kvs ea =>
    cases (show u = Value.ref a from rx)
    obtain ⟨_, _, xs, _, o, es, ep, h1, h2, _⟩ := (show ObjOk X.prog X.w H s.heap a (.dT kvs) from I.hok a _ ea)
    exact PySem.W.kia_one PySem.W.kitx_dict I.kIn ⟨o, h1, h2.1⟩ e (fun z => nomatch z) h
  | @ins a C dx fs ea cl ha hn htk hm =>
    cases (show u = Value.ref a from rx)
    obtain ⟨mA, O, _⟩ := ins_get I.hok ea
    obtain ⟨od, J, _⟩ := O.look
    exact PySem.W.kia_one (PySem.W.kitx_own (cl.get _) cl.hd ha hn htk hm) I.kIn J e (fun z => nomatch z) h
end
end L2

namespace L2
open PySem PySem.Spec PyProof.Rows

/-! ### room -/
structure Room (k : Nat) (A : Around) : Prop where
  hd : A.handled = none
  dp : A.depth + 3 * k + 5 < recursionLimit
  un : A.units + 16 * k + 200 < cLine
theorem Room.mono {j k : Nat} {A : Around} (r : Room k A) (h : j ≤ k) : Room j A := ⟨r.hd, by have := r.dp; omega, by have := r.un; omega⟩
theorem Room.deeper {k : Nat} {A : Around} (r : Room (k + 1) A) (env : Env) : Room k (A.deeper env) :=
  ⟨r.hd, by have := r.dp; show A.depth + 1 + 3 * k + 5 < _; omega, by have := r.un; show A.units + 3 + 16 * k + 200 < _; omega⟩
theorem Room.depth {k : Nat} {A : Around} (r : Room k A) : A.depth < recursionLimit := by have := r.dp; omega
theorem Room.units {k : Nat} {A : Around} (r : Room k A) : A.units + 64 < cLine := by have := r.un; omega

/-! ### argument lists and displays -/
def tNil : TA := fun _ H Q => Q [] H
def tCons (ta : TE) (tr : TA) : TA := fun σ H Q => ta σ H fun x H1 => tr σ H1 fun xs H2 => Q (x :: xs) H2
section
variable {X : Cx} {e : Expr} {es : List Expr} {te : TE} {t : TA} {pos : Pos}
theorem pa_nil : PA X [] tNil := fun _ _ _ _ H Q I h => Calls.spliced_nil ⟨[], H, I, .nil, h⟩
theorem pa_cons (ha : PE X e te) (hr : PA X es t) (hs : starEach (e :: es) X.env = (false, eval e X.env) :: starEach es X.env := by rfl) : PA X (e :: es) (tCons te t) := by
  intro pos pins s σ H Q I h
  rw [hs]
  show wpAny _ _ (spliced ((false, eval e X.env) :: backTo pos (starEach es X.env))) _ _ s
  refine Calls.spliced_cons (thn (ha pins s σ H _ I h) fun u s1 ⟨x, H1, I1, r1, q1⟩ => ?_)
  exact thn (hr pos pins s1 σ H1 _ I1 q1) fun us s2 ⟨xs, H2, I2, r2, q2⟩ => ⟨x :: xs, H2, I2, .cons r1 r2, q2⟩

/-- a tuple, a list of written items -/
def tTup (t : TA) : TE := fun σ H Q => t σ H fun xs H1 => xs.length ≤ sizeLine ∧ ∀ p, H1 p = none → Q (.ref p) (upd H1 p (.tup xs))
def tLst (t : TA) : TE := fun σ H Q => t σ H fun xs H1 => xs.length ≤ sizeLine ∧ ∀ p, H1 p = none → Q (.ref p) (upd H1 p (.lst xs))
theorem pe_tup {x1} (h : PA X es t) : PE X (.Tuple es x1 pos) (tTup t) := by
  intro pins s σ H Q I hq
  refine wpAny_Tuple_spliced (thn (h pos pins s σ H _ I hq) fun us s1 ⟨xs, H1, I1, r, z, q⟩ => ⟨by rw [← r.length]; exact z, ?_⟩)
  have hf : H1 s1.heap.objs.size = none := I1.hok.fresh (Nat.le_refl _)
  refine ⟨.ref s1.heap.objs.size, upd H1 s1.heap.objs.size (.tup xs), I1.laid (t' := s1.toks) (fun b u e => Heap.get?_push_of_some _ e) (Nat.le_refl _) ?_, rfl, q _ hf⟩
  exact ⟨z, us, r, ⟨_, Heap.get?_push_size _ rfl, rfl, _, rfl⟩⟩
theorem pe_lst (h : PA X es t) : PE X (.List es pos) (tLst t) := by
  intro pins s σ H Q I hq
  refine wpAny_List_spliced (thn (h pos pins s σ H _ I hq) fun us s1 ⟨xs, H1, I1, r, z, q⟩ => ⟨by rw [← r.length]; exact z, ?_⟩)
  have hf : H1 s1.heap.objs.size = none := I1.hok.fresh (Nat.le_refl _)
  refine ⟨.ref s1.heap.objs.size, upd H1 s1.heap.objs.size (.lst xs), I1.laid (t' := s1.toks) (fun b u e => Heap.get?_push_of_some _ e) (Nat.le_refl _) ?_, rfl, q _ hf⟩
  exact ⟨z, us, 0, r, Heap.get?_push_size _ rfl⟩
end

/-! ### what a def promises -/
/-- a def's promise: the bound arguments in the parameters' order, the heap, the wanted end, the wanted exception -/
abbrev Sp := List V → Hp → VK → XK → Prop
/-- how an exception lies behind a call (file 08 gives it): the callers' frames, abstract heap and state ahead of the call, the wish, the exception, the state -/
abbrev CXT := List Env → Hp → Shared → XK → Value → Shared → Prop

/-- the state at a call -/
structure Env0 (P : Program) (w : World) (K : PySem.W.Frag) (mg : Str → Option Value) (base : Heap) (A : Around) (outer : List Env) (s : Shared) (H : Hp) : Prop where
  frames : A.frames = some outer
  mod : Mod K mg base
  bs : ∀ b o, base.get? b = some o → s.heap.get? b = some o ∧ H b = none
  bsz : base.objs.size ≤ s.heap.objs.size
  funs : s.heap.FunFrames base outer
  frf : ∀ b ∈ frs outer, H b = none
  hok : HOk P w H s.heap
  bare : AllBare s.gens
/-- a call's end -/
def CE (outer : List Env) (P : Program) (w : World) (H : Hp) (s : Shared) (Q : VK) (u : Value) (s' : Shared) : Prop :=
  ∃ v H', s'.os = s.os ∧ AllBare s'.gens ∧ Un (frs outer) [] H H' s.heap s'.heap ∧ HOk P w H' s'.heap ∧ RelV v u ∧ Q v H'
def CR (CX : CXT) (outer : List Env) (P : Program) (w : World) (H : Hp) (s : Shared) (Q : VK) (E : XK) (r : Result) (s' : Shared) : Prop :=
  match r with
  | .ok (.ret u) => CE outer P w H s Q u s'
  | .ok _ => False
  | .error e => CX outer H s E e s'
structure FnOk (P : Program) (w : World) (K : PySem.W.Frag) (mg : Str → Option Value) (base : Heap) (CX : CXT) (k : Nat) (f : Addr) (fd : FuncData) (ps : List Str) (sp : Sp) : Prop where
  len : ∀ vs H Q E, sp vs H Q E → vs.length = ps.length
  run : ∀ (A : Around) (outer : List Env) (s : Shared) (H : Hp) (args : Args) (us : List Value) (vs : List V) (Q : VK) (E : XK), Room k A → Env0 P w K mg base A outer s H → BindsTo s fd args (ps.zip us) → Vals vs us → sp vs H Q E →
    codeAny (model P w) A (.call (.ref f) args) (CR CX outer P w H s Q E) s

section
variable {X : Cx} {pins : List (Addr × Obj)} {σ : St} {H : Hp} {s s' : Shared}
/-- from a body: what a callee wants -/
theorem Inv.env0 (I : Inv X pins σ H s) : Env0 X.prog X.w X.K X.mg X.base X.A X.stack s H :=
  ⟨I.ok.frames, I.ok.mod, I.bs, Nat.le_trans I.ok.bsz I.sz, I.stack, I.stkFree, I.hok, I.bare⟩
/-- behind a call -/
theorem Inv.after {Q : VK} {u : Value} (I : Inv X pins σ H s) (h : CE X.stack X.prog X.w H s Q u s') : EP X pins σ Q u s' := by
  obtain ⟨v, H', os, bare, un, hok, r, q⟩ := h
  obtain ⟨hh, g, d, t, os'⟩ := s'
  obtain rfl : os' = s.os := os
  exact ⟨v, H', I.call (h' := hh) (g' := g) (d' := d) (t' := t) (ch := []) un hok bare (fun b z => absurd z (by simp)), r, q⟩
end

/-! ### calls -/
/-- f(..): the written arguments, then the defaults dvs; E: what is wanted of an exception -/
def tCall (sp : Sp) (dvs : List V) (E : XK) (t : TA) : TE := fun σ H Q => t σ H fun vs H1 => sp (vs ++ dvs) H1 Q E

/-- how the parameters are bound: us the positional arguments, kw the keywords' values by name, ds the defaults that fill up -/
def Binds (K : PySem.W.Frag) (fd : FuncData) (ps : List Str) (ds : List Value) : Prop :=
  ∀ (s : Shared) (us : List Value), K.In s.heap → (us ++ ds).length = ps.length → BindsTo s fd ⟨us, []⟩ (ps.zip (us ++ ds))
/-- every parameter is given -/
theorem Binds.all {K : PySem.W.Frag} {fd : FuncData} {ps : List Str} (h : ∀ us : List Value, us.length = ps.length → bindArgs fd ⟨us, []⟩ = pure (ps.zip us)) : Binds K fd ps [] := fun s us _ hl => by
  rw [List.append_nil] at hl ⊢
  exact .of_eq (h us hl)

/-- an exception of a callee reaches what this body wants of exceptions -/
def Passes (CX : CXT) (X : Cx) (E : XK) : Prop := ∀ (pins : List (Addr × Obj)) (σ : St) (H : Hp) (s : Shared) (e : Value) (s' : Shared), Inv X pins σ H s → CX X.stack H s E e s' → X.xe e s'

section
variable {X : Cx} {CX : CXT} {k : Nat} {f C : Addr} {fd : FuncData} {ps : List Str} {sp : Sp} {dvs : List V} {ds : List Value} {E : XK} {x m : Str} {p pos apos : Pos} {e o : Expr} {es : List Expr} {ta : TE} {t : TA}

/-- the callee runs -/
theorem run_fn {pins : List (Addr × Obj)} {σ : St} {H : Hp} {s : Shared} {Q : VK} {us : List Value} {vs : List V} (F : FnOk X.prog X.w X.K X.mg X.base CX k f fd ps sp) (hr : Room k X.A) (hb : Binds X.K fd ps ds) (hd : Vals dvs ds) (hx : Passes CX X E)
    (I : Inv X pins σ H s) (r : Vals vs us) (h : sp (vs ++ dvs) H Q E) : wpAny (model X.prog X.w) X.A (call (.ref f) us) (EP X pins σ Q) X.xe s := by
  have r2 : Vals (vs ++ dvs) (us ++ ds) := r.append hd
  have hl : (us ++ ds).length = ps.length := by rw [← r2.length]; exact F.len _ _ _ _ h
  refine wpAny_call (codeAny_mono (F.run X.A X.stack s H ⟨us, []⟩ (us ++ ds) (vs ++ dvs) Q E hr I.env0 (hb s us I.kIn hl) r2 h) fun r s' hq => ?_)
  cases r with
  | error e => exact hx pins σ H s e s' I hq
  | ok fl =>
    cases fl with
    | ret u => exact I.after hq
    | next => exact False.elim hq
    | brk => exact False.elim hq
    | cont => exact False.elim hq

theorem pe_call (F : FnOk X.prog X.w X.K X.mg X.base CX k f fd ps sp) (hr : Room k X.A) (hg : Gl X x) (hm : X.mg x = some (.ref f)) (hk : PySem.W.keepIn X.K (.ref f) = true) (hb : Binds X.K fd ps ds) (hd : Vals dvs ds) (hx : Passes CX X E)
    (ha : PA X (e :: es) t) (hdb : (x == ("__debug__" : Str)) = false := by decide) (he : starEach (e :: es) X.env = (false, eval e X.env) :: starEach es X.env := by rfl) (hpl : (backTo pos (starEach es X.env)).any (·.1) = false := by rfl) :
    PE X (.Call (.Name x p) (e :: es) [] pos) (tCall sp dvs E t) := by
  intro pins s σ H Q I h
  refine wpAny_Call_Name_kw (ld_glob I hg hm ?_ hdb)
  refine PySem.W.callWith_K (h₀ := X.base) I.ok.mod.kin hk (thn (ha pos pins s σ H _ I h) fun us s1 ⟨vs, H1, I1, r, q⟩ => ⟨I1.kIn, ?_⟩) he hpl
  exact run_fn F hr hb hd hx I1 r q
theorem pe_call0 (F : FnOk X.prog X.w X.K X.mg X.base CX k f fd ps sp) (hr : Room k X.A) (hg : Gl X x) (hm : X.mg x = some (.ref f)) (hk : PySem.W.keepIn X.K (.ref f) = true) (hb : Binds X.K fd ps ds) (hd : Vals dvs ds) (hx : Passes CX X E)
    (hdb : (x == ("__debug__" : Str)) = false := by decide) : PE X (.Call (.Name x p) [] [] pos) (tCall sp dvs E tNil) := by
  intro pins s σ H Q I h
  refine wpAny_Call_Name_kw (ld_glob I hg hm ?_ hdb)
  exact PySem.W.callWith_K0 I.kIn hk (run_fn (us := []) F hr hb hd hx I .nil h)

end

/-! ### keywords -/
section
variable {X : Cx} {CX : CXT} {k : Nat} {f C : Addr} {fd : FuncData} {ps ks : List Str} {sp : Sp} {E : XK} {x m : Str} {p pos apos kpos : Pos} {e o : Expr} {es : List Expr} {kws : List Keyword} {te ta : TE} {t tk : TA} {nm : Option Str}

variable {g : List Value → List Value → List Value} {gV : List V → List V → List V}
end

/-! ### a def's body keeps its promise -/
/-- names: the parameters first -/
structure FnScope (N P : List Str) (sc : Scope) : Prop where
  kind : sc.kind = .function
  co : sc.isCoroutine = false
  gen : sc.isGenerator = false
  nd : N.Nodup
  pre : N.take P.length = P
  par : ∀ x ∈ P, sc.names.lookup x = some .local ∨ sc.names.lookup x = some .cell
  nofree : ∀ y ∈ sc.names, y.2 ≠ .free

theorem bindL_out {kindOf : Str → Option NameKind} {x : Str} : ∀ {binds : List (Str × Value)} {m : Str → Option Value}, (∀ v, (x, v) ∉ binds) → bindL kindOf binds m x = m x
  | [], _, _ => rfl
  | (n, v) :: r, m, h => by
    unfold bindL
    rw [bindL_out fun w hw => h w (List.mem_cons_of_mem _ hw)]
    split
    · have : x ≠ n := by rintro rfl; exact h v List.mem_cons_self
      simp [this]
    · rfl
theorem bindC_out {kindOf : Str → Option NameKind} {x : Str} : ∀ {binds : List (Str × Value)} {m : Str → Option Value}, (∀ v, (x, v) ∉ binds) → bindC kindOf binds m x = m x
  | [], _, _ => rfl
  | (n, v) :: r, m, h => by
    unfold bindC
    rw [bindC_out fun w hw => h w (List.mem_cons_of_mem _ hw)]
    split
    · rfl
    · have : x ≠ n := by rintro rfl; exact h v List.mem_cons_self
      simp [this]
theorem bindL_get {kindOf : Str → Option NameKind} {x : Str} {v : Value} : ∀ {P : List Str} {vs : List Value} {i : Nat} {m : Str → Option Value}, P.Nodup → P[i]? = some x → vs[i]? = some v → kindOf x = some .local →
    bindL kindOf (P.zip vs) m x = some v
  | [], _, _, _, _, h, _, _ => by simp at h
  | _ :: _, [], _, _, _, _, h, _ => by simp at h
  | p :: P, w :: vs, 0, m, nd, h1, h2, hk => by
    simp at h1 h2; subst h1; subst h2
    show bindL kindOf ((p, w) :: P.zip vs) m p = _
    unfold bindL
    rw [bindL_out fun v hv => (List.nodup_cons.mp nd).1 (List.of_mem_zip hv).1, if_pos hk]
    simp
  | p :: P, w :: vs, i + 1, m, nd, h1, h2, hk => by
    show bindL kindOf ((p, w) :: P.zip vs) m x = _
    unfold bindL
    exact bindL_get (i := i) (List.nodup_cons.mp nd).2 (by simpa using h1) (by simpa using h2) hk
theorem bindC_get {kindOf : Str → Option NameKind} {x : Str} {v : Value} : ∀ {P : List Str} {vs : List Value} {i : Nat} {m : Str → Option Value}, P.Nodup → P[i]? = some x → vs[i]? = some v → kindOf x ≠ some .local →
    bindC kindOf (P.zip vs) m x = some v
  | [], _, _, _, _, h, _, _ => by simp at h
  | _ :: _, [], _, _, _, _, h, _ => by simp at h
  | p :: P, w :: vs, 0, m, nd, h1, h2, hk => by
    simp at h1 h2; subst h1; subst h2
    show bindC kindOf ((p, w) :: P.zip vs) m p = _
    unfold bindC
    rw [bindC_out fun v hv => (List.nodup_cons.mp nd).1 (List.of_mem_zip hv).1, if_neg hk]
    simp
  | p :: P, w :: vs, i + 1, m, nd, h1, h2, hk => by
    show bindC kindOf ((p, w) :: P.zip vs) m x = _
    unfold bindC
    exact bindC_get (i := i) (List.nodup_cons.mp nd).2 (by simpa using h1) (by simpa using h2) hk

/-- the names' values at the entry -/
def start (N : List Str) (vs : List V) : St := vs.map some ++ List.replicate (N.length - vs.length) none

/-- the context of a def's body, at its entry; an exception leaves the frame, then lies as CX says -/
def cxOf (CX : CXT) (P : Program) (w : World) (K : PySem.W.Frag) (mg : Str → Option Value) (base : Heap) (N : List Str) (qual : Str) (scope : Scope) (f : Addr) (cd : Value) (A : Around) (outer : List Env) (s : Shared) (H : Hp) (E : XK) : Cx where
  prog := P
  w := w
  K := K
  mg := mg
  base := base
  A := A.deeper (envOfC qual scope s.heap.objs.size f cd)
  N := N
  s₀ := s
  H₀ := H
  env := envOfC qual scope s.heap.objs.size f cd
  outer := outer
  stack := envOfC qual scope s.heap.objs.size f cd :: outer
  ex := []
  calm := true
  fn := fun _ => true
  pn := []
  xe := fun e s' => wpAny (model P w) (A.deeper (envOfC qual scope s.heap.objs.size f cd)) (leaving (envOfC qual scope s.heap.objs.size f cd) e) (fun _ s'' => CX outer H s E e s'') (fun e' s'' => CX outer H s E e' s'') s'

theorem cell_has {sc : Scope} {n : Nat} {x : Str} (h : sc.names.lookup x = some .cell) : ∃ c, (cellsFrom n sc.names []).lookup x = some c := by
  have q := PySem.W.cellsFrom_some sc.names n [] (.inl h)
  exact Option.isSome_iff_exists.mp q

theorem inv_start {CX : CXT} {P : Program} {w : World} {K : PySem.W.Frag} {mg : Str → Option Value} {base : Heap} {N ps : List Str} {qual : Str} {scope : Scope} {f : Addr} {cd : Value} {A : Around} {outer : List Env} {s s1 : Shared} {H : Hp} {E : XK} {us : List Value} {vs : List V}
    (S : FnScope N ps scope) (hd : A.handled = none) (e0 : Env0 P w K mg base A outer s H) (hl : vs.length = ps.length) (r : Vals vs us)
    (x : InCallC s s.heap.objs.size (bindL (envOfC qual scope s.heap.objs.size f cd).kindOf (ps.zip us) fun _ => none) (cellsFrom (s.heap.objs.size + 1) scope.names []) (bindC (envOfC qual scope s.heap.objs.size f cd).kindOf (ps.zip us) fun _ => none) s1) :
    Inv (cxOf CX P w K mg base N qual scope f cd A outer s H E) [] (start N vs) H s1 := by
  have hpl : ps.length ≤ N.length := by have := congrArg List.length S.pre; rw [List.length_take] at this; omega
  obtain ⟨h1, tk, rfl, hk⟩ := x.done
  have noA : ∀ b : Addr, b ∉ (cxOf CX P w K mg base N qual scope f cd A outer s H E).ex := fun b z => absurd (show b ∈ ([] : List Addr) from z) (by simp)
  refine ⟨⟨e0.mod, S.kind, rfl, rfl, Nat.le_refl _, fun y z c h1 h2 => ?_, fun y hy => ?_, fun y c _ h => ?_, fun _ => hd, Around.frames_deeper e0.frames, .inr ⟨rfl, rfl⟩, fun b z => absurd z (noA b), e0.bs, e0.bsz, fun b _ _ => noA b, fun b z => absurd z (noA b), e0.funs, e0.frf⟩,
    rfl, e0.bare, Un.kept hk, ⟨_, x.toInCall.ns, fun i y v h1 h2 h3 => ?_⟩, fun y c h => ⟨_, x.cell y c h⟩, e0.hok.fresh (Nat.le_refl _), fun y c h => ?_, fun p hp => absurd (show p ∈ ([] : List (Addr × Obj)) from hp) (by simp), e0.hok.kept hk, ?_⟩
  · exact name_of_addr x.apart (PySem.mem_of_lookup h1) (PySem.mem_of_lookup h2)
  · have hy : scope.names.lookup y = some .cell ∨ scope.names.lookup y = some .free := hy
    rcases hy with hy | hy
    · exact cell_has hy
    · exact absurd rfl (S.nofree _ (PySem.mem_of_lookup hy))
  · exact Nat.le_of_lt (x.above y c (PySem.mem_of_lookup h))
  · have hi : i < vs.length := by
      unfold start at h2
      by_cases hi : i < vs.length
      · exact hi
      · rw [List.getElem?_append_right (by simpa using hi)] at h2
        rw [List.getElem?_replicate] at h2
        split at h2 <;> cases h2
    have ha : vs[i]? = some v := by
      unfold start at h2
      rw [List.getElem?_append_left (by simpa using hi), List.getElem?_map] at h2
      cases e : vs[i]? with
      | none => rw [e] at h2; cases h2
      | some a => rw [e] at h2; cases h2; rfl
    obtain ⟨u, hu, rv⟩ := r.get ha
    have hp : ps[i]? = some y := by
      rw [← S.pre, List.getElem?_take_of_lt (by omega)]; exact h1
    have ndP : ps.Nodup := by rw [← S.pre]; exact S.nd.sublist (List.take_sublist _ _)
    refine ⟨u, rv, ?_⟩
    rcases S.par y (List.mem_of_getElem? hp) with k | k
    · exact .inl ⟨k, bindL_get ndP hp hu k⟩
    · obtain ⟨c, e⟩ := cell_has (n := s.heap.objs.size + 1) k
      refine .inr ⟨.inl k, c, e, ?_⟩
      have q := x.cell y c e
      rw [bindC_get ndP hp hu (by show scope.names.lookup y ≠ _; rw [k]; decide)] at q
      exact q
  · exact e0.hok.fresh (Nat.le_of_lt (x.above y c (PySem.mem_of_lookup h)))
  · unfold start
    show _ = N.length
    rw [List.length_append, List.length_map, List.length_replicate]
    omega

/-- THE RULE: a def (or a method) of the text, by its body. The body's reading t is chosen for each entry; it is run at the parameters' values -/
theorem fn_of {CX : CXT} {P : Program} {w : World} {K : PySem.W.Frag} {mg : Str → Option Value} {base : Heap} {k : Nat} {f : Addr} {name qual : Str} {params : Arguments} {body : List Stmt} {scope : Scope} {dV kV doc pm cdv ct oc : Value} {an od : Option Addr}
    {osl : Array (Option Value)} {N ps : List Str} {sp : Sp} (lk : K.lookup f = some ⟨oc, od, .func (PySem.W.fnOf name qual params body scope dV kV doc pm an cdv ct), osl⟩) (hcd : PySem.W.codeIn K cdv qual = true) (S : FnScope N ps scope)
    (len : ∀ vs H Q E, sp vs H Q E → vs.length = ps.length)
    (hbody : ∀ (A : Around) (outer : List Env) (s : Shared) (H : Hp) (vs : List V) (Q : VK) (E : XK), Room k (A.deeper (envOfC qual scope s.heap.objs.size f cdv)) → sp vs H Q E →
      ∃ t, PSs (cxOf CX P w K mg base N qual scope f cdv A outer s H E) body t ∧ t { nx := fun _ H' => Q .non H', rt := Q } (start N vs) H) :
    FnOk P w K mg base CX (k + 1) f (PySem.W.fnOf name qual params body scope dV kV doc pm an cdv ct) ps sp := by
  refine ⟨len, fun A outer s H args us vs Q E hr e0 hb r hsp => ?_⟩
  have hl := len _ _ _ _ hsp
  have KX : K.In s.heap := e0.mod.kin.keeps fun b o e => (e0.bs b o e).1
  have lim : s.heap.NoLimit := e0.mod.nolimit.keeps fun b o e => (e0.bs b o e).1
  have hkind : ∀ y ∈ ps.zip us, scope.names.lookup y.1 = some .local ∨ (scope.names.lookup y.1 = some .cell ∧ ((cellsFrom (s.heap.objs.size + 1) scope.names []).lookup y.1).isSome = true) := fun ⟨n, v⟩ hy => by
    rcases S.par n (List.of_mem_zip hy).1 with q | q
    · exact .inl q
    · exact .inr ⟨q, PySem.W.cellsFrom_some _ _ _ (.inl q)⟩
  refine codeAny_call_function hr.depth (KX _ _ lk) rfl S.co S.gen rfl (PySem.W.codeRec_of KX hcd) (hb _ _ _ _ ?_)
  refine wpAny_newFunctionEnv_cells S.kind hkind fun env he s1 x => ?_
  subst he
  refine ⟨lim.keeps x.toInCall.keep, codeAny_func ?_⟩
  obtain ⟨t, ht, hq⟩ := hbody A outer s H vs Q E (hr.deeper _) hsp
  have I : Inv (cxOf CX P w K mg base N qual scope f cdv A outer s H E) [] (start N vs) H s1 := inv_start S hr.hd e0 hl r x
  refine wpAny_mono (ht [] s1 (start N vs) H _ I hq) (fun fl s' hs => ?_) fun e s' hs => hs
  have fin : ∀ {σ' : St} {H' : Hp} {v : V} {u : Value}, Inv (cxOf CX P w K mg base N qual scope f cdv A outer s H E) [] σ' H' s' → RelV v u → Q v H' → CE outer P w H s Q u s' :=
    fun {σ' H' v u} J rv q => ⟨v, H', J.os, J.bare, J.base, J.hok, rv, q⟩
  cases fl with
  | ret u =>
    obtain ⟨v, σ', H', J, rv, q⟩ := hs
    exact fin J rv q
  | next =>
    obtain ⟨σ', H', J, q⟩ := hs
    exact fin (v := V.non) (u := Value.none) J rfl q
  | brk =>
    obtain ⟨_, _, _, q⟩ := hs
    exact False.elim q
  | cont =>
    obtain ⟨_, _, _, q⟩ := hs
    exact False.elim q
end L2

namespace L2
open PySem PySem.Spec PyProof.Rows
section
variable {X : Cx} {x : Str} {p pos : Pos} {e : Expr} {es : List Expr} {t : TA} {id T : String} {r : List V → Hp → VK → Prop}

def tCB (r : List V → Hp → VK → Prop) (t : TA) : TE := fun σ H Q => t σ H fun vs H1 => r vs H1 Q
/-- f(e, ..), f a built-in function -/
theorem pe_callB (hc : CallR X (.builtin id) r) (hg : Gl X x) (hm : X.mg x = none) (hv : bootBuiltins x = some (.builtin id)) (ha : PA X (e :: es) t) (hn : x ≠ "__name__" := by decide) (hdb : (x == ("__debug__" : Str)) = false := by decide)
    (he : starEach (e :: es) X.env = (false, eval e X.env) :: starEach es X.env := by rfl) (hpl : (backTo pos (starEach es X.env)).any (·.1) = false := by rfl) : PE X (.Call (.Name x p) (e :: es) [] pos) (tCB r t) := by
  intro pins s σ H Q I h
  refine wpAny_Call_Name_kw (ld_blt I hg hm hv ?_ hn hdb)
  exact PyProof.Rows.callWith_builtin1 (thn (ha pos pins s σ H _ I h) fun us s1 ⟨vs, H1, I1, r1, q1⟩ => hc pins s1 σ H1 vs us Q I1 r1 q1) he hpl
/-- T(e, ..), T a built-in type -/
theorem pe_callTy (hc : CallR X (.type T) r) (hg : Gl X x) (hm : X.mg x = none) (hv : bootBuiltins x = some (.type T)) (ha : PA X (e :: es) t) (hn : x ≠ "__name__" := by decide) (hdb : (x == ("__debug__" : Str)) = false := by decide)
    (he : starEach (e :: es) X.env = (false, eval e X.env) :: starEach es X.env := by rfl) (hpl : (backTo pos (starEach es X.env)).any (·.1) = false := by rfl) : PE X (.Call (.Name x p) (e :: es) [] pos) (tCB r t) := by
  intro pins s σ H Q I h
  refine wpAny_Call_Name_kw (ld_blt I hg hm hv ?_ hn hdb)
  exact PyProof.Rows.callWith_type1 (thn (ha pos pins s σ H _ I h) fun us s1 ⟨vs, H1, I1, r1, q1⟩ => hc pins s1 σ H1 vs us Q I1 r1 q1) he hpl
end
end L2

namespace HT
open PySem PyProof.Rows

section
open PySem.SeqAt
open PySem.AutoSeq1 (wpAny_loadPart')
open PySem.MeetsSeq PySem.MeetsSeq2 PySem.MeetsSeq3

end

section
variable {prog : Program} {w : World} {A : Around} {E : Value → Shared → Prop} {s : Shared}

/-! ### t[a:b], not the whole -/
/-- a slice's bound as a place among n (d where it is left out) -/
def sIx (n d : Nat) : Option Int → Nat
  | none => d
  | some v => if v < 0 then (v + (n : Int)).toNat else min v.toNat n
theorem sIx_nat (n d k : Nat) : sIx n d (some (k : Int)) = min k n := by
  show (if (k : Int) < 0 then ((k : Int) + (n : Int)).toNat else min (k : Int).toNat n) = min k n
  rw [if_neg (by omega), Int.toNat_natCast]

end
end HT

namespace L2
open PySem PySem.Spec PyProof.Rows

/-! ### the parts of a slice -/
abbrev TO := St → Hp → (Option Int → Hp → Prop) → Prop
/-- a slice's part (left out, or an int) -/
def PO (X : Cx) (e : Option Expr) (t : TO) : Prop :=
  ∀ (pins : List (Addr × Obj)) (s : Shared) (σ : St) (H : Hp) (Q : Option Int → Hp → Prop), Inv X pins σ H s → t σ H Q →
    wpAny (model X.prog X.w) X.A (evalPart e X.env) (fun u s' => ∃ o H', Inv X pins σ H' s' ∧ IsPart u o ∧ Q o H') X.xe s
def tNoPart : TO := fun _ H Q => Q none H
def tPart (t : TE) : TO := fun σ H Q => t σ H fun x H1 => ∃ i, x = .int i ∧ Q (some i) H1

section
variable {X : Cx} {e : Expr} {te : TE} {lo hi : Option Expr} {tl th : TO} {pos p2 : Pos}

theorem po_none : PO X none tNoPart := by
  intro pins s σ H Q I h
  rw [evalPart_none]
  exact wpAny_pure ⟨none, H, I, .none, h⟩
theorem po_some (h : PE X e te) : PO X (some e) (tPart te) := by
  intro pins s σ H Q I hw
  rw [evalPart_some]
  refine thn (h pins s σ H _ I hw) fun u s1 ⟨x, H1, I1, r1, q1⟩ => ?_
  obtain ⟨i, rfl, q⟩ := q1
  obtain ⟨t, rfl⟩ := r1
  exact ⟨some i, H1, I1, .int i t, q⟩

/-- what a slice of a value is, by values: the slice object stands at sl -/
def SlR (X : Cx) (r : V → Option Int → Option Int → Hp → VK → Prop) : Prop :=
  ∀ (pins : List (Addr × Obj)) (s : Shared) (σ : St) (H : Hp) (x : V) (v vl vu : Value) (lo hi : Option Int) (sl : Addr) (Q : VK), Inv X pins σ H s → RelV x v → s.heap.IsSliceOf sl vl vu .none → IsPart vl lo → IsPart vu hi → r x lo hi H Q →
    ∃ T id, typeLookup (.type T) "__getitem__" = pure (some (.builtin id)) ∧ s.TypeIs v T ∧ wpAny (model X.prog X.w) X.A (getItem v (.ref sl)) (EP X pins σ Q) X.xe s
def tSl (r : V → Option Int → Option Int → Hp → VK → Prop) (te : TE) (tl th : TO) : TE := fun σ H Q => te σ H fun x H1 => tl σ H1 fun l H2 => th σ H2 fun u H3 => r x l u H3 Q
/-- a[lo:hi], any a -/
theorem pe_slice {r : V → Option Int → Option Int → Hp → VK → Prop} (hr : SlR X r) (he : PE X e te) (hl : PO X lo tl) (hu : PO X hi th) : PE X (.Subscript e (.Slice lo hi none p2) pos) (tSl r te tl th) := by
  intro pins s σ H Q I h
  refine Subscript_ (thn (he pins s σ H _ I h) fun v s1 ⟨x, H1, I1, r1, q1⟩ => ?_)
  refine wpAny_Slice (thn (hl pins s1 σ H1 _ I1 q1) fun vl s2 ⟨l, H2, I2, pl, q2⟩ => thn (hu pins s2 σ H2 _ I2 q2) fun vu s3 ⟨u, H3, I3, pu, q3⟩ => ?_)
  rw [evalPart_none]
  refine wpAny_pure ?_
  have I4 : Inv X pins σ H3 { s3 with heap := s3.heap.push { cls := .type "slice", data := .fields #[vl, vu, .none] } } := I3.kept (t' := s3.toks) fun b ob q => Heap.get?_push_of_some _ q
  obtain ⟨T, id, hT, ht, hg⟩ := hr pins { s3 with heap := s3.heap.push { cls := .type "slice", data := .fields #[vl, vu, .none] } } σ H3 x v vl vu l u s3.heap.objs.size Q I4 r1 (Heap.IsSliceOf.new ..) pl pu q3
  show wpAny (model X.prog X.w) X.A (subscriptTail e (.Slice lo hi none p2) v (.ref s3.heap.objs.size)) (EP X pins σ Q) X.xe { s3 with heap := s3.heap.push { cls := .type "slice", data := .fields #[vl, vu, .none] } }
  exact tail_any (ops := [.ref s3.heap.objs.size, v]) ht hT hg (by with_unfolding_all rfl)

/-- the items of xs[lo:hi] -/
def cutV (xs : List V) (lo hi : Option Int) : List V := (xs.drop (HT.sIx xs.length 0 lo)).take (HT.sIx xs.length xs.length hi - HT.sIx xs.length 0 lo)
theorem cutV_length (xs : List V) (lo hi : Option Int) : (cutV xs lo hi).length ≤ xs.length := by
  unfold cutV
  rw [List.length_take, List.length_drop]
  omega

/-! ### t < u, t + u -/
end
end L2

namespace L2
open PySem PySem.Spec PyProof.Rows

/-! ### places -/
/-- the place that an index of any sign means -/
def ixN (n : Nat) (i : Int) : Option Nat := if 0 ≤ i then (if i < n then some i.toNat else none) else if -(n : Int) ≤ i then some (i + n).toNat else none
def atI {α : Type} (xs : List α) (i : Int) : Option α := (ixN xs.length i).bind fun j => xs[j]?
theorem ixN_seq {n : Nat} {i : Int} {j : Nat} (h : ixN n i = some j) : seqIndex? i n = some j ∧ j < n ∧ -(n : Int) ≤ i ∧ i < n := by
  unfold ixN at h
  by_cases h0 : 0 ≤ i
  · rw [if_pos h0] at h
    by_cases h1 : i < n
    · rw [if_pos h1] at h
      have e : i.toNat = j := Option.some.inj h
      exact ⟨by rw [seqIndex_of h0 h1, e], by omega, by omega, h1⟩
    · rw [if_neg h1] at h; cases h
  · rw [if_neg h0] at h
    by_cases h1 : -(n : Int) ≤ i
    · rw [if_pos h1] at h
      have e : (i + n).toNat = j := Option.some.inj h
      exact ⟨by rw [seqIndex_neg (by omega) h1, e], by omega, h1, by omega⟩
    · rw [if_neg h1] at h; cases h
theorem atI_get {α : Type} {xs : List α} {i : Int} {v : α} (h : atI xs i = some v) : ∃ j, seqIndex? i xs.length = some j ∧ xs[j]? = some v ∧ j < xs.length ∧ -(xs.length : Int) ≤ i ∧ i < xs.length := by
  unfold atI at h
  cases e : ixN xs.length i with
  | none => rw [e] at h; cases h
  | some j =>
    rw [e] at h
    obtain ⟨h1, h2, h3, h4⟩ := ixN_seq e
    exact ⟨j, h1, h, h2, h3, h4⟩
theorem atI_nat {α : Type} {xs : List α} {j : Nat} {v : α} (h : xs[j]? = some v) : atI xs (j : Int) = some v := by
  have hj : j < xs.length := (List.getElem?_eq_some_iff.mp h).1
  have e : ixN xs.length (j : Int) = some j := by
    unfold ixN
    rw [if_pos (by omega), if_pos (by omega)]; simp
  unfold atI; rw [e]; exact h

/-! ### what may be subscripted -/
/-- what stands as an index of a plain subscript -/
def PlainIx (b : Expr) : Prop := ∀ o i, subscripted b false o i = operate [o, i] (getItem o i)
/-- a subscript by values -/
def IxR (X : Cx) (r : R2) : Prop :=
  ∀ (value slice : Expr) (pins : List (Addr × Obj)) (s : Shared) (σ : St) (H : Hp) (x y : V) (v u : Value) (Q : VK), Inv X pins σ H s → RelV x v → RelV y u → r x y H Q →
    subscripted slice false v u = operate [v, u] (getItem v u) → wpAny (model X.prog X.w) X.A (subscriptTail value slice v u) (EP X pins σ Q) X.xe s
/-- a call of a builtin's method by values: the receiver, the arguments -/
def MtR (X : Cx) (id : String) (r : V → List V → Hp → VK → Prop) : Prop :=
  ∀ (pins : List (Addr × Obj)) (s : Shared) (σ : St) (H : Hp) (x : V) (xs : List V) (v : Value) (us : List Value) (Q : VK), Inv X pins σ H s → RelV x v → Vals xs us → r x xs H Q →
    wpAny (model X.prog X.w) X.A (call (.builtin id) (v :: us)) (EP X pins σ Q) X.xe s
section
variable {X : Cx} {a b : Expr} {ta tb : TE} {pos : Pos}
/-- a[b] -/
theorem pe_ix {r : R2} (hr : IxR X r) (ha : PE X a ta) (hb : PE X b tb) (hs : PlainIx b) : PE X (.Subscript a b pos) (tOp r ta tb) := by
  intro pins s σ H Q I h
  exact Subscript_ (binT ha hb I h fun v u s2 x y H2 I2 rx ry q => hr a b pins s2 σ H2 x y v u Q I2 rx ry q (hs _ _))

def rIxL (K : PySem.W.Frag) : R2 := fun x y H Q => ∃ p xs i v, x = .ref p ∧ y = .int i ∧ SqL K H p xs ∧ atI xs i = some v ∧ Q v H
def rIxT (K : PySem.W.Frag) : R2 := fun x y H Q => ∃ p xs i v, x = .ref p ∧ y = .int i ∧ SqT K H p xs ∧ atI xs i = some v ∧ Q v H
def rIxS : R2 := fun x y H Q => ∃ z i c, x = .str z ∧ y = .int i ∧ z.length ≤ sizeLine ∧ atI z.cps.toList i = some c ∧ Q (.str ⟨#[c]⟩) H
theorem ix_list : IxR X (rIxL X.K) := by
  intro value slice pins s σ H x y v u Q I rx ry h hs
  obtain ⟨p, xs, i, z, rfl, rfl, hq, he, q⟩ := h
  cases rx
  obtain ⟨t, rfl⟩ := ry
  obtain ⟨its, r, pl, hz⟩ := I.list hq
  obtain ⟨j, h1, h2, h3, h4, h5⟩ := atI_get he
  obtain ⟨w, ew, rw'⟩ := r.get h2
  have hl := r.length
  have hn := line63
  have fin : EP X pins σ Q w s := ⟨z, H, I, rw', q⟩
  by_cases h0 : 0 ≤ i
  · have hj : i.toNat = j := by
      rw [seqIndex_of h0 h5] at h1
      exact Option.some.inj h1
    exact item_listR pl.isList h0 (by omega) (by rw [hj]; simpa using ew) fin hs
  · have hj : (i + (its.toArray.size : Int)).toNat = j := by
      rw [seqIndex_neg (by omega) h4] at h1
      rw [List.size_toArray, ← hl]
      exact Option.some.inj h1
    exact subscriptTail_builtinR (x := w) pl.isList.typeIs slot_list_getitem.lookup
      (wpAny_getItem_list_neg (Q := fun r s' => r = w ∧ EP X pins σ Q r s') pl.isList (by omega) (by rw [List.size_toArray] <;> omega) (by omega) (by rw [hj]; simpa using ew) ⟨rfl, fin⟩) hs
theorem ix_tup : IxR X (rIxT X.K) := by
  intro value slice pins s σ H x y v u Q I rx ry h hs
  obtain ⟨p, xs, i, z, rfl, rfl, hq, he, q⟩ := h
  cases rx
  obtain ⟨t, rfl⟩ := ry
  obtain ⟨its, r, pl, hz⟩ := I.tuple hq
  obtain ⟨j, h1, h2, h3, h4, h5⟩ := atI_get he
  obtain ⟨w, ew, rw'⟩ := r.get h2
  have hl := r.length
  have hn := line63
  have fin : EP X pins σ Q w s := ⟨z, H, I, rw', q⟩
  exact subscriptTail_builtinR (x := w) pl.typeIs slot_tuple_getitem.lookup
    (getItem_tuple (j := j) (Q := fun r s' => r = w ∧ EP X pins σ Q r s') pl (by omega) (by omega) (by rw [List.size_toArray, ← hl]; exact h1) (by simpa using ew) ⟨rfl, fin⟩) hs
theorem ix_str : IxR X rIxS := by
  intro value slice pins s σ H x y v u Q I rx ry h hs
  obtain ⟨z, i, c, rfl, rfl, hz, he, q⟩ := h
  obtain ⟨t, rfl⟩ := rx
  obtain ⟨t', rfl⟩ := ry
  obtain ⟨j, h1, h2, h3, h4, h5⟩ := atI_get he
  have hl : z.cps.toList.length = z.length := by simp [Str.length]
  rw [hl] at h1 h4 h5
  have hn := line63
  exact tail_any (typeIs_str s z t) slot_str_getitem.lookup (getItem_str (c := c) (by
    have e1 : decide (i < -(2 ^ 63 : Int)) = false := decide_eq_false (by omega)
    have e2 : decide (i ≥ 2 ^ 63) = false := decide_eq_false (by omega)
    rw [e1, e2, Bool.or_false]) (by rw [h1]; simpa using h2) ⟨.str ⟨#[c]⟩, H, I.tok _, ⟨_, rfl⟩, q⟩) hs

/-! ### xs[i] = v, any sign -/
/-- the list's object behind a store -/
theorem mapSeq_set (its : List Value) (n j : Nat) (u : Value) : Obj.mapSeq (·.setIfInBounds j u) { cls := .type "list", data := .seq its.toArray n } = { cls := .type "list", data := .seq (its.set j u).toArray n } := by
  simp [Obj.mapSeq]
theorem Inv.lst {pins : List (Addr × Obj)} {σ : St} {H : Hp} {s : Shared} {p : Addr} {xs : List V} (I : Inv X pins σ H s) (h : H p = some (.lst xs)) :
    ∃ (its : List Value) (n : Nat), Vals xs its ∧ s.heap.get? p = some { cls := .type "list", data := .seq its.toArray n } ∧ xs.length ≤ sizeLine := by
  obtain ⟨z, its, n, r, e⟩ := I.hok p _ h
  exact ⟨its, n, r, e, z⟩
/-- the list at p is written by an update of its object -/
theorem Inv.lstUpd {pins : List (Addr × Obj)} {σ : St} {H : Hp} {s : Shared} {p : Addr} {xs ys : List V} {its its' : List Value} {n n' : Nat} {f : Obj → Obj} (I : Inv X pins σ H s) (h : H p = some (.lst xs))
    (ho : s.heap.get? p = some { cls := .type "list", data := .seq its.toArray n }) (hf : f { cls := .type "list", data := .seq its.toArray n } = { cls := .type "list", data := .seq its'.toArray n' }) (r : Vals ys its') (hz : ys.length ≤ sizeLine) (t : Nat) :
    Inv X pins σ (upd H p (.lst ys)) { s with heap := s.heap.update p f, toks := t } := by
  have e : (s.heap.update p f).get? p = some { cls := .type "list", data := .seq its'.toArray n' } := by
    rw [Heap.get?_update_self f ho (by rw [hf] <;> rfl), hf]
  refine I.write (x := p) (e := p) (by rw [h]; trivial) (.inl rfl) (fun b u hb q => (Heap.get?_update_other _ _ (Ne.symm hb)).trans q) ⟨_, e⟩ ?_
  exact ⟨hz, its', n', r, e⟩
def rSetL : V → V → V → Hp → (Hp → Prop) → Prop := fun o i v H Q => ∃ p xs k j, o = .ref p ∧ i = .int k ∧ H p = some (.lst xs) ∧ ixN xs.length k = some j ∧ Q (upd H p (.lst (xs.set j v)))
theorem set_list : PSet X rSetL := by
  intro pins s σ H o i v ov iv u Q I ro ri rv h
  obtain ⟨p, xs, k, j, rfl, rfl, hp, hj, q⟩ := h
  cases ro
  obtain ⟨t, rfl⟩ := ri
  obtain ⟨its, n, r, ho, hz⟩ := I.lst hp
  obtain ⟨h1, h2, h3, h4⟩ := ixN_seq hj
  have hl := r.length
  have hn := line63
  have I' : Inv X pins σ (upd H p (.lst (xs.set j v))) { s with heap := s.heap.update p (Obj.mapSeq (·.setIfInBounds j u)) } :=
    I.lstUpd hp ho (mapSeq_set its n j u) (r.set rv j) (by rw [List.length_set]; exact hz) s.toks
  by_cases h0 : 0 ≤ k
  · have hk : k.toNat = j := by
      rw [seqIndex_of h0 h4] at h1
      exact Option.some.inj h1
    exact PySem.W.ki_setAt ho h0 (by omega) (by rw [List.size_toArray, ← hl]; exact h4) (by rw [hk]; exact ⟨_, I', q⟩)
  · have hk : (k + (its.toArray.size : Int)).toNat = j := by
      rw [seqIndex_neg (by omega) h3] at h1
      rw [List.size_toArray, ← hl]
      exact Option.some.inj h1
    exact PySem.W.ki_setBack ho (by omega) (by rw [List.size_toArray, ← hl]; exact h3) (by omega) (by rw [hk]; exact ⟨_, I', q⟩)

/-! ### slices -/
theorem slice_bounds (lo hi : Option Int) (n : Nat) : (sliceBounds lo hi none n).1 = ((HT.sIx n 0 lo : Nat) : Int) ∧ (sliceBounds lo hi none n).2.1 = ((HT.sIx n n hi : Nat) : Int) ∧ (sliceBounds lo hi none n).2.2 = 1 := by
  refine ⟨?_, ?_, rfl⟩
  · cases lo with
    | none => simp [sliceBounds, HT.sIx]
    | some i =>
      simp only [sliceBounds, HT.sIx, Option.getD_none, show (1 : Int) > 0 by decide, if_true]
      by_cases h : i < 0
      · simp only [h, if_true] <;> omega
      · simp only [h, if_false] <;> omega
  · cases hi with
    | none => simp [sliceBounds, HT.sIx]
    | some i =>
      simp only [sliceBounds, HT.sIx, Option.getD_none, show (1 : Int) > 0 by decide, if_true]
      by_cases h : i < 0
      · simp only [h, if_true] <;> omega
      · simp only [h, if_false] <;> omega
theorem slicePick_cut (its : List Value) (lo hi : Option Int) : slicePick its.toArray lo hi none = ((its.drop (HT.sIx its.length 0 lo)).take (HT.sIx its.length its.length hi - HT.sIx its.length 0 lo)).toArray := by
  obtain ⟨h1, h2, h3⟩ := slice_bounds lo hi its.toArray.size
  unfold slicePick
  rw [h1, h2, h3]
  simp only [sliceRange_one, pick_run, List.size_toArray] <;> rfl
/-- xs[lo:hi] of a list: a new list -/
def rSlL (K : PySem.W.Frag) : V → Option Int → Option Int → Hp → VK → Prop := fun x lo hi H Q => ∃ a xs, x = .ref a ∧ SqL K H a xs ∧ ∀ p, H p = none → Q (.ref p) (upd H p (.lst (cutV xs lo hi)))
theorem sl_list : SlR X (rSlL X.K) := by
  intro pins s σ H x v vl vu lo hi sl Q I rx hs pl pu h
  obtain ⟨a, xs, rfl, hx, q⟩ := h
  cases rx
  obtain ⟨its, r, ht, hz⟩ := I.list hx
  have hlen := r.length
  refine ⟨"list", _, slot_list_getitem.lookup, ht.isList.typeIs, ?_⟩
  refine wpAny_getItem_list_slice ht.isList hs pl pu .none (by simp) ?_ (by rw [List.size_toArray] <;> omega)
  rw [slicePick_cut, ← hlen]
  refine ⟨.ref s.heap.objs.size, _, I.laid (t' := s.toks) (o := .lst (cutV xs lo hi)) (fun b ob q => Heap.get?_push_of_some _ q) (Nat.le_refl _) ?_, rfl, q _ (I.hok.fresh (Nat.le_refl _))⟩
  exact ⟨Nat.le_trans (cutV_length xs lo hi) hz, _, 0, (r.drop (HT.sIx xs.length 0 lo)).take (HT.sIx xs.length xs.length hi - HT.sIx xs.length 0 lo), Heap.get?_push_size _ rfl⟩

/-! ### in, not in: flat items -/

/-! ### len, list(x), tuple(x) of any list or tuple that is read -/
theorem call_list_of : CallR X (.type "list") (fun xs H Q => ∃ p ys, xs = [.ref p] ∧ (SqL X.K H p ys ∨ SqT X.K H p ys) ∧ ∀ l, H l = none → Q (.ref l) (upd H l (.lst ys))) := by
  intro pins s σ H xs us Q I r h
  obtain ⟨p, ys, rfl, hq, q⟩ := h
  obtain ⟨u, rfl, rx⟩ := vals1 r
  cases rx
  have fin : ∀ (its : List Value), Vals ys its → ys.length ≤ sizeLine → ∀ (h' : Heap) (c' : Nat), (∀ b o', s.heap.get? b = some o' → h'.get? b = some o') →
      h'.get? s.heap.objs.size = some { cls := .type "list", dict := none, data := .seq its.toArray c', slots := #[] } → EP X pins σ Q (.ref s.heap.objs.size) { s with heap := h' } := fun its r' hz h' c' kp e =>
    ⟨.ref s.heap.objs.size, _, I.laid (t' := s.toks) kp (Nat.le_refl _) (show ObjOk X.prog X.w _ h' _ (.lst ys) from ⟨hz, its, c', r', e⟩), rfl, q _ (I.hok.fresh (Nat.le_refl _))⟩
  rcases hq with hq | hq
  · obtain ⟨its, r', pl, hz⟩ := I.list hq
    have hlen := r'.length
    obtain ⟨o, ho, hc, n, hd⟩ := pl.isList
    exact call_list_seq p (.inl rfl) ho hc hd (fun h' c' kp e => fin its r' hz h' c' kp e) (by simp only [List.size_toArray] <;> omega)
  · obtain ⟨its, r', pl, hz⟩ := I.tuple hq
    have hlen := r'.length
    obtain ⟨o, ho, hc, n, hd⟩ := pl
    exact call_list_seq p (.inr rfl) ho hc hd (fun h' c' kp e => fin its r' hz h' c' kp e) (by simp only [List.size_toArray] <;> omega)

/-! ### the call of a builtin's method: o.m(..) -/
/-- the value is of that builtin type -/
def tyV (K : PySem.W.Frag) (T : String) (x : V) (H : Hp) : Prop := match x with
  | .str _ => T = "str"
  | .int _ => T = "int"
  | .ref p => (T = "list" ∧ ∃ xs, SqL K H p xs) ∨ (T = "tuple" ∧ ∃ o, K.lookup p = some o ∧ o.cls = .type "tuple" ∧ o.dict = none) ∨
      (T = "dict" ∧ ((∃ kvs, H p = some (.dK kvs)) ∨ ∃ kvs, H p = some (.dT kvs))) ∨ (T = "set" ∧ ∃ S n, H p = some (.set S n))
  | _ => False
theorem tyV_is {pins : List (Addr × Obj)} {σ : St} {H : Hp} {s : Shared} {T : String} {x : V} {v : Value} (I : Inv X pins σ H s) (r : RelV x v) (ty : tyV X.K T x H) :
    s.TypeIs v T ∧ ∀ a, v = .ref a → ∃ ob, s.heap.get? a = some ob ∧ ob.dict = none := by
  cases x with
  | str z =>
    obtain ⟨t, rfl⟩ := r
    cases (show T = "str" from ty)
    exact ⟨typeIs_str s z t, fun _ e => nomatch e⟩
  | int i =>
    obtain ⟨t, rfl⟩ := r
    cases (show T = "int" from ty)
    exact ⟨typeIs_int s i t, fun _ e => nomatch e⟩
  | ref p =>
    cases r
    rcases ty with ⟨rfl, xs, hq⟩ | ⟨rfl, o, hk, hc, hd⟩ | ⟨rfl, hk⟩ | ⟨rfl, S, n, hk⟩
    · obtain ⟨its, _, pl, _⟩ := I.list hq
      refine ⟨pl.isList.typeIs, fun a e => ?_⟩
      cases e
      obtain ⟨o, n, e, c, hd, _⟩ := pl
      exact ⟨o, e, hd⟩
    · refine ⟨⟨o, I.kIn p o hk, hc⟩, fun a e => ?_⟩
      cases e
      exact ⟨o, I.kIn _ o hk, hd⟩
    · have z : ∃ o, s.heap.get? p = some o ∧ o.ExactDict := by
        rcases hk with ⟨kvs, hk⟩ | ⟨kvs, hk⟩
        · obtain ⟨_, _, _, _, o, _, _, e, ex, _⟩ := I.hok p _ hk
          exact ⟨o, e, ex⟩
        · obtain ⟨_, _, _, _, o, _, _, e, ex, _⟩ := I.hok p _ hk
          exact ⟨o, e, ex⟩
      obtain ⟨o, e, ex⟩ := z
      refine ⟨⟨o, e, ex.1⟩, fun a e2 => ?_⟩
      cases e2
      exact ⟨o, e, ex.2.1⟩
    · obtain ⟨o, _, _, _, e, ex, _⟩ := I.hok p _ hk
      refine ⟨⟨o, e, ex.1⟩, fun a e2 => ?_⟩
      cases e2
      exact ⟨o, e, ex.2.1⟩
  | _ => exact False.elim ty
def tBM (K : PySem.W.Frag) (T : String) (r : V → List V → Hp → VK → Prop) (to : TE) (t : TA) : TE := fun σ H Q => to σ H fun x H1 => tyV K T x H1 ∧ t σ H1 fun xs H2 => r x xs H2 Q
variable {o e : Expr} {es : List Expr} {to : TE} {t : TA} {name : Str} {apos cpos : Pos} {T id : String} {r : V → List V → Hp → VK → Prop}
theorem pe_bm (pa : PlainAttrs T) (slot : Slot T name id) (hty : typeOf (.builtin id) = pure (.type "method_descriptor")) (hm : MtR X id r) (ho : PE X o to) (ha : PA X (e :: es) t)
    (hbase : attributeBase o name X.env (eval o X.env) = eval o X.env := by rfl)
    (hfew : ((backTo cpos (starEach (e :: es) X.env)).all (fun x => !x.1) && (backToKw cpos (keywordEach [] X.env)).all (fun x => x.1.isSome)
      && decide ((e :: es).length + ([] : List Keyword).length + (if ([] : List Keyword).isEmpty then 0 else 1) < 30)) = true := by rfl)
    (hline : (apos.endLine == cpos.line) = true := by rfl) (hs : starEach (e :: es) X.env = (false, eval e X.env) :: starEach es X.env := by rfl) (hplain : (backTo cpos (starEach es X.env)).any (·.1) = false := by rfl) :
    PE X (.Call (.Attribute o name apos) (e :: es) [] cpos) (tBM X.K T r to t) := by
  intro pins s σ H Q I h
  refine wpAny_Call_method_late hbase hfew hline rfl (thn (ho pins s σ H _ I h) fun v s1 ⟨x, H1, I1, r1, ty, q1⟩ => ?_)
  obtain ⟨h1, h2⟩ := tyV_is I1 r1 ty
  refine ⟨T, id, pa, slot, hty, h1, h2, ?_⟩
  have hA := ha cpos pins s1 σ H1 _ I1 q1
  rw [hs] at hA ⊢
  refine Calls.callWith_builtin (by show (false || (backTo cpos (starEach es X.env)).any (·.1)) = false; rw [hplain] <;> rfl) (Calls.evalArgs_plain ?_)
  exact thn hA fun us s2 ⟨vs, H2, I2, r2, q2⟩ => hm pins s2 σ H2 x vs v us Q I2 r1 r2 q2
/- xs.append(e), list.index on a module's tuple .. are MtR facts of 06m -/
end
end L2

namespace L2
open PySem PySem.Spec PyProof.Rows

def MtM (X : Cx) (id : String) (r : V → List V → Hp → VK → Prop) : Prop :=
  ∀ (pins : List (Addr × Obj)) (s : Shared) (σ : St) (H : Hp) (x : V) (xs : List V) (v : Value) (us : List Value) (Q : VK), Inv X pins σ H s → RelV x v → Vals xs us → r x xs H Q →
    wpAny (model X.prog X.w) X.A (call (.builtin id) (v :: us)) (EP X pins σ Q) X.xe s

/-! ### lists of values -/
theorem Vals.one : ∀ {x : V} {us : List Value}, Vals [x] us → ∃ u, us = [u] ∧ RelV x u
  | _, _, .cons r .nil => ⟨_, rfl, r⟩
theorem Vals.eraseIdx : ∀ {xs : List V} {us : List Value} (i : Nat), Vals xs us → Vals (xs.eraseIdx i) (us.eraseIdx i)
  | _, _, _, .nil => .nil
  | _, _, 0, .cons _ t => t
  | _, _, i + 1, .cons r t => .cons r (Vals.eraseIdx i t)
theorem Vals.rep {xs : List V} {us : List Value} (h : Vals xs us) : ∀ k : Nat, Vals (List.replicate k xs).flatten (List.replicate k us).flatten
  | 0 => .nil
  | k + 1 => by
    rw [List.replicate_succ, List.replicate_succ, List.flatten_cons, List.flatten_cons]
    exact Vals.append h (Vals.rep h k)
theorem foldl_rep (its : List Value) : ∀ (k : Nat) (acc : List Value),
    List.foldl (fun x1 x2 => x1 ++ x2) acc.toArray (List.replicate k its.toArray) = (acc ++ (List.replicate k its).flatten).toArray
  | 0, acc => by simp
  | k + 1, acc => by
    have e : acc.toArray ++ its.toArray = (acc ++ its).toArray := by simp
    have e2 : (acc ++ its) ++ (List.replicate k its).flatten = acc ++ (List.replicate (k + 1) its).flatten := by
      rw [List.replicate_succ, List.flatten_cons, List.append_assoc]
    rw [← e2, ← foldl_rep its k (acc ++ its), ← e, List.replicate_succ, List.foldl_cons]

section
variable {X : Cx} {pins : List (Addr × Obj)} {σ : St} {H : Hp} {s : Shared} {l b : Addr} {xs ys zs : List V}

/-! ### the two steps: a tracked list is rewritten, a new list is laid -/
theorem Inv.lset {its its' : List Value} {n : Nat} {f : Array Value → Array Value} {t' : Nat} (I : Inv X pins σ H s) (hH : H l = some (.lst xs))
    (e : s.heap.get? l = some { cls := .type "list", data := .seq its.toArray n }) (hf : f its.toArray = its'.toArray) (hv : Vals ys its') (hz : ys.length ≤ sizeLine) :
    Inv X pins σ (upd H l (.lst ys)) { s with heap := s.heap.update l (Obj.mapSeq f), toks := t' } := by
  have q := PySem.IsL.update e f
  rw [hf] at q
  refine I.write (x := l) (e := l) (by rw [hH]; exact trivial) (.inl rfl) (fun b' u hb hu => (Heap.get?_update_other s.heap (Obj.mapSeq f) (Ne.symm hb)).trans hu) ⟨_, q⟩ ?_
  exact ⟨hz, its', _, hv, q⟩
theorem Inv.lnew {its : List Value} {t' : Nat} (I : Inv X pins σ H s) (hv : Vals ys its) (hz : ys.length ≤ sizeLine) :
    Inv X pins σ (upd H s.heap.objs.size (.lst ys)) { s with heap := s.heap.push { cls := .type "list", data := .seq its.toArray }, toks := t' } :=
  I.laid (fun _ _ q => Heap.get?_push_of_some _ q) (Nat.le_refl _) ⟨hz, its, 0, hv, Heap.get?_push_size _ rfl⟩
theorem Inv.fresh (I : Inv X pins σ H s) : H s.heap.objs.size = none := I.hok.fresh (Nat.le_refl _)
theorem Inv.lstM (I : Inv X pins σ H s) (hH : H l = some (.lst xs)) : xs.length ≤ sizeLine ∧ ∃ (its : List Value) (n : Nat), Vals xs its ∧ xs.length = its.length ∧ s.heap.get? l = some { cls := .type "list", data := .seq its.toArray n } := by
  obtain ⟨z, its, n, r, e⟩ := I.hok l _ hH
  exact ⟨z, its, n, r, r.length, e⟩

theorem notLongL {n : Nat} (h : n ≤ sizeLine) : Builtin.List.listTooLong n = false := by
  unfold Builtin.List.listTooLong
  exact decide_eq_false (by omega)
end

section
variable {X : Cx}

/-! ### methods -/
def rAppend : V → List V → Hp → VK → Prop := fun x vs H Q => ∃ l xs y, x = .ref l ∧ vs = [y] ∧ H l = some (.lst xs) ∧ xs.length < sizeLine ∧ Q .non (upd H l (.lst (xs ++ [y])))
theorem mt_append : MtM X "list.append" rAppend := by
  intro pins s σ H x vs v us Q I rx rv h
  obtain ⟨l, xs, y, rfl, rfl, hH, hz, q⟩ := h
  cases rx
  obtain ⟨u, rfl, ru⟩ := rv.one
  obtain ⟨z, its, n, r, hl, e⟩ := I.lstM hH
  refine call_meets F.slot_list_append ⟨_, e, rfl⟩ F.entry_list_append (F.args_list_append_2 _ _) (PySem.list_append l its.toArray n u (by rw [List.size_toArray]; omega)) ⟨e, ?_⟩
  refine ⟨.non, _, I.lset (its' := its ++ [u]) hH e (by simp) (r.append (.cons ru .nil)) ?_, rfl, q⟩
  rw [List.length_append, List.length_singleton]
  omega

/-! ### list + list, list += list, list * int -/
/-- a list times an int (a negative one is nothing) -/
def rRep : R2 := fun x y H Q => ∃ l k xs, x = .ref l ∧ y = .int k ∧ H l = some (.lst xs) ∧ -(2 ^ 63) ≤ k ∧ k < 2 ^ 63 ∧ xs.length * k.toNat ≤ sizeLine ∧
  ∀ p, H p = none → Q (.ref p) (upd H p (.lst (List.replicate k.toNat xs).flatten))
theorem len_rep {α : Type} (xs : List α) (k : Nat) : (List.replicate k xs).flatten.length = k * xs.length := by
  induction k with
  | zero => simp
  | succ k ih => rw [List.replicate_succ, List.flatten_cons, List.length_append, ih, Nat.succ_mul, Nat.add_comm]
theorem op_rep : OpR X (binaryOp .Mult) rRep := by
  intro pins s σ H x y v u Q I rx ry h
  obtain ⟨l, k, xs, rfl, rfl, hH, h1, h2, hz, q⟩ := h
  cases rx
  obtain ⟨t, rfl⟩ := ry
  obtain ⟨z, its, n, r, hl, e⟩ := I.lstM hH
  have hlen : its.toArray.size * k.toNat ≤ sizeLine := by rw [List.size_toArray, ← hl]; exact hz
  have hcap : ¬ its.toArray.size * k.toNat > (2 ^ 63 - 1) / 8 := by
    have : (sizeLine : Nat) ≤ (2 ^ 63 - 1) / 8 := by decide
    omega
  have hfit : ¬ (!Builtin.List.listFitsIndex k) = true := by
    rw [fitsIndex_both h1 h2]
    exact Bool.false_ne_true
  have hlong : ¬ Builtin.List.listTooLong (its.toArray.size * k.toNat) = true := by
    rw [notLongL hlen]
    exact Bool.false_ne_true
  have hnew : List.foldl (fun x1 x2 => x1 ++ x2) #[] (List.replicate (if its.toArray.isEmpty = true then 0 else k.toNat) its.toArray) = (List.replicate k.toNat its).flatten.toArray := by
    have f0 : ∀ m : Nat, List.foldl (fun x1 x2 => x1 ++ x2) #[] (List.replicate m its.toArray) = (List.replicate m its).flatten.toArray := fun m => by
      have := foldl_rep its m []
      rw [List.nil_append] at this
      exact this
    rw [f0]
    cases its with
    | nil => simp
    | cons a r' => rw [if_neg (by simp)]
  refine wpAny_binaryOp_repeat_ref (T := "list") (U := "int") (by decide) ⟨_, e, rfl⟩ (fun s' => typeIs_int s' k t) noFill_list_mul F.fills_int_mul F.slot_int_rmul repeat_list F.slot_int_index.lookup
    (call_meets F.slot_int_rmul (typeIs_int s k t) F.entry_int_rmul (F.args_int_rmul_2 _ _) (int___rmul___int_list k t l its.toArray n)
      ⟨e, rfl, ⟨_, e, rfl⟩, call_meets F.slot_list_mul ⟨_, e, rfl⟩ F.entry_list_mul (F.args_list_mul_2 _ _) (AutoListH.list___mul___list_int_3 l its.toArray n k t hfit hcap hlong) ⟨e, ?_⟩⟩)
  rw [hnew]
  exact ⟨.ref _, _, I.lnew (t' := s.toks) (r.rep k.toNat) (by rw [len_rep, Nat.mul_comm]; exact hz), rfl, q _ I.fresh⟩

/-! ### del xs[i] -/
end

/-! ### xs[a:b] = ys -/
section
variable {prog : Program} {w : World} {A : Around} {E : Value → Shared → Prop} {s : Shared}
end

section
variable {X : Cx}
end
end L2

namespace L2
open PySem PySem.Spec PyProof.Rows

/-! ### lists of pairs as tables -/
section
variable {κ : Type} [DecidableEq κ]
def valV (kvs : List (κ × V)) (k : κ) : Option V := (kvs.find? fun kv => decide (kv.1 = k)).map (·.2)
/-- in its place, or at the end -/
def putK (kvs : List (κ × V)) (k : κ) (v : V) : List (κ × V) :=
  if (kvs.any fun kv => decide (kv.1 = k)) = true then kvs.map (fun kv => if kv.1 = k then (kv.1, v) else kv) else kvs ++ [(k, v)]

theorem valV_pos {p : κ × V} {r : List (κ × V)} {k : κ} (e : p.1 = k) : valV (p :: r) k = some p.2 := by simp [valV, List.find?_cons, e]
theorem valV_neg {p : κ × V} {r : List (κ × V)} {k : κ} (e : ¬ p.1 = k) : valV (p :: r) k = valV r k := by simp [valV, List.find?_cons, e]
theorem valV_any (k : κ) : ∀ kvs : List (κ × V), (kvs.any fun kv => decide (kv.1 = k)) = (valV kvs k).isSome
  | [] => rfl
  | p :: r => by
    rw [List.any_cons]
    by_cases e : p.1 = k
    · simp only [valV_pos e, decide_eq_true e, Bool.true_or, Option.isSome_some]
    · rw [valV_neg e, decide_eq_false e, Bool.false_or]; exact valV_any k r
theorem length_putK (kvs : List (κ × V)) (k : κ) (v : V) : (putK kvs k v).length ≤ kvs.length + 1 := by
  unfold putK
  split
  · rw [List.length_map]; omega
  · rw [List.length_append, List.length_cons, List.length_nil]; omega
theorem putK_new {kvs : List (κ × V)} {k : κ} (v : V) (h : valV kvs k = none) : putK kvs k v = kvs ++ [(k, v)] := by
  unfold putK
  rw [valV_any, h]
  exact if_neg (by decide)

theorem RelO.isSome_eq {o : Option V} {u : Option Value} (r : RelO o u) : o.isSome = u.isSome := by
  cases o with
  | none => cases u with
    | none => rfl
    | some _ => exact (show False from r).elim
  | some _ => cases u with
    | none => exact (show False from r).elim
    | some _ => rfl

/-- raw tables of the same keys -/
theorem KV.val {kvs : List (κ × V)} {vs : List (κ × Value)} (r : KV kvs vs) (k : κ) : RelO (valV kvs k) (valueAt vs k) := by
  unfold KV at r
  induction r with
  | nil => exact True.intro
  | @cons p q ps qs h t ih =>
    obtain ⟨h1, h2⟩ := h
    by_cases e : p.1 = k
    · have e' : q.1 = k := h1.symm.trans e
      have b : valueAt (q :: qs) k = some q.2 := by simp [valueAt, List.find?_cons, e']
      rw [valV_pos e, b]; exact h2
    · have e' : ¬ q.1 = k := fun z => e (h1.trans z)
      have b : valueAt (q :: qs) k = valueAt qs k := by simp [valueAt, List.find?_cons, e']
      rw [valV_neg e, b]; exact ih
theorem KV.any {kvs : List (κ × V)} {vs : List (κ × Value)} (r : KV kvs vs) (k : κ) : (kvs.any fun kv => decide (kv.1 = k)) = vs.any fun kv => decide (kv.1 = k) := by
  unfold KV at r
  induction r with
  | nil => rfl
  | cons h t ih => rw [List.any_cons, List.any_cons, ih, h.1]
theorem KV.repl {kvs : List (κ × V)} {vs : List (κ × Value)} (r : KV kvs vs) (k : κ) {y : V} {u : Value} (ry : RelV y u) :
    KV (kvs.map fun kv => if kv.1 = k then (kv.1, y) else kv) (vs.map fun kv => if kv.1 = k then (kv.1, u) else kv) := by
  unfold KV at r ⊢
  induction r with
  | nil => exact .nil
  | @cons p q ps qs h t ih =>
    rw [List.map_cons, List.map_cons]
    refine .cons ?_ ih
    obtain ⟨h1, h2⟩ := h
    by_cases e : p.1 = k
    · rw [if_pos e, if_pos (h1.symm.trans e)]; exact ⟨h1, ry⟩
    · rw [if_neg e, if_neg (fun z => e (h1.trans z))]; exact ⟨h1, h2⟩
theorem KV.put {kvs : List (κ × V)} {vs : List (κ × Value)} (r : KV kvs vs) (k : κ) {y : V} {u : Value} (ry : RelV y u) : KV (putK kvs k y) (stored vs k u) := by
  unfold putK stored
  rw [r.any k]
  by_cases e : (vs.any fun kv => decide (kv.1 = k)) = true
  · rw [if_pos e, if_pos e]; exact r.repl k ry
  · rw [if_neg e, if_neg e]; exact Paired.snoc r ⟨rfl, ry⟩
theorem KV.length {kvs : List (κ × V)} {vs : List (κ × Value)} (r : KV kvs vs) : kvs.length = vs.length := Paired.length r
end

/-! ### a tracked dict, its keys ints and texts or tuples of these -/
theorem kV_is {P : Program} {w : World} {k : Key} {u : Value} (r : RelV (kV k) u) : (mixKind P w).is k u = true := by
  cases k with
  | inl i => obtain ⟨t, e⟩ := (show ∃ t, u = Value.int i t from r); subst e; exact mixKind_int P w i t
  | inr x => obtain ⟨t, e⟩ := (show ∃ t, u = Value.str x t from r); subst e; exact mixKind_str P w x t
theorem items_are {P : Program} {w : World} : ∀ {ks : List Key} {us : List Value}, Vals (ks.map kV) us → ItemsAre (mixKind P w) ks us
  | [], _, r => by rw [List.map_nil] at r; cases r; exact .nil
  | k :: ks, _, r => by
    rw [List.map_cons] at r
    cases r with
    | cons h t => exact .cons (kV_is h) (items_are t)

/-- raw entries of a dict with tuple keys -/
abbrev KT (H : Hp) : List (List Key × V) → List (List Key × Addr × Value) → Prop := Paired fun p q => p.1 = q.1 ∧ H q.2.1 = some (.tup (p.1.map kV)) ∧ RelV p.2 q.2.2
theorem KT.val {H : Hp} {kvs : List (List Key × V)} {xs : List (List Key × Addr × Value)} (r : KT H kvs xs) (k : List Key) : RelO (valV kvs k) ((atKey xs k).map (·.2)) := by
  induction r with
  | nil => exact True.intro
  | @cons p q ps qs h t ih =>
    obtain ⟨h1, _, h2⟩ := h
    by_cases e : p.1 = k
    · have e' : q.1 = k := h1.symm.trans e
      have b : atKey (q :: qs) k = some q.2 := by simp [atKey, List.find?_cons, e']
      rw [valV_pos e, b]; exact h2
    · have e' : ¬ q.1 = k := fun z => e (h1.trans z)
      have b : atKey (q :: qs) k = atKey qs k := by simp [atKey, List.find?_cons, e']
      rw [valV_neg e, b]; exact ih

section
variable {P : Program} {w : World} {H : Hp} {h : Heap} {a : Addr}
theorem rd_of {u : HO} (ok : HOk P w H h) (e : Rd H a u) : ObjOk P w H h a u := e.ok ok
theorem dk_rd {kvs : List (Key × V)} (ok : HOk P w H h) (e : Rd H a (.dK kvs)) : kvs.length ≤ sizeLine ∧ (a == sysModules) = false ∧ ∃ vs, KV kvs vs ∧ h.DictOf (mixKind P w) a vs :=
  show ObjOk P w H h a (.dK kvs) from rd_of ok e
/-- a tracked tuple of ints and texts is a key -/
theorem key_of {ks : List Key} (ok : HOk P w H h) (e : H a = some (.tup (ks.map kV))) : (tupleKind (mixKind P w)).is h ks a := by
  obtain ⟨_, its, r, o, h1, h2, n, h3⟩ := (show ObjOk P w H h a (.tup (ks.map kV)) from ok a _ e)
  exact ⟨o, its.toArray, n, h1, h2, h3, by simpa using items_are r⟩
theorem dt_rd {kvs : List (List Key × V)} (ok : HOk P w H h) (e : Rd H a (.dT kvs)) : kvs.length ≤ sizeLine ∧ (a == sysModules) = false ∧
    ∃ xs, KT H kvs xs ∧ h.DictOfH (tupleKind (mixKind P w)) a xs := by
  obtain ⟨z, y, xs, r, o, es, ep, h1, h2, h3, h4, h5⟩ := (show ObjOk P w H h a (.dT kvs) from rd_of ok e)
  refine ⟨z, y, xs, r, o, es, ep, h1, h2, h3, h4, fun x hx => ?_, h5⟩
  have all : ∀ {l : List (List Key × V)} {m : List (List Key × Addr × Value)}, KT H l m → ∀ x ∈ m, (tupleKind (mixKind P w)).is h x.1 x.2.1 := by
    intro l m q
    induction q with
    | nil => intro x hx; exact nomatch hx
    | @cons p q ps qs hq t ih =>
      intro x hx
      rcases List.mem_cons.mp hx with e | hx
      · subst e
        exact key_of ok (by rw [← hq.1]; exact hq.2.1)
      · exact ih x hx
  exact all r x hx
end

/-- what the dict at a holds at the key y -/
def DGet (H : Hp) (a : Addr) (y : V) (r : Option V) : Prop :=
  (∃ kvs k, Rd H a (.dK kvs) ∧ y = kV k ∧ r = valV kvs k) ∨ ∃ kvs k b, Rd H a (.dT kvs) ∧ y = .ref b ∧ H b = some (.tup (k.map kV)) ∧ r = valV kvs k
theorem DGet.k {H : Hp} {a : Addr} {kvs : List (Key × V)} {k : Key} (e : H a = some (.dK kvs)) : DGet H a (kV k) (valV kvs k) := .inl ⟨kvs, k, .inl e, rfl, rfl⟩

section
variable {X : Cx} {pins : List (Addr × Obj)} {σ : St} {H : Hp} {s : Shared} {a : Addr} {y v : V} {u r : Value} {o : Option V} {A : Around} {E : Value → Shared → Prop}

theorem Inv.big (I : Inv X pins σ H s) : sysModules < s.heap.objs.size := by
  have h : mainGlobals < s.heap.objs.size := (I.mod.glob.keeps I.bk).lt
  exact Nat.lt_trans (by decide) h

/-- d[y], there -/
theorem d_getItem {Q : Value → Shared → Prop} (hu : A.units + 1 < cLine) (I : Inv X pins σ H s) (g : DGet H a y (some v)) (ry : RelV y u) (h : ∀ w' s', Inv X pins σ H s' → RelV v w' → Q w' s') :
    wpAny (model X.prog X.w) A (getItem (.ref a) u) Q E s := by
  rcases g with ⟨kvs, k, e, ey, l⟩ | ⟨kvs, k, b, e, ey, eb, l⟩
  · subst ey
    obtain ⟨z, hd, vs, rel, dd⟩ := dk_rd I.hok e
    obtain ⟨w', hw, rw'⟩ := RelO.some_of (v := v) (o := valueAt vs k) (by rw [l]; exact rel.val k)
    exact wpAny_getItem_of (kV_is ry) dd.mapOf hw (h w' _ (I.tok _) rw')
  · subst ey
    cases (show u = Value.ref b from ry)
    obtain ⟨z, hd, xs, rel, dd⟩ := dt_rd I.hok e
    obtain ⟨w', hw, rw'⟩ := RelO.some_of (v := v) (o := (atKey xs k).map (·.2)) (by rw [l]; exact rel.val k)
    obtain ⟨p, hp, hp2⟩ := Option.map_eq_some_iff.mp hw
    refine wpAny_getItem_heap (tupleKind_room_in1 hu) (key_of I.hok eb) dd hp ?_
    rw [hp2]
    exact h w' _ (I.tok _) rw'
theorem d_notIn {Q : Value → Shared → Prop} (hu : A.units + 1 < cLine) (I : Inv X pins σ H s) (g : DGet H a y o) (ry : RelV y u) (h : ∀ s', Inv X pins σ H s' → Q (.bool (!o.isSome)) s') :
    wpAny (model X.prog X.w) A (compareOp .NotIn u (.ref a)) Q E s := by
  rcases g with ⟨kvs, k, e, ey, l⟩ | ⟨kvs, k, b, e, ey, eb, l⟩
  · subst ey
    obtain ⟨z, hd, vs, rel, dd⟩ := dk_rd I.hok e
    refine wpAny_notIn_of (kV_is ry) hd dd.mapOf ?_
    rw [← (rel.val k).isSome_eq, ← l]
    exact h _ (I.tok _)
  · subst ey
    cases (show u = Value.ref b from ry)
    obtain ⟨z, hd, xs, rel, dd⟩ := dt_rd I.hok e
    refine wpAny_notIn_heap (tupleKind_room_in1 hu) (key_of I.hok eb) hd dd ?_
    have q := (rel.val k).isSome_eq
    rw [Option.isSome_map] at q
    rw [← q, ← l]
    exact h _ (I.tok _)
theorem dk_new {P : Program} {w : World} {H' : Hp} {h' : Heap} {kvs : List (Key × V)} {vs : List (Key × Value)} (z : kvs.length ≤ sizeLine) (hd : (a == sysModules) = false) (rel : KV kvs vs) (dd : h'.DictOf (mixKind P w) a vs) :
    ObjOk P w H' h' a (.dK kvs) := ⟨z, hd, vs, rel, dd⟩
end

section
variable {X : Cx} {pins : List (Addr × Obj)} {σ : St} {H : Hp} {s : Shared} {a : Addr} {kvs : List (Key × V)} {k : Key} {u : Value} {A : Around} {E : Value → Shared → Prop}
end

/-! ### readings and rules -/
/-- the element of a subscription, not a slice -/
def NoSl (i : Expr) : Prop := ∀ ov iv, subscripted i false ov iv = operate [ov, iv] (getItem ov iv)
theorem subD_of {prog : Program} {w : World} {A : Around} {E : Value → Shared → Prop} {s : Shared} {env : Env} {value slice : Expr} {pos : Pos} {T id : String} {Q : Value → Shared → Prop}
    (hl : typeLookup (.type T) "__getitem__" = pure (some (.builtin id))) (hs : NoSl slice)
    (h : wpAny (model prog w) A (eval value env) (fun o s₁ => wpAny (model prog w) A (eval slice env) (fun i s₂ => s₂.TypeIs o T ∧ wpAny (model prog w) A (getItem o i) Q E s₂) E s₁) E s) :
    wpAny (model prog w) A (eval (.Subscript value slice pos) env) Q E s := by
  refine Subscript_ (wpAny_mono h (fun o s₁ h₁ => wpAny_mono h₁ (fun i s₂ h₂ => ?_) fun _ _ x => x) fun _ _ x => x)
  obtain ⟨hT, h₂⟩ := h₂
  unfold subscriptTail
  refine wpAny_bind ?_
  rw [getitemInPython_of_ne hT.not_modules]
  refine wpAny_bind (wpAny_specialOf hT hl ?_)
  have fin : wpAny (model prog w) A (subscripted slice false o i) (fun r s₃ => wpAny (model prog w) A (letTemporaryGo value o r >>= fun _ => pure r) Q E s₃) E s₂ := by
    rw [hs o i]
    exact wpAny_operating (wpAny_mono h₂ (fun r s₃ h₃ => wpAny_bind (wpAny_letTemporaryGo (wpAny_pure h₃))) fun _ _ x => x)
  first
    | exact wpAny_pure (wpAny_bind fin)
    | exact wpAny_bind (wpAny_pure (wpAny_bind fin))
    | exact wpAny_bind fin

theorem dict_typeIs {X : Cx} {pins : List (Addr × Obj)} {σ : St} {H : Hp} {s : Shared} {a : Addr} {y : V} {o : Option V} (I : Inv X pins σ H s) (g : DGet H a y o) : s.TypeIs (.ref a) "dict" := by
  rcases g with ⟨kvs, k, e, _, _⟩ | ⟨kvs, k, b, e, _, _, _⟩
  · obtain ⟨_, _, vs, _, dd⟩ := dk_rd I.hok e
    exact dd.typeIs
  · obtain ⟨_, _, xs, _, dd⟩ := dt_rd I.hok e
    exact dd.typeIs

/-- d[y] -/
def tDGet (td ty : TE) : TE := fun σ H Q => td σ H fun x H1 => ty σ H1 fun y H2 => ∃ a v, x = .ref a ∧ DGet H2 a y (some v) ∧ Q v H2
def tDNotIn (ty td : TE) : TE := fun σ H Q => ty σ H fun y H1 => td σ H1 fun x H2 => ∃ a o, x = .ref a ∧ DGet H2 a y o ∧ Q (.bl (!o.isSome)) H2

section
variable {X : Cx} {o i e value : Expr} {pos pos' tpos : Pos} {td ty tv : TE}
theorem pe_dget (hu : X.A.units + 1 < cLine) (ho : PE X o td) (hi : PE X i ty) (hs : NoSl i) : PE X (.Subscript o i pos) (tDGet td ty) := by
  intro pins s σ H Q I h
  refine subD_of PySem.F.slot_dict_getitem.lookup hs (thn (ho pins s σ H _ I h) fun u s1 ⟨x, H1, I1, rx, q1⟩ => thn (hi pins s1 σ H1 _ I1 q1) fun iv s2 ⟨y, H2, I2, ry, a, v, ex, g, q2⟩ => ?_)
  subst ex
  obtain rfl : u = Value.ref a := rx
  exact ⟨dict_typeIs I2 g, d_getItem hu I2 g ry fun w' s3 I3 rw' => ⟨v, H2, I3, rw', q2⟩⟩
theorem pc_dnotin (hu : X.A.units + 1 < cLine) (hi : PE X i ty) (ho : PE X o td) : PC X .NotIn i o (tDNotIn ty td) := by
  intro pins s σ H Q I h
  refine thn (hi pins s σ H _ I h) fun iv s1 ⟨y, H1, I1, ry, q1⟩ => thn (ho pins s1 σ H1 _ I1 q1) fun u s2 ⟨x, H2, I2, rx, a, ov, ex, g, q2⟩ => ?_
  subst ex
  obtain rfl : u = Value.ref a := rx
  exact d_notIn hu I2 g ry fun s3 I3 => ⟨.bl (!ov.isSome), H2, I3, rfl, q2⟩
end

/-! ### displays -/
section
variable {X : Cx} {pos : Pos}
end

/-! ### methods -/

section
variable {X : Cx} {pins : List (Addr × Obj)} {σ : St} {H : Hp} {s : Shared} {a : Addr} {y d : V} {u r : Value} {o : Option V} {A : Around} {E : Value → Shared → Prop}
end

section
variable {X : Cx} {o e f : Expr} {apos cpos : Pos} {td ty tx : TE}
end

/-! ### dict(d): a copy -/
section
variable {X : Cx} {pins : List (Addr × Obj)} {σ : St} {H : Hp} {s : Shared} {a : Addr} {kvs : List (Key × V)} {A : Around} {E : Value → Shared → Prop}
end

section
variable {X : Cx} {pins : List (Addr × Obj)} {σ : St} {H : Hp} {s : Shared} {a : Addr} {y : V} {u : Value} {A : Around} {E : Value → Shared → Prop}
end
end L2

namespace Att
open PySem PySem.W PySem.Calls PyProof.Rows

/-! ### the script -/
theorem ints_of_wellAll {P : Params} {h : Heap} : ∀ (ns : List Int) (vs : List Value), WellAll P h vs (ns.map WData.int) → IntsAre vs ns := by
  intro ns
  induction ns with
  | nil =>
    intro vs w
    rw [List.map_nil] at w
    cases w
    exact .nil
  | cons n ns ih =>
    intro vs w
    rw [List.map_cons] at w
    cases w with
    | cons a b =>
      cases a
      exact .cons _ _ (ih _ b)

theorem script_of {l : OpenLaw} {n : Nat} (hn : l.most = some n) {P : Params} {h : Heap} {args : List WData} {vals : List Value}
    (hpre : l.row.toRowW.claim.pre args = true) (hwl : WellAll P h vals args) :
    ∃ a vs ns, vals = [Value.ref a] ∧ args = [WData.list (ns.map WData.int)] ∧ h.get? a = some { cls := .type "list", data := .seq vs.toArray } ∧ IntsAre vs ns ∧ ns.length ≤ n := by
  have hsh : WShape.hasAll [] args [.list .int] = true := (pre_splitW hpre).1
  have hc : l.pre.holds [] { args := args } = true := (pre_splitW hpre).2
  obtain ⟨d, r, rfl, h1, h2⟩ := hasAllW_cons hsh
  obtain rfl := hasAllW_nil h2
  obtain ⟨xs, rfl, h3⟩ := hasW_list h1
  obtain ⟨ns, rfl⟩ := items_int h3
  have hlen : ns.length ≤ n := by
    unfold OpenLaw.pre at hc
    have h4 : (WTm.not (.lt (.lit (.int (n : Int))) (.len (.arg 0)))).holds [] { args := [.list (ns.map .int)] } = true := by
      have h4 := (holds_andW hc).1
      rw [hn] at h4
      exact h4
    have h5 := condW_of h4 (w_not (w_lt w_lit (w_len_list (w_arg rfl))))
    rw [List.length_map] at h5
    refine Nat.le_of_not_lt fun q => ?_
    have q' : (n : Int) < ((ns.length : Nat) : Int) := by omega
    first
      | (rw [decide_eq_true q'] at h5; exact absurd h5 (by decide))
      | (simp at h5; omega)
  cases hwl with
  | cons w1 w2 =>
    cases w2
    cases w1 with
    | list ho hall => exact ⟨_, _, ns, rfl, rfl, ho, ints_of_wellAll ns _ hall, hlen⟩

theorem post_true (l : OpenLaw) (args : List WData) : l.row.toRowW.claim.post args (.bool true) args = true :=
  postW_of (r := l.row.toRowW) (X := (true == true))
    (show WShape.has [] (.bool true) .bool = true by first | rfl | decide | simp [WShape.has, WShape.arms, WShape.armsAll])
    (show (WTm.eq .res (.lit (.bool true))).value [] { args := args, res := some (.bool true), after := args } = some (.bool (true == true)) from w_eq_bool (w_res rfl) w_lit) rfl

/-! ### the attachment: holds_open's last premise (the goal 'hc' behind k_head) from a wpAny of the law's body -/

/-- the same from a codeAny of the CALL (for a layer whose function contracts speak of calls) -/
theorem attach_call {l : OpenLaw} {n : Nat} {q : Program} {loose : List Str} {XP : (Str → Option Value) → Heap → Prop} {YP : World → Heap → Prop} {d : DefRec}
    (hn : l.most = some n) (hdf : d.params.defaults = [])
    (call : ∀ (w : World) (s₀ s₁ : Shared) (mg mb : Str → Option Value) (fa : Addr) (o : Obj) (pm cd doc : Value) (a : Addr) (vs : List Value) (ns : List Int),
      Ground q loose [] XP w s₀ mg mb s₁.heap → YP w s₁.heap →
      s₁.heap.get? fa = some o → o.data = .func (docDef d.name d.params d.body d.scope pm cd doc) → s₁.heap.CodeRec cd d.name → mg d.name = some (.ref fa) →
      s₁.heap.get? a = some { cls := .type "list", data := .seq vs.toArray } → IntsAre vs ns → ns.length ≤ n → s₁.gens = #[] →
      codeAny (model l.prog w) callerA (.call (.ref fa) ⟨[.ref a], []⟩) (fun r s' => r = .ok (.ret (.bool true)) ∧ OldK s₁.heap s'.heap ∧ s'.os = s₁.os ∧ AllBare s'.gens) s₁) :
    WalkO q loose XP YP l.row.toRowW d [] (fun f vs => PySem.call f vs) := by
  intro w s₀ s₁ mg mb G Y fa o pm cd doc dV kV ho hd hcd hD hmg hg args vals as hpre hlay hrd hwl hlo
  obtain rfl : dV = .none := Dflts.none hD hdf
  obtain rfl : kV = .none := Dflts.noKw hD
  obtain ⟨a, vs, ns, rfl, rfl, hobj, hints, hlen⟩ := script_of hn hpre hwl
  refine enter_call (codeAny_mono (call w s₀ s₁ mg mb fa o pm cd doc a vs ns G Y ho (fd_plain hd) hcd hmg hobj hints hlen hg) fun r s' hq => ?_)
  obtain ⟨rfl, h2, h3, h4⟩ := hq
  exact ⟨.inl ⟨.bool true, .bool true, [], rfl, fun _ => rfl, .bool true, post_true l _, fun _ => ⟨List.Pairwise.nil, fun _ hm => (nomatch hm)⟩⟩, h2, h3, h4⟩

/-! ### rules over ANY heap (no ledger) from facts about the written part K: the library's own take a ledger (News) for what they write -/
section
variable {prog : Program} {w : World} {A : Around} {E : Value → Shared → Prop} {s : Shared} {K : Frag}

/-! the whole heap as the ledger: makes every rule that writes through a ledger a rule over any heap -/

end
end Att

namespace L2
open PySem PySem.Spec PyProof.Rows

theorem vals_ints : ∀ {vs : List Value} {ns : List Int}, IntsAre vs ns → Vals (ns.map V.int) vs
  | _, _, .nil => .nil
  | _, _, .cons n t h => .cons ⟨t, rfl⟩ (vals_ints h)

/-- nothing is tracked but the script, known to the object (or it is an object of the module) -/
def Only (H : Hp) : Prop := ∀ b, H b = none ∨ ∃ o xs, H b = some (.frz o (.lst xs))

/-- THE HEAD: the law's promise, at the heap behind the top. F, the promise of the law's def, may use that base is part of the heap (so K.In base, base.Ns mainGlobals mg stand in Mod) -/
theorem law_call {P : Program} {w : World} {K : PySem.W.Frag} {mg mb : Str → Option Value} {CX : CXT} {k : Nat} {fa a : Addr} {fd : FuncData} {x : Str} {sp : Sp} {s₁ : Shared} {vs : List Value} {ns : List Int}
    (KX : K.In s₁.heap) (hns : s₁.heap.Ns mainGlobals mg) (hb : s₁.heap.Ns builtinsNs mb) (hbb : ∀ x : Str, x ≠ "__name__" → mb x = bootBuiltins x) (hlim : s₁.heap.NoLimit) (hg : s₁.gens = #[])
    (ha : s₁.heap.get? a = some { cls := .type "list", data := .seq vs.toArray }) (hi : IntsAre vs ns) (hl : ns.length ≤ sizeLine) (hr : Room k callerA)
    (F : ∀ base : Heap, K.In base → base.Ns mainGlobals mg → FnOk P w K mg base CX k fa fd [x] sp) (hbind : ∀ (s : Shared) (u : Value), BindsTo s fd ⟨[u], []⟩ [(x, u)])
    (hsp : ∀ H : Hp, Only H → SqL K H a (ns.map V.int) → sp [.ref a] H (fun v _ => v = .bl true) fun _ _ _ => False)
    (hCX : ∀ H e s', CX [] H s₁ (fun _ _ _ => False) e s' → False) :
    codeAny (model P w) callerA (.call (.ref fa) ⟨[.ref a], []⟩) (fun r s' => r = .ok (.ret (.bool true)) ∧ OldK s₁.heap s'.heap ∧ s'.os = s₁.os ∧ AllBare s'.gens) s₁ := by
  have rv := vals_ints hi
  have lenV := hi.length
  -- from an abstract heap in which nothing but the script may be tracked
  have core : ∀ H : Hp, Only H → SqL K H a (ns.map V.int) → HOk P w H s₁.heap → (∀ b, H b ≠ none → b = a) → (H a ≠ none → K.lookup a = none) →
      codeAny (model P w) callerA (.call (.ref fa) ⟨[.ref a], []⟩) (fun r s' => r = .ok (.ret (.bool true)) ∧ OldK s₁.heap s'.heap ∧ s'.os = s₁.os ∧ AllBare s'.gens) s₁ := by
    intro H hO hS hok hA hK
    have base_of : ∀ {b : Addr} {o : Obj}, s₁.heap.get? b = some o → H b = none → (hidT s₁.heap H).get? b = some o := fun e n => hidT_get e n
    have noA : ∀ {b : Addr} {o : Obj} {es : Array DictEntry} {ep : Nat}, s₁.heap.get? b = some o → o.data = .dict es ep → H b = none := fun {b o es ep} e d => by
      cases q : H b with
      | none => rfl
      | some u =>
        have e' : b = a := hA b (by rw [q]; simp)
        subst e'
        rw [ha] at e; cases e
        have d' : Data.seq vs.toArray _ = Data.dict es ep := d
        cases d'
    have nsK : ∀ {b : Addr} {m : Str → Option Value}, s₁.heap.Ns b m → (hidT s₁.heap H).Ns b m := fun {b m} ⟨o, es, ep, e, d, r⟩ => ⟨o, es, ep, base_of e (noA e d), d, r⟩
    have hKb : K.In (hidT s₁.heap H) := fun b o e => base_of (KX b o e) (by
      cases q : H b with
      | none => rfl
      | some u =>
        have e' : b = a := hA b (by rw [q]; simp)
        subst e'
        rw [hK (by rw [q]; simp)] at e; cases e)
    have hM : Mod K mg (hidT s₁.heap H) := ⟨hKb, nsK hns, ⟨mb, nsK hb, hbb⟩, let ⟨mc, h1, h2⟩ := hlim; ⟨mc, nsK h1, h2⟩⟩
    have e0 : Env0 P w K mg (hidT s₁.heap H) callerA [] s₁ H := ⟨rfl, hM, fun b o e => of_hidT e, Nat.le_of_eq (hidT_size _ _), trivial, fun b hb => absurd (show b ∈ ([] : List Addr) from hb) (by simp), hok, .of_eq hg⟩
    refine codeAny_mono ((F _ hKb (nsK hns)).run callerA [] s₁ H ⟨[.ref a], []⟩ [.ref a] [.ref a] _ _ hr e0 (hbind s₁ (.ref a)) (.cons rfl .nil) (hsp H hO hS)) fun r s' h => ?_
    cases r with
    | error e => exact (hCX H e s' h).elim
    | ok fl =>
      cases fl with
      | next => exact False.elim h
      | brk => exact False.elim h
      | cont => exact False.elim h
      | ret u =>
        obtain ⟨v, H', os, bare, un, hok', r', q⟩ := h
        have q' : v = .bl true := q
        subst q'
        obtain rfl : u = Value.bool true := r'
        refine ⟨rfl, OldK.of_keep fun b o e => ?_, os, bare⟩
        cases q : H b with
        | none => exact un.keep b o e q (by intro z; exact absurd (show b ∈ ([] : List Addr) from z) (by simp)) (by simp)
        | some u =>
          rcases hO b with z | ⟨ob, xs, z⟩
          · rw [q] at z; cases z
          · have z2 := un.frzs b ob _ z
            obtain ⟨e1, _⟩ := hok b _ z
            obtain ⟨e2, _⟩ := hok' b _ z2
            rw [e] at e1; cases e1
            exact e2
  cases hk : K.lookup a with
  | some o =>
    -- the script is one of the module's own objects
    have e := KX a o hk
    rw [ha] at e
    cases e
    refine core (fun _ => none) (fun _ => .inl rfl) (.inr ⟨_, vs.toArray, _, hk, rfl, rfl, rfl, by rw [List.size_toArray, lenV]; exact hl, by simpa using rv⟩) (fun b u z => by have z' : (none : Option HO) = some u := z; cases z') (fun b z => absurd rfl z) fun z => absurd rfl z
  | none =>
    refine core (fun b => if b = a then some (.frz { cls := .type "list", data := .seq vs.toArray } (.lst (ns.map V.int))) else none) (fun b => ?_) (.inl (.inr ⟨{ cls := .type "list", data := .seq vs.toArray }, if_pos rfl⟩)) (fun b u z => ?_) (fun b z => ?_) fun _ => hk
    · by_cases hb : b = a
      · exact .inr ⟨_, _, if_pos hb⟩
      · exact .inl (if_neg hb)
    · by_cases hb : b = a
      · have z' := (if_pos hb).symm.trans z
        cases z'
        subst hb
        exact ⟨ha, by rw [List.length_map]; exact hl, vs, _, rv, ha⟩
      · have z' := (if_neg hb).symm.trans z
        cases z'
    · by_cases hb : b = a
      · exact hb
      · exact absurd (if_neg hb) z
end L2

namespace L2
open PySem PySem.Spec PyProof.Rows

/-- the goal that k_head leaves (case hc), from the law's promise. F gives the function object fd (K's own) once, then the promise over every base -/
theorem walk_of {l : PySem.W.OpenLaw} {n k : Nat} {q : Program} {loose : List Str} {XP : (Str → Option Value) → Heap → Prop} {YP : World → Heap → Prop} {d : DefRec} {K : Params → PySem.W.Frag} {CX : World → CXT} {sp : World → Sp} {x : Str}
    (hn : l.most = some n) (hn2 : n ≤ sizeLine) (hdf : d.params.defaults = []) (hr : Room k callerA)
    (hY : ∀ (w : World) (h : Heap), YP w h → (K w.params).In h)
    (F : ∀ (w : World) (mg : Str → Option Value) (fa : Addr) (h : Heap), (K w.params).In h → h.Ns mainGlobals mg → mg d.name = some (.ref fa) →
      ∃ fd : FuncData, (∀ (s : Shared) (u : Value), BindsTo s fd ⟨[u], []⟩ [(x, u)]) ∧
        ∀ base : Heap, (K w.params).In base → base.Ns mainGlobals mg → FnOk l.prog w (K w.params) mg base (CX w) k fa fd [x] (sp w))
    (hsp : ∀ (w : World) (H : Hp) (a : Addr) (ns : List Int), ns.length ≤ n → Only H → SqL (K w.params) H a (ns.map V.int) → sp w [.ref a] H (fun v _ => v = .bl true) fun _ _ _ => False)
    (hCX : ∀ (w : World) (H : Hp) (s : Shared) (e : Value) (s' : Shared), CX w [] H s (fun _ _ _ => False) e s' → False) :
    PySem.W.WalkO q loose XP YP l.row.toRowW d [] (fun f vs => PySem.call f vs) := by
  refine Att.attach_call hn hdf fun w s₀ s₁ mg mb fa o pm cd doc a vs ns G Y ho hd hcd hmg hobj hints hlen hg => ?_
  have KX := hY w _ Y
  obtain ⟨fd, hb, hF⟩ := F w mg fa _ KX G.T.g hmg
  exact law_call KX G.T.g G.T.b G.T.builtins G.T.nolimit hg hobj hints (Nat.le_trans hlen hn2) hr hF hb (fun H hO hS => hsp w H a ns hlen hO hS) fun H e s' => hCX w H s₁ e s'
end L2

/- THE LAST THEOREM (shape; LID, My.* are yours):
   My.Adr: a structure of the addresses that your layer names (classes, functions); My.Txt K t: a structure (Prop) of the equations over K;
   My.txt_mk : {K} {implicit addresses ..} (e1 : nsIn K mainGlobals "law" = some (some (.ref f))) (e2 : K.lookup f = some ⟨oc, od, .func (fnOf "law" "law" params body scope dV kV doc pm an cdv ct), sl⟩) (e3 : codeIn K cdv "law" = true) .. : ∃ t, My.Txt K t

set_option maxRecDepth 100000 in
set_option maxHeartbeats 0 in
theorem PySem.Challenge.cw_LID_holds : PySem.Challenge.rw_LID.Holds := by
  w_on; o_law; k_head; (case hw => w_witness2)
  k_fill
  refine L2.walk_of (l := PySem.Challenge.rw_LID) (n := 63) (k := 40) (x := "script") (CX := fun w => ..) (sp := fun _ => My.sp_law) rfl (by decide) rfl ⟨rfl, by decide, by decide⟩ (fun w h Y => PySem.W.kIn_of Y) ?F ?S ?C
  case F =>
    intro w mg fa h KX G hmg
    have T : ∃ t, My.Txt (L2.KOf KX) t := by
      dsimp only [L2.KOf]                          -- K must stand as «<heap const> w.params» for k_is
      refine' My.txt_mk ?e1 ?e2 ?e3 ..
      (case e1 => PySem.W.k_is)                    -- in the order: a name -> its address -> its object -> its parts
      (case e2 => PySem.W.k_is)
      ..
    obtain ⟨t, T⟩ := T
    have e0 := hmg.symm.trans (PySem.W.mg_of KX G T.law)
    cases e0                                       -- fa is the law's own address
    exact ⟨_, fun s u => .of_eq rfl, fun base kb nb => My.law_fn T kb nb⟩     -- if «.of_eq rfl» comes too early: refine' ⟨_, ?b, fun base kb nb => My.law_fn T kb nb⟩; exact fun s u => .of_eq rfl
  case S => exact fun w H a ns hl hO hS => ..
  case C => exact ..
(the tactic k_is has no namespace: write k_is) -/

/-! SHORT WORDS over the layer: a def of the text, its body, what a loop and a test want. -/
namespace L2
open PySem PySem.Spec PyProof.Rows

/-! ### the text by places -/
def defArgs (s : Stmt) : Arguments := match s with
  | .FunctionDef _ a _ _ _ _ _ _ _ _ => a
  | _ => { posonlyargs := [], args := [], vararg := none, kwonlyargs := [], kw_defaults := [], kwarg := none, defaults := [] }
def defBody (s : Stmt) : List Stmt := match s with
  | .FunctionDef _ _ b _ _ _ _ _ _ _ => b
  | _ => []
def defScope (s : Stmt) : Scope := match s with
  | .FunctionDef _ _ _ _ _ _ sc _ _ _ => sc
  | _ => { kind := .function, names := [], isGenerator := false, isCoroutine := false }

/-! ### no exception leaves a def -/
abbrev CX0 : CXT := fun _ _ _ _ _ _ => False
abbrev E0 : XK := fun _ _ _ => False
theorem pass0 {X : Cx} : Passes CX0 X E0 := fun _ _ _ _ _ _ _ h => h.elim

/-! ### a def (or method) of the text as it stands behind the top -/
structure Fun (K : PySem.W.Frag) (x qual : Str) (st : Stmt) (f : Addr) (fd : FuncData) : Prop where
  ex : ∃ (oc : Value) (od : Option Addr) (kV doc pm : Value) (an : Option Addr) (cdv ct : Value) (osl : Array (Option Value)),
    fd = PySem.W.fnOf x qual (defArgs st) (defBody st) (defScope st) .none kV doc pm an cdv ct ∧ K.lookup f = some ⟨oc, od, .func fd, osl⟩ ∧ PySem.W.codeIn K cdv qual = true
  kp : PySem.W.keepIn K (.ref f) = true
section
variable {P : Program} {w : World} {K : PySem.W.Frag} {mg : Str → Option Value} {base : Heap}
/-- THE RULE for a def: its body as a term of rules, and the reading of that term -/
theorem Fun.ok {x qual : Str} {st : Stmt} {f : Addr} {fd : FuncData} {N ps : List Str} {k : Nat} {sp : Sp} (F : Fun K x qual st f fd) (S : FnScope N ps (defScope st)) (len : ∀ vs H Q E, sp vs H Q E → vs.length = ps.length)
    (hbody : ∀ (cdv : Value) (A : Around) (outer : List Env) (s : Shared) (H : Hp) (vs : List V) (Q : VK) (E : XK), Room k (A.deeper (envOfC qual (defScope st) s.heap.objs.size f cdv)) → sp vs H Q E →
      ∃ t, PSs (cxOf CX0 P w K mg base N qual (defScope st) f cdv A outer s H E).nox (defBody st) t ∧ t { nx := fun _ H' => Q .non H', rt := Q } (start N vs) H) : FnOk P w K mg base CX0 (k + 1) f fd ps sp := by
  obtain ⟨oc, od, kV, doc, pm, an, cdv, ct, osl, rfl, lk, hcd⟩ := F.ex
  refine fn_of lk hcd S len fun A outer s H vs Q E hr hsp => ?_
  obtain ⟨t, h, q⟩ := hbody cdv A outer s H vs Q E hr hsp
  exact ⟨t, h.nox, q⟩
/-- how its arguments bind (no defaults): h is «fun _ _ _ _ _ _ us hl => match us, hl with | [_, _], _ => rfl», one _ a parameter -/
theorem Fun.binds {x qual : Str} {st : Stmt} {f : Addr} {fd : FuncData} {ps : List Str} (F : Fun K x qual st f fd)
    (h : ∀ (kV doc pm : Value) (an : Option Addr) (cdv ct : Value) (us : List Value), us.length = ps.length → bindArgs (PySem.W.fnOf x qual (defArgs st) (defBody st) (defScope st) .none kV doc pm an cdv ct) ⟨us, []⟩ = pure (ps.zip us)) : Binds K fd ps [] := by
  obtain ⟨oc, od, kV, doc, pm, an, cdv, ct, osl, rfl, lk, hcd⟩ := F.ex
  exact .all (h kV doc pm an cdv ct)
theorem fun_mk {x qual : Str} {st : Stmt} {f : Addr} {oc : Value} {od an : Option Addr} {osl : Array (Option Value)} {kV doc pm cdv ct : Value} (l : K.lookup f = some ⟨oc, od, .func (PySem.W.fnOf x qual (defArgs st) (defBody st) (defScope st) .none kV doc pm an cdv ct), osl⟩)
    (c : PySem.W.codeIn K cdv qual = true) (k : PySem.W.keepIn K (.ref f) = true) : Fun K x qual st f (PySem.W.fnOf x qual (defArgs st) (defBody st) (defScope st) .none kV doc pm an cdv ct) := ⟨⟨oc, od, kV, doc, pm, an, cdv, ct, osl, rfl, l, c⟩, k⟩
end

/-! ### expressions in short: the name that stands in the i-th slot -/
section
variable {X : Cx}
theorem pv (i : Nat) {x : Str} {pos : Pos} (hN : X.N[i]? = some x := by rfl) (hv : Vis X.env.scope x := by first | exact Or.inl rfl | exact Or.inr (Or.inl rfl) | exact Or.inr (Or.inr rfl)) (hd : (x == ("__debug__" : Str)) = false := by decide)
    (hcd : (x == ("__classdict__" : Str)) = false := by decide) : PE X (.Name x pos) (tVar i) := pe_var hN hv hd hcd
end

/-! ### tests -/
theorem iteF {A B : Prop} (h : B) : if false = true then A else B := by
  rw [if_neg Bool.false_ne_true]
  exact h
theorem iteT {A B : Prop} (h : A) : if true = true then A else B := by
  rw [if_pos rfl]
  exact h
theorem ite2 {c A B : Prop} [Decidable c] (h1 : c → A) (h2 : ¬ c → B) : if c then A else B := by
  by_cases h : c
  · rw [if_pos h]
    exact h1 h
  · rw [if_neg h]
    exact h2 h
theorem iteNS {c A B : Prop} [Decidable c] (hc : c) (h : B) : if (!decide c) = true then A else B := by
  rw [decide_eq_true hc]
  exact iteF h

/-! ### heaps -/
/-- all that was tracked is as it was -/
def Same (H H' : Hp) : Prop := ∀ b o, H b = some o → H' b = some o
theorem Same.refl (H : Hp) : Same H H := fun _ _ h => h
theorem Same.trans {H H1 H2 : Hp} (a : Same H H1) (b : Same H1 H2) : Same H H2 := fun c o h => b c o (a c o h)
theorem Same.seq {K : PySem.W.Frag} {H H' : Hp} {a : Addr} {xs : List V} (e : Same H H') (h : SqL K H a xs) : SqL K H' a xs := by
  rcases h with (h | ⟨o, h⟩) | h
  · exact .inl (.inl (e _ _ h))
  · exact .inl (.inr ⟨o, e _ _ h⟩)
  · exact .inr h

/-! ### a dict's pairs: keys that differ -/
section
variable {κ : Type} [DecidableEq κ]
end
end L2

set_option Elab.async false
set_option linter.all false
set_option maxRecDepth 100000
set_option maxHeartbeats 4000000
namespace L2
open PySem PySem.Spec PyProof.Rows

/-! ## a list comprehension of one clause -/
abbrev NoE : Value → Shared → Prop := fun _ _ => False

theorem compLoop_any {prog : Program} {w : World} {A : Around} {elt target iter : Expr} {ifs : List Expr} {scope : Scope} {pos : Pos} {it acc : Value} {env : Env} {R : Result → Shared → Prop} {s : Shared} (I : Nat → Shared → Prop)
    (turn : ∀ n s, I n s → wpAny (model prog w) A (pyNext it) (fun r s₁ => match r with
      | none => R (.ok .next) s₁
      | some v => wpAny (model prog w) A (letOwnedTupleGo target it v) (fun _ s₁' => wpAny (model prog w) A (assign target env v) (fun _ s₂ =>
          wpAny (model prog w) A (forIn ifs true fun c r => if r = true then do let ok ← isTrue c env (eval c env); pure (ForInStep.yield ok) else pure (ForInStep.yield r)) (fun ok s₃ =>
            if ok = true then wpAny (model prog w) A (eval elt env) (fun x s₄ =>
              wpAny (model prog w) A (call (.builtin "list.append") [acc, x]) (fun _ s₅ => ∃ m, m < n ∧ I m s₅) NoE s₄) NoE s₃
            else ∃ m, m < n ∧ I m s₃) NoE s₂) NoE s₁') NoE s₁) NoE s)
    (n : Nat) (h : I n s) : codeAny (model prog w) A (.compLoop (.ListComp elt [⟨target, iter, ifs, 0⟩] scope pos) 0 it acc env) R s := by
  refine codeAny_loop rfl I (fun n s hI => ?_) n h
  show wpAny _ A ((compTurn (.ListComp elt [⟨target, iter, ifs, 0⟩] scope pos) 0 it acc env).onRaise (fun x => do noteFrame x env; theTreesLotGoes x)) _ _ s
  refine wpAny_noted ?_
  rw [compTurn_list]
  refine wpAny_bind (wpAny_standAt (wpAny_bind (wpAny_mono (turn n s hI) (fun r s₁ h₁ => ?_) fun _ _ h' => h'.elim)))
  cases r with
  | none => exact wpAny_pure h₁
  | some v =>
    refine wpAny_bind (wpAny_mono h₁ (fun _ s₁' h₁' => ?_) fun _ _ h' => h'.elim)
    refine wpAny_bind (wpAny_mono h₁' (fun _ s₂ h₂ => wpAny_bind (wpAny_mono h₂ (fun ok s₃ h₃ => ?_) fun _ _ h' => h'.elim)) fun _ _ h' => h'.elim)
    cases ok with
    | false => exact wpAny_pure ⟨rfl, h₃⟩
    | true =>
      exact wpAny_bind (wpAny_bind (wpAny_mono h₃ (fun x s₄ h₄ => wpAny_bind (wpAny_mono h₄ (fun _ s₅ h₅ => wpAny_pure (wpAny_pure ⟨rfl, h₅⟩)) fun _ _ h' => h'.elim)) fun _ _ h' => h'.elim))

/-- the block's context -/
def cxC (X : Cx) (N : List Str) (scope : Scope) (cl : List (Str × Addr)) (C : Addr) (ex : List Addr) (s : Shared) (H : Hp) : Cx where
  prog := X.prog
  w := X.w
  K := X.K
  mg := X.mg
  base := X.base
  A := X.A
  N := N
  s₀ := s
  H₀ := H
  env := compEnvC scope cl C X.env
  outer := X.stack
  stack := X.stack
  ex := ex
  fn := fun _ => false
  calm := X.calm
  pn := []
  xe := fun _ _ => False

def AllP {α : Type} (P : α → Prop) : List α → Prop
  | [] => True
  | a :: r => P a ∧ AllP P r
theorem AllP.mem {α : Type} {P : α → Prop} : ∀ {l : List α} {a : α}, AllP P l → a ∈ l → P a
  | _ :: _, _, h, m => by
    rcases List.mem_cons.mp m with e | m
    · exact e ▸ h.1
    · exact AllP.mem h.2 m

/-- a captured name: its slot in the def, a cell on both sides -/
def CapOk (X : Cx) (sc : Scope) (cl : List (Str × Addr)) (p : Str × Nat) : Prop :=
  X.N[p.2]? = some p.1 ∧ (X.env.kindOf p.1 = some .cell ∨ X.env.kindOf p.1 = some .free) ∧ (sc.names.lookup p.1 = some .cell ∨ sc.names.lookup p.1 = some .free) ∧ cl.lookup p.1 = X.env.cells.lookup p.1

structure CompOk (X : Cx) (scope : Scope) (cl : List (Str × Addr)) (own : List Str) (cap : List (Str × Nat)) : Prop where
  clos : closureFor scope X.env = pure cl
  kind : scope.kind = .function
  noCell : ∀ y ∈ scope.names, y.2 ≠ .cell
  names : ∀ y ∈ scope.names, y.2 = .local → scope.names.lookup y.1 = some .local
  sub : AllP (fun p : Str × Addr => X.env.cells.lookup p.1 = some p.2) cl
  has : (relabel scope X.env).names.all (fun p => !(p.2 == .cell || p.2 == .free) || (cl.lookup p.1).isSome) = true
  caps : AllP (CapOk X (relabel scope X.env) cl) cap
theorem CompOk.subL {X : Cx} {scope : Scope} {cl : List (Str × Addr)} {own : List Str} {cap : List (Str × Nat)} (S : CompOk X scope cl own cap) : ∀ x c, cl.lookup x = some c → X.env.cells.lookup x = some c := fun x c e =>
  S.sub.mem (PySem.mem_of_lookup e)
theorem CompOk.hasL {X : Cx} {scope : Scope} {cl : List (Str × Addr)} {own : List Str} {cap : List (Str × Nat)} (S : CompOk X scope cl own cap) :
    ∀ x, ((relabel scope X.env).names.lookup x = some .cell ∨ (relabel scope X.env).names.lookup x = some .free) → ∃ c, cl.lookup x = some c := fun x h => by
  have all := List.all_eq_true.mp S.has
  rcases h with e | e
  · have q := all _ (PySem.mem_of_lookup e)
    exact Option.isSome_iff_exists.mp (by simpa using q)
  · have q := all _ (PySem.mem_of_lookup e)
    exact Option.isSome_iff_exists.mp (by simpa using q)

/-- the names' values at the block's entry -/
def capSt (own : List Str) (cap : List (Str × Nat)) (σ : St) : St := List.replicate own.length none ++ cap.map fun p => (σ[p.2]?).getD none

/-- what the comprehension's own frame is to the def's: not tracked, new -/
structure NewC (X : Cx) (pins : List (Addr × Obj)) (H : Hp) (C : Addr) : Prop where
  h : H C = none
  l : C ≠ X.env.locals
  s : X.s₀.heap.objs.size ≤ C
  c : ∀ x c, X.env.cells.lookup x = some c → c ≠ C
  p : ∀ p ∈ X.pn ++ pins, p.1 ≠ C
theorem NewC.go {X : Cx} {pins : List (Addr × Obj)} {σ : St} {H : Hp} {s : Shared} {C : Addr} {h' : Heap} (n : NewC X pins H C) (I : Inv X pins σ H s) (e : Heap.SameBut C s.heap h') : Inv X pins σ H { s with heap := h' } :=
  I.turned (t' := s.toks) (fun b o hb q => (e.2 b hb).trans q) n.h n.l (.inr n.s) n.c n.p

/-- tests of a clause -/
def PTs (X : Cx) (ifs : List Expr) (t : TT) : Prop :=
  ∀ (pins : List (Addr × Obj)) (s : Shared) (σ : St) (H : Hp) (Q : Bool → Hp → Prop), Inv X pins σ H s → t σ H Q →
    wpAny (model X.prog X.w) X.A (forIn ifs true fun c r => if r = true then do let ok ← isTrue c X.env (eval c X.env); pure (ForInStep.yield ok) else pure (ForInStep.yield r)) (TP X pins σ Q) X.xe s
def tNoTest : TT := fun _ H Q => Q true H
theorem pts_nil {X : Cx} : PTs X [] tNoTest := fun _ _ _ H _ I h => wpAny_tests_nil ⟨H, I, h⟩

/-- an untracked list of ours is tracked from here on -/
theorem Inv.track {X : Cx} {pins : List (Addr × Obj)} {σ : St} {H : Hp} {s : Shared} {D : Addr} {out : List V} {its : List Value} {k : Nat} (I : Inv X pins σ H s) (n : NewC X pins H D) (hl : out.length ≤ sizeLine) (r : Vals out its)
    (e : s.heap.get? D = some { cls := .type "list", data := .seq its.toArray k }) : Inv X pins σ (upd H D (.lst out)) s := by
  have ne : ∀ {b : Addr} {u : HO}, H b = some u → b ≠ D := fun q => ne_of_none q n.h
  refine I.step (h' := s.heap) (g' := s.gens) (d' := s.drawn) (t' := s.toks) (ch := [D]) (fun b hb => ?_) (fun b o _ _ _ q _ => q) (fun b o _ _ _ q _ => ⟨o.slots, q⟩) (fun b o hb q n' => ?_) (fun b o _ q => ⟨o, q⟩)
    (fun b xs q => by rw [upd_ne (ne q)]; exact q) (fun b o u q => by rw [upd_ne (ne q)]; exact q) (fun b ps q => ⟨#[], by rw [upd_ne (ne q), q]; simp⟩) (fun m hm => hm) (fun b u q => ?_) I.bare
  · have z : b = D := by simpa using hb
    subst z
    exact ⟨.inr n.s, n.l, n.c, n.p⟩
  · rw [upd_ne (by simpa using hb)]; exact n'
  · by_cases hb : b = D
    · subst hb; rw [upd_same] at q; cases q; exact ⟨hl, its, k, r, e⟩
    · rw [upd_ne hb] at q
      exact (I.hok b u q).stay (fun _ _ _ z => z) (fun c z => by rw [upd_ne (ne z)]; exact z) fun c xs z => by rw [upd_ne (ne z)]; exact z

/-- the context of the block is in order -/
theorem cxC_ok {X : Cx} {pins : List (Addr × Obj)} {σ : St} {H : Hp} {s s3 : Shared} {scope : Scope} {cl : List (Str × Addr)} {own : List Str} {cap : List (Str × Nat)} {N : List Str} {fp : List Addr} {C D : Addr}
    (S : CompOk X scope cl own cap) (I : Inv X pins σ H s) (I3 : Inv X pins σ H s3) (hD : s.heap.objs.size ≤ D) (hDC : D < C) (hC : s3.heap.objs.size = C) (f2 : ∀ b ∈ fp, FpOk X pins H b) (hfp : ∀ b ∈ fp, b < s.heap.objs.size) :
    (cxC X N scope cl C (fp ++ [D]) s3 H).Ok := by
  have cellLt : ∀ x c, X.env.cells.lookup x = some c → c < s.heap.objs.size := fun x c e => by
    obtain ⟨v, q⟩ := I.cell x c e
    exact q.lt
  refine ⟨I.ok.mod, S.kind, I.ok.glob, I.ok.blt, Nat.le_of_eq hC, fun x y c e1 e2 => I.ok.inj x y c (S.subL _ _ e1) (S.subL _ _ e2), fun x h => S.hasL x h, fun x c e _ => absurd (show false = true from e) Bool.false_ne_true, I.ok.hd, I.ok.frames, .inl rfl, fun b hb => ?_, I3.bs, Nat.le_trans I.ok.bsz I3.sz, fun b o e hb => ?_, fun b hb => ?_, I3.stack, I3.stkFree⟩
  · rcases List.mem_append.mp hb with hb | hb
    · refine ⟨Nat.ne_of_lt (Nat.lt_trans (Nat.lt_of_lt_of_le (hfp b hb) hD) hDC), fun x c e => (f2 b hb).2.2.2.2.1 x c (S.subL _ _ e)⟩
    · have z : b = D := by simpa using hb
      subst z
      exact ⟨Nat.ne_of_lt hDC, fun x c e => Nat.ne_of_lt (Nat.lt_of_lt_of_le (cellLt x c (S.subL _ _ e)) hD)⟩
  · have hlt : b < X.s₀.heap.objs.size := Nat.lt_of_lt_of_le (Heap.lt_size e) I.ok.bsz
    rcases List.mem_append.mp hb with hb | hb
    · rcases (f2 b hb).2.2.2.1 with z | z
      · exact I.ok.noex b o e z
      · exact absurd (Nat.lt_of_lt_of_le hlt z) (Nat.lt_irrefl _)
    · have z : b = D := by simpa using hb
      subst z
      exact absurd (Nat.lt_of_lt_of_le hlt (Nat.le_trans I.sz hD)) (Nat.lt_irrefl _)
  · intro hf
    rcases List.mem_cons.mp (I.stkSub b hf) with z | z
    · rcases List.mem_append.mp hb with hb | hb
      · exact (f2 b hb).2.1 z
      · have y : b = D := by simpa using hb
        exact absurd (Nat.lt_of_lt_of_le I.lt hD) (by rw [← z, y]; exact Nat.lt_irrefl _)
    · rcases List.mem_append.mp hb with hb | hb
      · exact (f2 b hb).2.2.1 z
      · have y : b = D := by simpa using hb
        exact I.nofs hD (y ▸ z)

theorem comp_block {X : Cx} {pins : List (Addr × Obj)} {σ : St} {H : Hp} {s2 : Shared} {elt tg iter : Expr} {ifs : List Expr} {scope : Scope} {pos : Pos} {cl : List (Str × Addr)} {own : List Str} {cap : List (Str × Nat)} {g : Addr → List Addr → Shared → Hp → TG} {ti : Addr → List Addr → Shared → Hp → TT} {te : Addr → List Addr → Shared → Hp → TE}
    {E : Value → Shared → Prop} {RR : Value → Addr → Result → Shared → Prop} {it : Addr} {fp : List Addr} {tn : Nat → Heap → Prop} {J : It} {Fin : List V → Hp → Prop}
    (S : CompOk X scope cl own cap) (hc : X.calm = true)
    (hg : ∀ C ex s H, PG (cxC X (own ++ cap.map (·.1)) scope cl C ex s H) tg (g C ex s H)) (ht : ∀ C ex s H, PTs (cxC X (own ++ cap.map (·.1)) scope cl C ex s H) ifs (ti C ex s H)) (he : ∀ C ex s H, PE (cxC X (own ++ cap.map (·.1)) scope cl C ex s H) elt (te C ex s H))
    (I : Inv X pins σ H s2) (T : Turn X.prog X.w X.K tg J fp it tn) (st : tn 0 s2.heap) (f2 : ∀ b ∈ fp, FpOk X pins H b)
    (all : ∀ C ex s0 H0, ∃ W : Nat → Nat → List V → St → Hp → Prop, (∃ m, W 0 m [] (capSt own cap σ) H) ∧ ∀ i m out σ' H', W i m out σ' H' → (J.stop i H' ∧ Fin out H') ∨ (J.go i H' ∧ ∀ x H2, J.yld i H' x H2 → g C ex s0 H0 x σ' H2 fun σ3 H3 => ti C ex s0 H0 σ3 H3 fun b H4 =>
      if b = true then te C ex s0 H0 σ3 H4 (fun y H5 => out.length < sizeLine ∧ ∃ m', m' < m ∧ W (i + 1) m' (out ++ [y]) σ3 H5) else ∃ m', m' < m ∧ W (i + 1) m' out σ3 H4))
    (hRR : ∀ D C s' He out mm, s'.heap.Ns C mm → Inv X pins σ (upd He D (.lst out)) s' → NewC X pins (upd He D (.lst out)) C → He D = none → Fin out He → RR (.ref D) C (.ok .next) s') :
    wpAny (model X.prog X.w) X.A (newList []) (fun acc s₃ => wpAny (model X.prog X.w) X.A (newFunctionEnv scope X.env.globals cl [] X.env.qual none .none (some X.env)) (fun cenv s₄ =>
      codeAny (model X.prog X.w) X.A (.compStart (.ListComp elt [⟨tg, iter, ifs, 0⟩] scope pos) 0 (.ref it) acc { cenv with scope := relabel scope X.env }) (RR acc cenv.locals) s₄) E s₃) E s2 := by
  refine wpAny_newObj_type (wpAny_newFunctionEnv S.noCell (by intro y hy; simp at hy) (fun h₁ hns₁ hsb₁ => ?_) S.kind)
  dsimp only at hns₁ hsb₁ ⊢
  generalize hH3 : s2.heap.push { cls := .type "list", dict := none, data := .seq ([] : List Value).toArray } = H3 at hns₁ hsb₁ ⊢
  have hC : H3.objs.size = s2.heap.objs.size + 1 := by rw [← hH3, Heap.size_push]
  have keep3 : ∀ b o, s2.heap.get? b = some o → H3.get? b = some o := fun b o e => hH3 ▸ Heap.get?_push_of_some _ e
  have acc3 : H3.get? s2.heap.objs.size = some { cls := .type "list", data := .seq ([] : List Value).toArray 0 } := hH3 ▸ Heap.get?_push_size _ rfl
  have I3 : Inv X pins σ H { s2 with heap := H3 } := I.kept (t' := s2.toks) keep3
  have keep4 : ∀ b o, H3.get? b = some o → h₁.get? b = some o := fun b o e => hsb₁.extBut b o (Nat.ne_of_lt (Heap.lt_size e)) (Heap.get?_push_of_some _ e)
  have hfp : ∀ b ∈ fp, b < s2.heap.objs.size := fun b hb => by
    obtain ⟨o, e, _⟩ := T.obj _ _ st b hb
    exact Heap.lt_size e
  generalize hDe : s2.heap.objs.size = D at hC acc3 ⊢
  have hDC : D < H3.objs.size := by rw [hC]; exact Nat.lt_succ_self _
  have hDle : s2.heap.objs.size ≤ D := Nat.le_of_eq hDe
  have ok : (cxC X (own ++ cap.map (·.1)) scope cl H3.objs.size (fp ++ [D]) { s2 with heap := H3 } H).Ok := cxC_ok S I I3 hDle hDC rfl f2 hfp
  have cellLt : ∀ x c, X.env.cells.lookup x = some c → c < s2.heap.objs.size := fun x c e => by
    obtain ⟨v, q⟩ := I.cell x c e
    exact q.lt
  have newD : ∀ {H' : Hp}, H' D = none → NewC X pins H' D := fun hn => ⟨hn, Nat.ne_of_gt (Nat.lt_of_lt_of_le I.lt hDle), Nat.le_trans I.sz hDle, fun x c e => Nat.ne_of_lt (Nat.lt_of_lt_of_le (cellLt x c e) hDle), fun p hp => Nat.ne_of_lt (Nat.lt_of_lt_of_le (Heap.lt_size (I.pin p hp).1) hDle)⟩
  have newC : ∀ {H' : Hp}, H' H3.objs.size = none → NewC X pins H' H3.objs.size := fun hn =>
    ⟨hn, Nat.ne_of_gt (Nat.lt_trans (Nat.lt_of_lt_of_le I.lt hDle) hDC), Nat.le_trans (Nat.le_trans I.sz hDle) (Nat.le_of_lt hDC), fun x c e => Nat.ne_of_lt (Nat.lt_trans (Nat.lt_of_lt_of_le (cellLt x c e) hDle) hDC), fun p hp => Nat.ne_of_lt (Nat.lt_trans (Nat.lt_of_lt_of_le (Heap.lt_size (I.pin p hp).1) hDle) hDC)⟩
  have hDf : D ∉ fp := fun hb => absurd (Nat.lt_of_lt_of_le (hfp D hb) hDle) (Nat.lt_irrefl _)
  have hHD : H D = none := I.hok.fresh hDle
  obtain ⟨W, ⟨m0, w0⟩, turn⟩ := all H3.objs.size (fp ++ [D]) { s2 with heap := H3 } H
  -- the block's first state
  have I4 : Inv (cxC X (own ++ cap.map (·.1)) scope cl H3.objs.size (fp ++ [D]) { s2 with heap := H3 } H) [] (capSt own cap σ) H { s2 with heap := h₁, toks := s2.toks + ([] : List (Str × Value)).length } := by
    refine ⟨ok, rfl, I.bare, Un.kept keep4, ⟨_, hns₁, fun i x v e1 e2 e3 => ?_⟩, fun x c e => ?_, I3.hok.fresh (Nat.le_refl _), fun x c e => I.freeC x c (S.subL _ _ e), fun p hp => absurd (show p ∈ ([] : List (Addr × Obj)) from hp) (by simp), I3.hok.kept keep4, ?_⟩
    · -- a captured name
      have hi : ¬ i < own.length := fun hi => by
        unfold capSt at e2
        rw [List.getElem?_append_left (by simpa using hi), List.getElem?_replicate] at e2
        split at e2 <;> cases e2
      obtain ⟨j, rfl⟩ : ∃ j, i = own.length + j := ⟨i - own.length, by omega⟩
      have e2' : (cap.map fun p => (σ[p.2]?).getD none)[j]? = some (some v) := by
        unfold capSt at e2
        rw [List.getElem?_append_right (by simp)] at e2
        simpa using e2
      have e1' : (cap.map (·.1))[j]? = some x := by
        have e1 : (own ++ cap.map (·.1))[own.length + j]? = some x := e1
        rw [List.getElem?_append_right (by simp)] at e1
        simpa using e1
      rw [List.getElem?_map] at e1' e2'
      cases hp : cap[j]? with
      | none => rw [hp] at e1'; cases e1'
      | some p =>
        rw [hp] at e1' e2'
        have e1' : p.1 = x := Option.some.inj e1'
        have e2' : (σ[p.2]?).getD none = some v := Option.some.inj e2'
        obtain ⟨c1, c2, c3, c4⟩ := S.caps.mem (List.mem_of_getElem? hp)
        have hs : σ[p.2]? = some (some v) := by
          cases q : σ[p.2]? with
          | none => rw [q] at e2'; cases e2'
          | some z => rw [q] at e2'; exact congrArg some e2'
        have vis : Vis X.env.scope p.1 := c2.elim (fun z => .inr (.inl z)) fun z => .inr (.inr z)
        obtain ⟨m, hn, hl⟩ := I.loc
        obtain ⟨u, r, l⟩ := hl p.2 p.1 v c1 hs vis
        refine ⟨u, r, ?_⟩
        subst e1'
        rcases l with ⟨k, _⟩ | ⟨_, c, ec, z⟩
        · rcases c2 with z | z
          · rw [z] at k; cases k
          · rw [z] at k; cases k
        · obtain ⟨o, ho, hd⟩ := z
          exact .inr ⟨c3, c, c4.trans ec, o, keep4 _ _ (keep3 _ _ ho), hd⟩
    · obtain ⟨v, o, ho, hd⟩ := I.cell x c (S.subL _ _ e)
      exact ⟨v, o, keep4 _ _ (keep3 _ _ ho), hd⟩
    · show (capSt own cap σ).length = (own ++ cap.map (·.1)).length
      unfold capSt
      simp
  have st4 : tn 0 h₁ := T.keep _ _ _ st fun b hb o e => keep4 _ _ (keep3 _ _ e)
  -- FpOk in the block
  have fpC : ∀ {pins' : List (Addr × Obj)} {H' : Hp}, (∀ b ∈ fp, H' b = none) → (∀ p ∈ pins', p.1 ∉ fp) → ∀ b ∈ fp, FpOk (cxC X (own ++ cap.map (·.1)) scope cl H3.objs.size (fp ++ [D]) { s2 with heap := H3 } H) pins' H' b := fun {pins' H'} hn hp b hb =>
    ⟨hn b hb, (ok.exf b (List.mem_append_left _ hb)).1, ok.exfs b (List.mem_append_left _ hb), .inl (List.mem_append_left _ hb), (ok.exf b (List.mem_append_left _ hb)).2, fun p q z => hp p (by have q' : p ∈ ([] : List (Addr × Obj)) ++ pins' := q; simpa using q') (z ▸ hb)⟩
  have loop : ∀ s₃ : Shared, s₃ = { s2 with heap := h₁, toks := s2.toks + ([] : List (Str × Value)).length } →
      codeAny (model X.prog X.w) X.A (.compLoop (.ListComp elt [⟨tg, iter, ifs, 0⟩] scope pos) 0 (.ref it) (.ref D) (compEnvC scope cl H3.objs.size X.env)) (RR (.ref D) H3.objs.size) s₃ := by
    rintro s₃ rfl
    refine compLoop_any (fun n s' => ∃ i out σ' H' its k, Inv (cxC X (own ++ cap.map (·.1)) scope cl H3.objs.size (fp ++ [D]) { s2 with heap := H3 } H) [] σ' H' s' ∧ tn i s'.heap ∧ (∀ b ∈ fp, H' b = none) ∧ H' D = none ∧
      s'.heap.get? D = some { cls := .type "list", data := .seq (its : List Value).toArray k } ∧ Vals out its ∧ out.length ≤ sizeLine ∧ W i n out σ' H') ?_ m0
      ⟨0, [], _, H, [], 0, I4, st4, fun b hb => (f2 b hb).1, hHD, keep4 _ _ acc3, .nil, Nat.zero_le _, w0⟩
    rintro n s5 ⟨i, out, σ5, H5, its, k, I5, st5, fr5, hD5, eD5, rv, hl5, w5⟩
    have pinD : ∀ {σ' : St} {H' : Hp} {s' : Shared}, Inv (cxC X (own ++ cap.map (·.1)) scope cl H3.objs.size (fp ++ [D]) { s2 with heap := H3 } H) [] σ' H' s' → H' D = none → s'.heap.get? D = some { cls := .type "list", data := .seq its.toArray k } →
        Inv (cxC X (own ++ cap.map (·.1)) scope cl H3.objs.size (fp ++ [D]) { s2 with heap := H3 } H) [(D, { cls := .type "list", data := .seq its.toArray k })] σ' H' s' := fun I' hn e => I'.pins_of fun p hp => by
      have z : p = (D, ({ cls := .type "list", data := .seq its.toArray k } : Obj)) := by simpa using hp
      subst z
      exact ⟨e, hn, (ok.exf D (show D ∈ fp ++ [D] by simp)).1, ok.exfs D (show D ∈ fp ++ [D] by simp), fun v z => by
        have z' : Data.seq its.toArray k = Data.cell v := z
        cases z'⟩
    have I5' := pinD I5 hD5 eD5
    have fp5 := fpC (pins' := [(D, ({ cls := .type "list", data := .seq its.toArray k } : Obj))]) fr5 fun p hp => by
      have z : p = (D, ({ cls := .type "list", data := .seq its.toArray k } : Obj)) := by simpa using hp
      subst z; exact hDf
    rcases turn i n out σ5 H5 w5 with ⟨stop, fin⟩ | ⟨go, step⟩
    · refine thn (T.done (cxC X (own ++ cap.map (·.1)) scope cl H3.objs.size (fp ++ [D]) { s2 with heap := H3 } H) rfl rfl rfl hc i _ s5 σ5 H5 NoE I5' fp5 st5 stop) fun r s6 ⟨hr, I6⟩ => ?_
      subst hr
      obtain ⟨eD6, _⟩ := I6.pin (D, _) (List.mem_append_right _ (List.mem_cons_self))
      have I6X : Inv X pins σ H5 s6 := I3.call' (s' := s6) (ch := fp ++ [D]) I6.os I6.base I6.hok I6.bare fun b hb => by
        rcases List.mem_append.mp hb with hb | hb
        · obtain ⟨_, q1, _, q3, q4, q5⟩ := f2 b hb
          exact ⟨q3, q1, q4, q5⟩
        · have z : b = D := by simpa using hb
          subst z
          have nd := newD (H' := H) hHD
          exact ⟨.inr nd.s, nd.l, nd.c, nd.p⟩
      obtain ⟨mm, hmm, _⟩ := I6.loc
      exact hRR D H3.objs.size s6 H5 out mm hmm (I6X.track (newD hD5) hl5 rv eD6) (newC (by rw [upd_ne (Nat.ne_of_gt hDC)]; exact I6.free)) hD5 fin
    · refine thn (T.item (cxC X (own ++ cap.map (·.1)) scope cl H3.objs.size (fp ++ [D]) { s2 with heap := H3 } H) rfl rfl rfl hc i _ s5 σ5 H5 NoE I5' fp5 st5 go) fun r s6 ⟨u, hr, h6⟩ => ?_
      subst hr
      refine thn h6 fun _ s7 ⟨x, H7, I7, r7, y7, st7, fr7⟩ => ?_
      have eD7 := I7.pin (D, _) (List.mem_append_right _ (List.mem_cons_self))
      have fp7 := fpC (pins' := [(D, ({ cls := .type "list", data := .seq its.toArray k } : Obj))]) fr7 fun p hp => by
        have z : p = (D, ({ cls := .type "list", data := .seq its.toArray k } : Obj)) := by simpa using hp
        subst z; exact hDf
      have I7' := I7.pinned fp7 (T.obj _ _ st7)
      refine thn (hg _ _ _ _ _ s7 σ5 H7 x u _ I7' r7 (step x H7 y7)) fun _ s8 ⟨σ8, H8, I8, q8⟩ => ?_
      refine thn (ht _ _ _ _ _ s8 σ8 H8 _ I8 q8) fun b s9 ⟨H9, I9, q9⟩ => ?_
      -- what stays of the iterator and of the list
      have back : ∀ {σ' : St} {H' : Hp} {s' : Shared}, Inv (cxC X (own ++ cap.map (·.1)) scope cl H3.objs.size (fp ++ [D]) { s2 with heap := H3 } H) ([(D, ({ cls := .type "list", data := .seq its.toArray k } : Obj))] ++ pinsAt fp s7.heap) σ' H' s' →
          (∀ b ∈ fp, H' b = none) ∧ (∀ b ∈ fp, ∀ o, s7.heap.get? b = some o → s'.heap.get? b = some o) ∧ H' D = none ∧ s'.heap.get? D = some { cls := .type "list", data := .seq its.toArray k } := fun I' => by
        refine ⟨fun b hb => ?_, fun b hb o e => (I'.pin (b, o) (List.mem_append_right _ (List.mem_append_right _ (mem_pinsAt hb e)))).1, (I'.pin (D, _) (List.mem_append_right _ (List.mem_append_left _ List.mem_cons_self))).2.1, (I'.pin (D, _) (List.mem_append_right _ (List.mem_append_left _ List.mem_cons_self))).1⟩
        obtain ⟨o, e, d⟩ := T.obj _ _ st7 b hb
        exact (I'.pin (b, o) (List.mem_append_right _ (List.mem_append_right _ (mem_pinsAt hb e)))).2.1
      cases b with
      | false =>
        obtain ⟨m', hm, w9⟩ : ∃ m', m' < n ∧ W (i + 1) m' out σ8 H9 := by simpa using q9
        obtain ⟨a1, a2, a3, a4⟩ := back I9
        show ∃ m, m < n ∧ _
        exact ⟨m', hm, i + 1, out, σ8, H9, its, k, I9.pins_of fun p hp => by simp at hp, T.keep _ _ _ st7 a2, a1, a3, a4, rv, hl5, w9⟩
      | true =>
        have q9 : te H3.objs.size (fp ++ [D]) { s2 with heap := H3 } H σ8 H9 (fun y H5 => out.length < sizeLine ∧ ∃ m', m' < n ∧ W (i + 1) m' (out ++ [y]) σ8 H5) := by simpa using q9
        show wpAny _ _ (eval elt _) _ _ s9
        refine thn (he _ _ _ _ _ s9 σ8 H9 _ I9 q9) fun v s10 ⟨y, H10, I10, r10, hl10, m', hm, w10⟩ => ?_
        obtain ⟨a1, a2, a3, a4⟩ := back I10
        have hsz : its.toArray.size ≤ sizeLine := by rw [List.size_toArray, ← rv.length]; exact hl5
        refine wpAny_list_append_plain (hsz := hsz) (l := D) (items := its.toArray) ⟨k, a4⟩ fun h11 ⟨k', e11⟩ s11 => ?_
        have I11 : Inv (cxC X (own ++ cap.map (·.1)) scope cl H3.objs.size (fp ++ [D]) { s2 with heap := H3 } H) [] σ8 H10 { s10 with heap := h11 } :=
          (I10.pins_of (pins' := []) fun p hp => by simp at hp).turned (t' := s10.toks) (fun b o hb e => (s11.2 b hb).trans e) a3 (ok.exf D (show D ∈ fp ++ [D] by simp)).1 (.inl (by show D ∈ fp ++ [D]; simp)) (ok.exf D (show D ∈ fp ++ [D] by simp)).2 (fun p hp => absurd (show p ∈ ([] : List (Addr × Obj)) from hp) (by simp))
        refine ⟨m', hm, i + 1, out ++ [y], σ8, H10, its ++ [v], k', I11, T.keep _ _ _ st7 fun b hb o e => (s11.2 b fun z => hDf (z ▸ hb)).trans (a2 b hb o e), a1, a3, ?_, Vals.append rv (.cons r10 .nil), by rw [List.length_append]; exact hl10, w10⟩
        rw [show (its ++ [v]).toArray = its.toArray.push v by simp]
        exact e11
  exact codeAny_compStart_list (loop _ rfl) (T.self _ 0 _ _ _ st4 (loop _ rfl))

/-- the reading of a comprehension: W: the invariant by the turn, a measure, what is made so far; the four letters name the block's context -/
def tComp (wi : TI) (own : List Str) (cap : List (Str × Nat)) (g : Addr → List Addr → Shared → Hp → TG) (ti : Addr → List Addr → Shared → Hp → TT) (te : Addr → List Addr → Shared → Hp → TE) : TE := fun σ H Q => wi σ H fun J H1 => ∀ C ex s0 H0, ∃ W : Nat → Nat → List V → St → Hp → Prop, (∃ m, W 0 m [] (capSt own cap σ) H1) ∧
  ∀ i m out σ' H', W i m out σ' H' → (J.stop i H' ∧ ∀ p, H' p = none → Q (.ref p) (upd H' p (.lst out))) ∨ (J.go i H' ∧ ∀ x H2, J.yld i H' x H2 → g C ex s0 H0 x σ' H2 fun σ3 H3 => ti C ex s0 H0 σ3 H3 fun b H4 =>
      if b = true then te C ex s0 H0 σ3 H4 (fun y H5 => out.length < sizeLine ∧ ∃ m', m' < m ∧ W (i + 1) m' (out ++ [y]) σ3 H5) else ∃ m', m' < m ∧ W (i + 1) m' out σ3 H4)
theorem pe_comp {X : Cx} {elt tg iter : Expr} {ifs : List Expr} {scope : Scope} {pos : Pos} {cl : List (Str × Addr)} {own : List Str} {cap : List (Str × Nat)} {wi : TI} {g : Addr → List Addr → Shared → Hp → TG} {ti : Addr → List Addr → Shared → Hp → TT} {te : Addr → List Addr → Shared → Hp → TE}
    (S : CompOk X scope cl own cap) (hc : X.calm = true) (hi : PI X tg iter wi)
    (hg : ∀ C ex s H, PG (cxC X (own ++ cap.map (·.1)) scope cl C ex s H) tg (g C ex s H)) (ht : ∀ C ex s H, PTs (cxC X (own ++ cap.map (·.1)) scope cl C ex s H) ifs (ti C ex s H)) (he : ∀ C ex s H, PE (cxC X (own ++ cap.map (·.1)) scope cl C ex s H) elt (te C ex s H))
    (hs : ∀ x, foldedSetIterable iter X.env x = pure x := by intro _; rfl) : PE X (.ListComp elt [⟨tg, iter, ifs, 0⟩] scope pos) (tComp wi own cap g ti te) := by
  intro pins s σ H Q I h
  rw [eval_ListComp]
  refine wpAny_comprehension_free (use := none) rfl hs S.clos S.kind S.names (thn (hi pins s σ H _ I h) fun xv s1 h1 => thn h1 fun itv s2 h2 => ?_)
  obtain ⟨it, fp, tn, J, H2, e, I2, T, st2, f2, all⟩ := h2
  subst e
  refine comp_block (RR := fun acc C => compPost (model X.prog X.w) X.A X.xe none (EP X pins σ Q) acc C) S hc hg ht he I2 T st2 f2 all ?_
  intro D C s' He out mm hmm I' n' hD fin
  exact ⟨mm, hmm, fun h' hs' => ⟨.ref D, _, n'.go I' hs', rfl, fin D hD⟩⟩
/-- name = comprehension, of one line -/
theorem ps_comp {X : Cx} {i : Nat} {x : Str} {elt tg iter : Expr} {ifs : List Expr} {scope : Scope} {pos pos' spos : Pos} {cl : List (Str × Addr)} {own : List Str} {cap : List (Str × Nat)} {wi : TI} {g : Addr → List Addr → Shared → Hp → TG} {ti : Addr → List Addr → Shared → Hp → TT} {te : Addr → List Addr → Shared → Hp → TE}
    (hN : X.N.Nodup) (hx : X.N[i]? = some x) (hk : X.env.scope.names.lookup x = some .local)
    (S : CompOk X scope cl own cap) (hc : X.calm = true) (hi : PI X tg iter wi)
    (hg : ∀ C ex s H, PG (cxC X (own ++ cap.map (·.1)) scope cl C ex s H) tg (g C ex s H)) (ht : ∀ C ex s H, PTs (cxC X (own ++ cap.map (·.1)) scope cl C ex s H) ifs (ti C ex s H)) (he : ∀ C ex s H, PE (cxC X (own ++ cap.map (·.1)) scope cl C ex s H) elt (te C ex s H))
    (hsw : swapsWith (.ListComp elt [⟨tg, iter, ifs, 0⟩] scope pos) (some (.Name x pos')) spos.line X.env = pure true := by rfl)
    (hs : ∀ x, foldedSetIterable iter X.env x = pure x := by intro _; rfl) : PS X (.Assign [.Name x pos'] (.ListComp elt [⟨tg, iter, ifs, 0⟩] scope pos) spos) (tAsg (tComp wi own cap g ti te) (gName i)) := by
  intro pins s σ H D I h
  rw [exec_Assign_Name_used _ _ _ _ hsw]
  refine wpAny_bind (wpAny_standAt (wpAny_bind ?_))
  show wpAny _ X.A (do let _ ← comprehension (.ListComp elt [⟨tg, iter, ifs, 0⟩] scope pos) scope X.env _ (newList []) false (eval iter X.env) (some (assign (.Name x pos') X.env))) _ _ s
  refine wpAny_bind (wpAny_mono (wpAny_comprehension_free (use := some (assign (.Name x pos') X.env)) (Q := fun _ s' => SP X pins D .next s') rfl hs S.clos S.kind S.names
    (thn (hi pins s σ H _ I h) fun xv s1 h1 => thn h1 fun itv s2 h2 => ?_)) (fun _ s' hq => wpAny_pure (wpAny_pure hq)) fun _ _ e => e)
  obtain ⟨it, fp, tn, J, H2, e, I2, T, st2, f2, all⟩ := h2
  subst e
  refine comp_block (RR := fun acc C => compPost (model X.prog X.w) X.A X.xe (some (assign (.Name x pos') X.env)) (fun _ s' => SP X pins D .next s') acc C) S hc hg ht he I2 T st2 f2 all ?_
  intro D' C s' He out mm hmm I' n' hD fin
  show wpAny _ X.A (assign (.Name x pos') X.env (.ref D')) _ _ s'
  refine wpAny_assign_Name (store_ok2 I' hN hx (.inl hk) (v := .ref D') rfl (fun s'' I'' ⟨a, sb, ha⟩ => ?_) (.inr hk))
  have hLC : C ≠ a := by
    rcases ha with z | z
    · rw [z]; exact n'.l
    · exact (n'.c _ _ z).symm
  exact ⟨mm, hmm.sameBut sb hLC, fun h' hs' => ⟨_, _, n'.go I'' hs', fin D' hD⟩⟩
end L2

set_option Elab.async false
set_option linter.all false
set_option maxHeartbeats 4000000
namespace LmSort
open PySem PySem.W PyProof.Rows

/-! ## the sort's tree of questions, answered by a strict order -/

section
variable {n : Nat} {lt : Nat → Nat → Bool} {p : Array Nat}

end
end LmSort

set_option Elab.async false
set_option linter.all false
set_option maxRecDepth 100000
set_option maxHeartbeats 4000000
namespace LmSet
open PySem PyProof.Rows

/-! ## sets of texts: filled, walked, sorted -/
theorem slot_next : Slot "set_iterator" "__next__" "set_iterator.__next__" :=
  .of (owner := "set_iterator") (n := "__next__") (by rw [typeLookup_type, builtinLookup_eq_fast]; kernel_rfl) (by decide +kernel) (by decide +kernel) (by decide +kernel)
    (by first | exact .inl (by decide +kernel) | exact .inr (by decide +kernel)) (by rw [isSubtype_type]; kernel_rfl)
theorem entry_next : entryFor table "set_iterator.__next__" = some Builtin.«set_iterator.__next__» := entryFor_of_tree (by kernel_rfl)
theorem args_next (a : Value) : argsOk "set_iterator.__next__" ⟨[a], []⟩ := by unfold argsOk; kernel_rfl
theorem entry_iter : entryFor table "set.__iter__" = some Builtin.«frozenset.__iter__» :=
  entryFor_alias (id' := "frozenset.__iter__") (by kernel_rfl) rfl (by decide +kernel) (by kernel_rfl)
theorem set_len : typeLookup (.type "set") "__len__" = pure (some (.builtin "set.__len__")) := by rw [typeLookup_type, builtinLookup_eq_fast]; kernel_rfl

section tables
theorem orStandIn_led (t : SetTable) (n : Nat) : (t.orStandIn n).led = t.led ∧ (t.plain = false → (t.orStandIn n).plain = false) := by
  unfold SetTable.orStandIn
  split
  · exact ⟨rfl, fun q => q⟩
  · exact ⟨rfl, fun _ => rfl⟩
theorem lay_led (t : SetTable) (es : Array (Int × Value)) (h : Int) (x : Value) : (layNew t es h x).2.1.led = t.led ∧ (t.plain = false → (layNew t es h x).2.1.plain = false) := by
  unfold layNew
  split
  · dsimp only
    exact orStandIn_led _ _
  · exact ⟨rfl, fun _ => rfl⟩
theorem laid_led {mask finger moves : Nat} {led plain : Bool} {hs : Array Int} {t : SetTable} {o : Array Nat} (h : SetTable.laid mask finger moves led plain hs = some (t, o)) : t.led = led ∧ t.plain = plain := by
  unfold SetTable.laid at h
  cases q : SetTable.layClean mask hs with
  | none => rw [q] at h; cases h
  | some ow =>
    rw [q] at h
    have h' := Option.some.inj h
    have := congrArg Prod.fst h'
    dsimp only at this
    rw [← this]
    exact ⟨rfl, rfl⟩
theorem relay_led (t : SetTable) (es : Array (Int × Value)) (n : Nat) : (relayAll t es n).2.1.led = t.led ∧ (t.plain = false → (relayAll t es n).2.1.plain = false) := by
  unfold relayAll
  split
  · rename_i t' order e
    have q := laid_led (show SetTable.laid _ _ _ _ _ _ = some (t', order) from e)
    dsimp only
    split
    · exact ⟨q.1, fun z => q.2.trans z⟩
    · exact ⟨rfl, fun _ => rfl⟩
  · exact ⟨rfl, fun _ => rfl⟩
end tables

/-- a set of texts -/
def SSet (prog : Program) (w : World) (h : Heap) (a : Addr) (ss : List Str) : Prop :=
  ∃ o es ep t, h.get? a = some o ∧ o.ExactSet ∧ o.data = .set es ep t ∧ ElemsOf (PySem.strKind prog w) es.toList ∧ es.toList.map (·.2) = es.toList.map (·.2) ∧ StrsAre (es.toList.map (·.2)) ss ∧ ss.Nodup ∧ es.size < scanBound ∧ t.fits es.size = true ∧
    t.led = !(w.params.followText "set-order") ∧ (es.size = 0 ∨ t.plain = false)
theorem strsAre_len : ∀ {vs : List Value} {ss : List Str}, StrsAre vs ss → vs.length = ss.length
  | _, _, .nil => rfl
  | _, _, .cons _ _ r => congrArg (· + 1) (strsAre_len r)
theorem strsAre_append : ∀ {vs us : List Value} {ss ts : List Str}, StrsAre vs ss → StrsAre us ts → StrsAre (vs ++ us) (ss ++ ts)
  | _, _, _, _, .nil, r => r
  | _, _, _, _, .cons y t q, r => .cons y t (strsAre_append q r)
/-- texts of a permuted list -/
theorem strsAre_perm {vs us : List Value} (p : us.Perm vs) : ∀ {ss : List Str}, StrsAre vs ss → ∃ ss', StrsAre us ss' ∧ ss'.Perm ss := by
  induction p with
  | nil => intro ss h; exact ⟨ss, h, .rfl⟩
  | cons x _ ih =>
    intro ss h
    cases h with
    | cons y t r =>
      obtain ⟨s1, a, b⟩ := ih r
      exact ⟨_, .cons y t a, b.cons _⟩
  | swap x y l =>
    intro ss h
    cases h with
    | cons y1 t1 r =>
      cases r with
      | cons y2 t2 r => exact ⟨_, .cons y2 t2 (.cons y1 t1 r), .swap _ _ _⟩
  | trans _ _ ih1 ih2 =>
    intro ss h
    obtain ⟨s1, a1, b1⟩ := ih2 h
    obtain ⟨s2, a2, b2⟩ := ih1 a1
    exact ⟨s2, a2, b2.trans b1⟩
theorem strsAre_mem : ∀ {vs : List Value} {ss : List Str} {x : Str}, StrsAre vs ss → ((∃ v, v ∈ vs ∧ Value.isStrOf x v = true) ↔ x ∈ ss)
  | _, _, x, .nil => by simp
  | _, _, x, .cons (vs := vs) (ys := ys) y t r => by
    have ih := strsAre_mem (x := x) r
    constructor
    · rintro ⟨v, hv, e⟩
      rcases List.mem_cons.mp hv with z | z
      · subst z
        have : y = x := by simpa [Value.isStrOf] using e
        rw [this]; exact List.mem_cons_self
      · exact List.mem_cons_of_mem _ (ih.mp ⟨v, z, e⟩)
    · intro h
      rcases List.mem_cons.mp h with z | z
      · exact ⟨.str y t, List.mem_cons_self, by simp [Value.isStrOf, z]⟩
      · obtain ⟨v, a, b⟩ := ih.mpr z
        exact ⟨v, List.mem_cons_of_mem _ a, b⟩
theorem SSet.mono {prog : Program} {w : World} {h h' : Heap} {a : Addr} {ss : List Str} (S : SSet prog w h a ss) (k : ∀ o, h.get? a = some o → h'.get? a = some o) : SSet prog w h' a ss := by
  obtain ⟨o, es, ep, t, e, r⟩ := S
  exact ⟨o, es, ep, t, k o e, r⟩

section
variable {prog : Program} {w : World} {A : Around} {E : Value → Shared → Prop} {s : Shared}
theorem store_at {h : Heap} {a : Addr} {o : Obj} {es : Array (Int × Value)} {ep : Nat} {t : SetTable} (ho : h.get? a = some o) (hd : o.data = .set es ep t) (es' : Array (Int × Value)) (t' : SetTable) :
    (h.update a (Obj.putSet es' t')).get? a = some { o with data := .set es' (ep + 1) t' } := by
  have := Heap.get?_update_self (Obj.putSet es' t') ho (by rw [putSet_of es' t' hd]; rfl)
  rw [putSet_of es' t' hd] at this; exact this
/-- behind the store of the new entries: the table may be laid anew -/
theorem add_tail {g : Bool → Sem Unit} (hg : ∀ (b : Bool) (s₁ : Shared) (Q' : Unit → Shared → Prop), Q' () s₁ → wpAny (model prog w) A (g b) Q' E s₁)
    {a : Addr} {o : Obj} {es : Array (Int × Value)} {ep : Nat} {t : SetTable} (ho : s.heap.get? a = some o) (hex : o.ExactSet) (hd : o.data = .set es ep t)
    {es1 : Array (Int × Value)} {t2 : SetTable} (hel1 : ElemsOf (PySem.strKind prog w) es1.toList) {ss1 : List Str} (hss : StrsAre (es1.toList.map (·.2)) ss1) (hnd : ss1.Nodup)
    (hb1 : es1.size < scanBound) (hf2 : t2.fits es1.size = true) (hl2 : t2.led = !(w.params.followText "set-order")) (hp2 : t2.plain = false) {wasDummy : Bool} {R : Option Bool → Shared → Prop}
    (h : ∀ h' ss', Heap.SameBut a s.heap h' → SSet prog w h' a ss' → ss'.Perm ss1 → R (some true) { s with heap := h' }) :
    wpAny (model prog w) A (do
        storeSet a es1 t2
        if (!wasDummy && t2.tooFull) = true then do
            g (relayAll t2 es1 (SetTable.grown es1.size)).2.2
            storeSet a (relayAll t2 es1 (SetTable.grown es1.size)).1 (relayAll t2 es1 (SetTable.grown es1.size)).2.1
            pure (some true)
          else pure (some true)) R E s := by
  refine wpAny_bind (wpAny_storeSet_of ho hd ?_ (fits_of_scanBound hb1))
  have ho1 := store_at ho hd es1 t2
  have hsb1 := Heap.SameBut.update s.heap a (Obj.putSet es1 t2)
  split
  · have hp := relayAll_perm t2 es1 (SetTable.grown es1.size)
    have hfr := relayAll_fits t2 es1 (SetTable.grown es1.size)
    have hlr := relay_led t2 es1 (SetTable.grown es1.size)
    generalize hRl : relayAll t2 es1 (SetTable.grown es1.size) = Rl at hp hfr hlr ⊢
    obtain ⟨es2, t3, gave2⟩ := Rl
    dsimp only at hp hfr hlr ⊢
    have hel2 : ElemsOf (PySem.strKind prog w) es2.toList := hel1.perm hp
    obtain ⟨ss2, hss2, hpm⟩ := strsAre_perm (hp.map (·.2)) hss
    have hsz : es2.size = es1.size := by rw [← Array.length_toList, hp.length_eq, Array.length_toList]
    have hb2 : es2.size < scanBound := by rw [hsz]; exact hb1
    refine wpAny_bind (hg _ _ _ ?_)
    refine wpAny_bind (wpAny_storeSet_of ho1 rfl ?_ (fits_of_scanBound hb2))
    have ho2 := store_at ho1 rfl es2 t3
    exact wpAny_pure (h _ ss2 (hsb1.trans (Heap.SameBut.update _ a _)) ⟨_, es2, _, t3, ho2, hex, rfl, hel2, rfl, hss2, hpm.nodup_iff.mpr hnd, hb2, hfr, hlr.1.trans hl2, .inr (hlr.2 hp2)⟩ hpm)
  · exact wpAny_pure (h _ ss1 hsb1 ⟨_, es1, _, t2, ho1, hex, rfl, hel1, rfl, hss, hnd, hb1, hf2, hl2, .inr hp2⟩ .rfl)

theorem add_of {a : Addr} {ss : List Str} {x : Str} {tk : Tok} {Q : Bool → Shared → Prop} (hS : SSet prog w s.heap a ss) (hroom : ss.length + 1 < scanBound)
    (h : ∀ h' ss' b, Heap.SameBut a s.heap h' → SSet prog w h' a ss' → (∀ y, y ∈ ss' ↔ y ∈ ss ∨ y = x) → ss'.length ≤ ss.length + 1 → Q b { s with heap := h' }) :
    wpAny (model prog w) A (setAddHashed a (.str x tk) ((PySem.strKind prog w).hash x)) Q E s := by
  obtain ⟨o, es, ep, t, ho, hex, hd, hel, _, hss, hnd, hb, hf, hled, hpl⟩ := hS
  have hkey : (PySem.strKind prog w).is x (.str x tk) = true := by show Value.isStrOf x (.str x tk) = true; simp [Value.isStrOf]
  have hsc : (Value.str x tk).scannable = true := rfl
  have hlen : es.size = ss.length := by have := strsAre_len hss; simpa using this
  have hmem : ∀ y, (∃ e ∈ es.toList, (PySem.strKind prog w).is y e.2 = true) ↔ y ∈ ss := fun y => by
    rw [← strsAre_mem hss]
    constructor
    · rintro ⟨e, a1, a2⟩; exact ⟨e.2, List.mem_map.mpr ⟨e, a1, rfl⟩, a2⟩
    · rintro ⟨v, a1, a2⟩; obtain ⟨e, a3, a4⟩ := List.mem_map.mp a1; exact ⟨e, a3, by rw [a4]; exact a2⟩
  unfold setAddHashed setAddHashedIn
  refine wpAny_holding (wpAny_bind (wpAny_setState_of ho hd hf ?_))
  dsimp only
  rw [byScan_of hsc hb hel]
  simp only [↓reduceIte]
  unfold setAddByScan
  refine wpAny_bind ?_
  refine wpAny_bind (wpAny_rule ?_)
  refine wpAny_bind (wpAny_setScan_of (knd := PySem.strKind prog w) hkey ho hd hf hel ?_)
  cases hr : List.findIdx? (fun e => (PySem.strKind prog w).is x e.2) es.toList with
  | some j =>
    dsimp only
    obtain ⟨hj, hpj, _⟩ := List.findIdx?_eq_some_iff_getElem.mp hr
    have hx : x ∈ ss := (hmem x).mp ⟨es.toList[j], List.getElem_mem hj, hpj⟩
    refine wpAny_pure (wpAny_pure ?_)
    have e : s = { s with heap := s.heap } := by cases s; rfl
    rw [e]
    exact h s.heap ss false (Heap.SameBut.refl a s.heap) ⟨o, es, ep, t, ho, hex, hd, hel, rfl, hss, hnd, hb, hf, hled, hpl⟩ (fun y => ⟨.inl, fun z => z.elim id fun z => z ▸ hx⟩) (Nat.le_succ _)
  | none =>
    dsimp only
    have hx : x ∉ ss := fun hx => by
      obtain ⟨e, he, hp⟩ := (hmem x).mpr hx
      have := List.findIdx?_eq_none_iff.mp hr e he
      rw [hp] at this; exact Bool.noConfusion this
    have hgw : ∀ (b : Bool) {s₁ : Shared} {Q' : Unit → Shared → Prop}, Q' () s₁ → wpAny (model prog w) A (match b with | true => rule "set.scan.the-table-gave-way" | false => pure ()) Q' E s₁ :=
      fun b s₁ Q' hq => by cases b <;> first | exact wpAny_pure hq | exact wpAny_rule hq
    have hperm := layNew_perm t es ((PySem.strKind prog w).hash x) (.str x tk)
    have hfits := layNew_fits t es ((PySem.strKind prog w).hash x) (.str x tk)
    have hled1 := lay_led t es ((PySem.strKind prog w).hash x) (.str x tk)
    generalize hL : layNew t es ((PySem.strKind prog w).hash x) (.str x tk) = L at hperm hfits hled1 ⊢
    obtain ⟨es1, t1, wasDummy, gave⟩ := L
    dsimp only at hperm hfits hled1 ⊢
    rw [Array.toList_push] at hperm
    have hel1 : ElemsOf (PySem.strKind prog w) es1.toList := (hel.push hkey hsc).perm hperm
    have hssx : StrsAre ((es.toList ++ [((PySem.strKind prog w).hash x, Value.str x tk)]).map (·.2)) (ss ++ [x]) := by
      rw [List.map_append]
      exact strsAre_append hss (.cons x tk .nil)
    obtain ⟨ss1, hss1, hpm1⟩ := strsAre_perm (hperm.map (·.2)) hssx
    have hnd1 : ss1.Nodup := hpm1.nodup_iff.mpr (by
      rw [List.nodup_append]
      exact ⟨hnd, by simp, fun c hc d hd' => by
        have e : d = x := by simpa using hd'
        exact fun z => hx (by rw [← e, ← z]; exact hc)⟩)
    have hb1' : es1.size < scanBound := by rw [← Array.length_toList, hperm.length_eq, List.length_append, Array.length_toList, hlen]; simpa using hroom
    refine wpAny_bind (hgw _ ?_)
    have hend : ∀ h' ss', Heap.SameBut a s.heap h' → SSet prog w h' a ss' → ss'.Perm ss1 → Q true { s with heap := h' } := fun h' ss' hsb hS' hp' =>
      h h' ss' true hsb hS' (fun y => by rw [(hp'.trans hpm1).mem_iff]; simp) (by rw [(hp'.trans hpm1).length_eq]; simp)
    split
    · refine wpAny_bind ?_
      rw [hashByValue_scannable 8 hsc]
      refine wpAny_pure ?_
      refine add_tail ?_ ho hex hd hel1 hss1 hnd1 hb1' ?_ ?_ ?_ ?_
      · intro b s₁ Q' hq; cases b <;> first | exact wpAny_pure hq | exact wpAny_rule hq
      · exact SetTable.fits_plain_off hfits
      · exact hled1.1.trans hled
      · rfl
      · intro h' ss' hsb hS' hp'; dsimp only; exact wpAny_pure (hend h' ss' hsb hS' hp')
    · rename_i hpl1
      refine wpAny_bind (wpAny_pure ?_)
      simp only [↓reduceIte]
      refine add_tail ?_ ho hex hd hel1 hss1 hnd1 hb1' hfits (hled1.1.trans hled) (by simpa using hpl1) ?_
      · intro b s₁ Q' hq; cases b <;> first | exact wpAny_pure hq | exact wpAny_rule hq
      · intro h' ss' hsb hS' hp'; dsimp only; exact wpAny_pure (hend h' ss' hsb hS' hp')
end

section
variable {prog : Program} {w : World} {A : Around} {R : Result → Shared → Prop} {I : Addr} {fp wr : List Addr} {G : Array GenState → Array GenState → Prop} {n : Nat} {P : Nat → Value → Prop} {St : Nat → Shared → Prop}
/-- the loop that fills a set with texts -/
theorem fill_loop (W : WalksS prog w A.in1 I fp wr G n P St) (S : Addr) (hSf : S ∉ fp) (val : Nat → Str) (hval : ∀ i v, P i v → ∃ t, v = .str (val i) t) (hb : n + 1 < scanBound) :
    ∀ (k i : Nat) (s : Shared) (ss : List Str), n - i = k → i ≤ n → St i s → SSet prog w s.heap S ss → ss.length ≤ i → (∀ y, y ∈ ss ↔ ∃ j, j < i ∧ val j = y) →
      (∀ s' ss', Moved (S :: wr) G s s' → SSet prog w s'.heap S ss' → ss'.length ≤ n → (∀ y, y ∈ ss' ↔ ∃ j, j < n ∧ val j = y) → R (.ok (.ret .none)) s') →
      codeAny (model prog w) A (.builtin "set.update.loop" ⟨[.ref S, .ref I], []⟩) R s := by
  have hSw : S ∉ wr := fun h => hSf (W.sub _ h)
  have hsub : ∀ b ∈ wr, b ∈ S :: wr := fun b hb => List.mem_cons_of_mem _ hb
  intro k
  induction k with
  | zero =>
    intro i s ss hk hi hst hS hl hm0 hR
    have hin : i = n := by omega
    subst hin
    refine codeAny_builtin PyProof.Rows.F.entry_set_update_loop ?_
    rw [Around.under_plainId PyProof.Rows.F.plain_set_update_loop _]
    show wpAny _ A.in1 (pyNext (.ref I) >>= _) _ _ s
    refine wpAny_bind (W.done s _ _ hst fun s' hm => ?_)
    show wpAny _ A.in1 (ret Value.none) _ _ s'
    exact wpAny_pure (hR s' ss (hm.mono hsub) (hS.mono fun o e => hm.heap S _ hSw e) hl hm0)
  | succ k ih =>
    intro i s ss hk hi hst hS hl hm0 hR
    have hlt : i < n := by omega
    refine codeAny_builtin PyProof.Rows.F.entry_set_update_loop ?_
    rw [Around.under_plainId PyProof.Rows.F.plain_set_update_loop _]
    show wpAny _ A.in1 (pyNext (.ref I) >>= _) _ _ s
    refine wpAny_bind (W.item i s _ _ hlt hst fun v s' hP hst' hm => ?_)
    obtain ⟨t, rfl⟩ := hval i v hP
    have hS' : SSet prog w s'.heap S ss := hS.mono fun o e => hm.heap S _ hSw e
    show wpAny _ A.in1 (holding [Value.str (val i) t] (setAdd S (.str (val i) t)) >>= _) _ _ s'
    refine wpAny_bind (wpAny_holding ?_)
    unfold setAdd
    refine wpAny_holding ?_
    have hkey : (PySem.strKind prog w).is (val i) (.str (val i) t) = true := by show Value.isStrOf (val i) (.str (val i) t) = true; simp [Value.isStrOf]
    refine wpAny_bind ((PySem.strKind prog w).pyHash (k := val i) hkey ?_)
    refine add_of (s := { s' with toks := s'.toks + 1 }) hS' (by omega) fun h' ss' b hsb hS2 hm2 hl2 => ?_
    refine wpAny_pure ⟨plainId_quiet PyProof.Rows.F.plain_set_update_loop _, ih (i + 1) _ ss' (by omega) hlt (W.frame _ s' _ _ hst' (Nat.le_succ _) fun b hb o e => ?_) hS2 (by omega) (fun y => ?_) fun s'' ss'' hm'' hS'' hl'' hm3 => ?_⟩
    · rw [hsb.2 b (fun h : b = S => hSf (by rw [← h]; exact hb))]; exact e
    · rw [hm2 y, hm0 y]
      constructor
      · rintro (⟨j, a, b⟩ | e)
        · exact ⟨j, by omega, b⟩
        · exact ⟨i, by omega, e.symm⟩
      · rintro ⟨j, a, b⟩
        by_cases hj : j = i
        · exact .inr (by rw [← b, hj])
        · exact .inl ⟨j, by omega, b⟩
    · refine hR s'' ss'' (Moved.trans W.gtrans ((hm.mono hsub).then_heap (Nat.le_succ _) fun b o hb e => ?_) hm'') hS'' hl'' hm3
      rw [hsb.2 b (fun h : b = S => hb (by rw [h]; exact List.mem_cons_self))]; exact e
end

section
variable {prog : Program} {w : World} {A : Around} {E : Value → Shared → Prop} {s : Shared}
theorem new_set (a : Value) {Q₁ : Value → Shared → Prop}
    (h : Q₁ (.ref s.heap.objs.size) { s with heap := s.heap.push { cls := .type "set", dict := none, data := .set #[] 0 (.fresh 0 0 (!(w.params.followText "set-order"))) } }) :
    codeAny (model prog w) A (.call (.builtin "set.__new__") ⟨[.type "set", a], []⟩) (wants Q₁ E) s := by
  refine codeAny_of_tree ?_
  show wpAny _ A.in1 (do checkBuiltinCall "set.__new__" ⟨[.type "set", a], []⟩; again (.builtin "set.__new__" ⟨[.type "set", a], []⟩)) _ _ s
  refine wpAny_bind (wpAny_of_eq (PySem.F.newCall_set_1 a) (wpAny_pure ⟨plainId_quiet PySem.F.plain_set_new _, codeAny_builtin PySem.F.entry_set_new ?_⟩))
  rw [Around.under_plainId PySem.F.plain_set_new _]
  unfold Builtin.«set.__new__» Builtin.Frozenset.newClass
  have hsub := sub_set_self
  obtain ⟨hp, g, d, tk, os⟩ := s
  dsimp only
  wp_walk
  refine wpAny_askSetting (wpAny_pure ?_)
  dsimp only
  simp only [newObj]
  refine wpAny_bind (wpAny_alloc (wpAny_pure ?_))
  exact wpAny_pure h
theorem sset_fresh {h : Heap} {a : Addr} (e : h.get? a = some { cls := .type "set", dict := none, data := .set #[] 0 (.fresh 0 0 (!(w.params.followText "set-order"))) }) : SSet prog w h a [] :=
  ⟨_, #[], 0, _, e, ⟨rfl, rfl, rfl⟩, rfl, fun e he => by simp at he, rfl, .nil, List.nodup_nil, by unfold scanBound; decide, rfl, rfl, .inl rfl⟩

/-- set(v): v is iterated by a walk that yields the texts val 0, .., val (n - 1) -/
theorem call_set_walk {v : Value} {T : String} {n : Nat} {val : Nat → Str} {Q : Value → Shared → Prop}
    (hT : ∀ s' : Shared, (∀ b o, s.heap.get? b = some o → s'.heap.get? b = some o) → s'.TypeIs v T) (hs1 : isSubtype (.type T) (.type "set") = pure false) (hs2 : isSubtype (.type T) (.type "frozenset") = pure false) (hdict : (Value.type T == Value.type "dict") = false)
    (hit : ∀ (s' : Shared) (Q' : Value → Shared → Prop), (∀ b o, s.heap.get? b = some o → s'.heap.get? b = some o) → s.heap.objs.size < s'.heap.objs.size →
      (∀ (o : Obj) (St : Nat → Heap → Prop) (fp : List Addr) (P : Nat → Value → Prop), Walks prog w A.in1.in1.in1 s'.heap.objs.size fp [s'.heap.objs.size] n P St → (∀ i u, P i u → ∃ t, u = .str (val i) t) → s.heap.objs.size ∉ fp → St 0 (s'.heap.push o) → Q' (.ref s'.heap.objs.size) { s' with heap := s'.heap.push o }) →
      wpAny (model prog w) A.in1.in1 (pyIter v) Q' (fun _ _ => False) s') (hb : n + 1 < scanBound)
    (h : ∀ (h' : Heap) (tk : Nat) (ss : List Str), SSet prog w h' s.heap.objs.size ss → ss.length ≤ n → (∀ y, y ∈ ss ↔ ∃ j, j < n ∧ val j = y) →
      (∀ b o, s.heap.get? b = some o → h'.get? b = some o) → Q (.ref s.heap.objs.size) { s with heap := h', toks := tk }) :
    wpAny (model prog w) A (call (.type "set") [v]) Q E s := by
  obtain ⟨c, tl, hmro⟩ := PySem.F.called_set.mro
  have hmade := PySem.F.called_set.made
  have hsub := PySem.F.called_set.sub
  refine wpAny_call (codeAny_of_tree ?_)
  show wpAny _ _ (callAny (.type "set") _) _ _ _
  refine wpAny_pure ⟨Code.quiet_builtin _ (by decide +kernel), codeAny_builtin PySem.F.entry_type_call ?_⟩
  rw [Around.under_plain (weight_type_call_type "set" [v] []) rfl]
  have h1 := PySem.F.called_set.notType
  have h2 := PySem.F.called_set.canCreate
  have hct := PySem.F.typeCall_set_1 v
  repeat (any_goals (first | assumption | wp_step))
  refine codeAny_mono (new_set v (E := E) (Q₁ := fun obj s₁ => obj = .ref s.heap.objs.size ∧ s₁ = { s with heap := s.heap.push { cls := .type "set", dict := none, data := .set #[] 0 (.fresh 0 0 (!(w.params.followText "set-order"))) } }) ⟨rfl, rfl⟩) fun r s₁ hr => ?_
  cases r with
  | error e => exact hr
  | ok fl =>
    cases fl with
    | ret obj =>
      obtain ⟨rfl, rfl⟩ := hr
      have hS : (s.heap.push { cls := .type "set", dict := none, data := .set #[] 0 (.fresh 0 0 (!(w.params.followText "set-order"))) }).get? s.heap.objs.size = some { cls := .type "set", dict := none, data := .set #[] 0 (.fresh 0 0 (!(w.params.followText "set-order"))) } := Heap.get?_push_size _ rfl
      have hTs : Shared.TypeIs { s with heap := s.heap.push { cls := .type "set", dict := none, data := .set #[] 0 (.fresh 0 0 (!(w.params.followText "set-order"))) } } (.ref s.heap.objs.size) "set" := ⟨_, hS, rfl⟩
      have hli := PySem.F.called_set.init.lookup
      have hbi := PySem.F.called_set.init.bind (.ref s.heap.objs.size)
      repeat (any_goals (first | assumption | wp_step))
      refine codeAny_mono (codeAny_call_builtin (R := wants (fun r s₂ => r = .none ∧ ∃ h' tk ss, s₂ = { s with heap := h', toks := tk } ∧ SSet prog w h' s.heap.objs.size ss ∧ ss.length ≤ n ∧ (∀ y, y ∈ ss ↔ ∃ j, j < n ∧ val j = y) ∧
          (∀ b o, s.heap.get? b = some o → h'.get? b = some o)) E) PySem.F.called_set.init.plain PySem.F.entry_set_init (check_set_init_1 hTs ?_)) fun r₂ s₂ hr₂ => ?_
      · have keep : ∀ b o, s.heap.get? b = some o → (s.heap.push { cls := .type "set", dict := none, data := .set #[] 0 (.fresh 0 0 (!(w.params.followText "set-order"))) }).get? b = some o := fun b o e => Heap.get?_push_of_some _ e
        have hTv := hT { s with heap := s.heap.push { cls := .type "set", dict := none, data := .set #[] 0 (.fresh 0 0 (!(w.params.followText "set-order"))) } } keep
        unfold Builtin.«set.__init__» noKeywords Builtin.Frozenset.updateFrom
        generalize hPI : pyIter = PI
        wp_walk
        subst hPI
        refine wpAny_mono (hit _ _ keep (by show s.heap.objs.size < _; rw [Heap.size_push]; exact Nat.lt_succ_self _) fun o St fp P W hval hSf hst => ?_) (fun _ _ q => q) fun _ _ q => q.elim
        refine wpAny_bind (wpAny_runValue ?_)
        refine fill_loop W.toS s.heap.objs.size hSf val hval hb (n - 0) 0 _ [] (by omega) (Nat.zero_le _) hst ?hS0 (Nat.le_refl _) (fun y => ⟨fun z => (nomatch z), fun ⟨j, a, _⟩ => absurd a (Nat.not_lt_zero _)⟩) ?hR
        case hS0 => exact sset_fresh (Heap.get?_push_of_some _ hS)
        case hR =>
          intro s' ss hm hS' hl hm'
          obtain ⟨h', g', d', tk', os'⟩ := s'
          have eg : g' = s.gens := hm.gens
          have ed : d' = s.drawn := hm.drawn
          have eo : os' = s.os := hm.os
          subst eg; subst ed; subst eo
          show wpAny _ _ _ _ _ _
          refine wpAny_pure ?_
          show wpAny _ _ (ret Value.none) _ _ _
          refine wpAny_pure ⟨rfl, h', tk', ss, rfl, hS', hl, hm', fun b o e => ?_⟩
          have hlt := Heap.lt_size e
          refine hm.heap b o (fun hb => ?_) (Heap.get?_push_of_some _ (Heap.get?_push_of_some _ e))
          rcases List.mem_cons.mp hb with z | z
          · exact absurd hlt (by rw [z]; exact Nat.lt_irrefl _)
          · have z' := List.mem_singleton.mp z
            rw [z', Heap.size_push] at hlt
            exact absurd hlt (Nat.not_lt.mpr (Nat.le_succ _))
      · cases r₂ with
        | error e => exact hr₂
        | ok fl₂ =>
          cases fl₂ with
          | ret r =>
            obtain ⟨rfl, h', tk, ss, rfl, hS', hl, hm', hk'⟩ := hr₂
            repeat (any_goals (first | assumption | wp_step))
            exact h _ _ _ hS' hl hm' hk'
          | _ => exact hr₂.elim
    | _ => exact hr.elim
end
end LmSet

set_option Elab.async false
set_option linter.all false
set_option maxRecDepth 100000
set_option maxHeartbeats 4000000
namespace LmSet
open PySem PyProof.Rows

/-! ## a set of texts walked: some order, each once -/
theorem wpAny_choose {M : Model} {A : Around} {E : Value → Shared → Prop} {s : Shared} {src : Source} {n : Nat} {Q : Nat → Shared → Prop} (hn : n ≠ 0) (h : ∀ i, i < n → Q i { s with drawn := s.drawn.bump src }) : wpAny M A (choose src n) Q E s :=
  fun Γ p hΓ => ⟨hn, h _ (Nat.mod_lt _ (Nat.pos_of_ne_zero hn))⟩
theorem drawOrder_of {M : Model} {A : Around} {E : Value → Shared → Prop} {α : Type} : ∀ (n : Nat) (xs : List α) (s : Shared) (Q : List α → Shared → Prop), xs.length ≤ n → (∀ ys d, ys.Perm xs → Q ys { s with drawn := d }) → wpAny M A (drawOrder n xs) Q E s
  | 0, xs, s, Q, hn, h => by
    have e : xs = [] := List.length_eq_zero_iff.mp (by omega)
    subst e
    unfold drawOrder
    exact wpAny_pure (by have := h [] s.drawn .rfl; simpa using this)
  | n + 1, [], s, Q, hn, h => by
    unfold drawOrder
    exact wpAny_pure (by have := h [] s.drawn .rfl; simpa using this)
  | n + 1, x :: xs, s, Q, hn, h => by
    unfold drawOrder
    refine wpAny_bind (wpAny_choose (by simp) fun i hi => ?_)
    have hg : (x :: xs)[i]? = some (x :: xs)[i] := List.getElem?_eq_getElem hi
    rw [hg]
    dsimp only
    refine wpAny_bind (drawOrder_of n ((x :: xs).eraseIdx i) _ _ (by rw [List.length_eraseIdx, if_pos hi]; simp at hn ⊢; omega) fun ys d hp => wpAny_pure ?_)
    refine h _ d ?_
    have e : (x :: xs).Perm ((x :: xs)[i] :: (x :: xs).eraseIdx i) := by
      have q : (x :: xs).eraseIdx i = (x :: xs).take i ++ (x :: xs).drop (i + 1) := List.eraseIdx_eq_take_drop_succ _ _
      have q2 : (x :: xs) = (x :: xs).take i ++ (x :: xs)[i] :: (x :: xs).drop (i + 1) := by
        rw [← List.drop_eq_getElem_cons hi]; exact (List.take_append_drop _ _).symm
      rw [q]
      calc (x :: xs).Perm ((x :: xs).take i ++ (x :: xs)[i] :: (x :: xs).drop (i + 1)) := by rw [← q2]
        List.Perm _ ((x :: xs)[i] :: ((x :: xs).take i ++ (x :: xs).drop (i + 1))) := List.perm_middle
    exact (hp.cons _).trans e.symm
theorem pick_perm {α : Type} (next : Nat → Nat) : ∀ (fuel k : Nat) (left : List α) (out : Array α), left.length ≤ fuel → (pickOrder.go next fuel k left out).toList.Perm (out.toList ++ left)
  | 0, k, left, out, h => by
    have e : left = [] := List.length_eq_zero_iff.mp (by omega)
    subst e
    unfold pickOrder.go
    simp
  | fuel + 1, k, [], out, h => by
    unfold pickOrder.go
    simp
  | fuel + 1, k, x :: xs, out, h => by
    unfold pickOrder.go
    have hi : next k % (x :: xs).length < (x :: xs).length := Nat.mod_lt _ (by simp)
    generalize next k % (x :: xs).length = i at hi
    have hg : (x :: xs)[i]? = some (x :: xs)[i] := List.getElem?_eq_getElem hi
    rw [hg]
    dsimp only
    have ih := pick_perm next fuel (k + 1) ((x :: xs).eraseIdx i) (out.push (x :: xs)[i]) (by rw [List.length_eraseIdx, if_pos hi]; simp at h ⊢; omega)
    refine ih.trans ?_
    rw [Array.toList_push, List.append_assoc]
    refine List.Perm.append_left _ ?_
    have q : (x :: xs).eraseIdx i = (x :: xs).take i ++ (x :: xs).drop (i + 1) := List.eraseIdx_eq_take_drop_succ _ _
    have q2 : (x :: xs) = (x :: xs).take i ++ (x :: xs)[i] :: (x :: xs).drop (i + 1) := by
      rw [← List.drop_eq_getElem_cons hi]; exact (List.take_append_drop _ _).symm
    rw [q]
    calc List.Perm ((x :: xs)[i] :: ((x :: xs).take i ++ (x :: xs).drop (i + 1))) ((x :: xs).take i ++ (x :: xs)[i] :: (x :: xs).drop (i + 1)) := List.perm_middle.symm
      List.Perm _ (x :: xs) := by rw [← q2]
theorem pickOrder_perm {α : Type} (next : Nat → Nat) (xs : Array α) : (pickOrder next xs).toList.Perm xs.toList := by
  have := pick_perm next xs.size 0 xs.toList #[] (by simp)
  unfold pickOrder
  simpa using this

/-- the walk's record: its first field, the place, the set -/
def iterObj (first : Value) (i : Nat) (a : Addr) (n ep : Nat) : Obj := { cls := .type "set_iterator", data := .fields #[first, .int i 0, .ref a, .int n 0, .int ep 0] }

section
variable {prog : Program} {w : World} {A : Around} {E : Value → Shared → Prop} {s : Shared}
theorem si_drawn {it a T : Addr} {i n ep nt : Nat} {ps : List Nat} {es : Array (Int × Value)} {t : SetTable} {oa oT : Obj} {k : Nat} {e : Int × Value} {Q : Option Value → Shared → Prop}
    (ho : s.heap.get? it = some (iterObj (.ref T) i a n ep)) (ha : s.heap.get? a = some oa) (hd : oa.data = .set es ep t) (hf : t.fits es.size = true) (hn : es.size = n)
    (hT : s.heap.get? T = some oT) (hTd : oT.data = .seq (ps.map fun p => Value.int (p : Nat) 0).toArray nt) (hi : ps[i]? = some k) (hk : es[k]? = some e)
    (hQ : ∀ h', h'.get? it = some (iterObj (.ref T) (i + 1) a n ep) → Heap.SameBut it s.heap h' → Q (some e.2) { s with heap := h' }) :
    wpAny (model prog w) A (pyNext (.ref it)) Q E s := by
  have hty : s.TypeIs (.ref it) "set_iterator" := ⟨_, ho, rfl⟩
  unfold pyNext
  refine wpAny_bind (wpAny_attempt (wpAny_callSpecial?_slot (name := Str.ofString "__next__") hty slot_next (wpAny_call_entry slot_next hty entry_next ?_ (args_next _))))
  show wpAny _ _ (fieldsOf (.ref it) >>= _) _ _ s
  refine wpAny_bind (wpAny_fieldsOf ho rfl ?_)
  show wpAny _ _ (setEntries a >>= _) _ _ s
  unfold setEntries
  refine wpAny_bind (wpAny_bind (wpAny_setState_of ha hd hf (wpAny_pure ?_)))
  dsimp only
  rw [if_neg (by rw [hn]; simp)]
  refine wpAny_bind (wpAny_seqItems hT hTd ?_)
  have hp : ((ps.map fun p => Value.int (p : Nat) 0).toArray)[((i : Nat) : Int).toNat]? = some (Value.int (k : Nat) 0) := by simp [hi]
  dsimp only
  rw [hp]
  dsimp only
  unfold setNextDrawn
  refine wpAny_bind (wpAny_bind (wpAny_setState_of ha hd hf ?_))
  dsimp only
  rw [if_neg (by simp), show ((k : Nat) : Int).toNat = k by simp, hk]
  refine wpAny_pure ?_
  refine wpAny_bind (wpAny_setField ho rfl (by simp [iterObj]) (wpAny_pure ⟨e.2, rfl, wpAny_pure (hQ _ ?_ (Heap.SameBut.update ..))⟩))
  rw [Heap.get?_update_self _ ho rfl]
  simp [iterObj, Obj.mapFields, rawInt]
/-- the end of a walk: the exception is made and taken -/
theorem si_stop {it : Addr} {o : Obj} {vs : Array Value} {Q : Option Value → Shared → Prop} (hh : A.handled = none) (ho : s.heap.get? it = some o) (hd : o.data = .fields vs) (hv : 2 < vs.size)
    (hQ : ∀ h', Heap.ExtBut it s.heap h' → Q none { s with heap := h' }) :
    wpAny (model prog w) A.in1 (do setField (.ref it) 2 .none; raiseNew (← newExc (.type "StopIteration") []) : Sem PySem.Fin)
      (fun fin s' => ∃ v, fin = .done (.ret v) ∧ wpAny (model prog w) A (pure (some v)) Q E s') (fun e s' => wpAny (model prog w) A (do if ← isInstance e (.type "StopIteration") then pure none else throw e) Q E s') s := by
  refine wpAny_bind (wpAny_setField ho hd hv ?_)
  show wpAny _ _ (newExc (.type "StopIteration") [] >>= _) _ _ _
  refine wpAny_bind ?_
  simp only [newExc, newTuple]
  refine wpAny_bind (wpAny_newObj_type ?_ (by size_fits))
  refine wpAny_bind (m := firstArgMember _ _) (wpAny_of_eq (a := Value.none) (by first | rfl | (simp only [firstArgMember]; rfl)) ?_)
  refine wpAny_newObj_type ?_ (by size_fits)
  simp only [raiseNew]
  refine wpAny_bind (wpAny_handled ?_)
  first | rw [show A.in1.handled = none from hh] | rw [hh]
  refine wpAny_bind (wpAny_pure (wpAny_throw ?_))
  refine wpAny_bind (wpAny_isInstance (T := "StopIteration") (b := true) ⟨_, Heap.get?_push_size _ rfl, rfl⟩ isSubtype_stop ?_)
  exact wpAny_pure (hQ _ (((Heap.SameBut.update ..).extBut.push _).push _))
theorem si_drawn_end {it a T : Addr} {i n ep nt : Nat} {ps : List Nat} {es : Array (Int × Value)} {t : SetTable} {oa oT : Obj} {Q : Option Value → Shared → Prop} (hh : A.handled = none)
    (ho : s.heap.get? it = some (iterObj (.ref T) i a n ep)) (ha : s.heap.get? a = some oa) (hd : oa.data = .set es ep t) (hf : t.fits es.size = true) (hn : es.size = n)
    (hT : s.heap.get? T = some oT) (hTd : oT.data = .seq (ps.map fun p => Value.int (p : Nat) 0).toArray nt) (hi : ps[i]? = none)
    (hQ : ∀ h', Heap.ExtBut it s.heap h' → Q none { s with heap := h' }) :
    wpAny (model prog w) A (pyNext (.ref it)) Q E s := by
  have hty : s.TypeIs (.ref it) "set_iterator" := ⟨_, ho, rfl⟩
  unfold pyNext
  refine wpAny_bind (wpAny_attempt (wpAny_callSpecial?_slot (name := Str.ofString "__next__") hty slot_next (wpAny_call_entry slot_next hty entry_next ?_ (args_next _))))
  show wpAny _ _ (fieldsOf (.ref it) >>= _) _ _ s
  refine wpAny_bind (wpAny_fieldsOf ho rfl ?_)
  show wpAny _ _ (setEntries a >>= _) _ _ s
  unfold setEntries
  refine wpAny_bind (wpAny_bind (wpAny_setState_of ha hd hf (wpAny_pure ?_)))
  dsimp only
  rw [if_neg (by rw [hn]; simp)]
  refine wpAny_bind (wpAny_seqItems hT hTd ?_)
  have hp : ((ps.map fun p => Value.int (p : Nat) 0).toArray)[((i : Nat) : Int).toNat]? = none := by simpa using hi
  dsimp only
  rw [hp]
  dsimp only
  refine wpAny_bind (wpAny_setField ho rfl (by simp [iterObj]) ?_)
  have ho2 := Heap.get?_update_self (Obj.mapFields (·.setIfInBounds 0 (rawInt 0))) ho rfl
  refine si_stop (s := { s with heap := s.heap.update it (Obj.mapFields (·.setIfInBounds 0 (rawInt 0))) }) hh ho2 rfl (by simp [iterObj]) fun h' he => hQ h' fun b o hb q => he b o hb ((Heap.SameBut.update ..).extBut b o hb q)
/-- a walk whose first field is an int -/
theorem si_slot {it a : Addr} {i n ep : Nat} {slot : Nat} {es : Array (Int × Value)} {t : SetTable} {oa : Obj} {x : Value} {next : Nat} {Q : Option Value → Shared → Prop}
    (ho : s.heap.get? it = some (iterObj (.int slot 0) i a n ep)) (ha : s.heap.get? a = some oa) (hd : oa.data = .set es ep t) (hf : t.fits es.size = true) (hn : es.size = n)
    (hx : ∀ (A' : Around) (E' : Value → Shared → Prop) (Q' : Option (Value × Nat) → Shared → Prop), Q' (some (x, next)) s → wpAny (model prog w) A' (setNext a slot i ep) Q' E' s)
    (hQ : ∀ h', h'.get? it = some (iterObj (.int next 0) (i + 1) a n ep) → Heap.SameBut it s.heap h' → Q (some x) { s with heap := h' }) :
    wpAny (model prog w) A (pyNext (.ref it)) Q E s := by
  have hty : s.TypeIs (.ref it) "set_iterator" := ⟨_, ho, rfl⟩
  unfold pyNext
  refine wpAny_bind (wpAny_attempt (wpAny_callSpecial?_slot (name := Str.ofString "__next__") hty slot_next (wpAny_call_entry slot_next hty entry_next ?_ (args_next _))))
  show wpAny _ _ (fieldsOf (.ref it) >>= _) _ _ s
  refine wpAny_bind (wpAny_fieldsOf ho rfl ?_)
  show wpAny _ _ (setEntries a >>= _) _ _ s
  unfold setEntries
  refine wpAny_bind (wpAny_bind (wpAny_setState_of ha hd hf (wpAny_pure ?_)))
  dsimp only
  rw [if_neg (by rw [hn]; simp)]
  rw [show ((slot : Nat) : Int).toNat = slot by simp, show ((i : Nat) : Int).toNat = i by simp, show ((ep : Nat) : Int).toNat = ep by simp]
  refine wpAny_bind (hx _ _ _ ?_)
  dsimp only
  refine wpAny_bind (wpAny_setField ho rfl (by simp [iterObj]) ?_)
  have ho2 := Heap.get?_update_self (Obj.mapFields (·.setIfInBounds 0 (rawInt next))) ho rfl
  refine wpAny_bind (wpAny_setField ho2 rfl (by simp [iterObj]) (wpAny_pure ⟨x, rfl, wpAny_pure (hQ _ ?_ ((Heap.SameBut.update ..).trans (Heap.SameBut.update ..)))⟩))
  rw [Heap.get?_update_self _ ho2 rfl]
  simp [iterObj, Obj.mapFields, rawInt]
theorem si_slot_end {it a : Addr} {i n ep : Nat} {slot : Nat} {es : Array (Int × Value)} {t : SetTable} {oa : Obj} {Q : Option Value → Shared → Prop} (hh : A.handled = none)
    (ho : s.heap.get? it = some (iterObj (.int slot 0) i a n ep)) (ha : s.heap.get? a = some oa) (hd : oa.data = .set es ep t) (hf : t.fits es.size = true) (hn : es.size = n)
    (hx : ∀ (A' : Around) (E' : Value → Shared → Prop) (Q' : Option (Value × Nat) → Shared → Prop), Q' none s → wpAny (model prog w) A' (setNext a slot i ep) Q' E' s)
    (hQ : ∀ h', Heap.ExtBut it s.heap h' → Q none { s with heap := h' }) :
    wpAny (model prog w) A (pyNext (.ref it)) Q E s := by
  have hty : s.TypeIs (.ref it) "set_iterator" := ⟨_, ho, rfl⟩
  unfold pyNext
  refine wpAny_bind (wpAny_attempt (wpAny_callSpecial?_slot (name := Str.ofString "__next__") hty slot_next (wpAny_call_entry slot_next hty entry_next ?_ (args_next _))))
  show wpAny _ _ (fieldsOf (.ref it) >>= _) _ _ s
  refine wpAny_bind (wpAny_fieldsOf ho rfl ?_)
  show wpAny _ _ (setEntries a >>= _) _ _ s
  unfold setEntries
  refine wpAny_bind (wpAny_bind (wpAny_setState_of ha hd hf (wpAny_pure ?_)))
  dsimp only
  rw [if_neg (by rw [hn]; simp)]
  rw [show ((slot : Nat) : Int).toNat = slot by simp, show ((i : Nat) : Int).toNat = i by simp, show ((ep : Nat) : Int).toNat = ep by simp]
  refine wpAny_bind (hx _ _ _ ?_)
  dsimp only
  exact si_stop hh ho rfl (by simp [iterObj]) hQ

theorem below_one (j k : Nat) : SetTable.below #[j] k = if j < k then 1 else 0 := by
  unfold SetTable.below
  show SetTable.below.go #[j] k 1 0 1 = _
  unfold SetTable.below.go
  simp only [Nat.zero_lt_one, if_true, Nat.zero_add, Nat.reduceDiv]
  have e : (#[j] : Array Nat).getD 0 k = j := rfl
  rw [e]
  unfold SetTable.below.go
  rfl

theorem strsAre_at : ∀ {vs : List Value} {ys : List Str}, StrsAre vs ys → ∀ (k : Nat) (v : Value), vs[k]? = some v → ∃ y t, ys[k]? = some y ∧ v = .str y t
  | _, _, .nil, k, v, h => by simp at h
  | _, _, .cons y t r, 0, v, h => by simp at h; exact ⟨y, t, rfl, h.symm⟩
  | _, _, .cons y t r, k + 1, v, h => by simpa using strsAre_at r k v (by simpa using h)
/-- the texts in the order ps of their places -/
theorem strs_order {es : Array (Int × Value)} {ss : List Str} (h : StrsAre (es.toList.map (·.2)) ss) {ps : List Nat} (hp : ps.Perm (List.range es.size)) :
    ∃ ys : List Str, ys.Perm ss ∧ ys.length = ps.length ∧ ∀ (i k : Nat) (e : Int × Value), ps[i]? = some k → es[k]? = some e → ∃ (y : Str) (t : Tok), ys[i]? = some y ∧ e.2 = Value.str y t := by
  have hlen : es.size = ss.length := by have := strsAre_len h; simpa using this
  refine ⟨ps.map fun k => ss.getD k Str.empty, ?_, by simp, fun i k e hi hk => ?_⟩
  · have e1 : (List.range es.size).map (fun k => ss.getD k Str.empty) = ss := by
      rw [hlen]
      apply List.ext_getElem
      · simp
      · intro i h1 h2
        simp [h2]
    have := hp.map fun k => ss.getD k Str.empty
    rw [e1] at this
    exact this
  · obtain ⟨y, t, a1, a2⟩ := strsAre_at h k e.2 (by rw [List.getElem?_map, Array.getElem?_toList, hk]; rfl)
    refine ⟨y, t, ?_, a2⟩
    rw [List.getElem?_map, hi]
    show some (ss.getD k Str.empty) = some y
    rw [List.getD_eq_getElem?_getD, a1]
    all_goals rfl

theorem slot_self : Slot "set_iterator" "__iter__" "set_iterator.__iter__" :=
  .of (owner := "set_iterator") (n := "__iter__") (by rw [typeLookup_type, builtinLookup_eq_fast]; kernel_rfl) (by decide +kernel) (by decide +kernel) (by decide +kernel)
    (by first | exact .inl (by decide +kernel) | exact .inr (by decide +kernel)) (by rw [isSubtype_type]; kernel_rfl)
theorem args_self (a : Value) : argsOk "set_iterator.__iter__" ⟨[a], []⟩ := by unfold argsOk; kernel_rfl
theorem entry_self : entryFor table "set_iterator.__iter__" = some Builtin.«dict_keyiterator.__iter__» :=
  entryFor_alias (id' := "dict_keyiterator.__iter__") (by kernel_rfl) rfl (by decide +kernel) (by kernel_rfl)
theorem iter_self {it : Addr} {first : Value} {i n ep : Nat} {a : Addr} {Q : Value → Shared → Prop} (ho : s.heap.get? it = some (iterObj first i a n ep)) (h : Q (.ref it) s) : wpAny (model prog w) A (pyIter (.ref it)) Q E s := by
  have hty : s.TypeIs (.ref it) "set_iterator" := ⟨_, ho, rfl⟩
  refine wpAny_pyIter_slot hty slot_self (wpAny_call_entry slot_self hty entry_self ?_ (args_self _))
  show wpAny _ _ (ret (.ref it)) _ _ s
  exact wpAny_pure ⟨_, rfl, "set_iterator", _, hty, slot_next.lookup, h⟩

/-- the order by the text's own setting -/
theorem next_text {a : Addr} {o : Obj} {es : Array (Int × Value)} {ep : Nat} {t : SetTable} {slot i : Nat} {Q : Option (Value × Nat) → Shared → Prop} (ho : s.heap.get? a = some o) (hd : o.data = .set es ep t) (hf : t.fits es.size = true) (hw : w.params.followText "set-order" = true)
    (h : Q (((pickOrder (w.params.setOrder a ep) es)[i]?).map fun e => (e.2, slot)) s) : wpAny (model prog w) A (setNext a slot i ep) Q E s := by
  unfold setNext setsByText
  refine wpAny_bind (wpAny_setState_of ho hd hf ?_)
  refine wpAny_bind (wpAny_bind (wpAny_askSetting (wpAny_pure ?_)))
  show wpAny _ _ (if w.params.followText "set-order" = true then _ else _) _ _ s
  rw [if_pos hw, if_neg (by simp)]
  unfold setWalk setsByText
  refine wpAny_bind (wpAny_bind (wpAny_setState_of ho hd hf ?_))
  refine wpAny_bind (wpAny_bind (wpAny_askSetting (wpAny_pure ?_)))
  show wpAny _ _ (if w.params.followText "set-order" = true then _ else _) _ _ s
  rw [if_pos hw]
  exact wpAny_bind (wpAny_askSetting (wpAny_pure (wpAny_pure h)))
/-- at most one entry, not by the text's setting -/
theorem next_small {a : Addr} {o : Obj} {es : Array (Int × Value)} {ep : Nat} {t : SetTable} {slot i : Nat} {Q : Option (Value × Nat) → Shared → Prop} (ho : s.heap.get? a = some o) (hd : o.data = .set es ep t) (hf : t.fits es.size = true) (hw : w.params.followText "set-order" = false)
    (hled : t.led = true) (h1 : es.size ≤ 1)
    (h : Q (match es[SetTable.below t.place slot]?, t.place[SetTable.below t.place slot]? with
      | some (_, x), some j => some (x, j + 1)
      | _, _ => none) s) : wpAny (model prog w) A (setNext a slot i ep) Q E s := by
  unfold setNext setsByText
  refine wpAny_bind (wpAny_setState_of ho hd hf ?_)
  refine wpAny_bind (wpAny_bind (wpAny_askSetting (wpAny_pure ?_)))
  show wpAny _ _ (if w.params.followText "set-order" = true then _ else _) _ _ s
  rw [if_neg (by rw [hw]; simp)]
  show wpAny _ _ (if (!t.plain && decide (es.size > 1)) = true then _ else _) _ _ s
  rw [if_neg (by simp; intro _; omega)]
  show wpAny _ _ ((if (!t.led && !es.isEmpty) = true then unsupported "set:maker-not-led" else pure ()) >>= _) _ _ s
  rw [if_neg (by rw [hled]; simp)]
  refine wpAny_bind (wpAny_pure ?_)
  exact wpAny_pure h

/-- pyIter of a set of texts: some order of them is walked, each once -/
theorem iter_set {a : Addr} {ss : List Str} {Q : Value → Shared → Prop} (hS : SSet prog w s.heap a ss)
    (h : ∀ (I : Addr) (h' : Heap) (d : Drawn) (fp : List Addr) (ys : List Str) (P : Nat → Value → Prop) (St : Nat → Heap → Prop), s.heap.objs.size ≤ I → (∀ b o, s.heap.get? b = some o → h'.get? b = some o) → I < h'.objs.size → ys.Perm ss →
      (∀ b ∈ fp, b = a ∨ (s.heap.objs.size ≤ b ∧ b < h'.objs.size)) → (∀ A' : Around, A'.handled = none → Walks prog w A' I fp [I] ys.length P St) → (∀ i v, P i v → ∃ y t, ys[i]? = some y ∧ v = .str y t) → St 0 h' → Q (.ref I) { s with heap := h', drawn := d }) :
    wpAny (model prog w) A (pyIter (.ref a)) Q E s := by
  obtain ⟨o, es, ep, t, ho, hex, hd, hel, _, hss, hnd, hb, hf, hled, hpl⟩ := hS
  have hty : s.TypeIs (.ref a) "set" := ⟨o, ho, hex.1⟩
  have hlen : es.size = ss.length := by have := strsAre_len hss; simpa using this
  have halt : a < s.heap.objs.size := Heap.lt_size ho
  refine wpAny_pyIter_slot hty PySem.F.slot_set_iter (wpAny_call_entry PySem.F.slot_set_iter hty entry_iter ?_ (PySem.F.args_set_iter_1 _))
  unfold Builtin.«frozenset.__iter__»
  show wpAny _ _ (Builtin.Frozenset.sizeOf a >>= _) _ _ s
  unfold Builtin.Frozenset.sizeOf setEntries
  refine wpAny_bind (wpAny_bind (wpAny_bind (wpAny_setState_of ho hd hf (wpAny_pure (wpAny_pure ?_)))))
  unfold setDrawn setsByText
  refine wpAny_bind (wpAny_bind (wpAny_setState_of ho hd hf ?_))
  refine wpAny_bind (wpAny_bind (wpAny_askSetting (wpAny_pure ?_)))
  show wpAny _ _ (pure (!(w.params.followText "set-order") && (!t.plain && decide (es.size > 1)))) _ _ s
  refine wpAny_pure ?_
  by_cases hc : (!(w.params.followText "set-order") && (!t.plain && decide (es.size > 1))) = true
  · rw [if_pos hc]
    dsimp only
    refine wpAny_bind (drawOrder_of es.size (List.range es.size) s _ (by simp) fun ps d hp => ?_)
    refine wpAny_bind (wpAny_newTuple ?_ (by rw [List.length_map, hp.length_eq, List.length_range]; exact fits_of_scanBound hb))
    have keep1 : ∀ b ob, s.heap.get? b = some ob → (s.heap.push (seqObj "tuple" (ps.map fun i => rawInt (i : Nat)).toArray 0)).get? b = some ob := fun b ob e => Heap.get?_push_of_some _ e
    refine wpAny_bind (wpAny_setEpoch_of (keep1 _ _ ho) hd hf ?_)
    refine wpAny_bind (wpAny_newObj_type (wpAny_pure ⟨_, rfl, "set_iterator", _, ⟨_, Heap.get?_push_size _ rfl, rfl⟩, slot_next.lookup, ?_⟩))
    obtain ⟨ys, hys, hyl, hyt⟩ := strs_order hss hp
    generalize hH : s.heap.push (seqObj "tuple" (ps.map fun i => rawInt (i : Nat)).toArray 0) = H1 at keep1 ⊢
    have hHs : H1.objs.size = s.heap.objs.size + 1 := by rw [← hH, Heap.size_push]
    have hTo : H1.get? s.heap.objs.size = some (seqObj "tuple" (ps.map fun i => rawInt (i : Nat)).toArray 0) := hH ▸ Heap.get?_push_size _ rfl
    have hpl' : ps.length = es.size := by rw [hp.length_eq]; simp
    refine h H1.objs.size _ d [H1.objs.size, a, s.heap.objs.size] ys (fun i v => ∃ k e, ps[i]? = some k ∧ es[k]? = some e ∧ v = e.2)
      (fun i hh => hh.get? H1.objs.size = some (iterObj (.ref s.heap.objs.size) i a es.size ep) ∧ hh.get? a = some o ∧ hh.get? s.heap.objs.size = some (seqObj "tuple" (ps.map fun i => rawInt (i : Nat)).toArray 0))
      (by rw [hHs]; exact Nat.le_succ _) (fun b ob e => Heap.get?_push_of_some _ (keep1 b ob e)) (by rw [Heap.size_push]; exact Nat.lt_succ_self _) hys (fun b hb => ?_) (fun A' hh' => ?_) (fun i v ⟨k, e, e1, e2, e3⟩ => ?_) ⟨Heap.get?_push_size _ rfl, Heap.get?_push_of_some _ (keep1 _ _ ho), Heap.get?_push_of_some _ hTo⟩
    · simp only [List.mem_cons, List.not_mem_nil, or_false] at hb
      rw [Heap.size_push, hHs]
      rcases hb with z | z | z
      · exact .inr ⟨by rw [z, hHs]; exact Nat.le_succ _, by rw [z, hHs]; exact Nat.lt_succ_self _⟩
      · exact .inl z
      · exact .inr ⟨Nat.le_of_eq z.symm, by rw [z]; exact Nat.lt_succ_of_lt (Nat.lt_succ_self _)⟩
    · have nIa : a ≠ H1.objs.size := by rw [hHs]; exact Nat.ne_of_lt (Nat.lt_succ_of_lt halt)
      have nIT : s.heap.objs.size ≠ H1.objs.size := by rw [hHs]; exact Nat.ne_of_lt (Nat.lt_succ_self _)
      refine ⟨fun b hb => by simp at hb; simp [hb], fun i h1 h2 st k => ⟨k _ (by simp) _ st.1, k _ (by simp) _ st.2.1, k _ (by simp) _ st.2.2⟩, fun i s' Q' E' hi st hQ => ?_, fun s' Q' E' st hQ => ?_, fun i s' Q' E' st hQ => iter_self st.1 hQ⟩
      · have hi' : i < ps.length := by omega
        have hk : ps[i] < es.size := List.mem_range.mp (hp.mem_iff.mp (List.getElem_mem hi'))
        refine si_drawn st.1 st.2.1 hd hf rfl st.2.2 rfl (List.getElem?_eq_getElem hi') (getElem?_pos es ps[i] hk) fun h' e1 sb => ?_
        exact hQ _ h' s'.toks ⟨_, _, List.getElem?_eq_getElem hi', getElem?_pos es ps[i] hk, rfl⟩ ⟨e1, (sb.2 a nIa).trans st.2.1, (sb.2 _ nIT).trans st.2.2⟩ fun b ob hb e => (sb.2 b (by simpa using hb)).trans e
      · refine si_drawn_end hh' st.1 st.2.1 hd hf rfl st.2.2 rfl (by rw [List.getElem?_eq_none_iff]; omega) fun h' eb => ?_
        exact hQ h' s'.toks fun b ob hb e => eb b ob (by simpa using hb) e
    · obtain ⟨y, t', q1, q2⟩ := hyt i k e e1 e2
      exact ⟨y, t', q1, by rw [e3, q2]⟩
  · rw [if_neg hc]
    dsimp only
    refine wpAny_bind (wpAny_pure ?_)
    refine wpAny_bind (wpAny_setEpoch_of ho hd hf ?_)
    refine wpAny_bind (wpAny_newObj_type (wpAny_pure ⟨_, rfl, "set_iterator", _, ⟨_, Heap.get?_push_size _ rfl, rfl⟩, slot_next.lookup, ?_⟩))
    have nIa : a ≠ s.heap.objs.size := Nat.ne_of_lt halt
    have e0 : s = { s with drawn := s.drawn } := by cases s; rfl
    by_cases hw : w.params.followText "set-order" = true
    · -- by the text's setting
      have hpp := pickOrder_perm (w.params.setOrder a ep) es
      obtain ⟨ys, hys, hyp⟩ := strsAre_perm (hpp.map (·.2)) hss
      have hsz : (pickOrder (w.params.setOrder a ep) es).size = ys.length := by have := strsAre_len hys; simpa using this
      have hyl : ys.length = es.size := by rw [hyp.length_eq, hlen]
      refine h s.heap.objs.size _ s.drawn [s.heap.objs.size, a] ys (fun i v => ∃ e, (pickOrder (w.params.setOrder a ep) es)[i]? = some e ∧ v = e.2)
        (fun i hh => ∃ slot : Nat, hh.get? s.heap.objs.size = some (iterObj (.int slot 0) i a es.size ep) ∧ hh.get? a = some o)
        (Nat.le_refl _) (fun b ob e => Heap.get?_push_of_some _ e) (by rw [Heap.size_push]; exact Nat.lt_succ_self _) hyp (fun b hb => ?_) (fun A' hh' => ?_) (fun i v ⟨e, e1, e2⟩ => ?_) ⟨0, Heap.get?_push_size _ rfl, Heap.get?_push_of_some _ ho⟩
      · simp only [List.mem_cons, List.not_mem_nil, or_false] at hb
        rw [Heap.size_push]
        rcases hb with z | z
        · exact .inr ⟨Nat.le_of_eq z.symm, by rw [z]; exact Nat.lt_succ_self _⟩
        · exact .inl z
      · refine ⟨fun b hb => by simp at hb; simp [hb], fun i h1 h2 ⟨sl, st1, st2⟩ k => ⟨sl, k _ (by simp) _ st1, k _ (by simp) _ st2⟩, fun i s' Q' E' hi ⟨sl, st1, st2⟩ hQ => ?_, fun s' Q' E' ⟨sl, st1, st2⟩ hQ => ?_, fun i s' Q' E' ⟨sl, st1, _⟩ hQ => iter_self st1 hQ⟩
        · have hi' : i < (pickOrder (w.params.setOrder a ep) es).size := by rw [hsz]; exact hi
          refine si_slot st1 st2 hd hf rfl (fun A1 E1 Q1 q => next_text st2 hd hf hw (by rw [getElem?_pos _ i hi']; exact q)) fun h' e1 sb => ?_
          exact hQ _ h' s'.toks ⟨_, getElem?_pos _ i hi', rfl⟩ ⟨sl, e1, (sb.2 a nIa).trans st2⟩ fun b ob hb e => (sb.2 b (by simpa using hb)).trans e
        · refine si_slot_end hh' st1 st2 hd hf rfl (fun A1 E1 Q1 q => next_text st2 hd hf hw (by rw [getElem?_neg _ _ (by rw [hsz]; exact Nat.lt_irrefl _)]; exact q)) fun h' eb => ?_
          exact hQ h' s'.toks fun b ob hb e => eb b ob (by simpa using hb) e
      · obtain ⟨y, t', q1, q2⟩ := strsAre_at hys i e.2 (by rw [List.getElem?_map, Array.getElem?_toList, e1]; rfl)
        exact ⟨y, t', q1, by rw [e2, q2]⟩
    · -- one entry at most
      have hw' : w.params.followText "set-order" = false := by simpa using hw
      have hled' : t.led = true := by rw [hled, hw']; rfl
      have h1 : es.size ≤ 1 := by
        rcases hpl with z | z
        · omega
        · rw [hw', z] at hc
          simp at hc
          omega
      have hfit : t.place.size = es.size := by
        simp only [SetTable.fits, Bool.and_eq_true, beq_iff_eq, decide_eq_true_eq] at hf
        exact hf.1
      refine h s.heap.objs.size _ s.drawn [s.heap.objs.size, a] ss (fun i v => ∃ e, es[i]? = some e ∧ v = e.2)
        (fun i hh => ∃ slot : Nat, hh.get? s.heap.objs.size = some (iterObj (.int slot 0) i a es.size ep) ∧ hh.get? a = some o ∧ (i = 0 → slot = 0) ∧ (∀ j, i = 1 → t.place[0]? = some j → slot = j + 1))
        (Nat.le_refl _) (fun b ob e => Heap.get?_push_of_some _ e) (by rw [Heap.size_push]; exact Nat.lt_succ_self _) .rfl (fun b hb => ?_) (fun A' hh' => ?_) (fun i v ⟨e, e1, e2⟩ => ?_) ⟨0, Heap.get?_push_size _ rfl, Heap.get?_push_of_some _ ho, fun _ => rfl, fun j z => by omega⟩
      · simp only [List.mem_cons, List.not_mem_nil, or_false] at hb
        rw [Heap.size_push]
        rcases hb with z | z
        · exact .inr ⟨Nat.le_of_eq z.symm, by rw [z]; exact Nat.lt_succ_self _⟩
        · exact .inl z
      · refine ⟨fun b hb => by simp at hb; simp [hb], fun i h1 h2 ⟨sl, st1, st2, st3⟩ k => ⟨sl, k _ (by simp) _ st1, k _ (by simp) _ st2, st3⟩, fun i s' Q' E' hi ⟨sl, st1, st2, st3, st4⟩ hQ => ?_, fun s' Q' E' ⟨sl, st1, st2, st3, st4⟩ hQ => ?_, fun i s' Q' E' ⟨sl, st1, _⟩ hQ => iter_self st1 hQ⟩
        · have hi0 : i = 0 := by omega
          subst hi0
          have hs1 : es.size = 1 := by omega
          obtain ⟨pj, hpj⟩ : ∃ j, t.place = #[j] := Array.size_eq_one_iff.mp (by omega)
          have hsl : sl = 0 := st3 rfl
          subst hsl
          have he0 : es[0]? = some es[0] := getElem?_pos es 0 (by omega)
          refine si_slot (x := es[0].2) (next := pj + 1) st1 st2 hd hf rfl (fun A1 E1 Q1 q => next_small st2 hd hf hw' hled' h1 ?_) fun h' e1 sb => ?_
          · rw [hpj, below_one, if_neg (Nat.not_lt_zero _), he0]
            exact q
          · exact hQ _ h' s'.toks ⟨_, he0, rfl⟩ ⟨pj + 1, e1, (sb.2 a nIa).trans st2, fun z => by omega, fun j _ z => by rw [hpj] at z; simp at z; omega⟩ fun b ob hb e => (sb.2 b (by simpa using hb)).trans e
        · refine si_slot_end hh' st1 st2 hd hf rfl (fun A1 E1 Q1 q => ?_) fun h' eb => hQ h' s'.toks fun b ob hb e => eb b ob (by simpa using hb) e
          rw [← hlen]
          refine next_small st2 hd hf hw' hled' h1 ?_
          by_cases hs0 : es.size = 0
          · rw [getElem?_neg es _ (by omega)]
            exact q
          · obtain ⟨pj, hpj⟩ : ∃ j, t.place = #[j] := Array.size_eq_one_iff.mp (by omega)
            have hsl : sl = pj + 1 := st4 pj (by omega) (by rw [hpj]; rfl)
            rw [hpj, hsl, below_one, if_pos (Nat.lt_succ_self _), getElem?_neg es _ (by omega)]
            exact q
      · obtain ⟨y, t', q1, q2⟩ := strsAre_at hss i e.2 (by rw [List.getElem?_map, Array.getElem?_toList, e1]; rfl)
        exact ⟨y, t', q1, by rw [e2, q2]⟩
end
end LmSet

set_option Elab.async false
set_option linter.all false
set_option maxRecDepth 100000
set_option maxHeartbeats 4000000
namespace LmSet
open PySem PyProof.Rows

/-! ## sorted of a set of texts, of a text -/
theorem items_strs {P : Nat → Value → Prop} {ys : List Str} (hP : ∀ i v, P i v → ∃ y t, ys[i]? = some y ∧ v = .str y t) {acc : Array Value} (h : ItemsOf P acc ys.length) : StrsAre acc.toList ys := by
  have key : ∀ (vs : List Value) (zs : List Str), vs.length = zs.length → (∀ (i : Nat) (v : Value), vs[i]? = some v → ∃ (y : Str) (t : Tok), zs[i]? = some y ∧ v = Value.str y t) → StrsAre vs zs := by
    intro vs
    induction vs with
    | nil => intro zs hl _; cases zs with
      | nil => exact .nil
      | cons _ _ => simp at hl
    | cons v r ih =>
      intro zs hl hv
      cases zs with
      | nil => simp at hl
      | cons z zr =>
        obtain ⟨y, t, e1, e2⟩ := hv 0 v rfl
        have e1' : z = y := by simpa using e1
        rw [e2, e1']
        exact .cons y t (ih zr (by simpa using hl) fun i u hu => by simpa using hv (i + 1) u (by simpa using hu))
  refine key _ _ (by simpa using h.1) fun i v hv => hP i v (h.2 i v (by simpa using hv))

section
variable {prog : Program} {w : World} {A : Around} {E : Value → Shared → Prop} {s : Shared}
theorem collect_set {a : Addr} {ss : List Str} {Q : List Value → Shared → Prop} (hh : A.handled = none) (hS : SSet prog w s.heap a ss) (hn : ss.length ≤ sizeLine)
    (hQ : ∀ (s' : Shared) (vs : List Value) (ys : List Str), (∀ b o, s.heap.get? b = some o → s'.heap.get? b = some o) → s'.gens = s.gens → s'.os = s.os → StrsAre vs ys → ys.Perm ss → Q vs s') :
    wpAny (model prog w) A (collect (.ref a)) Q E s := by
  have halt : a < s.heap.objs.size := by obtain ⟨o, _, _, _, ho, _⟩ := hS; exact Heap.lt_size ho
  unfold collect
  refine wpAny_bind (wpAny_runValue (codeAny_builtin PySem.F.entry_proto_collect ?_))
  rw [Around.under_plainId PySem.F.plain_proto_collect _]
  show wpAny _ A.in1 (newList [] >>= fun l => again (.builtin "list.__iadd__" ⟨[l, .ref a], []⟩)) _ _ s
  refine wpAny_bind (wpAny_newObj_type ?_)
  refine wpAny_pure ⟨plainId_quiet PySem.F.plain_list_iadd _, codeAny_builtin PySem.F.entry_list_iadd ?_⟩
  rw [Around.under_plainId PySem.F.plain_list_iadd _]
  show wpAny _ A.in1 (Builtin.List.listExtendWith (.ref s.heap.objs.size) (.ref a) (.ref s.heap.objs.size)) _ _ _
  unfold Builtin.List.listExtendWith
  generalize hH : s.heap.push { cls := .type "list", data := .seq ([] : List Value).toArray } = H
  have keep : ∀ b o, s.heap.get? b = some o → H.get? b = some o := fun b o e => hH ▸ Heap.get?_push_of_some _ e
  have hHs : H.objs.size = s.heap.objs.size + 1 := by rw [← hH, Heap.size_push]
  have hSo : H.get? s.heap.objs.size = some { cls := .type "list", data := .seq ([] : List Value).toArray } := hH ▸ Heap.get?_push_size _ rfl
  have hS1 : SSet prog w H a ss := hS.mono fun o e => keep a o e
  have hty : Shared.TypeIs { s with heap := H } (.ref a) "set" := by
    obtain ⟨o, _, _, _, ho, hex, _⟩ := hS1
    exact ⟨o, ho, hex.1⟩
  refine wpAny_bind (wpAny_typeOf hty ?_)
  have h1 : Builtin.List.listSameRef (.ref s.heap.objs.size) (.ref a) = false := by simp [Builtin.List.listSameRef, Nat.ne_of_gt halt]
  have h2 : (Value.type "set" == Value.type "list") = false := by decide
  have h3 : (Value.type "set" == Value.type "tuple") = false := by decide
  simp only [h1, h2, h3, Bool.or_false, Bool.false_eq_true, if_false]
  refine wpAny_bind (iter_set (s := { s with heap := H }) hS1 fun I h' d fp ys P St hI keep' hIlt hys hfp W hP hst => ?_)
  refine wpAny_bind (wpAny_holding ?_)
  have hty2 : Shared.TypeIs { s with heap := h', drawn := d } (.ref a) "set" := by
    obtain ⟨o, ho, hc⟩ := hty
    exact ⟨o, keep' a o ho, hc⟩
  unfold Builtin.List.listLengthHint
  refine wpAny_bind (wpAny_specialOf hty2 set_len ?_)
  wp_delta
  refine wpAny_bind (wpAny_isInstance (T := "set") (b := true) hty2 (by rw [isSubtype_type]; kernel_rfl) ?_)
  show wpAny _ A.in1 (typeOf (Value.ref a) >>= _) _ _ _
  refine wpAny_bind (wpAny_typeOf hty2 ?_)
  refine wpAny_pure ?_
  rw [if_pos (by decide)]
  have hSf : s.heap.objs.size ∉ fp := fun hm => by
    rcases hfp _ hm with z | z
    · exact absurd halt (by rw [← z]; exact Nat.lt_irrefl _)
    · have := z.1
      show False
      have z1 : H.objs.size ≤ s.heap.objs.size := z.1
      rw [hHs] at z1
      exact absurd z1 (Nat.not_succ_le_self _)
  have hyl : ys.length = ss.length := hys.length_eq
  refine wpAny_bind (wpAny_rule ?_)
  have hS₁ := keep' _ _ hSo
  refine wpAny_bind ?_
  show wpAny _ A.in1 (updateSeq s.heap.objs.size (·.push .none) >>= fun _ => updateSeq s.heap.objs.size (·.pop)) _ _ _
  refine wpAny_bind (wpAny_updateSeq hS₁ rfl ?_)
  have hS₂ := Heap.get?_update_self (Obj.mapSeq (·.push Value.none)) hS₁ rfl
  refine wpAny_updateSeq hS₂ rfl ?_
  have hS₃ := Heap.get?_update_self (Obj.mapSeq (·.pop)) hS₂ rfl
  have oth : ∀ b o, b ≠ s.heap.objs.size → h'.get? b = some o → ((h'.update s.heap.objs.size (Obj.mapSeq (·.push Value.none))).update s.heap.objs.size (Obj.mapSeq (·.pop))).get? b = some o :=
    fun b o hb e => (Heap.get?_update_other _ _ (Ne.symm hb)).trans ((Heap.get?_update_other _ _ (Ne.symm hb)).trans e)
  have W0 := W A.in1 (by simp [hh])
  refine wpAny_pure ⟨plainId_quiet PySem.F.plain_extend_loop _, codeAny_extend_loopS W0.toS (by omega) _ hSf _ ys.length 0 _ _ _ rfl (Nat.zero_le _) (W0.frame 0 h' _ hst fun b hb o e => oth b o (fun z => hSf (z ▸ hb)) e) hS₃ (ItemsOf.nil _) fun s' acc' c' hm hS' hacc => ?_⟩
  show wpAny _ A (load s.heap.objs.size >>= _) _ _ s'
  refine wpAny_bind (wpAny_load hS' ?_)
  refine wpAny_pure (hQ s' acc'.toList ys (fun b ob e => hm.heap b ob (fun hb => ?_) (oth b ob (Nat.ne_of_lt (Heap.lt_size e)) (keep' b ob (keep b ob e)))) hm.gens hm.os (items_strs hP hacc) hys)
  have hlt := Heap.lt_size e
  rcases List.mem_cons.mp hb with z | z
  · exact absurd hlt (z ▸ Nat.lt_irrefl _)
  · have z' : b = I := by simpa using z
    have : H.objs.size ≤ I := hI
    rw [z'] at hlt
    rw [hHs] at this
    exact absurd hlt (Nat.not_lt.mpr (Nat.le_trans (Nat.le_succ _) this))

/-- a list of texts just made is sorted -/
theorem sort_made {D : Addr} {vs : List Value} {ss : List Str} {Q : Value → Shared → Prop} (ho : s.heap.get? D = some (seqObj "list" vs.toArray 0)) (hS : StrsAre vs ss) (h64 : vs.length < 64)
    (h : ∀ (h' : Heap) (vs' : List Value) (ss' : List Str) (e : Nat), (∀ b o, b ≠ D → s.heap.get? b = some o → h'.get? b = some o) → h'.get? D = some (seqObj "list" vs'.toArray e) → StrsAre vs' ss' → ss'.Perm ss → sortedS ss' = true → Q .none { s with heap := h' }) :
    wpAny (model prog w) A (call (.builtin "list.sort") [.ref D]) Q E s := by
  have hD := Heap.lt_size ho
  refine wpAny_call_entry slot_list_sort ⟨_, ho, rfl⟩ entry_list_sort (list_sort_treeK strKind_oneLt ho hS.keysOf (fun v₁ v₂ rest e => keyKind_strs (by rw [← e]; exact hS)) h64 fun st' a1 a2 => ⟨_, rfl, ?_⟩) (args_list_sort _)
  obtain ⟨ss', q1, q2, q3⟩ := sorted_out_str hS a1 a2
  obtain ⟨e, he⟩ := sortedHeap_at (vs := vs) (out := (arrOf st').map (·.2)) ho
  refine h _ ((arrOf st').map (·.2)).toList ss' e (fun b o hb q => ?_) (by rw [he]) q1 q2 q3
  rw [sortedHeap_old hb (Heap.lt_size q)]
  exact q

theorem sorted_set {a : Addr} {ss : List Str} {Q : Value → Shared → Prop} (hh : A.handled = none) (hS : SSet prog w s.heap a ss) (h64 : ss.length < 64)
    (h : ∀ (s' : Shared) (D : Addr) (vs : List Value) (ys : List Str) (e : Nat), (∀ b o, s.heap.get? b = some o → s'.heap.get? b = some o) → s'.gens = s.gens → s'.os = s.os → (∀ b o, s.heap.get? b = some o → b < D) → s'.heap.get? D = some (seqObj "list" vs.toArray e) → StrsAre vs ys → ys.Perm ss → sortedS ys = true → Q (.ref D) s') :
    wpAny (model prog w) A (call (.builtin "sorted") [.ref a]) Q E s := by
  refine Calls.call_function_entry kind_sorted plain_sorted entry_sorted (args_sorted1 _) ?_
  unfold Builtin.«sorted»
  refine wpAny_bind (m := checkCount "sorted" 1 1 _) (wpAny_pure ?_)
  refine wpAny_bind (collect_set (by simp [hh]) hS (by rw [sizeLine_eq]; omega) fun s1 vs ys keep g1 o1 hvs hys => ?_)
  have hvl : vs.length < 64 := by rw [strsAre_len hvs, hys.length_eq]; exact h64
  refine wpAny_bind (wpAny_newList ?_ (by rw [sizeLine_eq]; omega))
  have hsz : ∀ b o, s.heap.get? b = some o → b < s1.heap.objs.size := fun b o q => Heap.lt_size (keep b o q)
  refine wpAny_bind (wpAny_holding (sort_made (s := { s1 with heap := s1.heap.push (seqObj "list" vs.toArray 0) }) (Heap.get?_push_size _ rfl) hvs hvl fun h' vs' ss' e k he q1 q2 q3 => ?_))
  refine wpAny_pure ⟨_, rfl, h _ s1.heap.objs.size vs' ss' e (fun b o q => ?_) g1 o1 hsz he q1 (q2.trans hys) q3⟩
  have q' := keep b o q
  exact k b o (Nat.ne_of_lt (Heap.lt_size q')) (Heap.get?_push_of_some _ q')

end
end LmSet

set_option Elab.async false
set_option linter.all false
set_option maxRecDepth 100000
set_option maxHeartbeats 4000000
namespace L2
open PySem PySem.Spec PyProof.Rows

section
variable {X : Cx} {a b e : Expr} {ta tb te : TE} {pos p p2 : Pos}
/-- all objects kept, nothing else told -/
theorem Inv.keptS {pins : List (Addr × Obj)} {σ : St} {H : Hp} {s s' : Shared} (I : Inv X pins σ H s) (k : ∀ b o, s.heap.get? b = some o → s'.heap.get? b = some o) (g : s'.gens = s.gens) (o : s'.os = s.os) : Inv X pins σ H s' :=
  I.call' (ch := []) o (Un.kept k) (I.hok.kept k) (by rw [g]; exact I.bare) fun b hb => (nomatch hb)
/-- a new object, above all that stands -/
theorem Inv.newAt {pins : List (Addr × Obj)} {σ : St} {H : Hp} {s : Shared} (I : Inv X pins σ H s) {D : Addr} (h : ∀ b o, s.heap.get? b = some o → b < D) : NewC X pins H D := by
  obtain ⟨m, ⟨oL, es, ep, hoL, _⟩, _⟩ := id I.loc
  have hL := h _ _ hoL
  refine ⟨?_, Nat.ne_of_gt hL, Nat.le_trans I.ok.above (Nat.le_of_lt hL), fun x c e => ?_, fun p hp => Nat.ne_of_lt (h _ _ (I.pin p hp).1)⟩
  · cases q : H D with
    | none => rfl
    | some u =>
      have no : ∀ o, s.heap.get? D ≠ some o := fun o e => absurd (h D o e) (Nat.lt_irrefl _)
      have x := I.hok D u q
      cases u with
      | lst xs => obtain ⟨_, _, _, _, e⟩ := x; exact absurd e (no _)
      | tup xs => obtain ⟨_, _, _, o, e, _⟩ := x; exact absurd e (no _)
      | dK kvs => obtain ⟨_, _, _, _, o, _, _, e, _⟩ := x; exact absurd e (no _)
      | dT kvs => obtain ⟨_, _, _, _, o, _, _, e, _⟩ := x; exact absurd e (no _)
      | set S n => obtain ⟨o, _, _, _, e, _⟩ := x; exact absurd e (no _)
      | ins C dx fs => obtain ⟨_, _, _, e, _⟩ := x; exact absurd e (no _)
      | own y => obtain ⟨_, e⟩ := x; exact absurd e (no _)
      | xd fs => obtain ⟨_, ⟨_, _, _, e, _⟩, _⟩ := x; exact absurd e (no _)
      | rng lo hi => obtain ⟨_, _, _, e⟩ := x; exact absurd e (no _)
      | frz ob u => obtain ⟨e, _⟩ := x; exact absurd e (no _)
      | tbl ps => exact absurd (show s.heap.get? D = some _ from x) (no _)
      | met f y => exact absurd (show s.heap.get? D = some _ from x) (no _)
      | ext φ => obtain ⟨_, ⟨_, e⟩, _⟩ := x; exact absurd e (no _)
  · obtain ⟨v, o, ho, _⟩ := I.cell x c e
    exact Nat.ne_of_lt (h _ _ ho)

/-- isinstance(e, T), T a built-in class -/
theorem call_isinst : CallR X (.builtin "isinstance") (fun xs H Q => ∃ x n t b, xs = [x, .ty n] ∧ TyOf X.K H x t ∧ PySem.W.kitOne X.K t (.type n) = some b ∧ Q (.bl b) H) := by
  intro pins s σ H xs us Q I r h
  obtain ⟨x, n, t, b, rfl, ty, k, q⟩ := h
  obtain ⟨u, w', rfl, r1, r2⟩ := vals2 r
  cases r2
  exact isinst_ok I r1 ty k fun tk => ⟨.bl b, H, I.tok _, rfl, q⟩
theorem pe_isinst {T : Str} {n : String} (hm : X.mg "isinstance" = none) (hmT : X.mg T = none) (hvT : bootBuiltins T = some (.type n)) (he : PE X e te) (hg : Gl X "isinstance" := by rfl) (hgT : Gl X T := by rfl)
    (hn : T ≠ "__name__" := by decide) (hd : (T == ("__debug__" : Str)) = false := by decide) (hs : starEach [e, .Name T p2] X.env = (false, eval e X.env) :: starEach [.Name T p2] X.env := by rfl) :
    PE X (.Call (.Name "isinstance" p) [e, .Name T p2] [] pos) (tCB (fun xs H Q => ∃ x n t b, xs = [x, .ty n] ∧ TyOf X.K H x t ∧ PySem.W.kitOne X.K t (.type n) = some b ∧ Q (.bl b) H) (tCons te (tCons (tC (.ty n)) tNil))) :=
  pe_callB call_isinst hg hm boot_isinstance (pa_cons he (pa_cons (pe_bltn hgT hmT hvT (v := .ty n) rfl hn hd) pa_nil) hs) (he := hs)

theorem op_le_str : OpR X (compareOp .LtE) (fun x y H Q => ∃ i j, x = .str i ∧ y = .str j ∧ Q (.bl (!decide (j.cps.toList < i.cps.toList))) H) := by
  intro pins s σ H x y v u Q I rx ry h
  obtain ⟨i, j, rfl, rfl, q⟩ := h
  obtain ⟨t, rfl⟩ := rx
  obtain ⟨t', rfl⟩ := ry
  exact PySem.P.le_str (fin_bl I q rfl)

/-! ### sets of texts -/
abbrev SetO (X : Cx) (p : Addr) (ss : List Str) : HO := .ext fun h => LmSet.SSet X.prog X.w h p ss
theorem setO_ok {H : Hp} {h : Heap} {p : Addr} {ss : List Str} (S : LmSet.SSet X.prog X.w h p ss) : ObjOk X.prog X.w H h p (SetO X p ss) :=
  ⟨S, let ⟨o, _, _, _, e, _⟩ := S; ⟨o, e⟩, fun h1 h2 q k => q.mono k⟩
theorem vals_strs : ∀ {ss : List Str} {us : List Value}, StrsAre us ss → Vals (ss.map V.str) us
  | _, _, .nil => .nil
  | _, _, .cons y t r => .cons ⟨t, rfl⟩ (vals_strs r)
/-- sorted(set) -/
theorem call_sorted_set (hc : X.calm = true) : CallR X (.builtin "sorted") (fun xs H Q => ∃ p ss, xs = [.ref p] ∧ H p = some (SetO X p ss) ∧ ss.length < 64 ∧ ∀ q ys, H q = none → ys.Perm ss → sortedS ys = true → Q (.ref q) (upd H q (.lst (ys.map V.str)))) := by
  intro pins s σ H xs us Q I r h
  obtain ⟨p, ss, rfl, hp, h64, q⟩ := h
  obtain ⟨u, rfl, ru⟩ := vals1 r
  cases ru
  obtain ⟨hS, _⟩ := I.hok p _ hp
  have hz : sizeLine = 16777216 := sizeLine_eq
  refine LmSet.sorted_set (I.ok.hd hc) hS h64 fun s' D vs ys e keep g o hD he hvs hys hso => ?_
  have I' := I.keptS keep g o
  have n := I.newAt hD
  exact ⟨.ref D, _, I'.track n (by rw [List.length_map, hys.length_eq, hz]; omega) (vals_strs hvs) he, rfl, q D ys n.h hys hso⟩
end
end L2

set_option Elab.async false
set_option linter.all false
set_option maxRecDepth 100000
set_option maxHeartbeats 4000000
namespace L2
open PySem PySem.Spec PyProof.Rows

/-! ## readings in short -/
/-- a def of the text as a callee -/
structure Fn (K : PySem.W.Frag) (mg : Str → Option Value) (x : Str) (f : Addr) (fd : FuncData) (ps : List Str) : Prop where
  m : mg x = some (.ref f)
  k : PySem.W.keepIn K (.ref f) = true
  b : Binds K fd ps []

/-- the walk of a comprehension over a list that stays -/
def CW (n : Nat) (Pv : Nat → List V → St → Hp → Prop) (i m : Nat) (out : List V) (σ : St) (H : Hp) : Prop := m = n - i ∧ i ≤ n ∧ Pv i out σ H
theorem CW.next {n : Nat} {Pv : Nat → List V → St → Hp → Prop} {i : Nat} {out : List V} {σ : St} {H : Hp} (hi : i < n) (h : Pv (i + 1) out σ H) : ∃ m', m' < n - i ∧ CW n Pv (i + 1) m' out σ H := ⟨n - (i + 1), by omega, rfl, hi, h⟩
theorem comp_list {K : PySem.W.Frag} {a : Addr} {xs : List V} {own : List Str} {cap : List (Str × Nat)} {g : TG} {ti : TT} {te : TE} {σ : St} {H : Hp} {Q : VK} (Pv : Nat → List V → St → Hp → Prop) (h0 : Pv 0 [] (capSt own cap σ) H)
    (hl : ∀ i out σ H, i ≤ xs.length → Pv i out σ H → SqL K H a xs)
    (hs : ∀ i x out σ' H', i < xs.length → xs[i]? = some x → Pv i out σ' H' → g x σ' H' fun σ3 H3 => ti σ3 H3 fun b H4 => if b = true then te σ3 H4 (fun y H5 => out.length < sizeLine ∧ ∃ m', m' < xs.length - i ∧ CW xs.length Pv (i + 1) m' (out ++ [y]) σ3 H5) else ∃ m', m' < xs.length - i ∧ CW xs.length Pv (i + 1) m' out σ3 H4)
    (hd : ∀ out σ' H', Pv xs.length out σ' H' → ∀ p, H' p = none → Q (.ref p) (upd H' p (.lst out))) :
    ∃ W : Nat → Nat → List V → St → Hp → Prop, (∃ m, W 0 m [] (capSt own cap σ) H) ∧
      ∀ i m out σ' H', W i m out σ' H' → ((Itl K a).stop i H' ∧ ∀ p, H' p = none → Q (.ref p) (upd H' p (.lst out))) ∨ ((Itl K a).go i H' ∧ ∀ x H2, (Itl K a).yld i H' x H2 → g x σ' H2 fun σ3 H3 => ti σ3 H3 fun b H4 =>
        if b = true then te σ3 H4 (fun y H5 => out.length < sizeLine ∧ ∃ m', m' < m ∧ W (i + 1) m' (out ++ [y]) σ3 H5) else ∃ m', m' < m ∧ W (i + 1) m' out σ3 H4) := by
  refine ⟨CW xs.length Pv, ⟨xs.length, by simp, Nat.zero_le _, h0⟩, ?_⟩
  rintro i m out σ' H' ⟨rfl, hi, p⟩
  have q := hl i out σ' H' hi p
  by_cases hlt : i < xs.length
  · refine .inr ⟨⟨xs, xs[i], q, by simp [hlt]⟩, fun x H2 y => ?_⟩
    obtain ⟨e, y⟩ := y
    subst e
    exact hs i x out σ' _ hlt (y xs q) p
  · have e : i = xs.length := by omega
    subst e
    exact .inl ⟨⟨xs, q, Nat.le_refl _⟩, hd out σ' H' p⟩

theorem same_new {H : Hp} {p : Addr} (h : H p = none) (o : HO) : Same H (upd H p o) := fun b u q => by rw [upd_ne (ne_of_none q h)]; exact q
theorem small {n : Nat} (h : n ≤ 1000000) : n ≤ sizeLine := by rw [sizeLine_eq]; omega
theorem smallL {n : Nat} (h : n ≤ 1000000) : n < sizeLine := by rw [sizeLine_eq]; omega
end L2

set_option Elab.async false
set_option linter.all false
set_option maxRecDepth 100000
set_option maxHeartbeats 4000000
namespace LmSort
open PySem PySem.W PyProof.Rows

section
variable {prog : Program} {w : World} {A : Around} {E : Value → Shared → Prop} {s : Shared}

end
end LmSort

set_option Elab.async false
set_option linter.all false
set_option maxRecDepth 100000
set_option maxHeartbeats 4000000
namespace L2
open PySem PySem.Spec PyProof.Rows PySem.W PySem.SeqAt

/-! ## sorted of pairs (a number, a text) -/
theorem str_inj {x y : Str} (h : x.cps.toList = y.cps.toList) : x = y := by
  cases x; cases y
  simp only [Str.mk.injEq]
  exact Array.toList_inj.mp h

section
variable {X : Cx}

/-! ## lists and tuples -/
/-- xs + ys, xs a list that is read -/
def rCatS (K : PySem.W.Frag) : R2 := fun x y H Q => ∃ l b xs zs, x = .ref l ∧ y = .ref b ∧ SqL K H l xs ∧ SqL K H b zs ∧ xs.length + zs.length ≤ sizeLine ∧ ∀ p, H p = none → Q (.ref p) (upd H p (.lst (xs ++ zs)))
theorem op_catS : OpR X (binaryOp .Add) (rCatS X.K) := by
  intro pins s σ H x y v u Q I rx ry h
  obtain ⟨l, b, xs, zs, rfl, rfl, hH, hB, hz, q⟩ := h
  cases rx
  cases ry
  obtain ⟨its, r, pl, hz1⟩ := I.list hH
  obtain ⟨its2, r2, pl2, hz2⟩ := I.list hB
  have l1 := r.length
  have l2 := r2.length
  obtain ⟨⟨cls, dd, data, sl⟩, ho, hc, n, hd⟩ := id pl.isList
  obtain ⟨⟨cls2, dd2, data2, sl2⟩, ho2, hc2, n2, hd2⟩ := id pl2.isList
  simp only at hc hd hc2 hd2
  subst hc hd hc2 hd2
  have e : its.toArray ++ its2.toArray = (its ++ its2).toArray := by simp
  refine concat_meets ⟨_, ho, rfl⟩ ⟨_, ho2, rfl⟩ noFill_list_add seq_list_add PySem.F.slot_list_add PySem.F.entry_list_add (PySem.F.args_list_add_2 _ _) (list_addW l b its.toArray its2.toArray n n2 dd dd2 sl sl2 (by simp; omega)) ⟨ho, ho2, ?_⟩
  rw [e]
  exact ⟨.ref _, _, I.lnew (t' := s.toks) (r.append r2) (by rw [List.length_append]; omega), rfl, q _ I.fresh⟩

/-! ## data, at any depth -/
mutual
inductive RdD (K : PySem.W.Frag) (H : Hp) : V → PyData → Prop
  | non : RdD K H .non .none
  | bl (b : Bool) : RdD K H (.bl b) (.bool b)
  | int (i : Int) : RdD K H (.int i) (.int i)
  | str (x : Str) : RdD K H (.str x) (.str x)
  | lst {a : Addr} {xs : List V} {ds : List PyData} : SqL K H a xs → RdAll K H xs ds → RdD K H (.ref a) (.list ds)
  | tup {a : Addr} {xs : List V} {ds : List PyData} : SqT K H a xs → RdAll K H xs ds → RdD K H (.ref a) (.tuple ds)
inductive RdAll (K : PySem.W.Frag) (H : Hp) : List V → List PyData → Prop
  | nil : RdAll K H [] []
  | cons {x : V} {xs : List V} {d : PyData} {ds : List PyData} : RdD K H x d → RdAll K H xs ds → RdAll K H (x :: xs) (d :: ds)
end
mutual
theorem RdD.reads {pins : List (Addr × Obj)} {σ : St} {H : Hp} {s : Shared} (I : Inv X pins σ H s) : ∀ {x : V} {d : PyData} {u : Value}, RdD X.K H x d → RelV x u → ∃ as, Reads s.heap u d as
  | _, _, _, .non, r => by cases r; exact ⟨_, .none⟩
  | _, _, _, .bl b, r => by cases r; exact ⟨_, .bool b⟩
  | _, _, _, .int i, r => by obtain ⟨t, rfl⟩ := r; exact ⟨_, .int i t⟩
  | _, _, _, .str x, r => by obtain ⟨t, rfl⟩ := r; exact ⟨_, .str x t⟩
  | _, _, _, .lst sq al, r => by
    cases r
    obtain ⟨its, rv, pl, _⟩ := I.list sq
    obtain ⟨as, ra⟩ := RdAll.reads I al rv
    obtain ⟨o, ho, hc, n, hd⟩ := pl.isList
    exact ⟨_, .list ho hc hd (by simpa using ra)⟩
  | _, _, _, .tup sq al, r => by
    cases r
    obtain ⟨its, rv, ⟨o, ho, hc, n, hd⟩, _⟩ := I.tuple sq
    obtain ⟨as, ra⟩ := RdAll.reads I al rv
    exact ⟨_, .tuple ho hc hd (by simpa using ra)⟩
theorem RdAll.reads {pins : List (Addr × Obj)} {σ : St} {H : Hp} {s : Shared} (I : Inv X pins σ H s) : ∀ {xs : List V} {ds : List PyData} {us : List Value}, RdAll X.K H xs ds → Vals xs us → ∃ as, ReadsAll s.heap us ds as
  | _, _, _, .nil, r => by cases r; exact ⟨_, .nil⟩
  | _, _, _, .cons h1 h2, r => by
    cases r with
    | cons r1 r2 =>
      obtain ⟨as, a⟩ := RdD.reads I h1 r1
      obtain ⟨bs, b⟩ := RdAll.reads I h2 r2
      exact ⟨_, .cons a b⟩
end
def rEqD (K : PySem.W.Frag) : R2 := fun x y H Q => ∃ da db, RdD K H x da ∧ RdD K H y db ∧ shaped da = true ∧ shaped db = true ∧ noMix da db = true ∧ Q (.bl (same da db)) H
def rNeD (K : PySem.W.Frag) : R2 := fun x y H Q => ∃ da db, RdD K H x da ∧ RdD K H y db ∧ shaped da = true ∧ shaped db = true ∧ noMix da db = true ∧ Q (.bl (!same da db)) H
theorem op_eqD (hu : X.A.units + 64 < cLine) : OpR X (compareOp .Eq) (rEqD X.K) := by
  intro pins s σ H x y v u Q I rx ry h
  obtain ⟨da, db, ha, hb, h1, h2, h3, q⟩ := h
  obtain ⟨as, ra⟩ := ha.reads I rx
  obtain ⟨bs, rb⟩ := hb.reads I ry
  exact eq_dataH_same ra rb h1 h2 hu h3 ⟨.bl _, H, I, rfl, q⟩
theorem op_neD (hu : X.A.units + 64 < cLine) : OpR X (compareOp .NotEq) (rNeD X.K) := by
  intro pins s σ H x y v u Q I rx ry h
  obtain ⟨da, db, ha, hb, h1, h2, h3, q⟩ := h
  obtain ⟨as, ra⟩ := ha.reads I rx
  obtain ⟨bs, rb⟩ := hb.reads I ry
  exact ne_dataH_same ra rb h1 h2 hu h3 ⟨.bl _, H, I, rfl, q⟩

/-! ## texts -/
theorem lt1 (a b : Nat) : ([a] < [b]) ↔ a < b := by
  constructor
  · intro z
    cases z with
    | rel q => exact q
    | cons q => cases q
  · exact fun h => List.Lex.rel h
/-- x[lo:hi] -/
theorem sl_str : SlR X (fun x lo hi H Q => ∃ i : Str, x = .str i ∧ i.length ≤ sizeLine ∧ Q (.str (Txt.slice i lo hi)) H) := by
  intro pins s σ H x v vl vu lo hi sl Q I rx hs pl pu h
  obtain ⟨i, rfl, hz, q⟩ := h
  obtain ⟨t, rfl⟩ := rx
  refine ⟨"str", _, PySem.F.slot_str_getitem.lookup, typeIs_str _ _ _, ?_⟩
  obtain ⟨o, ho, hc, hd⟩ := hs
  have fin : ∀ t' k, EP X pins σ Q (.str (Txt.slice i lo hi) t') { s with toks := k } := fun t' k => ⟨.str _, H, I.tok _, ⟨_, rfl⟩, q⟩
  cases pl with
  | none =>
    cases pu with
    | none => exact wpAny_getItem_str_slice (l := none) (u := none) (st := none) ⟨o, ho, hc, hd⟩ rfl (post_val_or_str ⟨Nat.le_trans (Txt.slice_le i _ _) hz, fin⟩)
    | int j uj => exact wpAny_getItem_str_slice (l := none) (u := some (j, uj)) (st := none) ⟨o, ho, hc, hd⟩ rfl (post_val_or_str ⟨Nat.le_trans (Txt.slice_le i _ _) hz, fin⟩)
  | int k uk =>
    cases pu with
    | none => exact wpAny_getItem_str_slice (l := some (k, uk)) (u := none) (st := none) ⟨o, ho, hc, hd⟩ rfl (post_val_or_str ⟨Nat.le_trans (Txt.slice_le i _ _) hz, fin⟩)
    | int j uj => exact wpAny_getItem_str_slice (l := some (k, uk)) (u := some (j, uj)) (st := none) ⟨o, ho, hc, hd⟩ rfl (post_val_or_str ⟨Nat.le_trans (Txt.slice_le i _ _) hz, fin⟩)
end
end L2

set_option Elab.async false
set_option linter.all false
set_option maxRecDepth 100000
set_option maxHeartbeats 4000000
namespace LmTxt
open PySem PySem.Spec L2 PyProof.Rows
theorem app_list (x y : Str) : (x ++ y).cps.toList = x.cps.toList ++ y.cps.toList := by
  show (x.cps ++ y.cps).toList = _
  simp
theorem app_len (x y : Str) : (x ++ y).length = x.length + y.length := by
  show (x.cps ++ y.cps).size = x.cps.size + y.cps.size
  simp
theorem len_list (x : Str) : x.length = x.cps.toList.length := by
  show x.cps.size = x.cps.toList.length
  simp
abbrev one (c : Nat) : Str := ⟨#[c]⟩
theorem one_inj {a b : Nat} (h : one a = one b) : a = b := by simpa using h
end LmTxt
namespace L2
open PySem PySem.Spec PyProof.Rows
theorem pe_append {X : Cx} {o e : Expr} {to : TE} {t : TA} {apos cpos : Pos} (ho : PE X o to) (ha : PA X [e] t)
    (hbase : attributeBase o "append" X.env (eval o X.env) = eval o X.env := by rfl)
    (hfew : ((backTo cpos (starEach [e] X.env)).all (fun x => !x.1) && (backToKw cpos (keywordEach [] X.env)).all (fun x => x.1.isSome)
      && decide (([e] : List Expr).length + ([] : List Keyword).length + (if ([] : List Keyword).isEmpty then 0 else 1) < 30)) = true := by rfl)
    (hline : (apos.endLine == cpos.line) = true := by rfl) (hs : starEach [e] X.env = (false, eval e X.env) :: starEach [] X.env := by rfl) (hplain : (backTo cpos (starEach [] X.env)).any (·.1) = false := by rfl) :
    PE X (.Call (.Attribute o "append" apos) [e] [] cpos) (tBM X.K "list" rAppend to t) :=
  pe_bm PySem.F.plainAttrs_list PySem.F.slot_list_append PySem.F.type_list_append mt_append ho ha hbase hfew hline hs hplain

/-! ## lists of addresses with what lies there -/
/-- each address holds the tuple of its datum -/
def Tb {α : Type} (f : α → List V) (H : Hp) (zs : List (Addr × α)) : Prop := ∀ z ∈ zs, H z.1 = some (.tup (f z.2))
def refs {α : Type} (zs : List (Addr × α)) : List V := zs.map fun z => V.ref z.1
section
variable {α : Type} {f : α → List V} {H H' : Hp} {zs ws : List (Addr × α)}
theorem refs_len : (refs zs).length = zs.length := by unfold refs; rw [List.length_map]
theorem refs_get {i : Nat} (h : i < zs.length) : (refs zs)[i]? = some (V.ref zs[i].1) := by unfold refs; rw [List.getElem?_map, List.getElem?_eq_getElem h]; rfl
theorem refs_at {i : Nat} {v : V} (h : (refs zs)[i]? = some v) : ∃ hi : i < zs.length, v = V.ref zs[i].1 := by
  have hi : i < zs.length := by have := (List.getElem?_eq_some_iff.mp h).1; rwa [refs_len] at this
  exact ⟨hi, by rw [refs_get hi] at h; exact (Option.some.inj h).symm⟩
theorem refs_app : refs (zs ++ ws) = refs zs ++ refs ws := by unfold refs; rw [List.map_append]
theorem Tb.same (h : Tb f H zs) (e : Same H H') : Tb f H' zs := fun z hz => e _ _ (h z hz)
theorem Tb.at (h : Tb f H zs) {i : Nat} (hi : i < zs.length) : H zs[i].1 = some (.tup (f zs[i].2)) := h _ (List.getElem_mem hi)
theorem Tb.snoc (h : Tb f H zs) {a : Addr} {x : α} (ha : H a = some (.tup (f x))) : Tb f H (zs ++ [(a, x)]) := fun z hz => by
  rcases List.mem_append.mp hz with q | q
  · exact h z q
  · rw [List.mem_singleton.mp q]; exact ha
theorem Tb.nil : Tb f H [] := fun z hz => nomatch hz
/-- a list of the frame is changed, that the tracked part does not know -/
theorem same_upd {H0 : Hp} (e : Same H0 H) {l : Addr} (hl : H0 l = none) (o : HO) : Same H0 (upd H l o) := fun b u q => by
  rw [upd_ne (ne_of_none q hl)]
  exact e b u q
end
end L2
namespace L2
open PySem PySem.Spec PyProof.Rows
/-- a comprehension over a list that stays, put under a name -/
theorem comp_list_set {K : PySem.W.Frag} {a : Addr} {xs : List V} {own : List Str} {cap : List (Str × Nat)} {g : TG} {ti : TT} {te : TE} {σ : L2.St} {H : Hp} {j : Nat} {N : L2.St → Hp → Prop} (Pv : Nat → List V → L2.St → Hp → Prop) (h0 : Pv 0 [] (capSt own cap σ) H)
    (hl : ∀ i out σ H, i ≤ xs.length → Pv i out σ H → SqL K H a xs)
    (hs : ∀ i x out σ' H', i < xs.length → xs[i]? = some x → Pv i out σ' H' → g x σ' H' fun σ3 H3 => ti σ3 H3 fun b H4 => if b = true then te σ3 H4 (fun y H5 => out.length < sizeLine ∧ ∃ m', m' < xs.length - i ∧ CW xs.length Pv (i + 1) m' (out ++ [y]) σ3 H5) else ∃ m', m' < xs.length - i ∧ CW xs.length Pv (i + 1) m' out σ3 H4)
    (hd : ∀ out σ' H', Pv xs.length out σ' H' → ∀ p, H' p = none → gName j (.ref p) σ (upd H' p (.lst out)) N) :
    ∃ W : Nat → Nat → List V → L2.St → Hp → Prop, (∃ m, W 0 m [] (capSt own cap σ) H) ∧
      ∀ i m out σ' H', W i m out σ' H' → ((Itl K a).stop i H' ∧ ∀ p, H' p = none → (fun (x : V) (H1 : Hp) => gName j x σ H1 N) (.ref p) (upd H' p (.lst out))) ∨ ((Itl K a).go i H' ∧ ∀ x H2, (Itl K a).yld i H' x H2 → g x σ' H2 fun σ3 H3 => ti σ3 H3 fun b H4 =>
        if b = true then te σ3 H4 (fun y H5 => out.length < sizeLine ∧ ∃ m', m' < m ∧ W (i + 1) m' (out ++ [y]) σ3 H5) else ∃ m', m' < m ∧ W (i + 1) m' out σ3 H4) :=
  comp_list (Q := fun (x : V) (H1 : Hp) => gName j x σ H1 N) Pv h0 hl hs hd
end L2

set_option Elab.async false
set_option linter.all false
set_option maxRecDepth 100000
set_option maxHeartbeats 4000000
namespace M02
open PySem PySem.Spec L2 PyProof.Rows LmTxt
abbrev G := Int × Str
/-! ### the law's side -/
end M02

set_option Elab.async false
set_option linter.all false
set_option maxRecDepth 100000
set_option maxHeartbeats 4000000
namespace L2
open PySem
/-- a statement with more ways out, and what follows it once -/
theorem via {A B : TS} {D : Ends} {σ : L2.St} {H : Hp} (N : L2.St → Hp → Prop) (key : ∀ σ' H', N σ' H' → B D σ' H') (h : ∀ X : L2.St → Hp → Prop, (∀ σ' H', N σ' H' → X σ' H') → A { D with nx := X } σ H) : tSeq A B D σ H := h (B D) key
theorem seq_c {v : V} {i : Nat} {B : TS} {D : Ends} {σ : L2.St} {H : Hp} (h : B D (σ.set i (some v)) H) : tSeq (tAsg (tC v) (gName i)) B D σ H := h
theorem rd_ints {K : PySem.W.Frag} {H : Hp} : ∀ ns : List Int, RdAll K H (ns.map V.int) (ns.map PyData.int)
  | [] => .nil
  | n :: ns => .cons (.int n) (rd_ints ns)
theorem lay_ints : ∀ ns : List Int, PyData.canLayAll0 (ns.map PyData.int) = true
  | [] => by simp [PyData.canLayAll0]
  | n :: ns => by simp [PyData.canLayAll0, PyData.canLay0]; exact lay_ints ns
theorem dep_ints : ∀ ns : List Int, PyData.depthAll (ns.map PyData.int) = 0
  | [] => by simp [PyData.depthAll]
  | n :: ns => by simp [PyData.depthAll, PyData.depth]; exact dep_ints ns
theorem sh_ints (ns : List Int) : SeqAt.shaped (.list (ns.map PyData.int)) = true := by simp [SeqAt.shaped, PyData.canLay0, PyData.depth, lay_ints, dep_ints]
theorem via_next {A B : TS} {D : Ends} {σ : L2.St} {H : Hp} (N : L2.St → Hp → Prop) (key : ∀ σ' H', N σ' H' → B D σ' H') (h : ∀ X : L2.St → Hp → Prop, (∀ σ' H', N σ' H' → X σ' H') → A { D with nx := X } σ H) : tNext { D with nx := tSeq A B D } σ H := h (B D) key
end L2
namespace LmG
open PySem PySem.Spec L2 PyProof.Rows LmTxt M02
def fL (k : G) : List V := [.str k.2, .int k.1]
theorem ref0 {α : Type} {x : Addr × α} {rest : List (Addr × α)} : atI (refs (x :: rest)) 0 = some (V.ref x.1) := atI_nat (j := 0) rfl
theorem rd_pair {K : PySem.W.Frag} {H : Hp} {a : Addr} {k : G} (h : H a = some (.tup (fL k))) : RdD K H (.ref a) (.tuple [.str k.2, .int k.1]) := .tup (SqT.of h) (.cons (.str _) (.cons (.int _) .nil))
theorem sh_pair {k : G} (h : PyData.strOk k.2 = true) : SeqAt.shaped (.tuple [.str k.2, .int k.1]) = true := by simp [SeqAt.shaped, PyData.canLay0, PyData.canLayAll0, PyData.depth, PyData.depthAll, h]
end LmG

set_option Elab.async false
set_option linter.all false
set_option maxRecDepth 100000
set_option maxHeartbeats 4000000
namespace L2
open PySem PySem.Spec PyProof.Rows
theorem comp_list_fin {K : PySem.W.Frag} {a : Addr} {xs : List V} {own : List Str} {cap : List (Str × Nat)} {g : TG} {ti : TT} {te : TE} {σ : L2.St} {H : Hp} {Fin : List V → Hp → Prop} (Pv : Nat → List V → L2.St → Hp → Prop) (h0 : Pv 0 [] (capSt own cap σ) H)
    (hl : ∀ i out σ H, i ≤ xs.length → Pv i out σ H → SqL K H a xs)
    (hs : ∀ i x out σ' H', i < xs.length → xs[i]? = some x → Pv i out σ' H' → g x σ' H' fun σ3 H3 => ti σ3 H3 fun b H4 => if b = true then te σ3 H4 (fun y H5 => out.length < sizeLine ∧ ∃ m', m' < xs.length - i ∧ CW xs.length Pv (i + 1) m' (out ++ [y]) σ3 H5) else ∃ m', m' < xs.length - i ∧ CW xs.length Pv (i + 1) m' out σ3 H4)
    (hd : ∀ out σ' H', Pv xs.length out σ' H' → Fin out H') :
    ∃ W : Nat → Nat → List V → L2.St → Hp → Prop, (∃ m, W 0 m [] (capSt own cap σ) H) ∧
      ∀ i m out σ' H', W i m out σ' H' → ((Itl K a).stop i H' ∧ Fin out H') ∨ ((Itl K a).go i H' ∧ ∀ x H2, (Itl K a).yld i H' x H2 → g x σ' H2 fun σ3 H3 => ti σ3 H3 fun b H4 =>
        if b = true then te σ3 H4 (fun y H5 => out.length < sizeLine ∧ ∃ m', m' < m ∧ W (i + 1) m' (out ++ [y]) σ3 H5) else ∃ m', m' < m ∧ W (i + 1) m' out σ3 H4) := by
  refine ⟨CW xs.length Pv, ⟨xs.length, by simp, Nat.zero_le _, h0⟩, ?_⟩
  rintro i m out σ' H' ⟨rfl, hi, p⟩
  have q := hl i out σ' H' hi p
  by_cases hlt : i < xs.length
  · refine .inr ⟨⟨xs, xs[i], q, by simp [hlt]⟩, fun x H2 y => ?_⟩
    obtain ⟨e, y⟩ := y
    subst e
    exact hs i x out σ' _ hlt (y xs q) p
  · have e : i = xs.length := by omega
    subst e
    exact .inl ⟨⟨xs, q, Nat.le_refl _⟩, hd out σ' H' p⟩
/-- .. over a range -/
theorem comp_range_fin {lo : Int} {n : Nat} {own : List Str} {cap : List (Str × Nat)} {g : TG} {ti : TT} {te : TE} {σ : L2.St} {H : Hp} {Fin : List V → Hp → Prop} (Pv : Nat → List V → L2.St → Hp → Prop) (h0 : Pv 0 [] (capSt own cap σ) H)
    (hs : ∀ i out σ' H', i < n → Pv i out σ' H' → g (.int (lo + i)) σ' H' fun σ3 H3 => ti σ3 H3 fun b H4 => if b = true then te σ3 H4 (fun y H5 => out.length < sizeLine ∧ ∃ m', m' < n - i ∧ CW n Pv (i + 1) m' (out ++ [y]) σ3 H5) else ∃ m', m' < n - i ∧ CW n Pv (i + 1) m' out σ3 H4)
    (hd : ∀ out σ' H', Pv n out σ' H' → Fin out H') :
    ∃ W : Nat → Nat → List V → L2.St → Hp → Prop, (∃ m, W 0 m [] (capSt own cap σ) H) ∧
      ∀ i m out σ' H', W i m out σ' H' → ((Itr lo n).stop i H' ∧ Fin out H') ∨ ((Itr lo n).go i H' ∧ ∀ x H2, (Itr lo n).yld i H' x H2 → g x σ' H2 fun σ3 H3 => ti σ3 H3 fun b H4 =>
        if b = true then te σ3 H4 (fun y H5 => out.length < sizeLine ∧ ∃ m', m' < m ∧ W (i + 1) m' (out ++ [y]) σ3 H5) else ∃ m', m' < m ∧ W (i + 1) m' out σ3 H4) := by
  refine ⟨CW n Pv, ⟨n, by simp, Nat.zero_le _, h0⟩, ?_⟩
  rintro i m out σ' H' ⟨rfl, hi, p⟩
  by_cases hlt : i < n
  · refine .inr ⟨hlt, fun x H2 y => ?_⟩
    obtain ⟨e, y⟩ := y
    subst e y
    exact hs i out σ' _ hlt p
  · have e : i = n := by omega
    subst e
    exact .inl ⟨Nat.le_refl _, hd out σ' H' p⟩
end L2

set_option Elab.async false
set_option linter.all false
set_option maxRecDepth 100000
set_option maxHeartbeats 4000000
namespace LmIsi
open PySem PySem.W PySem.Calls PyProof.Rows Builtin Builtin.ObjectAttr Builtin.Getset_descriptor
/-- what reading __class__ of an own exception leans on -/
structure ExA (K : Frag) (C : Addr) : Prop where
  ga : findIn K (.ref C) "__getattribute__" = some (some (.builtin "BaseException.__getattribute__"))
  hook : findIn K (.ref C) "__getattr__" = some none
  cl : findIn K (.ref C) "__class__" = some (some (.builtin "object.__class__"))
  get : specialIn K (.builtin "object.__class__") "__get__" = some (some (.builtin "getset_descriptor.__get__"))
  tk : takesIn K (.builtin "object.__class__") = some true
  obj : mroIn K C (.type "object") = some true
  exc : mroIn K C (.type "BaseException") = some true
section
variable {prog : Program} {w : World} {A : Around} {E : Value → Shared → Prop} {K : Frag} {h : Heap} {g : Array GenState} {d : Drawn} {t : Nat} {os : OsState} {x C : Addr}
theorem handed_on' {M : Model} {v : Value} {s : Shared} {Q : Value → Shared → Prop} (hh : handedIn v = true) (h : Q v s) : wpAny M A (handedOut v) Q E s := by
  rw [handedOut_of hh]; exact wpAny_pure h
theorem looks_data {M : Model} {a gt : Value} {name : Str} (X : K.In h) (ha : findIn K (.ref C) name = some (some a)) (hg : specialIn K a "__get__" = some (some gt)) (ht : takesIn K a = some true) :
    Looks M h (find (.ref x) (.ref C) name) (.bind gt a) :=
  (looks_findIn X ha).andThen ((show Looks M h (getOf (some a)) (some gt) from looks_specialIn X hg).andThen ((show Looks M h (dataDescriptor? (some a) (some gt)) (some (gt, a)) from (looks_takesIn X ht).andThen .now).andThen (Looks.tag .now)))
theorem cls_get {R : Result → Shared → Prop} {tp : Value} (L0 : Looks (model prog w) h (typeOf (.ref x)) (.ref C)) (L1 : Looks (model prog w) h (isSubtype (.ref C) (.type "object")) true) (q : R (.ok (.ret (.ref C))) ⟨h, g, d, t, os⟩) :
    codeAny (model prog w) A (.call (.builtin "getset_descriptor.__get__") ⟨[.builtin "object.__class__", .ref x, tp], []⟩) R ⟨h, g, d, t, os⟩ := by
  refine codeAny_call_builtin KF.slot_gs.plain KF.entry_gs (KF.slot_gs.check _ _ _ _ _ _ _ _ KF.type_class (KF.args_gs _ _ _) ?_)
  unfold Builtin.«getset_descriptor.__get__» descrGet
  rw [dga_obj]
  refine wpAny_bind (wpAny_pure ?_)
  unfold descrGetter descrCheckInstance descrNameAndClass isInstance
  simp only [KF.owner_class]
  repeat lk
  refine ⟨Code.quiet_builtin _ (by decide +kernel), codeAny_builtin KF.entry_class ?_⟩
  unfold Builtin.«object.__class__» shownTypeOf
  repeat lk
  exact q

theorem check_class {M : Model} {n : Value} {Q : Unit → Shared → Prop} (LI : Looks M h (isInstance (.ref x) (.type "BaseException")) true) (q : Q () ⟨h, g, d, t, os⟩) :
    wpAny M A (checkBuiltinCall "BaseException.__getattribute__" ⟨[.ref x, n], []⟩) Q E ⟨h, g, d, t, os⟩ := by
  have hk : builtinKind "BaseException.__getattribute__" = some .slot := by decide +kernel
  have hs : splitId "BaseException.__getattribute__" = some ("BaseException", "__getattribute__") := by decide +kernel
  have ha := PySem.F.args_bexc_ga (.ref x) n
  generalize ("BaseException.__getattribute__" : String) = i at hk hs ha ⊢
  exact check_slot hk hs LI ha q
theorem entry_class {tk : Tok} {Q : Fin → Shared → Prop} (X : K.In h) (a : ExA K C) (L0 : Looks (model prog w) h (typeOf (.ref x)) (.ref C)) (q : Q (.done (.ret (.ref C))) ⟨h, g, d, t, os⟩) :
    wpAny (model prog w) A (Builtin.«object.__getattribute__» ⟨[.ref x, .str "__class__" tk], []⟩) Q E ⟨h, g, d, t, os⟩ := by
  have L1 := looks_data (M := model prog w) (x := x) X a.cl a.get a.tk
  have L3 := looks_mroIn (M := model prog w) X a.obj
  unfold Builtin.«object.__getattribute__»
  refine wpAny_bind (wpAny_of_eq (a := (Value.ref x, [Value.str "__class__" tk])) (by rfl) ?_)
  dsimp only
  refine wpAny_bind (wpAny_of_eq (a := ("__class__" : Str)) (by rfl) ?_)
  refine wpAny_bind (L0.at (wpAny_bind (L1.at ?_)))
  dsimp only
  unfold bindTo
  dsimp only
  refine wpAny_bind (wpAny_call (cls_get L0 L3 ?_))
  exact wpAny_pure q
theorem call_class {tk : Tok} {R : Result → Shared → Prop} (X : K.In h) (a : ExA K C) (L0 : Looks (model prog w) h (typeOf (.ref x)) (.ref C)) (q : R (.ok (.ret (.ref C))) ⟨h, g, d, t, os⟩) :
    codeAny (model prog w) A (.call (.builtin "BaseException.__getattribute__") ⟨[.ref x, .str "__class__" tk], []⟩) R ⟨h, g, d, t, os⟩ :=
  codeAny_call_builtin PySem.F.excAttr_ValueError.ga.plain PySem.F.entry_bexc_ga (check_class (L0.andThen (looks_mroIn X a.exc)) (entry_class X a L0 q))
theorem exc_class {Q : Option Value → Shared → Prop} (X : K.In h) (a : ExA K C) (L0 : Looks (model prog w) h (typeOf (.ref x)) (.ref C)) (q : Q (some (.ref C)) ⟨h, g, d, t + 1, os⟩) :
    wpAny (model prog w) A (getAttr? (.ref x) "__class__") Q E ⟨h, g, d, t, os⟩ := by
  have L1 := looks_findIn (M := model prog w) X a.ga
  have L2 := looks_findIn (M := model prog w) X a.hook
  have L3 := looks_mroIn (M := model prog w) X a.obj
  have L4 := looks_mroIn (M := model prog w) X a.exc
  unfold getAttr? getAttrBy? getAttrBy
  refine wpAny_bind (wpAny_mkText (wpAny_bind (wpAny_attempt (wpAny_holding (wpAny_bind (L0.at (wpAny_bind (L1.at ?_))))))))
  have ne : (onTheHeap (Value.ref C) && Value.builtin "BaseException.__getattribute__" == Value.builtin "object.__getattribute__") = false := by
    rw [show (Value.builtin "BaseException.__getattribute__" == Value.builtin "object.__getattribute__") = false from by decide +kernel]; simp
  show wpAny _ A (if (onTheHeap (Value.ref C) && Value.builtin "BaseException.__getattribute__" == Value.builtin "object.__getattribute__") = true then _ else getAttrByItsOwn (.ref x) (.str "__class__" t) (.ref C) (.builtin "BaseException.__getattribute__") false false) _ _ _
  rw [ne, if_neg Bool.false_ne_true]
  unfold getAttrByItsOwn
  have hb : Looks (model prog w) h (hookBefore (.ref C)) none := by
    unfold hookBefore
    rw [if_pos (show onTheHeap (Value.ref C) = true from rfl)]
    exact L2
  refine wpAny_bind (hb.at (wpAny_bind (wpAny_attempt (wpAny_holding ?_))))
  unfold callGetattribute boundAndCalled
  rw [if_neg (by decide)]
  have ga := PySem.F.excAttr_ValueError.ga
  refine wpAny_bind (wpAny_of_eq (ga.bind (.ref x)) ?_)
  refine wpAny_call (call_class X a L0 ?_)
  refine handed_on' (v := .ref C) rfl (wpAny_pure q)
end
end LmIsi
namespace L2
open PySem PySem.Spec PyProof.Rows
abbrev ExA := LmIsi.ExA

/-! ### exceptions of own classes: how one lies behind a call, how it leaves a frame, how it is caught -/
theorem ObjOk.there {P : Program} {w : World} {H : Hp} {h : Heap} {a : Addr} {o : HO} (x : ObjOk P w H h a o) : ∃ u, h.get? a = some u := by
  cases o with
  | lst xs => obtain ⟨_, _, _, _, e⟩ := x; exact ⟨_, e⟩
  | tup xs => obtain ⟨_, _, _, o, e, _⟩ := x; exact ⟨_, e⟩
  | dK kvs => obtain ⟨_, _, _, _, o, _, _, e, _⟩ := x; exact ⟨_, e⟩
  | dT kvs => obtain ⟨_, _, _, _, o, _, _, e, _⟩ := x; exact ⟨_, e⟩
  | set S n => obtain ⟨o, _, _, _, e, _⟩ := x; exact ⟨_, e⟩
  | ins C dx fs => obtain ⟨_, _, _, e, _⟩ := x; exact ⟨_, e⟩
  | own y => exact x
  | xd fs => obtain ⟨_, ⟨_, _, _, e, _⟩, _⟩ := x; exact ⟨_, e⟩
  | rng lo hi => obtain ⟨_, _, _, e⟩ := x; exact ⟨_, e⟩
  | frz ob u => obtain ⟨e, _⟩ := x; exact ⟨_, e⟩
  | tbl ps => exact ⟨_, x⟩
  | met f y => exact ⟨_, x⟩
  | ext φ => obtain ⟨_, e, _⟩ := x; exact e

/-- what B keeps: every object that is tracked, or was there ahead, but the frames -/
def Cov (B : Heap) (fs : List Addr) (H : Hp) (h0 h : Heap) : Prop := ∀ b o, h.get? b = some o → b ∉ fs → (H b ≠ none ∨ ∃ o0, h0.get? b = some o0) → B.get? b = some o

/-- the exception at ea, of the class at C, behind a call -/
structure Fly (P : Program) (w : World) (outer : List Env) (H : Hp) (s : Shared) (H' : Hp) (ea C : Addr) (s' : Shared) : Prop where
  os : s'.os = s.os
  bare : AllBare s'.gens
  un : Un (frs outer) [] H H' s.heap s'.heap
  hok : HOk P w H' s'.heap
  fly : ∃ (a0 : Value) (B : Heap), Heap.FlyingW B outer ea (.ref C) a0 s'.heap ∧ Cov B (frs outer) H' s.heap s'.heap
  free : H' ea = none
  new : s.heap.get? ea = none
  frf : ∀ b ∈ frs outer, H' b = none

/-- how an own exception lies behind a call -/
def CX1 (P : Program) (w : World) : CXT := fun outer H s E e s' => ∃ (ea C : Addr) (H' : Hp), e = .ref ea ∧ Fly P w outer H s H' ea C s' ∧ E (.ref C) none H'

/-- the flight's marks change, the rest stays -/
theorem Fly.move {P : Program} {w : World} {outer : List Env} {H H' : Hp} {s s' : Shared} {ea C : Addr} {a0 : Value} {B h2 : Heap} (F : Fly P w outer H s H' ea C s')
    (hfr : s'.heap.FunFrames B outer) (cov : Cov B (frs outer) H' s.heap s'.heap) (fl : Heap.FlyingW B outer ea (.ref C) a0 h2) (up : s'.heap.UpToSlots h2) : Fly P w outer H s H' ea C { s' with heap := h2 } := by
  have kp : ∀ b o, s'.heap.get? b = some o → b ∉ frs outer → (H' b ≠ none ∨ ∃ o0, s.heap.get? b = some o0) → h2.get? b = some o := fun b o e h1 h3 => fl.1 b o (cov b o e h1 h3)
  have frm : ∀ b o, b ∈ frs outer → s'.heap.get? b = some o → ∃ sl, h2.get? b = some { o with slots := sl } := fun b o hb e => by
    obtain ⟨_, o', ho', hd⟩ := hfr.mem hb
    rw [e] at ho'; cases ho'
    exact up b o e hd
  refine ⟨F.os, F.bare, ⟨fun b o e n hb hx => ?_, fun b o e n hb hx => ?_, F.un.free, fun b o e hx => ?_, F.un.tups, F.un.frzs, F.un.tbls⟩, fun a u e => ?_, ⟨a0, B, fl, fun b o e hb h3 => ?_⟩, F.free, F.new, F.frf⟩
  · exact kp b o (F.un.keep b o e n hb hx) hb (.inr ⟨o, e⟩)
  · obtain ⟨sl, e1⟩ := F.un.slot b o e n hb hx
    obtain ⟨sl', e2⟩ := frm b _ hb e1
    exact ⟨sl', e2⟩
  · obtain ⟨o1, e1⟩ := F.un.there b o e hx
    by_cases hb : b ∈ frs outer
    · obtain ⟨sl, e2⟩ := frm b o1 hb e1
      exact ⟨_, e2⟩
    · exact ⟨o1, kp b o1 e1 hb (.inr ⟨o, e⟩)⟩
  · refine (F.hok a u e).stay (fun b o hb e1 => ?_) (fun _ q => q) fun _ _ q => q
    have ne : H' b ≠ none := by
      rcases hb with z | z
      · rw [z, e]; exact fun q => nomatch q
      · rw [z]; exact fun q => nomatch q
    exact kp b o e1 (fun z => ne (F.frf b z)) (.inl ne)
  · have h1 : ∃ o1, s'.heap.get? b = some o1 := h3.elim (fun z => by
      cases q : H' b with
      | none => exact absurd q z
      | some u => exact (F.hok b u q).there) (fun ⟨o0, e0⟩ => F.un.there b o0 e0 (by simp))
    obtain ⟨o1, e1⟩ := h1
    have e2 := cov b o1 e1 hb h3
    have e3 : h2.get? b = some o1 := fl.1 b o1 e2
    have e4 : h2.get? b = some o := e
    rw [e4] at e3; cases e3
    exact e2

section
variable {X : Cx} {pins : List (Addr × Obj)} {σ : St} {H : Hp} {s1 : Shared}
/-- out of a frame -/
theorem fly_out {B h2 : Heap} {ea C : Addr} {a0 : Value} (hex : X.ex = []) (hstk : X.stack = X.env :: X.outer) (hf : X.env.frame = some X.env.locals) (I : Inv X pins σ H s1)
    (cov : Cov B (frs X.stack) H X.s₀.heap s1.heap) (fl : Heap.FlyingW B X.outer ea (.ref C) a0 h2) (up : s1.heap.UpToSlots h2) (n1 : H ea = none) (n2 : X.s₀.heap.get? ea = none) :
    Fly X.prog X.w X.outer X.H₀ X.s₀ H ea C { s1 with heap := h2 } := by
  have neL : ∀ b o, X.s₀.heap.get? b = some o → b ≠ X.env.locals := fun b o e => Nat.ne_of_lt (Nat.lt_of_lt_of_le (Heap.lt_size e) I.ok.above)
  have mem : ∀ b, b ≠ X.env.locals → b ∉ X.fs → b ∉ frs X.stack := fun b h1 h2 z => (List.mem_cons.mp (I.stkSub b z)).elim h1 h2
  have nx : ∀ b, b ∉ X.ex := fun b z => by rw [hex] at z; cases z
  have inS : ∀ b, b ∈ frs X.outer → b ∈ frs X.stack := fun b hb => by
    rw [hstk]
    unfold frs
    rw [List.filterMap_cons, hf]
    exact List.mem_cons_of_mem _ hb
  have kp : ∀ b o, s1.heap.get? b = some o → b ∉ frs X.stack → (H b ≠ none ∨ ∃ o0, X.s₀.heap.get? b = some o0) → h2.get? b = some o := fun b o e h1 h3 => fl.1 b o (cov b o e h1 h3)
  have frm : ∀ b o, b ∈ frs X.stack → s1.heap.get? b = some o → ∃ sl, h2.get? b = some { o with slots := sl } := fun b o hb e => by
    obtain ⟨_, o', ho', hd⟩ := I.stack.mem hb
    rw [e] at ho'; cases ho'
    exact up b o e hd
  refine ⟨I.os, I.bare, ⟨fun b o e n hb _ => ?_, fun b o e n hb _ => ?_, fun b o e n _ => I.base.free b o e n (nx b), fun b o e _ => ?_, I.base.tups, I.base.frzs, I.base.tbls⟩, fun a u e => ?_, ⟨a0, B, fl, fun b o e hb h3 => ?_⟩, n1, n2, fun b hb => I.stkFree b (inS b hb)⟩
  · exact kp b o (I.base.keep b o e n hb (nx b)) (mem b (neL b o e) hb) (.inr ⟨o, e⟩)
  · obtain ⟨sl, e1⟩ := I.base.slot b o e n hb (nx b)
    obtain ⟨sl', e2⟩ := frm b _ (inS b hb) e1
    exact ⟨sl', e2⟩
  · obtain ⟨o1, e1⟩ := I.base.there b o e (nx b)
    by_cases hb : b ∈ frs X.stack
    · obtain ⟨sl, e2⟩ := frm b o1 hb e1
      exact ⟨_, e2⟩
    · exact ⟨o1, kp b o1 e1 hb (.inr ⟨o, e⟩)⟩
  · refine (I.hok a u e).stay (fun b o hb e1 => ?_) (fun _ q => q) fun _ _ q => q
    have ne : H b ≠ none := by
      rcases hb with z | z
      · rw [z, e]; exact fun q => nomatch q
      · rw [z]; exact fun q => nomatch q
    exact kp b o e1 (fun z => ne (I.stkFree b z)) (.inl ne)
  · have hL : b ≠ X.env.locals := h3.elim (fun z y => z (by rw [y]; exact I.free)) (fun ⟨o0, e0⟩ => neL b o0 e0)
    have hs := mem b hL hb
    have h1 : ∃ o1, s1.heap.get? b = some o1 := h3.elim (fun z => by
      cases q : H b with
      | none => exact absurd q z
      | some u => exact (I.hok b u q).there) (fun ⟨o0, e0⟩ => I.base.there b o0 e0 (nx b))
    obtain ⟨o1, e1⟩ := h1
    have e2 := cov b o1 e1 hs h3
    have e3 : h2.get? b = some o1 := fl.1 b o1 e2
    have e4 : h2.get? b = some o := e
    rw [e4] at e3; cases e3
    exact e2
end

section
variable {P : Program} {w : World} {K : PySem.W.Frag} {mg : Str → Option Value} {base : Heap} {N : List Str} {qual : Str} {scope : Scope} {f : Addr} {cd : Value} {A : Around} {outer : List Env} {s0 : Shared} {H0 : Hp} {E : XK}
  {pins : List (Addr × Obj)} {σ : St} {H : Hp} {s1 : Shared}
/-- a new exception leaves the def -/
theorem raise_out {h' : Heap} {ea C : Addr} {vs : List Value} (I : Inv (cxOf (CX1 P w) P w K mg base N qual scope f cd A outer s0 H0 E) pins σ H s1) (hm : Heap.MadeExcOf s1.heap h' ea (.ref C) vs) (q : E (.ref C) none H) :
    (cxOf (CX1 P w) P w K mg base N qual scope f cd A outer s0 H0 E).xe (.ref ea) { s1 with heap := h' } := by
  have hin : ∀ env ∈ (cxOf (CX1 P w) P w K mg base N qual scope f cd A outer s0 H0 E).stack, ∀ a, env.frame = some a → a ∈ frs (cxOf (CX1 P w) P w K mg base N qual scope f cd A outer s0 H0 E).stack :=
    fun env he a ha => List.mem_filterMap.mpr ⟨env, he, ha⟩
  show wpAny _ _ (leaving _ _) _ _ _
  refine wpAny_leaves_madeW (s := { s1 with heap := h' }) (base := PySem.W.hideAll s1.heap (frs (cxOf (CX1 P w) P w K mg base N qual scope f cd A outer s0 H0 E).stack)) (h := s1.heap) I.ok.frames rfl (fun b o e => PySem.W.of_hideAll _ e) (PySem.W.funFrames_hide I.stack hin) hm fun h2 t x1 x2 x3 x4 => ?_
  have up : s1.heap.UpToSlots h2 := (Heap.UpToSlots.of_keeps hm.keeps).trans x4
  have n1 : H ea = none := by
    cases z : H ea with
    | none => rfl
    | some u => obtain ⟨o, e⟩ := (I.hok ea u z).there; rw [hm.new] at e; cases e
  have n2 : s0.heap.get? ea = none := by
    cases z : s0.heap.get? ea with
    | none => rfl
    | some o => obtain ⟨o', e⟩ := I.base.there ea o z (fun y => nomatch y); rw [hm.new] at e; cases e
  exact ⟨ea, C, H, rfl, fly_out rfl rfl rfl I (fun b o e hb _ => PySem.W.hideAll_get _ e hb) x1 up n1 n2, q⟩

/-- a callee's exception leaves the def too -/
theorem pass1 : Passes (CX1 P w) (cxOf (CX1 P w) P w K mg base N qual scope f cd A outer s0 H0 E) E := by
  intro pins σ H s e s' I h
  obtain ⟨ea, C, H', rfl, F, q⟩ := h
  obtain ⟨a0, B, fl, cov⟩ := F.fly
  have I' : Inv (cxOf (CX1 P w) P w K mg base N qual scope f cd A outer s0 H0 E) pins σ H' s' := I.call' (ch := []) F.os F.un F.hok F.bare fun b z => nomatch z
  show wpAny _ _ (leaving _ _) _ _ _
  refine wpAny_leaves_onW (base := B) I.ok.frames rfl fl fun h2 x1 x2 => ?_
  refine ⟨ea, C, H', rfl, fly_out rfl rfl rfl I' (fun b o e hb h3 => cov b o e hb (h3.imp_right fun ⟨o0, e0⟩ => I.base.there b o0 e0 fun y => nomatch y)) x1 x2 F.free ?_, q⟩
  cases z : s0.heap.get? ea with
  | none => exact z
  | some o => obtain ⟨o', e⟩ := I.base.there ea o z (fun y => nomatch y); rw [F.new] at e; cases e

end

section
variable {P : Program} {w : World} {K : PySem.W.Frag} {mg : Str → Option Value} {base : Heap}
/-- a def that may refuse -/
theorem Fun.okX {CX : CXT} {x qual : Str} {st : Stmt} {f : Addr} {fd : FuncData} {N ps : List Str} {k : Nat} {sp : Sp} (F : Fun K x qual st f fd) (S : FnScope N ps (defScope st)) (len : ∀ vs H Q E, sp vs H Q E → vs.length = ps.length)
    (hbody : ∀ (cdv : Value) (A : Around) (outer : List Env) (s : Shared) (H : Hp) (vs : List V) (Q : VK) (E : XK), Room k (A.deeper (envOfC qual (defScope st) s.heap.objs.size f cdv)) → sp vs H Q E →
      ∃ t, PSs (cxOf CX P w K mg base N qual (defScope st) f cdv A outer s H E) (defBody st) t ∧ t { nx := fun _ H' => Q .non H', rt := Q } (start N vs) H) : FnOk P w K mg base CX (k + 1) f fd ps sp := by
  obtain ⟨oc, od, kV, doc, pm, an, cdv, ct, osl, rfl, lk, hcd⟩ := F.ex
  exact fn_of lk hcd S len fun A outer s H vs Q E hr hsp => hbody cdv A outer s H vs Q E hr hsp
end

/-! ### own classes -/
abbrev bmV : List Value := [.type "ValueError", .type "Exception", .type "BaseException", .type "object"]
/-- an own class of exceptions below ValueError; bm: its line behind itself -/
structure ExC (K : PySem.W.Frag) (C : Addr) (bm : List Value) : Prop where
  obj : ∃ nm q N bs hd sn sub ab col dd k0 k1 k2 k3 k5, K.lookup C = some (excClassObj nm q C N bs bm hd sn sub ab col dd k0 k1 k2 k3 k5 "ValueError.__new__") ∧ PySem.W.nsOkIn K N = true ∧ PySem.W.nsIn K N "__init__" = some none
  tail : PySem.W.tailIn K bmV bm = true
theorem ExC.base {K : PySem.W.Frag} {h : Heap} {C : Addr} {bm : List Value} (c : ExC K C bm) (X : K.In h) : bm.contains (.type "BaseException") = true :=
  (PySem.W.tail_of_in X c.tail).hasType PySem.F.excBase_ValueError.hasBase

theorem exc_mk {K : PySem.W.Frag} {C N : Addr} {bm bs sub : List Value} {nm q : Str} {hd ab : Bool} {sn : List Str} {col : Option Bool} {dd : Option Addr} {k0 k1 k2 k3 k5 : Option Value}
    (l : K.lookup C = some (excClassObj nm q C N bs bm hd sn sub ab col dd k0 k1 k2 k3 k5 "ValueError.__new__")) (e : PySem.W.excIn K C bmV "ValueError.__new__" = true) : ExC K C bm := by
  unfold PySem.W.excIn at e
  rw [l] at e
  simp only [Bool.and_eq_true, beq_iff_eq] at e
  exact ⟨⟨nm, q, N, bs, hd, sn, sub, ab, col, dd, k0, k1, k2, k3, k5, l, e.1.2, e.2⟩, e.1.1.2⟩
theorem kitx_exc {K : PySem.W.Frag} {x C : Addr} {bm : List Value} (a : ExA K C) (c : ExC K C bm) : PySem.W.KitX K (.ref x) (.ref C) (fun h => ∃ o, h.get? x = some o ∧ o.cls = .ref C) where
  ty := fun M h _ p => by
    obtain ⟨o, h1, h2⟩ := p
    exact h2 ▸ (PySem.W.Looks.ld h1).andThen .now
  it := fun M h X _ => by
    obtain ⟨nm, q, Na, bs, hd, sn, sub, ab, col, dd, k0, k1, k2, k3, k5, lk, _⟩ := c.obj
    intro A' Q' E' s' k z
    unfold isType loadHead
    exact wpAny_bind (wpAny_loadPart (k _ _ (X _ _ lk)) (wpAny_pure z))
  ne := fun h tp dd its n sl X htp => by
    obtain ⟨nm, q, Na, bs, hd, sn, sub, ab, col, dd', k0, k1, k2, k3, k5, lk, _⟩ := c.obj
    refine Bool.eq_false_iff.mpr fun z => ?_
    have e : C = tp := Value.ref.inj (beq_iff_eq.mp z)
    subst e
    have y := congrArg (fun o => o.map Obj.data) ((X _ _ lk).symm.trans htp)
    simp at y
  ca := fun {prog w A E Q s} X p k => by
    obtain ⟨o, h1, h2⟩ := p
    obtain ⟨h, g, d, t, os⟩ := s
    exact LmIsi.exc_class X a (h2 ▸ (PySem.W.Looks.ld h1).andThen .now) k

section
variable {P : Program} {w : World} {K : PySem.W.Frag} {mg : Str → Option Value} {base : Heap} {N : List Str} {qual : Str} {scope : Scope} {f : Addr} {cd : Value} {A : Around} {outer : List Env} {s0 : Shared} {H0 : Hp} {E : XK}
def tRaise (E : XK) (C : Addr) : TS := fun _ _ H => E (.ref C) none H
/-- raise C('..') -/
theorem ps_raise {C : Addr} {bm : List Value} {x m : Str} {j} {np mp cpos pos : Pos} (c : ExC K C bm) (hm : mg x = some (.ref C)) (hh : A.handled = none)
    (hg : Gl (cxOf (CX1 P w) P w K mg base N qual scope f cd A outer s0 H0 E) x := by rfl) (hdb : (x == ("__debug__" : Str)) = false := by decide) :
    PS (cxOf (CX1 P w) P w K mg base N qual scope f cd A outer s0 H0 E) (.Raise (some (.Call (.Name x np) [.Constant (.str m) j mp] [] cpos)) none pos) (tRaise E C) := by
  intro pins s σ H D I h
  obtain ⟨nm, q, Na, bs, hd, sn, sub, ab, col, dd, k0, k1, k2, k3, k5, lk, hok, hni⟩ := c.obj
  have hA : (cxOf (CX1 P w) P w K mg base N qual scope f cd A outer s0 H0 E).A.handled = none := hh
  have hN : base.Ns Na (base.nsMap Na) := .of_isNs (PySem.W.isNs_of_in I.mod.kin hok)
  have pa : PA (cxOf (CX1 P w) P w K mg base N qual scope f cd A outer s0 H0 E) [.Constant (.str m) j mp] _ := pa_cons pe_str pa_nil
  refine wpAny_Raise_call_subT (C := C) (nm := nm) (q := q) (N := Na) (bs := bs) (bm := bm) (hdct := hd) (sn := sn) (sub := sub) (ab := ab) (col := col) (dd := dd) (k0 := k0) (k1 := k1) (k2 := k2) (k3 := k3) (k5 := k5) (mN := base.nsMap Na)
    PySem.F.excBase_ValueError (c.base I.kIn) hA rfl (PySem.W.nsMap_none_of_in I.mod.kin hok hni) (ld_glob I hg hm ⟨rfl, ?_⟩ hdb)
  refine Calls.evalArgs_plain (thn (pa cpos pins s σ H (fun vs H1 => vs.length = 1 ∧ E (.ref C) none H1) I ⟨rfl, h⟩) fun us s1 ⟨vs, H1, I1, r, l, q⟩ => ?_)
  refine ⟨rfl, ?_, I1.kIn _ _ lk, hN.keeps I1.bk, PySem.W.tail_of_in I1.kIn c.tail, fun h' e hme => raise_out I1 hme q⟩
  show us.length ≤ sizeLine
  rw [← r.length, l]
  decide
end

/-! ### try -/
abbrev Cx.inTry (X : Cx) (pins : List (Addr × Obj)) (E : Value → Shared → Prop) : Cx := { X with pn := X.pn ++ pins, xe := E }
abbrev Cx.inSuite (X : Cx) (pins : List (Addr × Obj)) (ea : Addr) (oe : Obj) : Cx := { X with A := X.A.mark (some (.ref ea)), calm := false, pn := (ea, oe) :: (X.pn ++ pins), xe := fun _ _ => False }
section
variable {X : Cx} {pins pins' : List (Addr × Obj)} {σ : St} {H : Hp} {s : Shared} {E : Value → Shared → Prop} {ea C : Addr} {oe : Obj}
theorem Inv.inTry (I : Inv X pins σ H s) : Inv (X.inTry pins E) [] σ H s :=
  ⟨⟨I.ok.mod, I.ok.kind, I.ok.glob, I.ok.blt, I.ok.above, I.ok.inj, I.ok.has, I.ok.cab, I.ok.hd, I.ok.frames, I.ok.stk, I.ok.exf, I.ok.bs, I.ok.bsz, I.ok.noex, I.ok.exfs, I.ok.funs, I.ok.frf⟩,
    I.os, I.bare, I.base, I.loc, I.cell, I.free, I.freeC, fun p hp => I.pin p ((List.mem_append.mp hp).elim (fun z => z) (fun z => nomatch z)), I.hok, I.len⟩
theorem Inv.outTry (I : Inv (X.inTry pins E) pins' σ H s) : Inv X pins σ H s :=
  ⟨⟨I.ok.mod, I.ok.kind, I.ok.glob, I.ok.blt, I.ok.above, I.ok.inj, I.ok.has, I.ok.cab, I.ok.hd, I.ok.frames, I.ok.stk, I.ok.exf, I.ok.bs, I.ok.bsz, I.ok.noex, I.ok.exfs, I.ok.funs, I.ok.frf⟩,
    I.os, I.bare, I.base, I.loc, I.cell, I.free, I.freeC, fun p hp => I.pin p (List.mem_append_left _ hp), I.hok, I.len⟩
theorem Inv.inSuite (I : Inv X pins σ H s) (he : s.heap.get? ea = some oe) (hn : H ea = none) (h1 : ea ≠ X.env.locals) (h2 : ea ∉ X.fs) (h3 : ∀ v, oe.data ≠ .cell v) : Inv (X.inSuite pins ea oe) [] σ H s :=
  ⟨⟨I.ok.mod, I.ok.kind, I.ok.glob, I.ok.blt, I.ok.above, I.ok.inj, I.ok.has, I.ok.cab, fun z => Bool.noConfusion z, I.ok.frames, I.ok.stk, I.ok.exf, I.ok.bs, I.ok.bsz, I.ok.noex, I.ok.exfs, I.ok.funs, I.ok.frf⟩,
    I.os, I.bare, I.base, I.loc, I.cell, I.free, I.freeC, fun p hp => (List.mem_append.mp hp).elim (fun z => (List.mem_cons.mp z).elim (fun y => by subst y; exact ⟨he, hn, h1, h2, h3⟩) fun y => I.pin p y) (fun z => nomatch z), I.hok, I.len⟩
theorem Inv.outSuite (ok : X.Ok) (I : Inv (X.inSuite pins ea oe) pins' σ H s) : Inv X pins σ H s :=
  ⟨ok, I.os, I.bare, I.base, I.loc, I.cell, I.free, I.freeC, fun p hp => I.pin p (List.mem_append_left _ (List.mem_cons_of_mem _ hp)), I.hok, I.len⟩
theorem SP.outTry {D : Ends} {f : Flow} {s' : Shared} (h : SP (X.inTry pins E) [] D f s') : SP X pins D f s' := by
  cases f with
  | next => obtain ⟨σ', H', I, q⟩ := h; exact ⟨σ', H', I.outTry, q⟩
  | brk => obtain ⟨σ', H', I, q⟩ := h; exact ⟨σ', H', I.outTry, q⟩
  | cont => obtain ⟨σ', H', I, q⟩ := h; exact ⟨σ', H', I.outTry, q⟩
  | ret u => obtain ⟨v, σ', H', I, r, q⟩ := h; exact ⟨v, σ', H', I.outTry, r, q⟩
theorem SP.outSuite {D : Ends} {f : Flow} {s' : Shared} (ok : X.Ok) (h : SP (X.inSuite pins ea oe) [] D f s') : SP X pins D f s' := by
  cases f with
  | next => obtain ⟨σ', H', I, q⟩ := h; exact ⟨σ', H', I.outSuite ok, q⟩
  | brk => obtain ⟨σ', H', I, q⟩ := h; exact ⟨σ', H', I.outSuite ok, q⟩
  | cont => obtain ⟨σ', H', I, q⟩ := h; exact ⟨σ', H', I.outSuite ok, q⟩
  | ret u => obtain ⟨v, σ', H', I, r, q⟩ := h; exact ⟨v, σ', H', I.outSuite ok, r, q⟩

/-- a name is gone -/
theorem Inv.unset {i : Nat} {x : Str} {h' : Heap} {m : Str → Option Value} {v : Option Value} {t' : Nat} (I : Inv X pins σ H s) (hN : X.N.Nodup) (hi : X.N[i]? = some x)
    (hl : ∀ (j : Nat) (y : Str) (v : V), X.N[j]? = some y → σ[j]? = some (some v) → Vis X.env.scope y → ∃ u, RelV v u ∧ Look X.env s.heap m y u) (hk : X.env.kindOf x = some .local)
    (hn' : h'.Ns X.env.locals (fun y => if y = x then v else m y)) (hs : Heap.SameBut X.env.locals s.heap h') : Inv X pins (σ.set i none) H { s with heap := h', toks := t' } := by
  have out : ∀ b o, X.s₀.heap.get? b = some o → b ≠ X.env.locals := fun b o e => Nat.ne_of_lt (Nat.lt_of_lt_of_le (Heap.lt_size e) I.ok.above)
  refine ⟨I.ok, I.os, I.bare, ⟨fun b o e n hb hx => ?_, fun b o e n hb hx => ?_, I.base.free, fun b o e hx => ?_, I.base.tups, I.base.frzs, I.base.tbls⟩, ⟨_, hn', fun j y v' e1 e2 e3 => ?_⟩, fun y c e => ?_, I.free, I.freeC, fun p hp => ?_, fun b ob e => ?_, by simpa using I.len⟩
  · exact (hs.2 b (out b o e)).trans (I.base.keep b o e n hb hx)
  · obtain ⟨sl, e1⟩ := I.base.slot b o e n hb hx
    exact ⟨sl, (hs.2 b (out b o e)).trans e1⟩
  · obtain ⟨o', e1⟩ := I.base.there b o e hx
    exact ⟨o', (hs.2 b (out b o e)).trans e1⟩
  · by_cases hj : j = i
    · subst hj
      rw [List.getElem?_set] at e2
      split at e2
      · split at e2 <;> cases e2
      · exact absurd rfl ‹_›
    · rw [List.getElem?_set_ne (Ne.symm hj)] at e2
      obtain ⟨u', r', q⟩ := hl j y v' e1 e2 e3
      refine ⟨u', r', ?_⟩
      have hyx : y ≠ x := fun e => hj (nodup_ix hN e1 (e ▸ hi))
      rcases q with ⟨k, e⟩ | ⟨k, c, e, z⟩
      · exact .inl ⟨k, by simp [hyx, e]⟩
      · exact .inr ⟨k, c, e, z.sameBut hs (I.cne y c e)⟩
  · obtain ⟨w', z⟩ := I.cell y c e
    exact ⟨w', z.sameBut hs (I.cne y c e)⟩
  · obtain ⟨e, n, ne, nf, d⟩ := I.pin p hp
    exact ⟨(hs.2 p.1 ne).trans e, n, ne, nf, d⟩
  · refine (I.hok b ob e).stay (fun c w' hc q => (hs.2 c ?_).trans q) (fun _ q => q) fun _ _ q => q
    rintro rfl
    rcases hc with rfl | hc
    · rw [I.free] at e; cases e
    · rw [I.free] at hc; cases hc
end

/-- a callee's exception, told with the names' values at the call -/
def PassesS (CX : CXT) (X : Cx) (EE : St → XK) : Prop := ∀ (pins : List (Addr × Obj)) (σ : St) (H : Hp) (s : Shared) (e : Value) (s' : Shared), Inv X pins σ H s → CX X.stack H s (EE σ) e s' → X.xe e s'
def tCallS (sp : Sp) (EE : St → XK) (t : TA) : TE := fun σ H Q => t σ H fun vs H1 => sp vs H1 Q (EE σ)
section
variable {X : Cx} {CX : CXT} {k : Nat} {f : Addr} {fd : FuncData} {ps : List Str} {sp : Sp} {EE : St → XK} {x : Str} {p pos : Pos} {e : Expr} {es : List Expr} {t : TA}
theorem pe_callS (F : FnOk X.prog X.w X.K X.mg X.base CX k f fd ps sp) (hr : Room k X.A) (hg : Gl X x) (hm : X.mg x = some (.ref f)) (hk : PySem.W.keepIn X.K (.ref f) = true) (hb : Binds X.K fd ps []) (hx : PassesS CX X EE)
    (ha : PA X (e :: es) t) (hdb : (x == ("__debug__" : Str)) = false := by decide) (he : starEach (e :: es) X.env = (false, eval e X.env) :: starEach es X.env := by rfl) (hpl : (backTo pos (starEach es X.env)).any (·.1) = false := by rfl) :
    PE X (.Call (.Name x p) (e :: es) [] pos) (tCallS sp EE t) := by
  intro pins s σ H Q I h
  refine wpAny_Call_Name_kw (ld_glob I hg hm ?_ hdb)
  refine PySem.W.callWith_K (h₀ := X.base) I.ok.mod.kin hk (thn (ha pos pins s σ H _ I h) fun us s1 ⟨vs, H1, I1, r, q⟩ => ⟨I1.kIn, ?_⟩) he hpl
  have hl : us.length = ps.length := by rw [← r.length]; exact F.len _ _ _ _ q
  have bt := hb s1 us I1.kIn (by rw [List.append_nil]; exact hl)
  rw [List.append_nil] at bt
  refine wpAny_call (codeAny_mono (F.run X.A X.stack s1 H1 ⟨us, []⟩ us vs Q (EE σ) hr I1.env0 bt r q) fun r' s' hq => ?_)
  rcases r' with er | fl
  · exact hx pins σ H1 s1 er s' I1 hq
  · rcases fl with _ | _ | _ | u
    all_goals first | exact False.elim hq | exact I1.after hq
end

/-- the exception at ea has come to this frame -/
def Caught (X : Cx) (pins : List (Addr × Obj)) (σ : St) (H' : Hp) (ea C : Addr) (s' : Shared) : Prop := ∃ (H : Hp) (s : Shared), Inv X pins σ H s ∧ Fly X.prog X.w X.stack H s H' ea C s'
section
variable {X : Cx} {pins : List (Addr × Obj)} {σ : St} {H : Hp} {s : Shared} {ea C : Addr}
theorem Caught.inv (c : Caught X pins σ H ea C s) : Inv X pins σ H s := by
  obtain ⟨H0, s0, I, F⟩ := c
  exact I.call' (ch := []) F.os F.un F.hok F.bare fun b z => nomatch z
theorem Caught.obj (c : Caught X pins σ H ea C s) : ∃ oe vs, s.heap.get? ea = some oe ∧ oe.cls = .ref C ∧ oe.data = .fields vs := by
  obtain ⟨H0, s0, I, F⟩ := c
  obtain ⟨a0, B, fl, _⟩ := F.fly
  obtain ⟨oe, vs, h1, h2, h3, _⟩ := fl.first
  exact ⟨oe, vs, h1, h2, h3⟩
theorem Caught.neL (c : Caught X pins σ H ea C s) : H ea = none ∧ ea ≠ X.env.locals ∧ ea ∉ X.fs := by
  obtain ⟨H0, s0, I, F⟩ := c
  refine ⟨F.free, fun z => ?_, fun z => ?_⟩
  · obtain ⟨m, ⟨o, _, _, ho, _⟩, _⟩ := I.loc
    have n := F.new
    rw [z, ho] at n; cases n
  · obtain ⟨_, o, ho, _⟩ := I.funs.mem z
    have n := F.new
    rw [ho] at n; cases n
theorem Caught.suite (c : Caught X pins σ H ea C s) {oe : Obj} {vs : Array Value} (he : s.heap.get? ea = some oe) (hd : oe.data = .fields vs) : Inv (X.inSuite pins ea oe) [] σ H s :=
  c.inv.inSuite he c.neL.1 c.neL.2.1 c.neL.2.2 fun v z => by rw [hd] at z; cases z
end

/-- the class of the exception against the clause's -/
theorem exc_match {M : Model} {A : Around} {E : Value → Shared → Prop} {K : PySem.W.Frag} {s : Shared} {ea C Dc : Addr} {bm bmD : List Value} {oe : Obj} {Q : Bool → Shared → Prop} (KX : K.In s.heap) (c : ExC K C bm) (d : ExC K Dc bmD)
    (he : s.heap.get? ea = some oe) (hcl : oe.cls = .ref C) (h : Q ((Value.ref C :: bm).contains (.ref Dc)) s) : wpAny M A (excMatches (.ref ea) (.ref Dc)) Q E s := by
  obtain ⟨nm, q, Na, bs, hd, sn, sub, ab, col, dd, k0, k1, k2, k3, k5, lk, hok, hni⟩ := c.obj
  obtain ⟨nm', q', Na', bs', hd', sn', sub', ab', col', dd', k0', k1', k2', k3', k5', lk', hok', hni'⟩ := d.obj
  have hC := KX _ _ lk
  have hD := KX _ _ lk'
  have hB : (Value.ref Dc :: bmD).contains (.type "BaseException") = true := by rw [List.contains_cons, d.base KX, Bool.or_true]
  have f := tc_notTuple
  obtain ⟨hh, g, dr, t, os⟩ := s
  unfold excMatches
  repeat (first
    | (with_reducible refine wpAny_loadPart_at he ?_
       rw [hcl])
    | with_reducible refine wpAny_loadPart_at hD ?_
    | (with_reducible refine wpAny_isSubtype_exc hD ?_
       rw [hB])
    | with_reducible refine wpAny_isSubtype_exc hC ?_
    | wp_step)
  cases z : (Value.ref C :: bm).contains (.ref Dc) <;> (rw [z] at h; wp_walk; exact h)

/-- what the clauses do with an exception of the class at C, whose line is bm -/
def PH (X : Cx) (hs : List ExceptHandler) (th : Addr → List Value → TS) : Prop :=
  ∀ (pins : List (Addr × Obj)) (s : Shared) (σ : St) (H : Hp) (D : Ends) (ea C : Addr) (bm : List Value), Caught X pins σ H ea C s → ExC X.K C bm → th C bm D σ H →
    wpAny (model X.prog X.w) X.A (handleBy (.ref ea) X.env hs) (SP X pins D) X.xe s
def hNone : Addr → List Value → TS := fun _ _ _ _ _ => False
theorem ph_nil {X : Cx} : PH X [] hNone := fun _ _ _ _ _ _ _ _ _ _ h => False.elim h
section
variable {X : Cx} {Dc : Addr} {bmD : List Value} {x : Str} {b₀ : Stmt} {suite : List Stmt} {np hpos : Pos} {rest : List ExceptHandler} {thr : Addr → List Value → TS} {ts : Addr → Addr → List Value → TS}
def hCons (Dc : Addr) (ts : Addr → Addr → List Value → TS) (thr : Addr → List Value → TS) : Addr → List Value → TS := fun C bm D σ H => if (Value.ref C :: bm).contains (.ref Dc) = true then ∀ ea, H ea = none → ts ea C bm D σ H else thr C bm D σ H
/-- except D: suite -/
theorem ph_cons (d : ExC X.K Dc bmD) (hm : X.mg x = some (.ref Dc)) (hs : ∀ pins ea oe vs C bm, oe.cls = .ref C → oe.data = .fields vs → ExC X.K C bm → PSs (X.inSuite pins ea oe) (b₀ :: suite) (ts ea C bm)) (hr : PH X rest thr)
    (hg : Gl X x := by rfl) (hdb : (x == ("__debug__" : Str)) = false := by decide) : PH X (.ExceptHandler (some (.Name x np)) none (b₀ :: suite) hpos :: rest) (hCons Dc ts thr) := by
  intro pins s σ H D ea C bm cgt c h
  obtain ⟨oe, vs, he, hcl, hd⟩ := cgt.obj
  have I2 := cgt.suite he hd
  refine wpAny_handleBy_cons (codeAny_handlers_test (ld_glob I2 hg hm ?_ hdb)) (by intro q; cases q)
  refine exc_match I2.kIn c d he hcl ?_
  unfold hCons at h
  by_cases hb : (Value.ref C :: bm).contains (.ref Dc) = true
  · rw [if_pos hb] at h
    rw [hb]
    refine codeAny_handlers_suite ?_
    obtain ⟨H0, s0, I0, F⟩ := id cgt
    obtain ⟨a0, B, fl, cov⟩ := F.fly
    refine lands_againW fl fun h6 fl6 up6 => ?_
    have c6 : Caught X pins σ H ea C { s with heap := h6 } := ⟨H0, s0, I0, F.move fl.2.2.1 cov fl6 up6⟩
    obtain ⟨oe6, vs6, he6, hcl6, hd6⟩ := c6.obj
    exact wpAny_mono (hs pins ea oe6 vs6 C bm hcl6 hd6 c [] _ σ H D (c6.suite he6 hd6) (h ea cgt.neL.1)) (fun f s7 q => q.outSuite cgt.inv.ok) (fun _ _ z => False.elim z)
  · rw [if_neg hb] at h
    have hb' : (Value.ref C :: bm).contains (.ref Dc) = false := Bool.eq_false_iff.mpr hb
    rw [hb']
    exact hr pins s σ H D ea C bm cgt c h
/-- the ends behind a suite whose name is gone -/
def asEnds (D : Ends) (i : Nat) : Ends := { nx := fun σ H => D.nx (σ.set i none) H, rt := D.rt, bk := fun σ H => D.bk (σ.set i none) H, ct := fun σ H => D.ct (σ.set i none) H }
def hConsAs (K : PySem.W.Frag) (Dc : Addr) (i : Nat) (ts : Addr → Addr → List Value → TS) (thr : Addr → List Value → TS) : Addr → List Value → TS := fun C bm D σ H =>
  if (Value.ref C :: bm).contains (.ref Dc) = true then ExA K C ∧ ∀ ea, H ea = none → ts ea C bm (asEnds D i) (σ.set i (some (.ref ea))) H else thr C bm D σ H
/-- except D as n: suite -/
theorem ph_consAs {i : Nat} {n : Str} (hN : X.N.Nodup) (hi : X.N[i]? = some n) (hk : X.env.scope.names.lookup n = some .local) (d : ExC X.K Dc bmD) (hm : X.mg x = some (.ref Dc))
    (hs : ∀ pins ea oe vs C bm, oe.cls = .ref C → oe.data = .fields vs → ExC X.K C bm → ExA X.K C → PSs (X.inSuite pins ea oe) (b₀ :: suite) (ts ea C bm)) (hr : PH X rest thr)
    (hg : Gl X x := by rfl) (hdb : (x == ("__debug__" : Str)) = false := by decide) : PH X (.ExceptHandler (some (.Name x np)) (some n) (b₀ :: suite) hpos :: rest) (hConsAs X.K Dc i ts thr) := by
  intro pins s σ H D ea C bm cgt c h
  obtain ⟨oe, vs, he, hcl, hd⟩ := cgt.obj
  have I2 := cgt.suite he hd
  refine wpAny_handleBy_cons (codeAny_handlers_test (ld_glob I2 hg hm ?_ hdb)) (by intro q; cases q)
  refine exc_match I2.kIn c d he hcl ?_
  unfold hConsAs at h
  by_cases hb : (Value.ref C :: bm).contains (.ref Dc) = true
  · rw [if_pos hb] at h
    rw [hb]
    refine codeAny_handlers_suite_as ?_
    obtain ⟨H0, s0, I0, F⟩ := id cgt
    obtain ⟨a0, B, fl, cov⟩ := F.fly
    refine lands_againW fl fun h6 fl6 up6 => ?_
    have c6 : Caught X pins σ H ea C { s with heap := h6 } := ⟨H0, s0, I0, F.move fl.2.2.1 cov fl6 up6⟩
    obtain ⟨oe6, vs6, he6, hcl6, hd6⟩ := c6.obj
    have hcls : (X.env.scope.kind == .class || (X.env.scope.kind == .module && X.env.locals != X.env.globals)) = false := by rw [cgt.inv.ok.kind]; rfl
    refine store_ok (X := X.inSuite pins ea oe6) (v := .ref ea) (c6.suite he6 hd6) hN hi (.inl hk) rfl (fun s7 I7 => ?_) (.inr hk)
    refine wpAny_mono (hs pins ea oe6 vs6 C bm hcl6 hd6 c h.1 [] _ _ H _ I7 (h.2 ea cgt.neL.1)) (fun f s8 q => ?_) (fun _ _ z => False.elim z)
    have q := SP.outSuite cgt.inv.ok q
    have gone : ∀ {σ8 : St} {H8 : Hp} {Q : Unit → Shared → Prop}, Inv X pins σ8 H8 s8 → (∀ s9, Inv X pins (σ8.set i none) H8 s9 → Q () s9) → wpAny (model X.prog X.w) X.A (do bindName X.env n .none; unbindBehindTheSuite X.env n hpos) Q X.xe s8 := fun {σ8 H8 Q} I8 hQ => by
      obtain ⟨m, hn, hl⟩ := id I8.loc
      exact wpAny_nameGoes_keeps hk hn hcls fun h' v hn' hs' => hQ _ (I8.unset hN hi hl hk hn' hs')
    show wpAny (model X.prog X.w) X.A (do bindName X.env n .none; unbindBehindTheSuite X.env n hpos) (fun _ s9 => SP X pins D f s9) X.xe s8
    cases f with
    | next => obtain ⟨σ8, H8, I8, q⟩ := q; exact gone I8 fun s9 I9 => ⟨_, H8, I9, q⟩
    | brk => obtain ⟨σ8, H8, I8, q⟩ := q; exact gone I8 fun s9 I9 => ⟨_, H8, I9, q⟩
    | cont => obtain ⟨σ8, H8, I8, q⟩ := q; exact gone I8 fun s9 I9 => ⟨_, H8, I9, q⟩
    | ret u => obtain ⟨v, σ8, H8, I8, r, q⟩ := q; exact gone I8 fun s9 I9 => ⟨v, _, H8, I9, r, q⟩
  · rw [if_neg hb] at h
    have hb' : (Value.ref C :: bm).contains (.ref Dc) = false := Bool.eq_false_iff.mpr hb
    rw [hb']
    exact hr pins s σ H D ea C bm cgt c h

/-- try: body, then the clauses -/
def tTry (K : PySem.W.Frag) (tb : (St → XK) → TS) (th : Addr → List Value → TS) : TS := fun D σ H => tb (fun σ' cls _ H' => ∃ C bm, cls = .ref C ∧ ExC K C bm ∧ th C bm D σ' H') D σ H
theorem ps_try {body : List Stmt} {h0 : ExceptHandler} {hs : List ExceptHandler} {pos : Pos} {tb : (St → XK) → TS} {th : Addr → List Value → TS} (hstk : X.stack = X.env :: X.outer) (hf : X.env.frame = some X.env.locals)
    (hb : ∀ pins E EE, PassesS (CX1 X.prog X.w) (X.inTry pins E) EE → PassesOwn (model X.prog X.w) X.A X.env E → PSs (X.inTry pins E) body (tb EE)) (hh : PH X (h0 :: hs) th) : PS X (.Try body (h0 :: hs) [] [] pos) (tTry X.K tb th) := by
  intro pins s σ H D I h
  refine wpAny_Try_except ?_
  refine wpAny_mono (hb pins _ _ ?_ PassesOwn.looking [] s σ H D I.inTry h) (fun f s1 q => ?_) (fun e s1 q => q)
  · intro pins' σ' H1 s1 e s2 I1 hq
    obtain ⟨ea, C, H2, rfl, F, C', bm, e', c, q⟩ := hq
    cases e'
    have J := I1.outTry
    obtain ⟨a0, B, fl, cov⟩ := F.fly
    have fl' : Heap.FlyingW B (X.env :: X.outer) ea (.ref C) a0 s2.heap := by rw [← hstk]; exact fl
    show wpAny _ _ (noteFrame _ _) _ _ _
    refine wpAny_looks_onW (by rw [← hstk]; exact J.ok.frames) hf fl' fun h4 held up4 => ?_
    refine wpAny_landsW held fun h5 fl5 up5 => ?_
    have fl6 : Heap.FlyingW B X.stack ea (.ref C) a0 h5 := by rw [hstk]; exact fl5
    exact hh pins _ σ' H2 D ea C bm ⟨H1, s1, J, F.move fl.2.2.1 cov fl6 (up4.trans up5)⟩ c q
  · have q := SP.outTry q
    cases f with
    | next => exact wpAny_execs_nil q
    | brk => exact q
    | cont => exact q
    | ret u => exact q
end

section
variable {X : Cx} {pins : List (Addr × Obj)} {ea C : Addr} {oe : Obj} {vs : Array Value} {bm : List Value} {e tx : Expr} {te : TE} {v : V} {u : Value} {p pos : Pos}
/-- isinstance(e, T) of the exception that was caught -/
def rIsiX (K : PySem.W.Frag) (ea C : Addr) (v : V) (u : Value) : List V → Hp → VK → Prop := fun xs H Q => xs = [.ref ea, v] ∧ ∃ b, PySem.W.kitOne K (.ref C) u = some b ∧ Q (.bl b) H
theorem call_isinstX (h1 : oe.cls = .ref C) (c : ExC X.K C bm) (a : ExA X.K C) (hu : ∀ u', RelV v u' → u' = u) : CallR (X.inSuite pins ea oe) (.builtin "isinstance") (rIsiX X.K ea C v u) := by
  intro pins' s σ H xs us Q I r h
  obtain ⟨rfl, b, k, q⟩ := h
  obtain ⟨u1, u2, rfl, r1, r2⟩ := vals2 r
  cases r1
  have he := (I.pin (ea, oe) (List.mem_append_left _ List.mem_cons_self)).1
  have e := hu u2 r2
  subst e
  exact PySem.W.kia_one (kitx_exc a c) I.kIn ⟨oe, he, h1⟩ k (fun z => nomatch z) fun tk => ⟨.bl b, H, I.tok _, rfl, q⟩
theorem pe_isinstX (h1 : oe.cls = .ref C) (c : ExC X.K C bm) (a : ExA X.K C) (hm : X.mg "isinstance" = none) (he : PE (X.inSuite pins ea oe) e te) (ht : PE (X.inSuite pins ea oe) tx (tC v)) (hu : ∀ u', RelV v u' → u' = u) (hg : Gl X "isinstance" := by rfl)
    (hs : starEach [e, tx] X.env = (false, eval e X.env) :: starEach [tx] X.env := by rfl) (hs2 : starEach [tx] X.env = (false, eval tx X.env) :: starEach [] X.env := by rfl) (hpl : (backTo pos (starEach [tx] X.env)).any (·.1) = false := by rfl) :
    PE (X.inSuite pins ea oe) (.Call (.Name "isinstance" p) [e, tx] [] pos) (tCB (rIsiX X.K ea C v u) (tCons te (tCons (tC v) tNil))) :=
  pe_callB (call_isinstX h1 c a hu) hg hm boot_isinstance (pa_cons he (pa_cons ht pa_nil hs2) hs) (he := hs) (hpl := hpl)
end
end L2

set_option Elab.async false
set_option linter.all false
set_option maxRecDepth 100000
set_option maxHeartbeats 4000000
namespace L2
open PySem PySem.Spec PyProof.Rows

/-! ### walking a text -/
/-- the i-th sign as a text -/
abbrev sgn (c : Nat) : V := .str ⟨#[c]⟩
def Its (x : Str) : It := ⟨fun i _ => i < x.cps.size, fun i H v H' => H' = H ∧ ∃ c, x.cps[i]? = some c ∧ v = sgn c, fun i _ => x.cps.size ≤ i⟩
theorem turn_str {P : Program} {w : World} {K : PySem.W.Frag} {tg : Expr} (it : Addr) (x : Str) (t : Tok) (nm : String)
    (hn : ["enumerate", "zip", "dict_itemiterator", "dict_reverseitemiterator", "odict_iterator", "itertools.zip_longest", "itertools.pairwise"].contains nm = false)
    (hW : ∀ A' : Around, A'.handled = none → Walks P w A' it [it] [it] x.cps.size (SignAt x) (fun i h => h.IsStrIter it nm x t i))
    (hS : ∀ (A : Around) (i : Nat) (s : Shared) (Q : Value → Shared → Prop) (E : Value → Shared → Prop), s.heap.IsStrIter it nm x t i → Q (.ref it) s → wpAny (model P w) A (pyIter (.ref it)) Q E s) :
    Turn P w K tg (Its x) [it] it (fun i h => h.IsStrIter it nm x t i ∧ i ≤ x.cps.size) where
  mem := by simp
  obj := fun i h st b hb => by
    have e : b = it := by simpa using hb
    subst e
    obtain ⟨⟨o, e, c, d⟩, _⟩ := st
    exact ⟨o, e, fun v z => by rw [d] at z; cases z⟩
  keep := fun i h h' st k => by
    obtain ⟨⟨o, e, r⟩, l⟩ := st
    exact ⟨⟨o, k it (by simp) o e, r⟩, l⟩
  item := by
    intro X hP hw hK hc i pins s σ H E I hf st hg
    subst hP hw hK
    obtain ⟨f0, f1, f2, f3, f4, f5⟩ := hf it (by simp)
    refine (hW X.A (I.ok.hd hc)).item i s _ _ hg st.1 fun v h' tk hv st' kk => ?_
    obtain ⟨c, u, hx, rfl⟩ := hv
    have I1 : Inv X pins σ H { s with heap := h', toks := tk } := I.turned (fun b o hb e => kk b o (by simpa using hb) e) f0 f1 f3 f4 f5
    obtain ⟨o, e, c', d⟩ := id st'
    exact ⟨_, rfl, go_of (s := { s with heap := h', toks := tk }) e c' d hn ⟨sgn c, H, I1, ⟨u, rfl⟩, ⟨rfl, c, hx, rfl⟩, ⟨st', hg⟩, fun b hb => (hf b hb).1⟩⟩
  done := by
    intro X hP hw hK hc i pins s σ H E I hf st hg
    subst hP hw hK
    obtain ⟨f0, f1, f2, f3, f4, f5⟩ := hf it (by simp)
    have e : i = x.cps.size := Nat.le_antisymm st.2 hg
    subst e
    exact (hW X.A (I.ok.hd hc)).done s _ _ st.1 fun h' tk kk => ⟨rfl, I.turned (fun b o hb e => kk b o (by simpa using hb) e) f0 f1 f3 f4 f5⟩
  self := fun A i s Q E st h => hS A i s Q E st.1 h
section
variable {X : Cx} {tg : Expr}
def iStr (tl : TE) : TI := fun σ H R => tl σ H fun v H1 => ∃ x : Str, v = .str x ∧ R (Its x) H1
theorem pi_str {l : Expr} {tl : TE} (hl : PE X l tl) : PI X tg l (iStr tl) := by
  intro pins s σ H R I h
  refine thn (hl pins s σ H _ I h) fun v s1 ⟨y, H1, I1, r1, q1⟩ => ?_
  obtain ⟨x, rfl, q⟩ := q1
  obtain ⟨t, rfl⟩ := r1
  have fp : ∀ b ∈ [s1.heap.objs.size], FpOk X pins H1 b := fun b hb => by
    have e : b = s1.heap.objs.size := by simpa using hb
    subst e
    exact I1.fpOk (Nat.le_refl _) (I1.hok.fresh (Nat.le_refl _))
  cases ha : x.cps.all (· < 128)
  · refine wpAny_pyIter_wide ha ?_
    exact ⟨s1.heap.objs.size, [s1.heap.objs.size], _, _, H1, rfl, I1.kept (t' := s1.toks) fun b o e => Heap.get?_push_of_some _ e, turn_str _ x t "str_iterator" (by decide) (fun A' hA => Walks.strWide hA _ x t) (fun A i s Q E st h => wpAny_pyIter_striter_wide st h),
      ⟨⟨_, Heap.get?_push_size _ rfl, rfl, rfl⟩, Nat.zero_le _⟩, fp, q⟩
  · refine wpAny_pyIter_ascii ha ?_
    exact ⟨s1.heap.objs.size, [s1.heap.objs.size], _, _, H1, rfl, I1.kept (t' := s1.toks) fun b o e => Heap.get?_push_of_some _ e, turn_str _ x t "str_ascii_iterator" (by decide) (fun A' hA => Walks.strAscii hA _ x t) (fun A i s Q E st h => wpAny_pyIter_striter_ascii st h),
      ⟨⟨_, Heap.get?_push_size _ rfl, rfl, rfl⟩, Nat.zero_le _⟩, fp, q⟩
end
/-- for c in a text -/
theorem for_str {x : Str} {g : TG} {tb : TS} {D : Ends} {σ : St} {H : Hp} (Pv : Nat → St → Hp → Prop) (h0 : Pv 0 σ H)
    (hs : ∀ i c σ H, x.cps[i]? = some c → Pv i σ H → g (sgn c) σ H fun σ2 H2 => tb { D with nx := Pv (i + 1), ct := Pv (i + 1), bk := D.nx } σ2 H2) (hd : ∀ σ H, Pv x.cps.size σ H → D.nx σ H) :
    ∃ W : Nat → Nat → St → Hp → Prop, (∃ m, W 0 m σ H) ∧ ∀ i m σ H, W i m σ H →
      ((Its x).stop i H ∧ D.nx σ H) ∨ ((Its x).go i H ∧ ∃ N : St → Hp → Prop, (∀ σ' H', N σ' H' → ∃ m', m' < m ∧ W (i + 1) m' σ' H') ∧ ∀ v H', (Its x).yld i H v H' → g v σ H' fun σ2 H2 => tb { D with nx := N, ct := N, bk := D.nx } σ2 H2) := by
  refine ⟨fun i m σ H => m = x.cps.size - i ∧ i ≤ x.cps.size ∧ Pv i σ H, ⟨x.cps.size, by simp, Nat.zero_le _, h0⟩, ?_⟩
  rintro i m σ H ⟨rfl, hi, p⟩
  by_cases hlt : i < x.cps.size
  · refine .inr ⟨hlt, Pv (i + 1), fun σ' H' p' => ⟨x.cps.size - (i + 1), by omega, rfl, hlt, p'⟩, fun v H' y => ?_⟩
    obtain ⟨e, c, hc, rfl⟩ := y
    subst e
    exact hs i c σ _ hc p
  · have e : i = x.cps.size := by omega
    subst e
    exact .inl ⟨Nat.le_refl _, hd σ H p⟩
end L2

set_option Elab.async false
set_option linter.all false
set_option maxRecDepth 100000
set_option maxHeartbeats 4000000
namespace LmTxt
open PySem PySem.Spec L2 PyProof.Rows
/-! ### slices of texts, as lists -/
theorem sl_from (x : Str) {k : Nat} (h : k ≤ x.length) : (Txt.slice x (some (k : Int)) none).cps.toList = x.cps.toList.drop k := by
  rw [slice_from_eq (b := (x.length : Int)) (by omega) (by omega) rfl]
  have e : ((x.length : Int) - (k : Int)).toNat = x.length - k := by omega
  rw [e, Int.toNat_natCast]
  show (x.cps.toList.drop k).take (x.length - k) = _
  rw [List.take_of_length_le (by rw [List.length_drop, ← len_list]; exact Nat.le_refl _)]
theorem sl_to (x : Str) {k : Nat} (h : k ≤ x.length) : (Txt.slice x none (some (k : Int))).cps.toList = x.cps.toList.take k := by
  rw [beq_iff_eq.mp (slice_closes_toL (x := x) (j := (k : Int)) (by omega) (by omega))]
  have e : ((k : Int) - 0).toNat = k := by omega
  rw [e]
  rfl
theorem str_ext {x y : Str} (h : x.cps.toList = y.cps.toList) : x = y := by
  obtain ⟨⟨a⟩⟩ := x
  obtain ⟨⟨b⟩⟩ := y
  have e : a = b := h
  rw [e]
end LmTxt

set_option Elab.async false
set_option linter.all false
set_option maxRecDepth 100000
set_option maxHeartbeats 2000000
namespace LmTup
open PySem PyProof.Rows
section
open PySem.SeqAt PySem.MeetsSeq
open PySem.AutoSeq1 (wpAny_loadPart')
/-! ### list.remove where what is equal is known of the heap -/

/-! ### a < b of tuples, by what is known of their items -/
end
section
variable {prog : Program} {w : World} {A : Around} {E : Value → Shared → Prop} {s : Shared}
end

/-! ### min of what is compared by the heap -/
section
variable {prog : Program} {w : World} {A : Around} {R : Result → Shared → Prop} {I : Addr} {fp wr : List Addr} {n : Nat} {P : Nat → Value → Prop} {St : Nat → Heap → Prop} {h0 : Heap}
end
section
variable {prog : Program} {w : World} {A : Around} {E : Value → Shared → Prop} {s : Shared}
end
end LmTup

set_option Elab.async false
set_option linter.all false
set_option maxRecDepth 100000
set_option maxHeartbeats 2000000
namespace L2
open PySem PySem.Spec PyProof.Rows PySem.W PySem.SeqAt LmTxt
/-! ## lists of numbers -/
theorem ints_items : ∀ {ns : List Int} {its : List Value}, Vals (ns.map V.int) its → ∃ ys : List (Int × Tok), its = ys.map (fun p => Value.int p.1 p.2) ∧ ys.map (·.1) = ns
  | [], _, r => by cases r; exact ⟨[], rfl, rfl⟩
  | n :: ns, _, r => by
    cases r with
    | cons r1 r2 =>
      obtain ⟨t, rfl⟩ := r1
      obtain ⟨ys, rfl, e⟩ := ints_items r2
      exact ⟨(n, t) :: ys, rfl, by rw [List.map_cons, e]⟩
theorem num_at {ys : List (Int × Tok)} {i : Nat} (h : i < ys.length) : numAt ys.toArray i = (ys.map (·.1))[i]'(by simpa using h) := by
  unfold numAt
  simp [h]
theorem best_gt (val : Nat → Int) : ∀ m, argBest (fun i j => decide (val i > val j)) m ≤ m ∧ ∀ j, j ≤ m → val j ≤ val (argBest (fun i j => decide (val i > val j)) m)
  | 0 => ⟨Nat.le_refl _, fun j hj => by have : j = 0 := by omega
                                        subst this; exact Int.le_refl _⟩
  | m + 1 => by
    obtain ⟨h1, h2⟩ := best_gt val m
    show (if decide (val (m + 1) > val (argBest (fun i j => decide (val i > val j)) m)) = true then m + 1 else argBest (fun i j => decide (val i > val j)) m) ≤ m + 1 ∧ ∀ j, j ≤ m + 1 → val j ≤ val (if decide (val (m + 1) > val (argBest (fun i j => decide (val i > val j)) m)) = true then m + 1 else argBest (fun i j => decide (val i > val j)) m)
    by_cases c : val (m + 1) > val (argBest (fun i j => decide (val i > val j)) m)
    · rw [if_pos (decide_eq_true c)]
      refine ⟨Nat.le_refl _, fun j hj => ?_⟩
      by_cases q : j = m + 1
      · rw [q]; exact Int.le_refl _
      · have := h2 j (by omega)
        omega
    · rw [if_neg (fun z => c (of_decide_eq_true z))]
      refine ⟨by omega, fun j hj => ?_⟩
      by_cases q : j = m + 1
      · rw [q]; omega
      · exact h2 j (by omega)
theorem best_lt (val : Nat → Int) : ∀ m, argBest (fun i j => decide (val i < val j)) m ≤ m ∧ ∀ j, j ≤ m → val (argBest (fun i j => decide (val i < val j)) m) ≤ val j
  | 0 => ⟨Nat.le_refl _, fun j hj => by have : j = 0 := by omega
                                        subst this; exact Int.le_refl _⟩
  | m + 1 => by
    obtain ⟨h1, h2⟩ := best_lt val m
    show (if decide (val (m + 1) < val (argBest (fun i j => decide (val i < val j)) m)) = true then m + 1 else argBest (fun i j => decide (val i < val j)) m) ≤ m + 1 ∧ ∀ j, j ≤ m + 1 → val (if decide (val (m + 1) < val (argBest (fun i j => decide (val i < val j)) m)) = true then m + 1 else argBest (fun i j => decide (val i < val j)) m) ≤ val j
    by_cases c : val (m + 1) < val (argBest (fun i j => decide (val i < val j)) m)
    · rw [if_pos (decide_eq_true c)]
      refine ⟨Nat.le_refl _, fun j hj => ?_⟩
      by_cases q : j = m + 1
      · rw [q]; exact Int.le_refl _
      · have := h2 j (by omega)
        omega
    · rw [if_neg (fun z => c (of_decide_eq_true z))]
      refine ⟨by omega, fun j hj => ?_⟩
      by_cases q : j = m + 1
      · rw [q]; omega
      · exact h2 j (by omega)
section
variable {X : Cx}
theorem Inv.ints {pins : List (Addr × Obj)} {σ : St} {H : Hp} {s : Shared} {p : Addr} {ns : List Int} (I : Inv X pins σ H s) (h : SqL X.K H p (ns.map V.int)) : ∃ ys : List (Int × Tok), s.heap.IsList p (intItems ys.toArray) ∧ ys.map (·.1) = ns := by
  obtain ⟨its, rv, hl, hz⟩ := I.list h
  obtain ⟨ys, rfl, e⟩ := ints_items rv
  refine ⟨ys, ?_, e⟩
  have := hl.isList
  simpa [intItems] using this
/-- max(xs), min(xs), sum(xs) -/
theorem call_max_ints (hc : X.calm = true) : CallR X (.builtin "max") (fun xs H Q => ∃ (p : Addr) (ns : List Int), xs = [.ref p] ∧ SqL X.K H p (ns.map V.int) ∧ ns ≠ [] ∧ ∀ m, m ∈ ns → (∀ n ∈ ns, n ≤ m) → Q (.int m) H) := by
  intro pins s σ H xs us Q I r h
  obtain ⟨p, ns, rfl, hp, hne, q⟩ := h
  obtain ⟨u, rfl, ru⟩ := vals1 r
  cases ru
  obtain ⟨ys, hl, e⟩ := I.ints hp
  have hyl : 0 < ys.length := by
    rw [← List.length_map (f := (·.1)), e]
    exact List.length_pos_iff.mpr hne
  refine max_intList (I.ok.hd hc) hl (by simpa using hyl) fun v h' tk hv hk => ?_
  obtain ⟨t, rfl⟩ := intItems_at hv
  obtain ⟨b1, b2⟩ := best_gt (numAt ys.toArray) (ys.toArray.size - 1)
  generalize argBest (fun i j => decide (numAt ys.toArray i > numAt ys.toArray j)) (ys.toArray.size - 1) = i at hv b1 b2 ⊢
  have hs : ys.toArray.size = ys.length := by simp
  refine ⟨.int (numAt ys.toArray i), H, I.kept hk, ⟨t, rfl⟩, q _ ?_ fun n hn => ?_⟩
  · rw [num_at (by omega)]
    subst e
    exact List.getElem_mem _
  · subst e
    obtain ⟨j, hj, rfl⟩ := List.getElem_of_mem hn
    have hj' : j < ys.length := by simpa using hj
    rw [← num_at hj']
    exact b2 j (by omega)
theorem call_min_ints (hc : X.calm = true) : CallR X (.builtin "min") (fun xs H Q => ∃ (p : Addr) (ns : List Int), xs = [.ref p] ∧ SqL X.K H p (ns.map V.int) ∧ ns ≠ [] ∧ ∀ m, m ∈ ns → (∀ n ∈ ns, m ≤ n) → Q (.int m) H) := by
  intro pins s σ H xs us Q I r h
  obtain ⟨p, ns, rfl, hp, hne, q⟩ := h
  obtain ⟨u, rfl, ru⟩ := vals1 r
  cases ru
  obtain ⟨ys, hl, e⟩ := I.ints hp
  have hyl : 0 < ys.length := by
    rw [← List.length_map (f := (·.1)), e]
    exact List.length_pos_iff.mpr hne
  refine min_intList (I.ok.hd hc) hl (by simpa using hyl) fun v h' tk hv hk => ?_
  obtain ⟨t, rfl⟩ := intItems_at hv
  obtain ⟨b1, b2⟩ := best_lt (numAt ys.toArray) (ys.toArray.size - 1)
  generalize argBest (fun i j => decide (numAt ys.toArray i < numAt ys.toArray j)) (ys.toArray.size - 1) = i at hv b1 b2 ⊢
  have hs : ys.toArray.size = ys.length := by simp
  refine ⟨.int (numAt ys.toArray i), H, I.kept hk, ⟨t, rfl⟩, q _ ?_ fun n hn => ?_⟩
  · rw [num_at (by omega)]
    subst e
    exact List.getElem_mem _
  · subst e
    obtain ⟨j, hj, rfl⟩ := List.getElem_of_mem hn
    have hj' : j < ys.length := by simpa using hj
    rw [← num_at hj']
    exact b2 j (by omega)
theorem call_sum_ints (hc : X.calm = true) : CallR X (.builtin "sum") (fun xs H Q => ∃ (p : Addr) (ns : List Int), xs = [.ref p] ∧ SqL X.K H p (ns.map V.int) ∧ Q (.int ns.sum) H) := by
  intro pins s σ H xs us Q I r h
  obtain ⟨p, ns, rfl, hp, q⟩ := h
  obtain ⟨u, rfl, ru⟩ := vals1 r
  cases ru
  obtain ⟨ys, hl, e⟩ := I.ints hp
  refine sum_intListG (I.ok.hd hc) hl fun h' tk t' hk => ?_
  refine ⟨.int ns.sum, H, I.kept hk, ?_, q⟩
  rw [preSum_eq, List.take_of_length_le (by simp)]
  show RelV _ (.int (List.map (·.1) ys).sum t')
  rw [e]
  exact ⟨_, rfl⟩
theorem eq_gives_int (a : Int) (t : Tok) (b : Int) (u : Tok) : MeetsSeq.EqGives (.int a t) (.int b u) (a == b) := MeetsSeq.EqGives.int a b t u
def eqi (b : Int) : Value → Bool
  | .int a _ => a == b
  | _ => false
/-- xs.count(n) -/
def rCountI (K : PySem.W.Frag) : V → List V → Hp → VK → Prop := fun x vs H Q => ∃ (l : Addr) (ns : List Int) (n : Int), x = .ref l ∧ vs = [.int n] ∧ H l = some (.lst (ns.map V.int)) ∧ Q (.int (ns.count n)) H
theorem mt_countI : MtM X "list.count" (rCountI X.K) := by
  intro pins s σ H x vs v us Q I rx rv h
  obtain ⟨l, ns, n, rfl, rfl, hH, q⟩ := h
  cases rx
  obtain ⟨u, rfl, ru⟩ := rv.one
  obtain ⟨t, rfl⟩ := ru
  obtain ⟨z, its, c, r, hl, e⟩ := I.lstM hH
  obtain ⟨ys, rfl, en⟩ := ints_items r
  refine call_meets F.slot_list_count ⟨_, e, rfl⟩ F.entry_list_count (F.args_list_count_2 _ _) (MeetsSeq.list_count l _ c (.int n t) (eqi n) (fun y hy => ?_)) ⟨e, ?_⟩
  · have hy' : y ∈ ys.map (fun p => Value.int p.1 p.2) := by simpa using hy
    obtain ⟨p, _, rfl⟩ := List.mem_map.mp hy'
    exact eq_gives_int _ _ _ _
  · have : ((ys.map (fun p => Value.int p.1 p.2)).toArray.toList.countP (eqi n)) = ns.count n := by
      rw [← en, List.count, List.countP_map, List.countP_map]
      rfl
    rw [this]
    exact ⟨.int (ns.count n), H, I.tok _, ⟨_, rfl⟩, q⟩
/-- xs.remove(n) -/
def rRemI : V → List V → Hp → VK → Prop := fun x vs H Q => ∃ (l : Addr) (ns : List Int) (n : Int), x = .ref l ∧ vs = [.int n] ∧ H l = some (.lst (ns.map V.int)) ∧ n ∈ ns ∧ Q .non (upd H l (.lst ((ns.erase n).map V.int)))
theorem first_at (n : Int) : ∀ (ns : List Int), n ∈ ns → ∃ j, ∃ hj : j < ns.length, ns[j] = n ∧ (∀ m (hm : m < ns.length), m < j → ns[m] ≠ n) ∧ ns.eraseIdx j = ns.erase n
  | x :: ns, h => by
    by_cases e : x = n
    · exact ⟨0, by simp, e, fun m _ hm => absurd hm (Nat.not_lt_zero _), by rw [e, List.erase_cons_head]; rfl⟩
    · have h' : n ∈ ns := (List.mem_cons.mp h).elim (fun z => absurd z.symm e) id
      obtain ⟨j, hj, e1, e2, e3⟩ := first_at n ns h'
      refine ⟨j + 1, by simpa using hj, e1, fun m hm hlt => ?_, ?_⟩
      · cases m with
        | zero => exact e
        | succ m => exact e2 m (by simpa using hm) (by omega)
      · rw [List.erase_cons_tail (by simpa using e)]
        show x :: ns.eraseIdx j = _
        rw [e3]
theorem erase_ints : ∀ (ns : List Int) (j : Nat), (ns.map V.int).eraseIdx j = (ns.eraseIdx j).map V.int
  | [], _ => rfl
  | _ :: _, 0 => rfl
  | a :: ns, j + 1 => congrArg (V.int a :: ·) (erase_ints ns j)
theorem mt_removeI : MtM X "list.remove" rRemI := by
  intro pins s σ H x vs v us Q I rx rv h
  obtain ⟨l, ns, n, rfl, rfl, hH, hn, q⟩ := h
  cases rx
  obtain ⟨u, rfl, ru⟩ := rv.one
  obtain ⟨t, rfl⟩ := ru
  obtain ⟨z, its, c, r, hl, e⟩ := I.lstM hH
  obtain ⟨j, hj, e1, e2, e3⟩ := first_at n ns hn
  have r0 := r
  obtain ⟨ys, rfl, en⟩ := ints_items r
  have hyl : ys.length = ns.length := by rw [← en, List.length_map]
  have at' : ∀ m (hm : m < ns.length), eqi n (ys.map (fun p => Value.int p.1 p.2)).toArray[m]! = (ns[m] == n) := fun m hm => by
    subst en
    have : m < ys.length := by omega
    simp [eqi, this]
  refine call_meets F.slot_list_remove ⟨_, e, rfl⟩ F.entry_list_remove (F.args_list_remove_2 _ _) (MeetsSeq.list_remove l _ c (.int n t) (eqi n) (fun y hy => ?_) j (by simp; omega) ?_ ?_ (by simp at z ⊢; omega)) ⟨e, ?_⟩
  · have hy' : y ∈ ys.map (fun p => Value.int p.1 p.2) := by simpa using hy
    obtain ⟨p, _, rfl⟩ := List.mem_map.mp hy'
    exact eq_gives_int _ _ _ _
  · have := at' j hj
    rw [e1] at this
    have hj2 : j < ys.length := by omega
    simpa [hj2] using this
  · intro m hm hlt
    have hm' : m < ns.length := by simp at hm; omega
    have := at' m hm'
    have h2 := e2 m hm' hlt
    have hm2 : m < ys.length := by omega
    have h3 : (ns[m] == n) = false := beq_eq_false_iff_ne.mpr h2
    rw [h3] at this
    simpa [hm2] using this
  · refine ⟨.non, _, I.lset (its' := (ys.map (fun p => Value.int p.1 p.2)).eraseIdx j) hH e ?_ ?_ ?_, rfl, q⟩
    · show (ys.map (fun p => Value.int p.1 p.2)).toArray.eraseIdxIfInBounds j = _
      rw [List.eraseIdxIfInBounds_toArray]
    · have := r0.eraseIdx j
      have e4 : (ns.map V.int).eraseIdx j = (ns.erase n).map V.int := by
        rw [← e3]
        exact erase_ints ns j
      rwa [e4] at this
    · rw [List.length_map] at z ⊢
      have := List.length_erase_le (a := n) (l := ns)
      omega
section
variable {o e : Expr} {to : TE} {t : TA} {apos cpos : Pos}
theorem pe_countI (ho : PE X o to) (ha : PA X [e] t)
    (hbase : attributeBase o "count" X.env (eval o X.env) = eval o X.env := by rfl)
    (hfew : ((backTo cpos (starEach [e] X.env)).all (fun x => !x.1) && (backToKw cpos (keywordEach [] X.env)).all (fun x => x.1.isSome)
      && decide (([e] : List Expr).length + ([] : List Keyword).length + (if ([] : List Keyword).isEmpty then 0 else 1) < 30)) = true := by rfl)
    (hline : (apos.endLine == cpos.line) = true := by rfl) (hs : starEach [e] X.env = (false, eval e X.env) :: starEach [] X.env := by rfl) (hplain : (backTo cpos (starEach [] X.env)).any (·.1) = false := by rfl) :
    PE X (.Call (.Attribute o "count" apos) [e] [] cpos) (tBM X.K "list" (rCountI X.K) to t) :=
  pe_bm PySem.F.plainAttrs_list PySem.F.slot_list_count PySem.F.type_list_count mt_countI ho ha hbase hfew hline hs hplain
theorem pe_removeI (ho : PE X o to) (ha : PA X [e] t)
    (hbase : attributeBase o "remove" X.env (eval o X.env) = eval o X.env := by rfl)
    (hfew : ((backTo cpos (starEach [e] X.env)).all (fun x => !x.1) && (backToKw cpos (keywordEach [] X.env)).all (fun x => x.1.isSome)
      && decide (([e] : List Expr).length + ([] : List Keyword).length + (if ([] : List Keyword).isEmpty then 0 else 1) < 30)) = true := by rfl)
    (hline : (apos.endLine == cpos.line) = true := by rfl) (hs : starEach [e] X.env = (false, eval e X.env) :: starEach [] X.env := by rfl) (hplain : (backTo cpos (starEach [] X.env)).any (·.1) = false := by rfl) :
    PE X (.Call (.Attribute o "remove" apos) [e] [] cpos) (tBM X.K "list" rRemI to t) :=
  pe_bm PySem.F.plainAttrs_list PySem.F.slot_list_remove PySem.F.type_list_remove mt_removeI ho ha hbase hfew hline hs hplain
end
end
end L2

set_option Elab.async false
set_option linter.all false
set_option maxRecDepth 100000
set_option maxHeartbeats 2000000
namespace L2
open PySem PySem.Spec PyProof.Rows PySem.W PySem.SeqAt LmTxt
theorem sub_list_set : isSubtype (.type "list") (.type "set") = pure false := by rw [isSubtype_type]; kernel_rfl
theorem sub_list_frozenset : isSubtype (.type "list") (.type "frozenset") = pure false := by rw [isSubtype_type]; kernel_rfl
theorem strs_at : ∀ {ts : List Str} {its : List Value} {i : Nat} {v : Value}, Vals (ts.map V.str) its → its[i]? = some v → i < ts.length ∧ ∃ t, v = .str (ts.getD i Str.empty) t
  | [], _, i, v, r, h => by cases r; simp at h
  | y :: ts, _, i, v, r, h => by
    cases r with
    | cons r1 r2 =>
      obtain ⟨t, rfl⟩ := r1
      cases i with
      | zero => exact ⟨by simp, t, by simpa using h.symm⟩
      | succ i =>
        obtain ⟨h1, t', e⟩ := strs_at r2 (by simpa using h)
        exact ⟨by simpa using h1, t', by simpa using e⟩
section
variable {X : Cx}
/-- set(xs) of a list of texts -/
theorem call_set_strs (hc : X.calm = true) : CallR X (.type "set") (fun xs H Q => ∃ (a : Addr) (ts : List Str), xs = [.ref a] ∧ SqL X.K H a (ts.map V.str) ∧ ts.length + 1 < scanBound ∧
    ∀ p ss, H p = none → ss.length ≤ ts.length → ss.Nodup → (∀ y, y ∈ ss ↔ y ∈ ts) → Q (.ref p) (upd H p (SetO X p ss))) := by
  intro pins s σ H xs us Q I r h
  obtain ⟨a, ts, rfl, ha, hb, q⟩ := h
  obtain ⟨u, rfl, ru⟩ := vals1 r
  cases ru
  have hh := I.ok.hd hc
  obtain ⟨its, rv, hl, hz⟩ := I.list ha
  have hil : its.length = ts.length := by rw [← rv.length, List.length_map]
  obtain ⟨o, ho, hcl, nn, hd⟩ := id hl.isList
  have halt := Heap.lt_size ho
  refine LmSet.call_set_walk (T := "list") (n := ts.length) (val := fun j => ts.getD j Str.empty) (fun s' k => ⟨o, k _ _ ho, hcl⟩) sub_list_set sub_list_frozenset (by decide) (fun s' Q' keep hlt hQ => ?_) hb fun h' tk ss hS hl' hm k => ?_
  · have hl2 : s'.heap.IsList a its.toArray := ⟨o, keep _ _ ho, hcl, nn, hd⟩
    have halt' := Heap.lt_size (keep _ _ ho)
    have W := Walks.list (prog := X.prog) (w := X.w) (A := X.A.in1.in1.in1) (by simp [hh]) s'.heap.objs.size a (Nat.ne_of_lt halt') its.toArray
    rw [show its.toArray.size = ts.length by simpa using hil] at W
    refine wpAny_pyIter_list hl2 (hQ _ _ _ _ W (fun i u hu => ?_) (fun z => ?_) ⟨⟨_, Heap.get?_push_size _ rfl, rfl, rfl⟩, hl2.push _⟩)
    · exact (strs_at rv (by simpa using hu)).2
    · have z' : s.heap.objs.size = s'.heap.objs.size ∨ s.heap.objs.size = a := by simpa using z
      rcases z' with z' | z'
      · exact absurd hlt (by rw [← z']; exact Nat.lt_irrefl _)
      · exact absurd halt (by rw [← z']; exact Nat.lt_irrefl _)
  · have hp : H s.heap.objs.size = none := I.hok.fresh (Nat.le_refl _)
    have nd : ss.Nodup := by obtain ⟨_, _, _, _, _, _, _, _, _, _, nd, _⟩ := hS; exact nd
    refine ⟨.ref s.heap.objs.size, _, I.laid k (Nat.le_refl _) (setO_ok hS), rfl, q _ ss hp hl' nd fun y => (hm y).trans ⟨fun ⟨j, hj, e⟩ => ?_, fun hy => ?_⟩⟩
    · rw [← e, show ts.getD j Str.empty = ts[j] by simp [hj]]
      exact List.getElem_mem hj
    · obtain ⟨j, hj, e⟩ := List.getElem_of_mem hy
      exact ⟨j, hj, by rw [← e]; simp [hj]⟩
section
variable {o e f : Expr} {to : TE} {t : TA} {apos cpos : Pos}
end
end
end L2

set_option Elab.async false
set_option linter.all false
set_option maxRecDepth 100000
set_option maxHeartbeats 2000000
namespace M05
open PySem PySem.Spec L2 PyProof.Rows LmTxt M02
def ex (N l : Int) : Nat := 2 ^ (N - l).toNat
def W (N : Int) (ls : List Int) : Nat := (ls.map (ex N)).sum
theorem W_perm {N : Int} {a b : List Int} (h : a.Perm b) : W N a = W N b := (h.map (ex N)).sum_nat
theorem W_cons (N l : Int) (ls : List Int) : W N (l :: ls) = ex N l + W N ls := by unfold W; rw [List.map_cons, List.sum_cons]
theorem W_snoc (N l : Int) (ls : List Int) : W N (ls ++ [l]) = W N ls + ex N l := by unfold W; rw [List.map_append, List.sum_append]; simp
theorem ex_pos (N l : Int) : 0 < ex N l := Nat.pow_pos (by decide)
theorem ex_up {N l : Int} (h : l ≤ N) : ex N (l - 1) = 2 * ex N l := by
  unfold ex
  have : (N - (l - 1)).toNat = (N - l).toNat + 1 := by omega
  rw [this, Nat.pow_succ]
  omega
/-- what lies above d has a factor of twice the one of d -/
theorem W_even {N d : Int} (hd : d ≤ N) : ∀ r : List Int, (∀ l ∈ r, l < d) → ∃ q, W N r = 2 * ex N d * q
  | [], _ => ⟨0, rfl⟩
  | l :: r, h => by
    obtain ⟨q, e⟩ := W_even hd r fun x hx => h x (List.mem_cons_of_mem _ hx)
    have hl := h l List.mem_cons_self
    refine ⟨2 ^ (d - 1 - l).toNat + q, ?_⟩
    rw [W_cons, e, Nat.mul_add]
    congr 1
    unfold ex
    have : (N - l).toNat = (N - d).toNat + 1 + (d - 1 - l).toNat := by omega
    rw [this, Nat.pow_add, Nat.pow_succ]
    congr 1
    omega
theorem W_ge {N : Int} : ∀ {r : List Int} {l : Int}, l ∈ r → ex N l ≤ W N r
  | x :: r, l, h => by
    rw [W_cons]
    rcases List.mem_cons.mp h with q | q
    · rw [q]; omega
    · have := W_ge (N := N) q
      omega
theorem lone {N d : Int} {ls : List Int} (hN : 0 ≤ N) (hd : d ∈ ls) (hmax : ∀ l ∈ ls, l ≤ d) (hdN : d ≤ N) (h2 : 2 ≤ ls.length) (hc : ls.count d = 1) : W N ls ≠ 2 ^ N.toNat := by
  intro hW
  have p := List.perm_cons_erase hd
  rw [W_perm p, W_cons] at hW
  have hr : ∀ l ∈ ls.erase d, l < d := fun l hl => by
    have h1 := hmax l (List.mem_of_mem_erase hl)
    have h3 : l ≠ d := fun e => by
      subst e
      have h4 := List.count_erase_self (a := l) (l := ls)
      have h5 := List.count_pos_iff.mpr hl
      omega
    omega
  obtain ⟨q, e⟩ := W_even hdN _ hr
  by_cases h : 1 ≤ d
  · rw [e] at hW
    have e2 : 2 ^ N.toNat = ex N d * 2 ^ d.toNat := by
      unfold ex
      rw [← Nat.pow_add]
      congr 1
      omega
    rw [e2] at hW
    have e3 : ex N d * (1 + 2 * q) = ex N d * 2 ^ d.toNat := by
      rw [← hW, Nat.mul_add, Nat.mul_one]
      congr 1
      rw [Nat.mul_comm 2 (ex N d), Nat.mul_assoc]
    have e4 := Nat.eq_of_mul_eq_mul_left (ex_pos N d) e3
    have e5 : d.toNat = (d.toNat - 1) + 1 := by omega
    rw [e5, Nat.pow_succ] at e4
    omega
  · have hl : 1 ≤ (ls.erase d).length := by rw [List.length_erase_of_mem hd]; omega
    obtain ⟨x, hx⟩ := List.exists_mem_of_length_pos (by omega : 0 < (ls.erase d).length)
    have h6 := W_ge (N := N) hx
    have h7 := hr x hx
    have h8 : 2 ^ N.toNat ≤ ex N x := Nat.pow_le_pow_right (by decide) (by omega)
    have := ex_pos N d
    omega
/-- the two deepest as one -/
def red (ls : List Int) (d : Int) : List Int := ((ls.erase d).erase d) ++ [d - 1]
theorem red_W {N d : Int} {ls : List Int} (hdN : d ≤ N) (hc : 2 ≤ ls.count d) : W N (red ls d) = W N ls := by
  have h1 : d ∈ ls := List.count_pos_iff.mp (by omega)
  have h2 : d ∈ ls.erase d := List.count_pos_iff.mp (by rw [List.count_erase_self]; omega)
  have p := (List.perm_cons_erase h1).trans ((List.perm_cons_erase h2).cons d)
  rw [W_perm p, W_cons, W_cons]
  unfold red
  rw [W_snoc, ex_up hdN]
  omega
theorem red_len {d : Int} {ls : List Int} (hc : 2 ≤ ls.count d) : (red ls d).length + 1 = ls.length := by
  have h1 : d ∈ ls := List.count_pos_iff.mp (by omega)
  have h2 : d ∈ ls.erase d := List.count_pos_iff.mp (by rw [List.count_erase_self]; omega)
  unfold red
  rw [List.length_append, List.length_erase_of_mem h2, List.length_erase_of_mem h1]
  have h3 := List.length_pos_of_mem h1
  have h4 := List.length_pos_of_mem h2
  rw [List.length_erase_of_mem h1] at h4
  simp
  omega
theorem red_le {N d : Int} {ls : List Int} (h : ∀ l ∈ ls, l ≤ N) (hd : d ≤ N) : ∀ l ∈ red ls d, l ≤ N := fun l hl => by
  rcases List.mem_append.mp hl with q | q
  · exact h l (List.mem_of_mem_erase (List.mem_of_mem_erase q))
  · rw [List.mem_singleton.mp q]; omega
theorem one_W {N x : Int} (hN : 0 ≤ N) (hx : x ≤ N) : W N [x] = 2 ^ N.toNat ↔ x = 0 := by
  have e : W N [x] = ex N x := by unfold W; simp
  rw [e]
  unfold ex
  constructor
  · intro h
    have : (N - x).toNat = N.toNat := by
      rcases Nat.lt_trichotomy (N - x).toNat N.toNat with c | c | c
      · have := Nat.pow_lt_pow_right (a := 2) (by decide) c
        omega
      · exact c
      · have := Nat.pow_lt_pow_right (a := 2) (by decide) c
        omega
    omega
  · intro h
    rw [h, Int.sub_zero]
theorem deep_len {N : Int} (hN : 0 ≤ N) : ∀ (n : Nat) (ls : List Int), ls.length = n + 1 → (∀ l ∈ ls, l ≤ N) → W N ls = 2 ^ N.toNat → ∀ l ∈ ls, l ≤ (n : Int)
  | 0, ls, hl, hm, hW, l, h => by
    match ls, hl with
    | [x], _ =>
      have := (one_W hN (hm x List.mem_cons_self)).mp hW
      rw [List.mem_singleton.mp h]
      omega
  | n + 1, ls, hl, hm, hW, l, h => by
    obtain ⟨d, hd, hmax⟩ : ∃ d ∈ ls, ∀ l ∈ ls, l ≤ d := by
      have : ∀ (ls : List Int), ls ≠ [] → ∃ d ∈ ls, ∀ l ∈ ls, l ≤ d := by
        intro ls
        induction ls with
        | nil => intro h; exact absurd rfl h
        | cons x r ih =>
          intro _
          by_cases e : r = []
          · subst e; exact ⟨x, List.mem_cons_self, fun l hl => by rw [List.mem_singleton.mp hl]; exact Int.le_refl _⟩
          · obtain ⟨d, hd, hm⟩ := ih e
            by_cases c : x ≤ d
            · exact ⟨d, List.mem_cons_of_mem _ hd, fun l hl => (List.mem_cons.mp hl).elim (fun z => z ▸ c) (hm l)⟩
            · exact ⟨x, List.mem_cons_self, fun l hl => (List.mem_cons.mp hl).elim (fun z => by rw [z]; exact Int.le_refl _) (fun z => by have := hm l z; omega)⟩
      exact this ls (List.ne_nil_of_mem h)
    have hc : 2 ≤ ls.count d := by
      have h1 := List.count_pos_iff.mpr hd
      by_cases c : ls.count d = 1
      · exact absurd hW (lone hN hd hmax (hm d hd) (by omega) c)
      · omega
    have h3 := deep_len hN n (red ls d) (by have := red_len hc; omega) (red_le hm (hm d hd)) (by rw [red_W (hm d hd) hc]; exact hW) (d - 1) (List.mem_append.mpr (.inr List.mem_cons_self))
    have := hmax l h
    omega
theorem W_scale {N : Int} (M : Nat) : ∀ ls : List Int, (∀ l ∈ ls, l ≤ N) → W (N + M) ls = 2 ^ M * W N ls
  | [], _ => by unfold W; simp
  | l :: ls, h => by
    rw [W_cons, W_cons, W_scale M ls fun x hx => h x (List.mem_cons_of_mem _ hx), Nat.mul_add]
    congr 1
    unfold ex
    have := h l List.mem_cons_self
    rw [← Nat.pow_add]
    congr 1
    omega
theorem W_any {N N' : Int} {ls : List Int} (h0 : 0 ≤ N) (hle : N ≤ N') (h : ∀ l ∈ ls, l ≤ N) : W N' ls = 2 ^ N'.toNat ↔ W N ls = 2 ^ N.toNat := by
  obtain ⟨M, rfl⟩ : ∃ M : Nat, N' = N + M := ⟨(N' - N).toNat, by omega⟩
  rw [W_scale M ls h]
  have e : 2 ^ (N + M).toNat = 2 ^ M * 2 ^ N.toNat := by rw [← Nat.pow_add]; congr 1; omega
  rw [e]
  exact ⟨fun z => Nat.eq_of_mul_eq_mul_left (Nat.pow_pos (by decide)) z, fun z => by rw [z]⟩
/-! ### books -/
def UpS (ts : List Str) : Prop := ts.Pairwise fun a b => a.cps.toList < b.cps.toList
def sm (n : Nat) (ls : List Int) : Int := (ls.map fun l => (1 * 2 ^ ((n : Int)).toNat : Int) / 2 ^ l.toNat).sum
def Kr (ls : List Int) : Prop := (∀ l ∈ ls, 1 ≤ l) ∧ (∀ l ∈ ls, l < (ls.length : Int)) ∧ sm ls.length ls = 2 ^ ls.length
def Bk (ks : List G) : Prop := UpS (ks.map (·.2)) ∧ ((ks.length < 2 ∧ (ks.map (·.1) = [] ∨ ks.map (·.1) = [1])) ∨ (2 ≤ ks.length ∧ Kr (ks.map (·.1))))
theorem sm_W {n : Nat} : ∀ {ls : List Int}, (∀ l ∈ ls, 1 ≤ l ∧ l ≤ n) → sm n ls = (W n ls : Int)
  | [], _ => rfl
  | l :: ls, h => by
    have ih := sm_W fun x hx => h x (List.mem_cons_of_mem _ hx)
    have hl := h l List.mem_cons_self
    rw [W_cons]
    unfold sm at *
    rw [List.map_cons, List.sum_cons, ih]
    have e : (1 * 2 ^ ((n : Int)).toNat : Int) / 2 ^ l.toNat = ((ex n l : Nat) : Int) := by
      unfold ex
      have e1 : ((n : Int)).toNat = ((n : Int) - l).toNat + l.toNat := by omega
      rw [Int.one_mul, e1, Int.pow_add, Int.mul_ediv_cancel _ (Int.ne_of_gt (Int.pow_pos (by decide)))]
      push_cast
      rfl
    rw [e]
    push_cast
    rfl
/-- by any N at least as deep -/
theorem kr_W {ls : List Int} {N : Int} (hN : 0 ≤ N) (hm : ∀ l ∈ ls, l ≤ N) (h1 : ∀ l ∈ ls, 1 ≤ l) (h2 : 2 ≤ ls.length) : Kr ls ↔ W N ls = 2 ^ N.toNat := by
  have key : (∀ l ∈ ls, l < (ls.length : Int)) → (sm ls.length ls = 2 ^ ls.length ↔ W N ls = 2 ^ N.toNat) := fun hb => by
    rw [sm_W fun l hl => ⟨h1 l hl, by have := hb l hl; omega⟩]
    have e : ((W (ls.length : Int) ls : Nat) : Int) = 2 ^ ls.length ↔ W (ls.length : Int) ls = 2 ^ ((ls.length : Int)).toNat := by
      rw [Int.toNat_natCast]
      constructor
      · intro h; exact_mod_cast h
      · intro h; rw [h]; push_cast; rfl
    rw [e]
    rcases Int.le_total (ls.length : Int) N with c | c
    · exact (W_any (by omega) c fun l hl => by have := hb l hl; omega).symm
    · exact W_any hN c hm
  constructor
  · rintro ⟨_, hb, hs⟩
    exact (key hb).mp hs
  · intro hW
    have hb : ∀ l ∈ ls, l < (ls.length : Int) := fun l hl => by
      have := deep_len hN (ls.length - 1) ls (by omega) hm hW l hl
      omega
    exact ⟨h1, hb, (key hb).mpr hW⟩
end M05

set_option Elab.async false
set_option linter.all false
set_option maxRecDepth 100000
set_option maxHeartbeats 2000000
namespace LmG
open PySem PySem.Spec L2 PyProof.Rows LmTxt M02 M05
/-! ### lists of texts, of numbers: equal or not -/
theorem rd_strs {K : PySem.W.Frag} {H : Hp} : ∀ ts : List Str, RdAll K H (ts.map V.str) (ts.map PyData.str)
  | [] => .nil
  | n :: ns => .cons (.str n) (rd_strs ns)
theorem lay_strs : ∀ ts : List Str, (∀ t ∈ ts, PyData.strOk t = true) → PyData.canLayAll0 (ts.map PyData.str) = true
  | [], _ => by simp [PyData.canLayAll0]
  | n :: ns, h => by
    have h1 := h n List.mem_cons_self
    have h2 := lay_strs ns fun t ht => h t (List.mem_cons_of_mem _ ht)
    simp [PyData.canLayAll0, PyData.canLay0, h1, h2]
theorem dep_strs : ∀ ts : List Str, PyData.depthAll (ts.map PyData.str) = 0
  | [] => by simp [PyData.depthAll]
  | n :: ns => by simp [PyData.depthAll, PyData.depth]; exact dep_strs ns
theorem sh_strs {ts : List Str} (h : ∀ t ∈ ts, PyData.strOk t = true) : SeqAt.shaped (.list (ts.map PyData.str)) = true := by simp [SeqAt.shaped, PyData.canLay0, PyData.depth, lay_strs ts h, dep_strs]
theorem mix_strs : ∀ ts us : List Str, SeqAt.noMixAll (ts.map PyData.str) (us.map PyData.str) = true
  | [], [] => by simp [SeqAt.noMixAll]
  | [], _ :: _ => by simp [SeqAt.noMixAll]
  | _ :: _, [] => by simp [SeqAt.noMixAll]
  | t :: ts, u :: us => by simp [SeqAt.noMixAll, SeqAt.noMix]; exact mix_strs ts us
theorem mix_ints : ∀ ts us : List Int, SeqAt.noMixAll (ts.map PyData.int) (us.map PyData.int) = true
  | [], [] => by simp [SeqAt.noMixAll]
  | [], _ :: _ => by simp [SeqAt.noMixAll]
  | _ :: _, [] => by simp [SeqAt.noMixAll]
  | t :: ts, u :: us => by simp [SeqAt.noMixAll, SeqAt.noMix]; exact mix_ints ts us
theorem same_strs : ∀ ts us : List Str, sameAll (ts.map PyData.str) (us.map PyData.str) = decide (ts = us)
  | [], [] => by simp [sameAll]
  | [], _ :: _ => by simp [sameAll]
  | _ :: _, [] => by simp [sameAll]
  | t :: ts, u :: us => by
    rw [List.map_cons, List.map_cons, sameAll, same_strs ts us, same]
    by_cases h : t = u
    · subst h
      by_cases h2 : ts = us <;> simp [h2]
    · simp [h]
theorem same_ints : ∀ ts us : List Int, sameAll (ts.map PyData.int) (us.map PyData.int) = decide (ts = us)
  | [], [] => by simp [sameAll]
  | [], _ :: _ => by simp [sameAll]
  | _ :: _, [] => by simp [sameAll]
  | t :: ts, u :: us => by
    rw [List.map_cons, List.map_cons, sameAll, same_ints ts us, same]
    by_cases h : t = u
    · subst h
      by_cases h2 : ts = us <;> simp [h2]
    · simp [h]
/-! ### texts that rise -/
theorem up_of : ∀ (ys : List Str) (p : Str), risingS p ys = true → (p :: ys).Nodup → UpS (p :: ys)
  | [], p, _, _ => List.pairwise_singleton _ _
  | c :: cs, p, h, nd => by
    have h' : (!ltCps c.cps.toList p.cps.toList && risingS c cs) = true := h
    rw [Bool.and_eq_true, ltCps_eq] at h'
    have nd' := List.nodup_cons.mp nd
    have ih := up_of cs c h'.2 nd'.2
    have h1 : ¬ c.cps.toList < p.cps.toList := by simpa using h'.1
    have h2 : p ≠ c := fun e => nd'.1 (e ▸ List.mem_cons_self)
    have hpc : p.cps.toList < c.cps.toList := by
      by_cases q : p.cps.toList < c.cps.toList
      · exact q
      · exact absurd (str_inj (List.le_antisymm (List.not_lt.mp h1) (List.not_lt.mp q))) h2
    refine List.pairwise_cons.mpr ⟨fun d hd => ?_, ih⟩
    rcases List.mem_cons.mp hd with e | hd
    · rw [e]; exact hpc
    · exact List.lt_trans hpc ((List.pairwise_cons.mp ih).1 d hd)
theorem up_sorted {ys : List Str} (h : sortedS ys = true) (nd : ys.Nodup) : UpS ys := by
  cases ys with
  | nil => exact List.Pairwise.nil
  | cons p ys => exact up_of ys p h nd
theorem up_eq : ∀ {a b : List Str}, UpS a → UpS b → (∀ y, y ∈ a ↔ y ∈ b) → a = b
  | [], [], _, _, _ => rfl
  | [], y :: b, _, _, h => absurd ((h y).mpr List.mem_cons_self) (by simp)
  | x :: a, [], _, _, h => absurd ((h x).mp List.mem_cons_self) (by simp)
  | x :: a, y :: b, ua, ub, h => by
    have a1 := List.pairwise_cons.mp ua
    have b1 := List.pairwise_cons.mp ub
    have e : x = y := by
      rcases List.mem_cons.mp ((h x).mp List.mem_cons_self) with q | q
      · exact q
      rcases List.mem_cons.mp ((h y).mpr List.mem_cons_self) with q2 | q2
      · exact q2.symm
      exact absurd (List.lt_trans (a1.1 y q2) (b1.1 x q)) (List.lt_irrefl _)
    subst e
    have : a = b := up_eq a1.2 b1.2 fun z => by
      have hz := h z
      have nx : ∀ {l : List Str}, (∀ d ∈ l, x.cps.toList < d.cps.toList) → x ∉ l := fun hl q => List.lt_irrefl _ (hl x q)
      by_cases c : z = x
      · subst c
        exact ⟨fun q => absurd q (nx a1.1), fun q => absurd q (nx b1.1)⟩
      · rw [List.mem_cons, List.mem_cons] at hz
        exact ⟨fun q => (hz.mp (.inr q)).elim (fun w => absurd w c) id, fun q => (hz.mpr (.inr q)).elim (fun w => absurd w c) id⟩
    rw [this]
theorem signs_up {ts ss ys : List Str} (nd : ss.Nodup) (hm : ∀ y, y ∈ ss ↔ y ∈ ts) (p : ys.Perm ss) (so : sortedS ys = true) : ts = ys ↔ UpS ts := by
  have uy := up_sorted so (p.nodup_iff.mpr nd)
  exact ⟨fun e => e ▸ uy, fun ut => up_eq ut uy fun y => ((hm y).symm.trans p.mem_iff.symm)⟩
end LmG

set_option Elab.async false
set_option linter.all false
set_option maxRecDepth 100000
set_option maxHeartbeats 2000000
namespace LmG
open PySem PySem.Spec L2 PyProof.Rows LmTxt M02
theorem cut_ints (ns : List Int) (lo hi : Option Int) : ∃ ms : List Int, cutV (ns.map V.int) lo hi = ms.map V.int ∧ ms.length ≤ HT.sIx ns.length ns.length hi - HT.sIx ns.length 0 lo ∧ ms.length ≤ ns.length := by
  refine ⟨(ns.drop (HT.sIx ns.length 0 lo)).take (HT.sIx ns.length ns.length hi - HT.sIx ns.length 0 lo), ?_, ?_, ?_⟩
  · unfold cutV
    rw [List.length_map, List.map_take, List.map_drop]
  · rw [List.length_take]
    omega
  · rw [List.length_take, List.length_drop]
    omega
theorem cut_to (xs : List V) {k : Int} (h0 : 0 ≤ k) (h1 : k ≤ xs.length) : cutV xs none (some k) = xs.take k.toNat := by
  unfold cutV
  have e1 : HT.sIx xs.length 0 none = 0 := rfl
  have e2 : HT.sIx xs.length xs.length (some k) = k.toNat := by
    show (if k < 0 then (k + (xs.length : Int)).toNat else min k.toNat xs.length) = k.toNat
    rw [if_neg (by omega)]
    omega
  rw [e1, e2, List.drop_zero, Nat.sub_zero]
theorem cut_from (xs : List V) {k : Int} (h0 : 0 ≤ k) (h1 : k ≤ xs.length) : cutV xs (some k) none = xs.drop k.toNat := by
  unfold cutV
  have e1 : HT.sIx xs.length xs.length none = xs.length := rfl
  have e2 : HT.sIx xs.length 0 (some k) = k.toNat := by
    show (if k < 0 then (k + (xs.length : Int)).toNat else min k.toNat xs.length) = k.toNat
    rw [if_neg (by omega)]
    omega
  rw [e1, e2]
  exact List.take_of_length_le (by rw [List.length_drop]; exact Nat.le_refl _)
end LmG

set_option Elab.async false
set_option linter.all false
set_option maxRecDepth 100000
set_option maxHeartbeats 2000000
namespace M06
open PySem PySem.Spec L2 PyProof.Rows LmTxt M02 M05 LmG
end M06

set_option maxRecDepth 100000
set_option maxHeartbeats 2000000
namespace LmDict
open PySem PySem.Spec L2 PyProof.Rows
theorem lk_list_keys : typeLookup (.type "list") "keys" = pure none := by rw [typeLookup_type, builtinLookup_eq_fast]; kernel_rfl
variable {prog : Program} {w : World} {A : Around} {E : Value → Shared → Prop} {s : Shared}
/-- a list has no keys -/
theorem keys_none {a : Addr} {o : Obj} {xs : Array Value} {k : Nat} {Q : Option Value → Shared → Prop} (hx : s.heap.get? a = some o) (hc : o.cls = .type "list") (hdat : o.data = .seq xs k) (hd : o.dict = none) (hA : A.handled = none)
    (h : ∀ h' tk, (∀ b ob, s.heap.get? b = some ob → h'.get? b = some ob) → Q none { s with heap := h', toks := tk }) :
    wpAny (model prog w) A (getAttr? (.ref a) "keys") Q E s := by
  obtain ⟨c, dct, dat, sl⟩ := o
  simp only at hc hdat hd
  subst hc hdat hd
  obtain ⟨hp, g, d, tk, os⟩ := s
  have hT : ∀ tk', (⟨hp, g, d, tk', os⟩ : Shared).TypeIs (.ref a) "list" := fun _ => ⟨_, hx, rfl⟩
  have f1 := sub_AttributeError
  have f3 := F.slot_list_getattribute.lookup
  have f4 := F.slot_list_getattribute.bind (.ref a)
  have f5 := am_list_getattr_none
  unfold getAttr? getAttrBy? getAttrBy
  repeat (any_goals (first | assumption | exact hT _ | ((with_reducible show wpAny _ _ (call (Value.builtin "list.__getattribute__") _ _) _ _ _); refine call_meets F.slot_list_getattribute (hT _) am_entry_list_getattribute (F.args_list_getattribute_2 _ _) (meets_getattribute_miss_list a xs k sl "keys" _ lk_list_keys (by decide) (by size_fits)) ⟨hx, hA, fun h' tk' e hx' => ?_⟩) | wp_step))
  obtain ⟨t', u', he⟩ := hx'.there
  have hTe : ∀ tk', (⟨h', g, d, tk', os⟩ : Shared).TypeIs (.ref e) "AttributeError" := fun _ => ⟨_, he, rfl⟩
  show wpAny _ _ (getattributeRaised _ _ _ _ _ _ _) _ _ _
  unfold getattributeRaised
  repeat (any_goals (first | assumption | exact hTe _ | wp_step))
  exact h _ _ hx'.keeps
theorem entry_upd_loop : entryFor table "dict.update.loop" = some Builtin.«dict.update.loop» := entryFor_of_tree (by kernel_rfl)
theorem plain_upd_loop : plainId "dict.update.loop" = true := by decide +kernel
section
variable {K : Type} [DecidableEq K] {knd : KeyKind prog w K} {R : Result → Shared → Prop}
/-- the pairs, one by one -/
def built (keys : Nat → K) (vals : Nat → Value) : Nat → List (K × Value)
  | 0 => []
  | i + 1 => stored (built keys vals i) (keys i) (vals i)
theorem upd_loop {d it l : Addr} {items : Array Value} (keys : Nat → K) (vals : Nat → Value) {h0 : Heap} (hh : A.handled = none) (hne : l ≠ it) (hd1 : d ≠ it) (hd2 : d ≠ l)
    (hitem : ∀ j (hj : j < items.size), ∃ a kv, items[j] = .ref a ∧ knd.is (keys j) kv = true ∧ a ≠ d ∧ a ≠ it ∧ IsTup h0 a #[kv, vals j]) (hsz : ∀ i, i ≤ items.size → (built keys vals i).length ≤ sizeLine) :
    ∀ (k i : Nat) (s : Shared), items.size - i = k → i ≤ items.size → s.heap.IsListIter it l i ∧ s.heap.IsList l items → s.heap.DictOf knd d (built keys vals i) → (∀ b o, b ≠ d → b ≠ it → h0.get? b = some o → s.heap.get? b = some o) →
    (∀ h' tk, h'.DictOf knd d (built keys vals items.size) → (∀ b o, b ≠ d → b ≠ it → h0.get? b = some o → h'.get? b = some o) → R (.ok (.ret .none)) { s with heap := h', toks := tk }) →
    codeAny (model prog w) A (.builtin "dict.update.loop" ⟨[.ref d, .ref it, rawInt i, .none], []⟩) R s := by
  have W := Walks.list (prog := prog) (w := w) (A := A.in1) hh it l hne items
  intro k
  induction k with
  | zero =>
    intro i s hk hi st hd k0 fin
    have e : i = items.size := by omega
    refine codeAny_builtin entry_upd_loop ?_
    rw [Around.under_plainId plain_upd_loop _]
    show wpAny _ A.in1 (pyNext (.ref it) >>= _) _ _ s
    refine wpAny_bind (W.done s _ _ (e ▸ st) fun h' tk hk' => ?_)
    show wpAny _ A.in1 (Builtin.Dict.addKeywords d [] >>= _) _ _ _
    refine wpAny_bind (wpAny_pure (wpAny_pure ?_))
    have hdn : d ∉ [it] := by simpa using hd1
    refine fin h' tk ?_ fun b o h1 h2 e' => hk' b o (by simpa using h2) (k0 b o h1 h2 e')
    rw [← e]
    exact hd.extBut (b := it) (fun a o ha ho => hk' a o (by simpa using ha) ho) hd1
  | succ k ih =>
    intro i s hk hi st hd k0 fin
    have hlt : i < items.size := by omega
    refine codeAny_builtin entry_upd_loop ?_
    rw [Around.under_plainId plain_upd_loop _]
    show wpAny _ A.in1 (pyNext (.ref it) >>= _) _ _ s
    refine wpAny_bind (W.item i s _ _ hlt st fun v h' tk hP st' hk' => ?_)
    obtain ⟨a, kv, ea, hkey, h1, h2, o, ho, hc, n, hdat⟩ := hitem i hlt
    have hv : v = .ref a := by
      have : items[i]? = some v := hP
      rw [Array.getElem?_eq_getElem hlt, ea] at this
      exact (Option.some.inj this).symm
    subst hv
    have k1 : ∀ b o, b ≠ d → b ≠ it → h0.get? b = some o → h'.get? b = some o := fun b o q1 q2 e => hk' b o (by simpa using q2) (k0 b o q1 q2 e)
    have hd' : h'.DictOf knd d (built keys vals i) := hd.extBut (b := it) (fun a o ha ho => hk' a o (by simpa using ha) ho) hd1
    have ho' := k1 a o h1 h2 ho
    obtain ⟨hp, g, dr, tk0, os⟩ := s
    have hT : (⟨h', g, dr, tk, os⟩ : Shared).TypeIs (.ref a) "tuple" := ⟨_, ho', hc⟩
    refine wpAny_bind (wpAny_holding (wpAny_bind (wpAny_tryCatch ?_)))
    unfold Builtin.Dict.pairItems
    refine wpAny_bind (wpAny_typeOf hT ?_)
    rw [if_pos (by decide)]
    refine wpAny_bind (wpAny_seqItems ho' hdat (wpAny_pure ?_))
    show wpAny _ A.in1 (holding [kv, vals i] (dictSet d kv (vals i))) _ _ _
    refine wpAny_holding (wpAny_dictSet_pairs (s := ⟨h', g, dr, tk, os⟩) hkey hd' (fun h2' hd2' hs2' => ?_) (hsz i hi))
    have hc2 : ((i : Int) + 1) = ((i + 1 : Nat) : Int) := by push_cast; rfl
    rw [hc2]
    have k2 : ∀ b o, b ≠ d → h'.get? b = some o → h2'.get? b = some o := fun b o hb e => (hs2'.2 b hb).trans e
    refine wpAny_pure ⟨plainId_quiet plain_upd_loop _, ih (i + 1) _ (by omega) hlt (W.frame _ _ _ st' fun b hb o e => k2 b o (fun z => ?_) e) hd2' (fun b o q1 q2 e => k2 b o q1 (k1 b o q1 q2 e)) fun h'' tk'' hD hK => fin h'' tk'' hD hK⟩
    have hb' : b = it ∨ b = l := by simpa using hb
    rcases hb' with q | q
    · exact hd1 (z.symm.trans q)
    · exact hd2 (z.symm.trans q)
theorem call_dict_pairs {l : Addr} {o : Obj} {items : Array Value} {n0 : Nat} (keys : Nat → K) (vals : Nat → Value) {Q : Value → Shared → Prop} (hh : A.handled = none) (hx : s.heap.get? l = some o) (hc : o.cls = .type "list") (hdat : o.data = .seq items n0) (hdd : o.dict = none)
    (hitem : ∀ j (hj : j < items.size), ∃ a kv, items[j] = .ref a ∧ knd.is (keys j) kv = true ∧ IsTup s.heap a #[kv, vals j]) (hsz : ∀ i, i ≤ items.size → (built keys vals i).length ≤ sizeLine)
    (h : ∀ h' tk, h'.DictOf knd s.heap.objs.size (built keys vals items.size) → (∀ b o, s.heap.get? b = some o → h'.get? b = some o) → Q (.ref s.heap.objs.size) { s with heap := h', toks := tk }) :
    wpAny (model prog w) A (call (.type "dict") [.ref l]) Q E s := by
  refine callType_codes (Q₁ := fun obj s₁ => obj = .ref s.heap.objs.size ∧ s₁ = { s with heap := s.heap.push { cls := .type "dict", data := .dict #[] } }) F.kt_called_dict (F.kt_typeCall_dict_1 _) F.entry_dict_init (kt_code_dict_new _ ⟨rfl, rfl⟩) ?_
  rintro obj s₁ ⟨rfl, rfl⟩
  have hnew : (s.heap.push { cls := .type "dict", data := .dict #[] }).DictOf knd s.heap.objs.size [] := Heap.DictOf.new s.heap
  have hx' : (s.heap.push { cls := .type "dict", data := .dict #[] }).get? l = some o := Heap.get?_push_of_some _ hx
  have hTl : Shared.TypeIs { s with heap := s.heap.push { cls := .type "dict", data := .dict #[] } } (.ref l) "list" := ⟨_, hx', hc⟩
  refine ⟨hnew.typeIs, F.args_dict_init_2 _ _, ?_⟩
  unfold Builtin.«dict.__init__»
  refine wpAny_bind ?_
  unfold Builtin.Dict.selfAndRest
  refine wpAny_bind (wpAny_notOrdered_dict hnew.typeIs ?_)
  show wpAny _ _ (pure (s.heap.objs.size, [Value.ref l])) _ _ _
  refine wpAny_pure ?_
  show wpAny _ _ (Builtin.Dict.updateFrom "dict.__init__" s.heap.objs.size (.ref l) [] .none) _ _ _
  unfold Builtin.Dict.updateFrom
  refine wpAny_bind (wpAny_typeOf hTl ?_)
  rw [if_pos (by decide)]
  refine wpAny_bind (keys_none (A := A.in1.in1) hx' hc hdat hdd (by simpa using hh) fun h1 tk1 hk1 => ?_)
  rw [if_pos (show (none : Option Value).isNone = true from rfl)]
  refine wpAny_bind (wpAny_rule ?_)
  have hl1 : h1.IsList l items := ⟨o, hk1 _ _ hx', hc, n0, hdat⟩
  have hkeep : ∀ b ob, s.heap.get? b = some ob → h1.get? b = some ob := fun b ob e => hk1 b ob (Heap.get?_push_of_some _ e)
  have hdl : s.heap.objs.size < h1.objs.size := by
    obtain ⟨od, _, _, hod, _⟩ := hnew
    exact Heap.lt_size (hk1 _ _ hod)
  have hll : l < s.heap.objs.size := Heap.lt_size hx
  refine wpAny_bind (wpAny_pyIter_list hl1 (wpAny_pure ⟨plainId_quiet plain_upd_loop _, ?_⟩))
  have hd1 : s.heap.objs.size ≠ h1.objs.size := Nat.ne_of_lt hdl
  refine upd_loop (A := A.in1) (knd := knd) (h0 := h1) keys vals (by simpa using hh) (Nat.ne_of_lt (Nat.lt_trans hll hdl)) hd1 (Nat.ne_of_gt hll) (fun j hj => ?_) hsz _ 0 _ rfl (Nat.zero_le _) ⟨⟨_, Heap.get?_push_size _ rfl, rfl, rfl⟩, hl1.push _⟩ ?_ (fun b ob _ _ e => Heap.get?_push_of_some _ e) fun h' tk hD hK => ⟨rfl, h h' tk hD fun b ob e => ?_⟩
  · obtain ⟨a, kv, e1, e2, ot, ho, r⟩ := hitem j hj
    have hat := Heap.lt_size ho
    exact ⟨a, kv, e1, e2, Nat.ne_of_lt hat, Nat.ne_of_lt (Nat.lt_trans hat hdl), ot, hkeep _ _ ho, r⟩
  · exact (hnew.extBut (h' := h1) (b := h1.objs.size) (fun a ob _ e => hk1 a ob e) hd1).push _
  · have hb := Heap.lt_size e
    exact hK b ob (Nat.ne_of_lt hb) (Nat.ne_of_lt (Nat.lt_trans hb hdl)) (hkeep b ob e)
end
end LmDict

set_option Elab.async false
set_option linter.all false
set_option maxRecDepth 100000
set_option maxHeartbeats 2000000
namespace L2
open PySem PySem.Spec PyProof.Rows PySem.W PySem.SeqAt LmTxt
/-- the table of pairs, the first first -/
def putAll (ps : List (Key × V)) : List (Key × V) := ps.foldl (fun acc kv => putK acc kv.1 kv.2) []
theorem putAll_snoc (ps : List (Key × V)) (p : Key × V) : putAll (ps ++ [p]) = putK (putAll ps) p.1 p.2 := by unfold putAll; rw [List.foldl_append]; rfl
theorem putAll_len (ps : List (Key × V)) : (putAll ps).length ≤ ps.length := by
  suffices h : ∀ (ps acc : List (Key × V)), (ps.foldl (fun acc kv => putK acc kv.1 kv.2) acc).length ≤ acc.length + ps.length by
    have := h ps []
    simpa [putAll] using this
  intro ps
  induction ps with
  | nil => intro acc; simp
  | cons p ps ih =>
    intro acc
    have h1 := ih (putK acc p.1 p.2)
    have h2 := length_putK acc p.1 p.2
    rw [List.foldl_cons, List.length_cons]
    omega
def fK (kv : Key × V) : List V := [kV kv.1, kv.2]
section
variable {X : Cx}
theorem call_dictP (hc : X.calm = true) : CallR X (.type "dict") (fun xs H Q => ∃ (p : Addr) (zs : List (Addr × (Key × V))), xs = [.ref p] ∧ H p = some (.lst (refs zs)) ∧ Tb fK H zs ∧ zs.length ≤ 1000000 ∧ ∀ q, H q = none → Q (.ref q) (upd H q (.dK (putAll (zs.map (·.2)))))) := by
  intro pins s σ H xs us Q I r h
  obtain ⟨p, zs, rfl, hH, hT, hl, q⟩ := h
  obtain ⟨u, rfl, ru⟩ := vals1 r
  cases ru
  obtain ⟨z, its, n, rv, hln, e⟩ := I.lstM hH
  rw [refs_len] at hln z
  have hex : ∀ (j : Nat) (hj : j < zs.length), ∃ pv : Value × Value, IsTup s.heap zs[j].1 #[pv.1, pv.2] ∧ RelV (kV zs[j].2.1) pv.1 ∧ RelV zs[j].2.2 pv.2 := fun j hj => by
    obtain ⟨ts, rt, tt, _⟩ := I.tuple (SqT.of (K := X.K) (hT _ (List.getElem_mem hj)))
    cases rt with
    | cons r1 r2 =>
      cases r2 with
      | cons r3 r4 =>
        cases r4
        exact ⟨(_, _), tt, r1, r3⟩
  obtain ⟨pv, hpv⟩ : ∃ pv : Nat → Value × Value, ∀ (j : Nat) (hj : j < zs.length), IsTup s.heap zs[j].1 #[(pv j).1, (pv j).2] ∧ RelV (kV zs[j].2.1) (pv j).1 ∧ RelV zs[j].2.2 (pv j).2 := by
    classical
    refine ⟨fun j => if hj : j < zs.length then Classical.choose (hex j hj) else (.none, .none), fun j hj => ?_⟩
    simp only [hj, dif_pos]
    exact Classical.choose_spec (hex j hj)
  have rel : ∀ i, i ≤ zs.length → KV (putAll ((zs.map (·.2)).take i)) (LmDict.built (fun j => ((zs.map (·.2)).getD j (.inl 0, .non)).1) (fun j => (pv j).2) i) := by
    intro i
    induction i with
    | zero => intro _; exact .nil
    | succ i ih =>
      intro hi
      have hi' : i < zs.length := hi
      have e1 : (zs.map (·.2)).take (i + 1) = (zs.map (·.2)).take i ++ [zs[i].2] := by rw [List.take_add_one, List.getElem?_map, List.getElem?_eq_getElem hi']; rfl
      have e2 : (zs.map (·.2)).getD i (.inl 0, .non) = zs[i].2 := by simp [hi']
      rw [e1, putAll_snoc]
      show KV _ (stored _ ((zs.map (·.2)).getD i (.inl 0, .non)).1 (pv i).2)
      rw [e2]
      exact (ih (by omega)).put _ (hpv i hi').2.2
  have hsz : its.toArray.size = zs.length := by rw [List.size_toArray]; exact hln.symm
  have lenb : ∀ i, i ≤ zs.length → (LmDict.built (fun j => ((zs.map (·.2)).getD j (.inl 0, .non)).1) (fun j => (pv j).2) i).length ≤ sizeLine := fun i hi => by
    rw [← (rel i hi).length]
    have := putAll_len ((zs.map (·.2)).take i)
    rw [List.length_take, List.length_map] at this
    have hs : sizeLine = 16777216 := sizeLine_eq
    omega
  refine LmDict.call_dict_pairs (knd := mixKind X.prog X.w) (fun j => ((zs.map (·.2)).getD j (.inl 0, .non)).1) (fun j => (pv j).2) (I.ok.hd hc) e rfl rfl rfl (fun j hj => ?_) (fun i hi => lenb i (by omega)) fun h' tk hD hk => ?_
  · have hj' : j < zs.length := by omega
    obtain ⟨v, hv, rv'⟩ := rv.get (refs_get hj')
    cases rv'
    have ej : its.toArray[j] = .ref zs[j].1 := by
      have := (List.getElem?_eq_some_iff.mp hv).2
      simpa using this
    refine ⟨zs[j].1, (pv j).1, ej, ?_, (hpv j hj').1⟩
    have e2 : (zs.map (·.2)).getD j (.inl 0, .non) = zs[j].2 := by simp [hj']
    show (mixKind X.prog X.w).is ((zs.map (·.2)).getD j (.inl 0, .non)).1 (pv j).1 = true
    rw [e2]
    exact kV_is (hpv j hj').2.1
  · rw [hsz] at hD
    have rz := rel zs.length (Nat.le_refl _)
    rw [List.take_of_length_le (by rw [List.length_map]; exact Nat.le_refl _)] at rz
    have hz2 : (putAll (zs.map (·.2))).length ≤ sizeLine := by
      have := putAll_len (zs.map (·.2))
      rw [List.length_map] at this
      have hs : sizeLine = 16777216 := sizeLine_eq
      omega
    exact ⟨.ref s.heap.objs.size, _, I.laid hk (Nat.le_refl _) (dk_new hz2 (beq_eq_false_iff_ne.mpr (Ne.symm (Nat.ne_of_lt I.big))) rz hD), rfl, q _ (I.hok.fresh (Nat.le_refl _))⟩
end
end L2

namespace M08

section
variable {α : Type} {cs : List (List Nat × α)} {tab : List Nat → Option α} {L : Nat}
end
end M08

set_option Elab.async false
set_option linter.all false
set_option maxRecDepth 100000
set_option maxHeartbeats 2000000
namespace M08
open PySem PySem.Spec L2 PyProof.Rows LmTxt M02 M05 M06 LmG
/-! ### the codes of a book -/
theorem subAt_one (x : Str) (c i : Nat) : Builtin.Str.subAt x (one c) i = true ↔ x.cps.toList[i]? = some c := by
  unfold Builtin.Str.subAt
  rw [beq_iff_eq]
  have e : (x.cps.extract i (i + (one c).length)).toList = (x.cps.toList.drop i).take 1 := by
    show (x.cps.extract i (i + 1)).toList = _
    simp
  constructor
  · intro h
    rw [h] at e
    have e2 : [c] = (x.cps.toList.drop i).take 1 := e
    cases q : x.cps.toList.drop i with
    | nil => rw [q] at e2; cases e2
    | cons y r =>
      rw [q] at e2
      have e3 : c = y := by simpa using e2
      have := congrArg (·[0]?) q
      simp only [List.getElem?_drop, Nat.add_zero] at this
      rw [this, e3]
      rfl
  · intro h
    apply Array.toList_inj.mp
    rw [e]
    have hlt := (List.getElem?_eq_some_iff.mp h).1
    rw [List.drop_eq_getElem_cons hlt]
    have := (List.getElem?_eq_some_iff.mp h).2
    rw [this]
    rfl
/-! ### sorted in one way -/
/-! ### values of a table -/
theorem mem_val {ps : List (Key × V)} (nd : (ps.map (·.1)).Nodup) : ∀ {k : Key} {v : V}, valV ps k = some v ↔ (k, v) ∈ ps := by
  induction ps with
  | nil => intro k v; exact ⟨(fun h => by cases h), (fun h => nomatch h)⟩
  | cons p r ih =>
    intro k v
    have nd' := List.nodup_cons.mp nd
    by_cases e : p.1 = k
    · rw [valV_pos e]
      constructor
      · intro h
        cases h
        rw [← e]
        exact List.mem_cons_self
      · intro h
        rcases List.mem_cons.mp h with q | q
        · rw [← q]
        · exact absurd (List.mem_map.mpr ⟨(k, v), q, e.symm⟩) nd'.1
    · rw [valV_neg e, ih nd'.2]
      constructor
      · exact List.mem_cons_of_mem _
      · intro h
        rcases List.mem_cons.mp h with q | q
        · rw [← q] at e; exact absurd rfl e
        · exact q
theorem val_none {ps : List (Key × V)} {k : Key} (h : k ∉ ps.map (·.1)) : valV ps k = none := by
  induction ps with
  | nil => rfl
  | cons p r ih =>
    rw [List.map_cons] at h
    rw [valV_neg (fun e => h (by rw [← e]; exact List.mem_cons_self))]
    exact ih fun z => h (List.mem_cons_of_mem _ z)
theorem put_nd : ∀ (ps acc : List (Key × V)), ((acc ++ ps).map (·.1)).Nodup → ps.foldl (fun acc kv => putK acc kv.1 kv.2) acc = acc ++ ps
  | [], acc, _ => by simp
  | p :: ps, acc, nd => by
    rw [List.map_append, List.map_cons] at nd
    have hk : p.1 ∉ acc.map (·.1) := fun z => (List.nodup_append.mp nd).2.2 _ z _ List.mem_cons_self rfl
    rw [List.foldl_cons, putK_new _ (val_none hk), put_nd ps (acc ++ [(p.1, p.2)])]
    · rw [List.append_assoc]; rfl
    · rw [List.append_assoc, List.map_append, List.map_append]
      exact nd
theorem putAll_nd {ps : List (Key × V)} (nd : (ps.map (·.1)).Nodup) : L2.putAll ps = ps := by
  have := put_nd ps [] nd
  simpa [L2.putAll] using this
/-! ### what is true of the codes of a book -/
theorem bk_pos {ks : List G} (h : Bk ks) : ∀ k ∈ ks, 1 ≤ k.1 ∧ k.1 ≤ ks.length := fun k hk => by
  have hm : k.1 ∈ ks.map (·.1) := List.mem_map.mpr ⟨k, hk, rfl⟩
  have hp := List.length_pos_of_mem hk
  rcases h.2 with ⟨_, q | q⟩ | ⟨_, q⟩
  · rw [q] at hm; cases hm
  · rw [q] at hm
    have := List.mem_singleton.mp hm
    omega
  · have h1 := q.1 _ hm
    have h2 := q.2.1 _ hm
    rw [List.length_map] at h2
    omega
end M08

set_option Elab.async false
set_option linter.all false
set_option maxRecDepth 100000
set_option maxHeartbeats 2000000
namespace M08
open PySem PySem.Spec L2 PyProof.Rows LmTxt M02 M05 M06 LmG
/-! ### grown books -/
def Wh (ls : List Int) : Prop := (∀ l ∈ ls, 1 ≤ l ∧ l ≤ 63) ∧ W 63 ls = 2 ^ 63
theorem W_app (N : Int) (a b : List Int) : W N (a ++ b) = W N a + W N b := by unfold W; rw [List.map_append, List.sum_append]
theorem wh_two : Wh [1, 1] := ⟨fun l h => by simp at h; omega, by unfold W ex; rfl⟩
theorem wh_split {ls : List Int} (h : Wh ls) {i : Nat} (hi : i < ls.length) (h9 : ls[i] < 9) : Wh (ls.take i ++ [ls[i] + 1, ls[i] + 1] ++ ls.drop (i + 1)) := by
  have hm := h.1 ls[i] (List.getElem_mem hi)
  refine ⟨fun l hl => ?_, ?_⟩
  · rcases List.mem_append.mp hl with q | q
    · rcases List.mem_append.mp q with q | q
      · exact h.1 l (List.mem_of_mem_take q)
      · have : l = ls[i] + 1 := by simpa using q
        omega
    · exact h.1 l (List.mem_of_mem_drop q)
  · have e : ls = ls.take i ++ ([ls[i]] ++ ls.drop (i + 1)) := by
      rw [List.singleton_append, ← List.drop_eq_getElem_cons hi, List.take_append_drop]
    have e1 := h.2
    rw [e, W_app, W_app] at e1
    rw [W_app, W_app, ← e1]
    have e2 := ex_up (N := 63) (l := ls[i] + 1) (by omega)
    rw [show ls[i] + 1 - 1 = ls[i] by omega] at e2
    have e3 : W 63 [ls[i] + 1, ls[i] + 1] = ex 63 (ls[i] + 1) + ex 63 (ls[i] + 1) := by unfold W; simp
    have e4 : W 63 [ls[i]] = ex 63 ls[i] := by unfold W; simp
    rw [e3, e4, e2]
    omega
def upTo (k : Nat) : List Int := (List.range k).map fun j => ((j : Nat) : Int) + 1
theorem upTo_succ (k : Nat) : upTo (k + 1) = upTo k ++ [(k : Int) + 1] := by unfold upTo; rw [List.range_succ, List.map_append]; rfl
theorem upTo_len (k : Nat) : (upTo k).length = k := by unfold upTo; simp
theorem upTo_W : ∀ k : Nat, k ≤ 62 → W 63 (upTo (k + 1)) + ex 63 ((k : Int) + 1) = 2 ^ 63
  | 0, _ => by unfold W ex upTo; rfl
  | k + 1, h => by
    have ih := upTo_W k (by omega)
    rw [upTo_succ, W_app]
    have e2 := ex_up (N := 63) (l := ((k + 1 : Nat) : Int) + 1) (by omega)
    rw [show ((k + 1 : Nat) : Int) + 1 - 1 = (k : Int) + 1 by omega] at e2
    have e4 : W 63 [((k + 1 : Nat) : Int) + 1] = ex 63 (((k + 1 : Nat) : Int) + 1) := by unfold W; simp
    rw [e4]
    omega
theorem wh_chain {k : Nat} (h1 : 1 ≤ k) (h2 : k ≤ 63) : Wh (upTo k ++ [(k : Int)]) := by
  obtain ⟨j, rfl⟩ : ∃ j, k = j + 1 := ⟨k - 1, by omega⟩
  refine ⟨fun l hl => ?_, ?_⟩
  · rcases List.mem_append.mp hl with q | q
    · unfold upTo at q
      obtain ⟨i, hi, rfl⟩ := List.mem_map.mp q
      have := List.mem_range.mp hi
      omega
    · have : l = ((j + 1 : Nat) : Int) := by simpa using q
      omega
  · have := upTo_W j (by omega)
    rw [W_app]
    have e4 : W 63 [((j + 1 : Nat) : Int)] = ex 63 ((j : Int) + 1) := by unfold W; simp
    rw [e4]
    exact this
def GL (ls : List Int) : Prop := ls = [1] ∨ (2 ≤ ls.length ∧ Wh ls)
theorem up_ones {cs : List Nat} (h : cs.Pairwise (· < ·)) : UpS (cs.map one) := List.pairwise_map.mpr (h.imp fun {a b} q => (lt1 a b).mpr q)
theorem bk_nil : Bk [] := ⟨List.Pairwise.nil, .inl ⟨by decide, .inl rfl⟩⟩
theorem bk_of {ls : List Int} {cs : List Nat} (hc : cs.Pairwise (· < ·)) (hl : ls.length = cs.length) (h : GL ls) : Bk (ls.zip (cs.map one)) := by
  have e1 : (ls.zip (cs.map one)).map (·.1) = ls := List.map_fst_zip (by rw [List.length_map]; omega)
  have e2 : (ls.zip (cs.map one)).map (·.2) = cs.map one := List.map_snd_zip (by rw [List.length_map]; omega)
  have e3 : (ls.zip (cs.map one)).length = ls.length := by rw [List.length_zip, List.length_map]; omega
  refine ⟨by rw [e2]; exact up_ones hc, ?_⟩
  rw [e1, e3]
  rcases h with rfl | ⟨h2, h⟩
  · exact .inl ⟨by decide, .inr rfl⟩
  · exact .inr ⟨h2, (kr_W (N := 63) (by decide) (fun l hl => (h.1 l hl).2) (fun l hl => (h.1 l hl).1) h2).mpr h.2⟩
/-! ### menus -/
def MnOk (x : Str) : Prop := x.cps.toList.Pairwise (· < ·) ∧ ∀ c ∈ x.cps.toList, c < 127
theorem sl_mid (x : Str) {a b : Nat} (h1 : a ≤ b) (h2 : b ≤ x.length) : (Txt.slice x (some (a : Int)) (some (b : Int))).cps.toList = (x.cps.toList.drop a).take (b - a) := by
  have := StrLaws.sliceText_nat x h1 h2
  have e : Txt.slice x (some (a : Int)) (some (b : Int)) = StrLaws.sliceText x (some (a : Int)) (some (b : Int)) := rfl
  rw [e, this]
theorem MnOk.mid {x : Str} (h : MnOk x) {a b : Nat} (h1 : a ≤ b) (h2 : b ≤ x.length) : MnOk (Txt.slice x (some (a : Int)) (some (b : Int))) := by
  unfold MnOk
  rw [sl_mid x h1 h2]
  exact ⟨h.1.sublist ((List.take_sublist _ _).trans (List.drop_sublist _ _)), fun c hc => h.2 c (List.mem_of_mem_drop (List.mem_of_mem_take hc))⟩
def Menu3 (x : Str) : Prop := x.length = 92 ∧ MnOk x
end M08

set_option Elab.async false
set_option linter.all false
set_option maxRecDepth 100000
set_option maxHeartbeats 2000000
namespace M08
open PySem PySem.Spec L2 PyProof.Rows LmTxt M02 M05 M06 LmG
end M08

set_option Elab.async false
set_option linter.all false
set_option maxRecDepth 100000
set_option maxHeartbeats 2000000
namespace M08
open PySem PySem.Spec L2 PyProof.Rows LmTxt M02 M05 M06 LmG
def pd (k : G) : PyData := .tuple [.str k.2, .int k.1]
theorem rd_pairs {K : PySem.W.Frag} {H : Hp} : ∀ zs : List (Addr × G), Tb fL H zs → RdAll K H (refs zs) (zs.map fun z => pd z.2)
  | [], _ => .nil
  | z :: zs, h => .cons (rd_pair (h z List.mem_cons_self)) (rd_pairs zs fun y hy => h y (List.mem_cons_of_mem _ hy))
theorem lay_pairs : ∀ ks : List G, (∀ k ∈ ks, PyData.strOk k.2 = true) → PyData.canLayAll0 (ks.map pd) = true
  | [], _ => by simp [PyData.canLayAll0]
  | k :: ks, h => by
    have h1 := h k List.mem_cons_self
    have h2 := lay_pairs ks fun y hy => h y (List.mem_cons_of_mem _ hy)
    simp [PyData.canLayAll0, pd, PyData.canLay0, h1, h2]
theorem dep_pairs : ∀ ks : List G, PyData.depthAll (ks.map pd) ≤ 10
  | [] => by simp [PyData.depthAll]
  | k :: ks => by
    have h2 := dep_pairs ks
    simp [PyData.depthAll, pd, PyData.depth]
    omega
theorem sh_pairs {ks : List G} (h : ∀ k ∈ ks, PyData.strOk k.2 = true) : SeqAt.shaped (.list (ks.map pd)) = true := by
  have := dep_pairs ks
  simp [SeqAt.shaped, PyData.canLay0, PyData.depth, lay_pairs ks h]
  omega
section
variable {K : PySem.W.Frag}
end
/-! ### how long a text is told -/
/-! ### told and heard -/
end M08
namespace L2
open PySem PySem.Spec PyProof.Rows
theorem call_list_ofK {X : Cx} {K : PySem.W.Frag} (hK : X.K = K := by rfl) : CallR X (.type "list") (fun xs H Q => ∃ p ys, xs = [.ref p] ∧ (SqL K H p ys ∨ SqT K H p ys) ∧ ∀ l, H l = none → Q (.ref l) (upd H l (.lst ys))) := by
  subst hK
  exact call_list_of
end L2

set_option Elab.async false
set_option linter.all false
set_option maxRecDepth 100000
set_option maxHeartbeats 2000000
namespace L2
open PySem PySem.Spec PyProof.Rows PySem.W
section
variable {X : Cx} {pins : List (Addr × Obj)} {σ : St} {H : Hp} {s : Shared} {A : Around} {E : Value → Shared → Prop} {Q : Value → Shared → Prop} {b : Bool}
end
section
variable {X : Cx} {o e : Expr} {to : TE} {t : TA} {apos cpos : Pos}
end
section
variable {X : Cx} {e : Expr} {te : TE} {p p2 p3 tp pos : Pos}
end
end L2

set_option Elab.async false
set_option linter.all false
set_option maxRecDepth 100000
set_option maxHeartbeats 2000000
namespace M08
open PySem PySem.Spec L2 PyProof.Rows LmTxt M02 M05 M06 LmG
/-! ### two things that are the same, deep -/
/-! what is left to do -/
end M08
namespace L2
open PySem PySem.Spec PyProof.Rows
end L2

set_option Elab.async false
set_option linter.all false
set_option maxRecDepth 100000
set_option maxHeartbeats 4000000
namespace L2
open PySem PySem.Spec PyProof.Rows
/-! ## a comprehension whose element may raise -/
def compPostX (M : Model) (A : Around) (E : Value → Shared → Prop) (use : Option (Value → Sem Unit)) (Q : Value → Shared → Prop) (acc : Value) (cenv : Env) (r : Result) (s' : Shared) : Prop :=
  match r, use with
  | .ok _, none => ∃ m, s'.heap.Ns cenv.locals m ∧ ∀ h', Heap.SameBut cenv.locals s'.heap h' → Q acc { s' with heap := h' }
  | .ok _, some u => wpAny M A (u acc) (fun _ s'' => ∃ m, s''.heap.Ns cenv.locals m ∧ ∀ h', Heap.SameBut cenv.locals s''.heap h' → Q .none { s'' with heap := h' }) E s'
  | .error x, _ => ∃ m, s'.heap.Ns cenv.locals m ∧ ∀ h', Heap.SameBut cenv.locals s'.heap h' → wpAny M A (passOn "comprehension.variables-let-go" x cenv : Sem Value) (fun _ _ => False) E { s' with heap := h' }
theorem comprehensionX {M : Model} {A : Around} {E : Value → Shared → Prop} {s : Shared} {env : Env} {e : Expr} {scope : Scope} {pos : Pos} {newAcc first : Sem Value} {g : Comprehension} {gs : List Comprehension} {cl : List (Str × Addr)} {use : Option (Value → Sem Unit)}
    {Q : Value → Shared → Prop}
    (hcl : clausesOf e = g :: gs) (hs : ∀ x, foldedSetIterable g.iter env x = pure x) (hclos : closureFor scope env = pure cl)
    (hkind : scope.kind = .function) (hnames : ∀ x ∈ scope.names, x.2 = .local → scope.names.lookup x.1 = some .local)
    (h : wpAny M A first (fun x s₁ => wpAny M A (pyIter x) (fun it s₂ => wpAny M A newAcc (fun acc s₃ =>
      wpAny M A (newFunctionEnv scope env.globals cl [] env.qual none .none (some env)) (fun cenv s₄ =>
        codeAny M A (.compStart e 0 it acc { cenv with scope := relabel scope env }) (compPostX M A E use Q acc { cenv with scope := relabel scope env }) s₄) E s₃) E s₂) E s₁) E s) :
    wpAny M A (comprehension e scope env pos newAcc false first use) Q E s := by
  unfold comprehension
  rw [hclos, hcl]
  refine wpAny_bind (wpAny_mono h (fun x s₁ h₁ => wpAny_bind (wpAny_standAt (wpAny_bind (wpAny_of_eq (hs x) (wpAny_bind (wpAny_holding (wpAny_mono h₁ (fun it s₂ h₂ =>
    wpAny_standIf (wpAny_bind (wpAny_mono h₂ (fun acc s₃ h₃ => wpAny_bind (wpAny_pure (wpAny_bind (wpAny_mono h₃ (fun cenv s₄ h₄ => ?_) fun _ _ h' => h')))) fun _ _ h' => h')))
      fun _ _ h' => h'))))))) fun _ _ h' => h')
  dsimp only
  have hv : ∀ x ∈ (scope.names.filter fun x => (x.2 == .local || x.2 == .cell) && x.1 != (".0" : Str)).reverse, x.2 = .local →
      Env.kindOf { cenv with scope := relabel scope env } x.1 = some .local := fun x hx hl => lookup_relabel_local (hnames x (List.mem_filter.mp (List.mem_reverse.mp hx)).1 hl)
  have hv' : ∀ x ∈ (scope.names.filter fun x => (x.2 == .local || x.2 == .cell) && x.1 != (".0" : Str)).reverse.drop 1 ++ (scope.names.filter fun x => (x.2 == .local || x.2 == .cell) && x.1 != (".0" : Str)).reverse.take 1,
      x.2 = .local → Env.kindOf { cenv with scope := relabel scope env } x.1 = some .local := fun x hx hl => by
    rcases List.mem_append.mp hx with h1 | h1
    · exact hv x (List.mem_of_mem_drop h1) hl
    · exact hv x (List.mem_of_mem_take h1) hl
  refine wpAny_holding (wpAny_bind (wpAny_attempt (wpAny_holding (wpAny_run (codeAny_mono h₄ fun r s' hr => ?_)))))
  cases r with
  | ok f =>
    cases use with
    | none =>
      obtain ⟨m, hn, hr⟩ := hr
      exact wpAny_bind (wpAny_holding (wpAny_comp_letGo (cenv := { cenv with scope := relabel scope env }) hkind _ s' m hv hn fun h' m' _ hs' => wpAny_pure (hr h' hs')))
    | some u =>
      refine wpAny_bind (wpAny_rule (wpAny_bind (wpAny_holding (wpAny_mono hr (fun _ s'' hr' => ?_) fun _ _ h' => h'))))
      obtain ⟨m, hn, hr'⟩ := hr'
      exact wpAny_bind (wpAny_comp_letGo (cenv := { cenv with scope := relabel scope env }) hkind _ s'' m hv' hn fun h' m' _ hs' => wpAny_pure (hr' h' hs'))
  | error x =>
    have hr' : ∃ m, s'.heap.Ns cenv.locals m ∧ ∀ h', Heap.SameBut cenv.locals s'.heap h' → wpAny M A (passOn "comprehension.variables-let-go" x { cenv with scope := relabel scope env } : Sem Value) (fun _ _ => False) E { s' with heap := h' } := by cases use <;> exact hr
    obtain ⟨m, hn, hr⟩ := hr'
    exact wpAny_bind (wpAny_holding (wpAny_comp_letGo (cenv := { cenv with scope := relabel scope env }) hkind _ s' m hv hn fun h' m' _ hs' => wpAny_mono (hr h' hs') (fun _ _ f => f.elim) fun _ _ y => y))

/-- how an exception leaves the def itself -/
structure RaisesAs (X : Cx) (E : XK) : Prop where
  ex : X.ex = []
  stk : X.stack = X.env :: X.outer
  fr : X.env.frame = some X.env.locals
  out : ∀ e s', wpAny (model X.prog X.w) X.A (leaving X.env e) (fun _ s'' => CX1 X.prog X.w X.outer X.H₀ X.s₀ E e s'') (fun e' s'' => CX1 X.prog X.w X.outer X.H₀ X.s₀ E e' s'') s' → X.xe e s'
theorem raises1 {P : Program} {w : World} {K : PySem.W.Frag} {mg : Str → Option Value} {base : Heap} {N : List Str} {qual : Str} {scope : Scope} {f : Addr} {cd : Value} {A : Around} {outer : List Env} {s0 : Shared} {H0 : Hp} {E : XK} :
    RaisesAs (cxOf (CX1 P w) P w K mg base N qual scope f cd A outer s0 H0 E) E := ⟨rfl, rfl, rfl, fun _ _ h => h⟩

/-- the exception behind the frame's own mark -/
theorem Fly.held {P : Program} {w : World} {outer : List Env} {H H' : Hp} {s s' : Shared} {ea C : Addr} {B h2 : Heap} (F : Fly P w outer H s H' ea C s')
    (hfr : s'.heap.FunFrames B outer) (cov : Cov B (frs outer) H' s.heap s'.heap) (st : B.StaysIn h2) (up : s'.heap.UpToSlots h2) :
    Un (frs outer) [] H H' s.heap h2 ∧ HOk P w H' h2 ∧ Cov B (frs outer) H' s.heap h2 := by
  have kp : ∀ b o, s'.heap.get? b = some o → b ∉ frs outer → (H' b ≠ none ∨ ∃ o0, s.heap.get? b = some o0) → h2.get? b = some o := fun b o e h1 h3 => st b o (cov b o e h1 h3)
  have frm : ∀ b o, b ∈ frs outer → s'.heap.get? b = some o → ∃ sl, h2.get? b = some { o with slots := sl } := fun b o hb e => by
    obtain ⟨_, o', ho', hd⟩ := hfr.mem hb
    rw [e] at ho'; cases ho'
    exact up b o e hd
  refine ⟨⟨fun b o e n hb hx => ?_, fun b o e n hb hx => ?_, F.un.free, fun b o e hx => ?_, F.un.tups, F.un.frzs, F.un.tbls⟩, fun a u e => ?_, fun b o e hb h3 => ?_⟩
  · exact kp b o (F.un.keep b o e n hb hx) hb (.inr ⟨o, e⟩)
  · obtain ⟨sl, e1⟩ := F.un.slot b o e n hb hx
    obtain ⟨sl', e2⟩ := frm b _ hb e1
    exact ⟨sl', e2⟩
  · obtain ⟨o1, e1⟩ := F.un.there b o e hx
    by_cases hb : b ∈ frs outer
    · obtain ⟨sl, e2⟩ := frm b o1 hb e1
      exact ⟨_, e2⟩
    · exact ⟨o1, kp b o1 e1 hb (.inr ⟨o, e⟩)⟩
  · refine (F.hok a u e).stay (fun b o hb e1 => ?_) (fun _ q => q) fun _ _ q => q
    have ne : H' b ≠ none := by
      rcases hb with z | z
      · rw [z, e]; exact fun q => nomatch q
      · rw [z]; exact fun q => nomatch q
    exact kp b o e1 (fun z => ne (F.frf b z)) (.inl ne)
  · have h1 : ∃ o1, s'.heap.get? b = some o1 := h3.elim (fun z => by
      cases q : H' b with
      | none => exact absurd q z
      | some u => exact (F.hok b u q).there) (fun ⟨o0, e0⟩ => F.un.there b o0 e0 (by simp))
    obtain ⟨o1, e1⟩ := h1
    have e2 := cov b o1 e1 hb h3
    have e3 : h2.get? b = some o1 := st b o1 e2
    rw [e] at e3; cases e3
    exact e2

/-- the mark is set anew -/
theorem setFlight_held {M : Model} {A : Around} {E : Value → Shared → Prop} {s : Shared} {base : Heap} {l : List Env} {e L : Addr} {cls a0 : Value} {Q : Unit → Shared → Prop} (hh : Heap.HeldW base l e cls a0 L s.heap)
    (hQ : ∀ h', Heap.HeldW base l e cls a0 L h' → s.heap.UpToSlots h' → Q () { s with heap := h' }) : wpAny M A (setFlight (.ref e) (some L)) Q E s := by
  obtain ⟨hkb, hbe, hl, oe, vs, T, oT, ts, he, hcls, hd, h1, hnT, hTe, hT, hdT, h3⟩ := hh
  have hsz3 : 3 < ts.size := (Array.getElem?_eq_some_iff.mp h3).1
  have other : ∀ b, b ≠ T → (s.heap.update T (Obj.mapFields (·.setIfInBounds 3 ((some L : Option Addr).elim Value.none fun f => rawInt f)))).get? b = s.heap.get? b :=
    fun b hb => Heap.get?_update_other _ _ (Ne.symm hb)
  have noRecord : ∀ b o, s.heap.get? b = some o → (∀ vs, o.data ≠ .fields vs) → b ≠ T := fun b o hb hnf q => by
    rw [q, hT] at hb; injection hb with hb; subst hb; exact hnf ts hdT
  unfold setFlight
  refine wpAny_bind (wpAny_field he hd h1 ?_)
  rw [if_pos (show (Value.ref T != Value.none) = true from by simp)]
  refine wpAny_setField hT hdT hsz3 (hQ _ ⟨fun b o hbo => (other b fun q => by rw [q, hnT] at hbo; cases hbo).trans (hkb b o hbo), hbe, hl.of_keeps fun b o hb hnf => ⟨o, (other b (noRecord b o hb hnf)).trans hb, rfl⟩, ?_⟩ fun b o hb hnf => ⟨o.slots, (other b (noRecord b o hb hnf)).trans hb⟩)
  exact ⟨oe, vs, T, _, _, (other e (Ne.symm hTe)).trans he, hcls, hd, h1, hnT, hTe, Heap.get?_update_self _ hT (Obj.isFreed_of_fields (Obj.data_mapFields hdT _)), Obj.data_mapFields hdT _, by simp [hsz3]⟩

/-- fewer things are kept -/
theorem less_none {B B' : Heap} (hb : ∀ b o, B'.get? b = some o → B.get? b = some o) {a : Addr} (h : B.get? a = none) : B'.get? a = none := by
  cases q : B'.get? a with
  | none => rfl
  | some u => rw [hb _ _ q] at h; cases h
theorem frames_less {h B B' : Heap} (hb : ∀ b o, B'.get? b = some o → B.get? b = some o) : ∀ {l : List Env}, h.FunFrames B l → h.FunFrames B' l
  | [], _ => trivial
  | _ :: _, ⟨hk, ⟨L, o, hf, hn, ho, hd⟩, hr⟩ => ⟨hk, ⟨L, o, hf, less_none hb hn, ho, hd⟩, frames_less hb hr⟩
theorem held_less {h h' B : Heap} {C : Addr} {l : List Env} {e L : Addr} {cls a0 : Value} {m : Str → Option Value} (hh : Heap.HeldW B l e cls a0 L h) (hn : h.Ns C m) (hC : C ∉ frs l) (hs : Heap.SameBut C h h') : Heap.HeldW (PySem.W.hideAll B [C]) l e cls a0 L h' := by
  obtain ⟨f1, f2, f3, oe, vs, T, oT, ts, he, hcls, hd, h1, hnT, hTe, hT, hdT, h3⟩ := hh
  have less : ∀ b o, (PySem.W.hideAll B [C]).get? b = some o → B.get? b = some o := fun b o q => PySem.W.of_hideAll _ q
  have ne : ∀ b o vs, h.get? b = some o → o.data = .fields vs → b ≠ C := fun b o vs q q2 z => by
    obtain ⟨o', _, _, ho', hd', _⟩ := hn
    rw [z, ho'] at q; cases q
    rw [hd'] at q2; cases q2
  have neC : ∀ b o, (PySem.W.hideAll B [C]).get? b = some o → b ≠ C := fun b o q z => by
    rw [z, PySem.W.hideAll_none [C] (List.mem_cons_self)] at q; cases q
  refine ⟨fun b o q => (hs.2 b (neC b o q)).trans (f1 b o (less b o q)), less_none less f2, ?_, oe, vs, T, oT, ts, (hs.2 e (ne _ _ _ he hd)).trans he, hcls, hd, h1, less_none less hnT, hTe, (hs.2 T (ne _ _ _ hT hdT)).trans hT, hdT, h3⟩
  have : ∀ {l : List Env}, C ∉ frs l → h.FunFrames (PySem.W.hideAll B [C]) l → h'.FunFrames (PySem.W.hideAll B [C]) l := by
    intro l
    induction l with
    | nil => intro _ _; trivial
    | cons env r ih =>
      rintro hc ⟨hk, ⟨L', o, hf, hn', ho, hd'⟩, hr⟩
      have hL : L' ≠ C := fun z => hc (List.mem_filterMap.mpr ⟨env, List.mem_cons_self, by rw [hf, z]⟩)
      refine ⟨hk, ⟨L', o, hf, hn', (hs.2 L' hL).trans ho, hd'⟩, ih (fun z => hc ?_) hr⟩
      obtain ⟨x, hx, hx2⟩ := List.mem_filterMap.mp z
      exact List.mem_filterMap.mpr ⟨x, List.mem_cons_of_mem _ hx, hx2⟩
  exact this hC (frames_less less f3)

/-- the exception leaves the block and the def -/
theorem pass_out {X : Cx} {pins : List (Addr × Obj)} {σ : St} {H : Hp} {s : Shared} {E : XK} {scope : Scope} {cl : List (Str × Addr)} {C ea Cc : Addr} {a0 : Value} {B : Heap} {m : Str → Option Value} {use : Option (Value → Sem Unit)} {Q : Value → Shared → Prop} {acc : Value}
    (R : RaisesAs X E) (hn : s.heap.Ns C m) (I : Inv X pins σ H s) (n : NewC X pins H C) (hh : Heap.HeldW B X.stack ea (.ref Cc) a0 X.env.locals s.heap) (cov : Cov B (frs X.stack) H X.s₀.heap s.heap) (n1 : H ea = none) (n2 : X.s₀.heap.get? ea = none) (q : E (.ref Cc) none H) :
    compPostX (model X.prog X.w) X.A X.xe use Q acc (compEnvC scope cl C X.env) (.error (.ref ea)) s := by
  have hCs : C ∉ frs X.stack := fun z => (List.mem_cons.mp (I.stkSub C z)).elim (fun y => n.l y) fun y => by
    obtain ⟨_, o, ho, _⟩ := I.ok.funs.mem y
    exact absurd (Nat.lt_of_lt_of_le (Heap.lt_size ho) n.s) (Nat.lt_irrefl _)
  have goal : ∃ m, s.heap.Ns C m ∧ ∀ h', Heap.SameBut C s.heap h' → wpAny (model X.prog X.w) X.A (passOn "comprehension.variables-let-go" (.ref ea) (compEnvC scope cl C X.env) : Sem Value) (fun _ _ => False) X.xe { s with heap := h' } := by
    refine ⟨m, hn, fun h' hs => ?_⟩
    have I6 := n.go I hs
    have hh' := held_less hh hn hCs hs
    have cov' : Cov (PySem.W.hideAll B [C]) (frs X.stack) H X.s₀.heap h' := fun b o e hb h3 => by
      have hbC : b ≠ C := fun z => h3.elim (fun y => y (by rw [z]; exact n.h)) (fun ⟨o0, e0⟩ => by
        rw [z] at e0
        exact absurd (Nat.lt_of_lt_of_le (Heap.lt_size e0) n.s) (Nat.lt_irrefl _))
      rw [hs.2 b hbC] at e
      exact PySem.W.hideAll_get _ (cov b o e hb h3) (fun z => hbC (by simpa using z))
    obtain ⟨_, _, _, oe, vs, T, oT, ts, he, hcls, hd, h1, _⟩ := id hh'
    unfold PySem.passOn
    refine wpAny_bind (wpAny_field he hd h1 ?_)
    rw [if_neg (show ¬ ((Value.ref T == Value.none) = true) from by simp)]
    have fin : wpAny (model X.prog X.w) X.A (do setFlight (.ref ea) (compEnvC scope cl C X.env).frame; throw (Value.ref ea) : Sem Value) (fun _ _ => False) X.xe { s with heap := h' } := by
      have ef : (compEnvC scope cl C X.env).frame = some X.env.locals := R.fr
      rw [ef]
      refine wpAny_bind (setFlight_held hh' fun h2 hh2 up2 => wpAny_throw (R.out _ _ ?_))
      unfold leaving
      refine wpAny_bind (wpAny_noteFrame_againW R.fr hh2.2.2.2 ?_)
      refine wpAny_landsW hh2 fun h3 fl3 up3 => ?_
      have fl3' : Heap.FlyingW (PySem.W.hideAll B [C]) X.outer ea (.ref Cc) a0 h3 := by
        rw [R.stk] at fl3
        obtain ⟨k1, k2, ⟨_, _, k3⟩, k4⟩ := fl3
        exact ⟨k1, k2, k3, k4⟩
      exact ⟨ea, Cc, H, rfl, fly_out (s1 := { s with heap := h' }) R.ex R.stk R.fr I6 cov' fl3' (up2.trans up3) n1 n2, q⟩
    first
      | exact wpAny_bind (wpAny_pure fin)
      | exact fin
  cases use <;> exact goal

theorem compLoop_anyX {prog : Program} {w : World} {A : Around} {elt target iter : Expr} {ifs : List Expr} {scope : Scope} {pos : Pos} {it acc : Value} {env : Env} {R : Result → Shared → Prop} {s : Shared} (I : Nat → Shared → Prop)
    (turn : ∀ n s, I n s → wpAny (model prog w) A (pyNext it) (fun r s₁ => match r with
      | none => R (.ok .next) s₁
      | some v => wpAny (model prog w) A (letOwnedTupleGo target it v) (fun _ s₁' => wpAny (model prog w) A (assign target env v) (fun _ s₂ =>
          wpAny (model prog w) A (forIn ifs true fun c r => if r = true then do let ok ← isTrue c env (eval c env); pure (ForInStep.yield ok) else pure (ForInStep.yield r)) (fun ok s₃ =>
            if ok = true then wpAny (model prog w) A (eval elt env) (fun x s₄ =>
              wpAny (model prog w) A (call (.builtin "list.append") [acc, x]) (fun _ s₅ => ∃ m, m < n ∧ I m s₅) (notedBy (model prog w) A env fun e s' => R (.error e) s') s₄) (notedBy (model prog w) A env fun e s' => R (.error e) s') s₃
            else ∃ m, m < n ∧ I m s₃) (notedBy (model prog w) A env fun e s' => R (.error e) s') s₂) (notedBy (model prog w) A env fun e s' => R (.error e) s') s₁') (notedBy (model prog w) A env fun e s' => R (.error e) s') s₁) (notedBy (model prog w) A env fun e s' => R (.error e) s') s)
    (n : Nat) (h : I n s) : codeAny (model prog w) A (.compLoop (.ListComp elt [⟨target, iter, ifs, 0⟩] scope pos) 0 it acc env) R s := by
  refine codeAny_loop rfl I (fun n s hI => ?_) n h
  show wpAny _ A ((compTurn (.ListComp elt [⟨target, iter, ifs, 0⟩] scope pos) 0 it acc env).onRaise (fun x => do noteFrame x env; theTreesLotGoes x)) _ _ s
  refine wpAny_noted ?_
  rw [compTurn_list]
  refine wpAny_bind (wpAny_standAt (wpAny_bind (wpAny_mono (turn n s hI) (fun r s₁ h₁ => ?_) fun _ _ h' => h')))
  cases r with
  | none => exact wpAny_pure h₁
  | some v =>
    refine wpAny_bind (wpAny_mono h₁ (fun _ s₁' h₁' => ?_) fun _ _ h' => h')
    refine wpAny_bind (wpAny_mono h₁' (fun _ s₂ h₂ => wpAny_bind (wpAny_mono h₂ (fun ok s₃ h₃ => ?_) fun _ _ h' => h')) fun _ _ h' => h')
    cases ok with
    | false => exact wpAny_pure ⟨rfl, h₃⟩
    | true =>
      exact wpAny_bind (wpAny_bind (wpAny_mono h₃ (fun x s₄ h₄ => wpAny_bind (wpAny_mono h₄ (fun _ s₅ h₅ => wpAny_pure (wpAny_pure ⟨rfl, h₅⟩)) fun _ _ h' => h')) fun _ _ h' => h'))

/-- the block's context, with where an exception goes -/
abbrev cxCE (X : Cx) (N : List Str) (scope : Scope) (cl : List (Str × Addr)) (C : Addr) (ex : List Addr) (s : Shared) (H : Hp) (EE : Value → Shared → Prop) : Cx := { cxC X N scope cl C ex s H with xe := EE }
/-- where an exception goes matters not -/
theorem Inv.xe' {X : Cx} {EE : Value → Shared → Prop} {pins : List (Addr × Obj)} {σ : St} {H : Hp} {s : Shared} (I : Inv X pins σ H s) : Inv { X with xe := EE } pins σ H s :=
  ⟨⟨I.ok.mod, I.ok.kind, I.ok.glob, I.ok.blt, I.ok.above, I.ok.inj, I.ok.has, I.ok.cab, I.ok.hd, I.ok.frames, I.ok.stk, I.ok.exf, I.ok.bs, I.ok.bsz, I.ok.noex, I.ok.exfs, I.ok.funs, I.ok.frf⟩, I.os, I.bare, I.base, I.loc, I.cell, I.free, I.freeC, I.pin, I.hok, I.len⟩
theorem Inv.unxe {X : Cx} {EE : Value → Shared → Prop} {pins : List (Addr × Obj)} {σ : St} {H : Hp} {s : Shared} (I : Inv { X with xe := EE } pins σ H s) : Inv X pins σ H s :=
  ⟨⟨I.ok.mod, I.ok.kind, I.ok.glob, I.ok.blt, I.ok.above, I.ok.inj, I.ok.has, I.ok.cab, I.ok.hd, I.ok.frames, I.ok.stk, I.ok.exf, I.ok.bs, I.ok.bsz, I.ok.noex, I.ok.exfs, I.ok.funs, I.ok.frf⟩, I.os, I.bare, I.base, I.loc, I.cell, I.free, I.freeC, I.pin, I.hok, I.len⟩
theorem PG.xe' {X : Cx} {EE : Value → Shared → Prop} {tg : Expr} {g : TG} (h : PG X tg g) (hf : ∀ e s, X.xe e s → False) : PG { X with xe := EE } tg g := fun pins s σ H x u Q I r q =>
  wpAny_mono (h pins s σ H x u Q I.unxe r q) (fun _ s' ⟨σ', H', I', q'⟩ => ⟨σ', H', I'.xe', q'⟩) fun e s z => (hf e s z).elim
theorem PTs.xe' {X : Cx} {EE : Value → Shared → Prop} {ifs : List Expr} {t : TT} (h : PTs X ifs t) (hf : ∀ e s, X.xe e s → False) : PTs { X with xe := EE } ifs t := fun pins s σ H Q I q =>
  wpAny_mono (h pins s σ H Q I.unxe q) (fun _ s' ⟨H', I', q'⟩ => ⟨H', I'.xe', q'⟩) fun e s z => (hf e s z).elim

theorem comp_blockX {X : Cx} {pins : List (Addr × Obj)} {σ : St} {H : Hp} {s2 : Shared} {elt tg iter : Expr} {ifs : List Expr} {scope : Scope} {pos : Pos} {cl : List (Str × Addr)} {own : List Str} {cap : List (Str × Nat)} {g : Addr → List Addr → Shared → Hp → TG} {ti : Addr → List Addr → Shared → Hp → TT} {te : Addr → List Addr → Shared → Hp → TE}
    {E : Value → Shared → Prop} {EX : XK} {RR : Value → Env → Result → Shared → Prop} {it : Addr} {fp : List Addr} {tn : Nat → Heap → Prop} {J : It} {Fin : List V → Hp → Prop}
    (R : RaisesAs X EX) (S : CompOk X scope cl own cap) (hc : X.calm = true)
    (hg : ∀ C ex s H, PG (cxC X (own ++ cap.map (·.1)) scope cl C ex s H) tg (g C ex s H)) (ht : ∀ C ex s H, PTs (cxC X (own ++ cap.map (·.1)) scope cl C ex s H) ifs (ti C ex s H)) (he : ∀ C ex s H EE, Passes (CX1 X.prog X.w) (cxCE X (own ++ cap.map (·.1)) scope cl C ex s H EE) EX → PE (cxCE X (own ++ cap.map (·.1)) scope cl C ex s H EE) elt (te C ex s H))
    (I : Inv X pins σ H s2) (T : Turn X.prog X.w X.K tg J fp it tn) (st : tn 0 s2.heap) (f2 : ∀ b ∈ fp, FpOk X pins H b)
    (all : ∀ C ex s0 H0, ∃ W : Nat → Nat → List V → St → Hp → Prop, (∃ m, W 0 m [] (capSt own cap σ) H) ∧ ∀ i m out σ' H', W i m out σ' H' → (J.stop i H' ∧ Fin out H') ∨ (J.go i H' ∧ ∀ x H2, J.yld i H' x H2 → g C ex s0 H0 x σ' H2 fun σ3 H3 => ti C ex s0 H0 σ3 H3 fun b H4 =>
      if b = true then te C ex s0 H0 σ3 H4 (fun y H5 => out.length < sizeLine ∧ ∃ m', m' < m ∧ W (i + 1) m' (out ++ [y]) σ3 H5) else ∃ m', m' < m ∧ W (i + 1) m' out σ3 H4))
    (hRR : ∀ D C s' He out mm, s'.heap.Ns C mm → Inv X pins σ (upd He D (.lst out)) s' → NewC X pins (upd He D (.lst out)) C → He D = none → Fin out He → RR (.ref D) (compEnvC scope cl C X.env) (.ok .next) s')
    (hRX : ∀ D C s' H5 mm ea Cc a0 B, s'.heap.Ns C mm → Inv X pins σ H5 s' → NewC X pins H5 C → Heap.HeldW B X.stack ea (.ref Cc) a0 X.env.locals s'.heap → Cov B (frs X.stack) H5 X.s₀.heap s'.heap → H5 ea = none → X.s₀.heap.get? ea = none → EX (.ref Cc) none H5 → RR (.ref D) (compEnvC scope cl C X.env) (.error (.ref ea)) s') :
    wpAny (model X.prog X.w) X.A (newList []) (fun acc s₃ => wpAny (model X.prog X.w) X.A (newFunctionEnv scope X.env.globals cl [] X.env.qual none .none (some X.env)) (fun cenv s₄ =>
      codeAny (model X.prog X.w) X.A (.compStart (.ListComp elt [⟨tg, iter, ifs, 0⟩] scope pos) 0 (.ref it) acc { cenv with scope := relabel scope X.env }) (RR acc { cenv with scope := relabel scope X.env }) s₄) E s₃) E s2 := by
  refine wpAny_newObj_type (wpAny_newFunctionEnv S.noCell (by intro y hy; simp at hy) (fun h₁ hns₁ hsb₁ => ?_) S.kind)
  dsimp only at hns₁ hsb₁ ⊢
  generalize hH3 : s2.heap.push { cls := .type "list", dict := none, data := .seq ([] : List Value).toArray } = H3 at hns₁ hsb₁ ⊢
  have hC : H3.objs.size = s2.heap.objs.size + 1 := by rw [← hH3, Heap.size_push]
  have keep3 : ∀ b o, s2.heap.get? b = some o → H3.get? b = some o := fun b o e => hH3 ▸ Heap.get?_push_of_some _ e
  have acc3 : H3.get? s2.heap.objs.size = some { cls := .type "list", data := .seq ([] : List Value).toArray 0 } := hH3 ▸ Heap.get?_push_size _ rfl
  have I3 : Inv X pins σ H { s2 with heap := H3 } := I.kept (t' := s2.toks) keep3
  have keep4 : ∀ b o, H3.get? b = some o → h₁.get? b = some o := fun b o e => hsb₁.extBut b o (Nat.ne_of_lt (Heap.lt_size e)) (Heap.get?_push_of_some _ e)
  have hfp : ∀ b ∈ fp, b < s2.heap.objs.size := fun b hb => by
    obtain ⟨o, e, _⟩ := T.obj _ _ st b hb
    exact Heap.lt_size e
  generalize hDe : s2.heap.objs.size = D at hC acc3 ⊢
  have hDC : D < H3.objs.size := by rw [hC]; exact Nat.lt_succ_self _
  have hDle : s2.heap.objs.size ≤ D := Nat.le_of_eq hDe
  have ok0 : (cxC X (own ++ cap.map (·.1)) scope cl H3.objs.size (fp ++ [D]) { s2 with heap := H3 } H).Ok := cxC_ok S I I3 hDle hDC rfl f2 hfp
  obtain ⟨EE, hEE⟩ : ∃ EE : Value → Shared → Prop, EE = notedBy (model X.prog X.w) X.A (compEnvC scope cl H3.objs.size X.env) fun e s' => RR (.ref D) (compEnvC scope cl H3.objs.size X.env) (.error e) s' := ⟨_, rfl⟩
  have ok : (cxCE X (own ++ cap.map (·.1)) scope cl H3.objs.size (fp ++ [D]) { s2 with heap := H3 } H EE).Ok := ⟨ok0.mod, ok0.kind, ok0.glob, ok0.blt, ok0.above, ok0.inj, ok0.has, ok0.cab, ok0.hd, ok0.frames, ok0.stk, ok0.exf, ok0.bs, ok0.bsz, ok0.noex, ok0.exfs, ok0.funs, ok0.frf⟩
  have cellLt : ∀ x c, X.env.cells.lookup x = some c → c < s2.heap.objs.size := fun x c e => by
    obtain ⟨v, q⟩ := I.cell x c e
    exact q.lt
  have newD : ∀ {H' : Hp}, H' D = none → NewC X pins H' D := fun hn => ⟨hn, Nat.ne_of_gt (Nat.lt_of_lt_of_le I.lt hDle), Nat.le_trans I.sz hDle, fun x c e => Nat.ne_of_lt (Nat.lt_of_lt_of_le (cellLt x c e) hDle), fun p hp => Nat.ne_of_lt (Nat.lt_of_lt_of_le (Heap.lt_size (I.pin p hp).1) hDle)⟩
  have newC : ∀ {H' : Hp}, H' H3.objs.size = none → NewC X pins H' H3.objs.size := fun hn =>
    ⟨hn, Nat.ne_of_gt (Nat.lt_trans (Nat.lt_of_lt_of_le I.lt hDle) hDC), Nat.le_trans (Nat.le_trans I.sz hDle) (Nat.le_of_lt hDC), fun x c e => Nat.ne_of_lt (Nat.lt_trans (Nat.lt_of_lt_of_le (cellLt x c e) hDle) hDC), fun p hp => Nat.ne_of_lt (Nat.lt_trans (Nat.lt_of_lt_of_le (Heap.lt_size (I.pin p hp).1) hDle) hDC)⟩
  have hDf : D ∉ fp := fun hb => absurd (Nat.lt_of_lt_of_le (hfp D hb) hDle) (Nat.lt_irrefl _)
  have hHD : H D = none := I.hok.fresh hDle
  obtain ⟨W, ⟨m0, w0⟩, turn⟩ := all H3.objs.size (fp ++ [D]) { s2 with heap := H3 } H
  -- the block's first state
  have I4 : Inv (cxCE X (own ++ cap.map (·.1)) scope cl H3.objs.size (fp ++ [D]) { s2 with heap := H3 } H EE) [] (capSt own cap σ) H { s2 with heap := h₁, toks := s2.toks + ([] : List (Str × Value)).length } := by
    refine ⟨ok, rfl, I.bare, Un.kept keep4, ⟨_, hns₁, fun i x v e1 e2 e3 => ?_⟩, fun x c e => ?_, I3.hok.fresh (Nat.le_refl _), fun x c e => I.freeC x c (S.subL _ _ e), fun p hp => absurd (show p ∈ ([] : List (Addr × Obj)) from hp) (by simp), I3.hok.kept keep4, ?_⟩
    · -- a captured name
      have hi : ¬ i < own.length := fun hi => by
        unfold capSt at e2
        rw [List.getElem?_append_left (by simpa using hi), List.getElem?_replicate] at e2
        split at e2 <;> cases e2
      obtain ⟨j, rfl⟩ : ∃ j, i = own.length + j := ⟨i - own.length, by omega⟩
      have e2' : (cap.map fun p => (σ[p.2]?).getD none)[j]? = some (some v) := by
        unfold capSt at e2
        rw [List.getElem?_append_right (by simp)] at e2
        simpa using e2
      have e1' : (cap.map (·.1))[j]? = some x := by
        have e1 : (own ++ cap.map (·.1))[own.length + j]? = some x := e1
        rw [List.getElem?_append_right (by simp)] at e1
        simpa using e1
      rw [List.getElem?_map] at e1' e2'
      cases hp : cap[j]? with
      | none => rw [hp] at e1'; cases e1'
      | some p =>
        rw [hp] at e1' e2'
        have e1' : p.1 = x := Option.some.inj e1'
        have e2' : (σ[p.2]?).getD none = some v := Option.some.inj e2'
        obtain ⟨c1, c2, c3, c4⟩ := S.caps.mem (List.mem_of_getElem? hp)
        have hs : σ[p.2]? = some (some v) := by
          cases q : σ[p.2]? with
          | none => rw [q] at e2'; cases e2'
          | some z => rw [q] at e2'; exact congrArg some e2'
        have vis : Vis X.env.scope p.1 := c2.elim (fun z => .inr (.inl z)) fun z => .inr (.inr z)
        obtain ⟨m, hn, hl⟩ := I.loc
        obtain ⟨u, r, l⟩ := hl p.2 p.1 v c1 hs vis
        refine ⟨u, r, ?_⟩
        subst e1'
        rcases l with ⟨k, _⟩ | ⟨_, c, ec, z⟩
        · rcases c2 with z | z
          · rw [z] at k; cases k
          · rw [z] at k; cases k
        · obtain ⟨o, ho, hd⟩ := z
          exact .inr ⟨c3, c, c4.trans ec, o, keep4 _ _ (keep3 _ _ ho), hd⟩
    · obtain ⟨v, o, ho, hd⟩ := I.cell x c (S.subL _ _ e)
      exact ⟨v, o, keep4 _ _ (keep3 _ _ ho), hd⟩
    · show (capSt own cap σ).length = (own ++ cap.map (·.1)).length
      unfold capSt
      simp
  have st4 : tn 0 h₁ := T.keep _ _ _ st fun b hb o e => keep4 _ _ (keep3 _ _ e)
  -- FpOk in the block
  have fpC : ∀ {pins' : List (Addr × Obj)} {H' : Hp}, (∀ b ∈ fp, H' b = none) → (∀ p ∈ pins', p.1 ∉ fp) → ∀ b ∈ fp, FpOk (cxCE X (own ++ cap.map (·.1)) scope cl H3.objs.size (fp ++ [D]) { s2 with heap := H3 } H EE) pins' H' b := fun {pins' H'} hn hp b hb =>
    ⟨hn b hb, (ok.exf b (List.mem_append_left _ hb)).1, ok.exfs b (List.mem_append_left _ hb), .inl (List.mem_append_left _ hb), (ok.exf b (List.mem_append_left _ hb)).2, fun p q z => hp p (by have q' : p ∈ ([] : List (Addr × Obj)) ++ pins' := q; simpa using q') (z ▸ hb)⟩
  have backX : ∀ {pins' : List (Addr × Obj)} {σ' : St} {H' : Hp} {s' : Shared}, Inv (cxCE X (own ++ cap.map (·.1)) scope cl H3.objs.size (fp ++ [D]) { s2 with heap := H3 } H EE) pins' σ' H' s' → Inv X pins σ H' s' := fun {pins' σ' H' s'} I6 =>
    I3.call' (s' := s') (ch := fp ++ [D]) I6.os I6.base I6.hok I6.bare fun b hb => by
      rcases List.mem_append.mp hb with hb | hb
      · obtain ⟨_, q1, _, q3, q4, q5⟩ := f2 b hb
        exact ⟨q3, q1, q4, q5⟩
      · have z : b = D := by simpa using hb
        subst z
        have nd := newD (H' := H) hHD
        exact ⟨.inr nd.s, nd.l, nd.c, nd.p⟩
  have old : ∀ b o, X.s₀.heap.get? b = some o → b ∉ fp ++ [D] := fun b o e hb => by
    have hlt := Heap.lt_size e
    rcases List.mem_append.mp hb with hb | hb
    · rcases (f2 b hb).2.2.2.1 with z | z
      · rw [R.ex] at z; cases z
      · exact absurd (Nat.lt_of_lt_of_le hlt z) (Nat.lt_irrefl _)
    · have z : b = D := by simpa using hb
      subst z
      exact absurd (Nat.lt_of_lt_of_le hlt (Nat.le_trans I.sz hDle)) (Nat.lt_irrefl _)
  have thereX : ∀ {pins' : List (Addr × Obj)} {σ' : St} {H' : Hp} {s' : Shared}, Inv (cxCE X (own ++ cap.map (·.1)) scope cl H3.objs.size (fp ++ [D]) { s2 with heap := H3 } H EE) pins' σ' H' s' → ∀ b o, X.s₀.heap.get? b = some o → ∃ o', s'.heap.get? b = some o' := fun {pins' σ' H' s'} I6 b o e => by
    obtain ⟨o1, e1⟩ := I3.base.there b o e (by rw [R.ex]; exact fun z => nomatch z)
    exact I6.base.there b o1 e1 (old b o e)
  have hp : Passes (CX1 X.prog X.w) (cxCE X (own ++ cap.map (·.1)) scope cl H3.objs.size (fp ++ [D]) { s2 with heap := H3 } H EE) EX := by
    intro pins' σ' H1 s1 e s' I1 hq
    obtain ⟨ea, Cc, H', rfl, F, q⟩ := hq
    have F : Fly X.prog X.w X.stack H1 s1 H' ea Cc s' := F
    obtain ⟨a0, B, fl, cov⟩ := F.fly
    have fl' : Heap.FlyingW B (X.env :: X.outer) ea (.ref Cc) a0 s'.heap := by rw [← R.stk]; exact fl
    show EE (.ref ea) s'
    rw [hEE]
    show wpAny (model X.prog X.w) X.A (noteFrame (.ref ea) X.env) _ _ s'
    refine wpAny_looks_onW (by rw [← R.stk]; exact I.ok.frames) R.fr fl' fun h4 held up4 => ?_
    have held' : Heap.HeldW B X.stack ea (.ref Cc) a0 X.env.locals h4 := by rw [R.stk]; exact held
    obtain ⟨un4, hok4, cov4⟩ := F.held fl.2.2.1 cov held'.1 up4
    have I4' : Inv (cxCE X (own ++ cap.map (·.1)) scope cl H3.objs.size (fp ++ [D]) { s2 with heap := H3 } H EE) pins' σ' H' { s' with heap := h4 } := I1.call' (s' := { s' with heap := h4 }) (ch := []) F.os un4 hok4 F.bare fun b z => nomatch z
    obtain ⟨mm, hmm, _⟩ := I4'.loc
    refine hRX D H3.objs.size { s' with heap := h4 } H' mm ea Cc a0 B hmm (backX I4') (newC I4'.free) held' (fun b o e hb h3 => cov4 b o e hb (h3.imp_right fun ⟨o0, e0⟩ => thereX I1 b o0 e0)) F.free ?_ q
    cases z : X.s₀.heap.get? ea with
    | none => rfl
    | some o => obtain ⟨o', e'⟩ := thereX I1 ea o z; rw [F.new] at e'; cases e'
  have loop : ∀ s₃ : Shared, s₃ = { s2 with heap := h₁, toks := s2.toks + ([] : List (Str × Value)).length } →
      codeAny (model X.prog X.w) X.A (.compLoop (.ListComp elt [⟨tg, iter, ifs, 0⟩] scope pos) 0 (.ref it) (.ref D) (compEnvC scope cl H3.objs.size X.env)) (RR (.ref D) (compEnvC scope cl H3.objs.size X.env)) s₃ := by
    rintro s₃ rfl
    refine compLoop_anyX (fun n s' => ∃ i out σ' H' its k, Inv (cxCE X (own ++ cap.map (·.1)) scope cl H3.objs.size (fp ++ [D]) { s2 with heap := H3 } H EE) [] σ' H' s' ∧ tn i s'.heap ∧ (∀ b ∈ fp, H' b = none) ∧ H' D = none ∧
      s'.heap.get? D = some { cls := .type "list", data := .seq (its : List Value).toArray k } ∧ Vals out its ∧ out.length ≤ sizeLine ∧ W i n out σ' H') ?_ m0
      ⟨0, [], _, H, [], 0, I4, st4, fun b hb => (f2 b hb).1, hHD, keep4 _ _ acc3, .nil, Nat.zero_le _, w0⟩
    rw [← hEE]
    rintro n s5 ⟨i, out, σ5, H5, its, k, I5, st5, fr5, hD5, eD5, rv, hl5, w5⟩
    have pinD : ∀ {σ' : St} {H' : Hp} {s' : Shared}, Inv (cxCE X (own ++ cap.map (·.1)) scope cl H3.objs.size (fp ++ [D]) { s2 with heap := H3 } H EE) [] σ' H' s' → H' D = none → s'.heap.get? D = some { cls := .type "list", data := .seq its.toArray k } →
        Inv (cxCE X (own ++ cap.map (·.1)) scope cl H3.objs.size (fp ++ [D]) { s2 with heap := H3 } H EE) [(D, { cls := .type "list", data := .seq its.toArray k })] σ' H' s' := fun I' hn e => I'.pins_of fun p hp => by
      have z : p = (D, ({ cls := .type "list", data := .seq its.toArray k } : Obj)) := by simpa using hp
      subst z
      exact ⟨e, hn, (ok.exf D (show D ∈ fp ++ [D] by simp)).1, ok.exfs D (show D ∈ fp ++ [D] by simp), fun v z => by
        have z' : Data.seq its.toArray k = Data.cell v := z
        cases z'⟩
    have I5' := pinD I5 hD5 eD5
    have fp5 := fpC (pins' := [(D, ({ cls := .type "list", data := .seq its.toArray k } : Obj))]) fr5 fun p hp => by
      have z : p = (D, ({ cls := .type "list", data := .seq its.toArray k } : Obj)) := by simpa using hp
      subst z; exact hDf
    rcases turn i n out σ5 H5 w5 with ⟨stop, fin⟩ | ⟨go, step⟩
    · refine thn (T.done (cxCE X (own ++ cap.map (·.1)) scope cl H3.objs.size (fp ++ [D]) { s2 with heap := H3 } H EE) rfl rfl rfl hc i _ s5 σ5 H5 EE I5' fp5 st5 stop) fun r s6 ⟨hr, I6⟩ => ?_
      subst hr
      obtain ⟨eD6, _⟩ := I6.pin (D, _) (List.mem_append_right _ (List.mem_cons_self))
      have I6X : Inv X pins σ H5 s6 := I3.call' (s' := s6) (ch := fp ++ [D]) I6.os I6.base I6.hok I6.bare fun b hb => by
        rcases List.mem_append.mp hb with hb | hb
        · obtain ⟨_, q1, _, q3, q4, q5⟩ := f2 b hb
          exact ⟨q3, q1, q4, q5⟩
        · have z : b = D := by simpa using hb
          subst z
          have nd := newD (H' := H) hHD
          exact ⟨.inr nd.s, nd.l, nd.c, nd.p⟩
      obtain ⟨mm, hmm, _⟩ := I6.loc
      exact hRR D H3.objs.size s6 H5 out mm hmm (I6X.track (newD hD5) hl5 rv eD6) (newC (by rw [upd_ne (Nat.ne_of_gt hDC)]; exact I6.free)) hD5 fin
    · refine thn (T.item (cxCE X (own ++ cap.map (·.1)) scope cl H3.objs.size (fp ++ [D]) { s2 with heap := H3 } H EE) rfl rfl rfl hc i _ s5 σ5 H5 EE I5' fp5 st5 go) fun r s6 ⟨u, hr, h6⟩ => ?_
      subst hr
      refine thn h6 fun _ s7 ⟨x, H7, I7, r7, y7, st7, fr7⟩ => ?_
      have eD7 := I7.pin (D, _) (List.mem_append_right _ (List.mem_cons_self))
      have fp7 := fpC (pins' := [(D, ({ cls := .type "list", data := .seq its.toArray k } : Obj))]) fr7 fun p hp => by
        have z : p = (D, ({ cls := .type "list", data := .seq its.toArray k } : Obj)) := by simpa using hp
        subst z; exact hDf
      have I7' := I7.pinned fp7 (T.obj _ _ st7)
      refine thn ((hg _ _ _ _).xe' (fun _ _ z => z) _ s7 σ5 H7 x u _ I7' r7 (step x H7 y7)) fun _ s8 ⟨σ8, H8, I8, q8⟩ => ?_
      refine thn ((ht _ _ _ _).xe' (fun _ _ z => z) _ s8 σ8 H8 _ I8 q8) fun b s9 ⟨H9, I9, q9⟩ => ?_
      -- what stays of the iterator and of the list
      have back : ∀ {σ' : St} {H' : Hp} {s' : Shared}, Inv (cxCE X (own ++ cap.map (·.1)) scope cl H3.objs.size (fp ++ [D]) { s2 with heap := H3 } H EE) ([(D, ({ cls := .type "list", data := .seq its.toArray k } : Obj))] ++ pinsAt fp s7.heap) σ' H' s' →
          (∀ b ∈ fp, H' b = none) ∧ (∀ b ∈ fp, ∀ o, s7.heap.get? b = some o → s'.heap.get? b = some o) ∧ H' D = none ∧ s'.heap.get? D = some { cls := .type "list", data := .seq its.toArray k } := fun I' => by
        refine ⟨fun b hb => ?_, fun b hb o e => (I'.pin (b, o) (List.mem_append_right _ (List.mem_append_right _ (mem_pinsAt hb e)))).1, (I'.pin (D, _) (List.mem_append_right _ (List.mem_append_left _ List.mem_cons_self))).2.1, (I'.pin (D, _) (List.mem_append_right _ (List.mem_append_left _ List.mem_cons_self))).1⟩
        obtain ⟨o, e, d⟩ := T.obj _ _ st7 b hb
        exact (I'.pin (b, o) (List.mem_append_right _ (List.mem_append_right _ (mem_pinsAt hb e)))).2.1
      cases b with
      | false =>
        obtain ⟨m', hm, w9⟩ : ∃ m', m' < n ∧ W (i + 1) m' out σ8 H9 := by simpa using q9
        obtain ⟨a1, a2, a3, a4⟩ := back I9
        show ∃ m, m < n ∧ _
        exact ⟨m', hm, i + 1, out, σ8, H9, its, k, I9.pins_of fun p hp => by simp at hp, T.keep _ _ _ st7 a2, a1, a3, a4, rv, hl5, w9⟩
      | true =>
        have q9 : te H3.objs.size (fp ++ [D]) { s2 with heap := H3 } H σ8 H9 (fun y H5 => out.length < sizeLine ∧ ∃ m', m' < n ∧ W (i + 1) m' (out ++ [y]) σ8 H5) := by simpa using q9
        show wpAny _ _ (eval elt _) _ _ s9
        refine thn (he _ _ _ _ EE hp _ s9 σ8 H9 _ I9 q9) fun v s10 ⟨y, H10, I10, r10, hl10, m', hm, w10⟩ => ?_
        obtain ⟨a1, a2, a3, a4⟩ := back I10
        have hsz : its.toArray.size ≤ sizeLine := by rw [List.size_toArray, ← rv.length]; exact hl5
        refine wpAny_list_append_plain (hsz := hsz) (l := D) (items := its.toArray) ⟨k, a4⟩ fun h11 ⟨k', e11⟩ s11 => ?_
        have I11 : Inv (cxCE X (own ++ cap.map (·.1)) scope cl H3.objs.size (fp ++ [D]) { s2 with heap := H3 } H EE) [] σ8 H10 { s10 with heap := h11 } :=
          (I10.pins_of (pins' := []) fun p hp => by simp at hp).turned (t' := s10.toks) (fun b o hb e => (s11.2 b hb).trans e) a3 (ok.exf D (show D ∈ fp ++ [D] by simp)).1 (.inl (by show D ∈ fp ++ [D]; simp)) (ok.exf D (show D ∈ fp ++ [D] by simp)).2 (fun p hp => absurd (show p ∈ ([] : List (Addr × Obj)) from hp) (by simp))
        refine ⟨m', hm, i + 1, out ++ [y], σ8, H10, its ++ [v], k', I11, T.keep _ _ _ st7 fun b hb o e => (s11.2 b fun z => hDf (z ▸ hb)).trans (a2 b hb o e), a1, a3, ?_, Vals.append rv (.cons r10 .nil), by rw [List.length_append]; exact hl10, w10⟩
        rw [show (its ++ [v]).toArray = its.toArray.push v by simp]
        exact e11
  exact codeAny_compStart_list (loop _ rfl) (T.self _ 0 _ _ _ st4 (loop _ rfl))

/-- name = comprehension, of one line -/
theorem ps_compX {X : Cx} {i : Nat} {x : Str} {elt tg iter : Expr} {ifs : List Expr} {scope : Scope} {pos pos' spos : Pos} {cl : List (Str × Addr)} {own : List Str} {cap : List (Str × Nat)} {EX : XK} {wi : TI} {g : Addr → List Addr → Shared → Hp → TG} {ti : Addr → List Addr → Shared → Hp → TT} {te : Addr → List Addr → Shared → Hp → TE}
    (hN : X.N.Nodup) (hx : X.N[i]? = some x) (hk : X.env.scope.names.lookup x = some .local)
    (R : RaisesAs X EX) (S : CompOk X scope cl own cap) (hc : X.calm = true) (hi : PI X tg iter wi)
    (hg : ∀ C ex s H, PG (cxC X (own ++ cap.map (·.1)) scope cl C ex s H) tg (g C ex s H)) (ht : ∀ C ex s H, PTs (cxC X (own ++ cap.map (·.1)) scope cl C ex s H) ifs (ti C ex s H)) (he : ∀ C ex s H EE, Passes (CX1 X.prog X.w) (cxCE X (own ++ cap.map (·.1)) scope cl C ex s H EE) EX → PE (cxCE X (own ++ cap.map (·.1)) scope cl C ex s H EE) elt (te C ex s H))
    (hsw : swapsWith (.ListComp elt [⟨tg, iter, ifs, 0⟩] scope pos) (some (.Name x pos')) spos.line X.env = pure true := by rfl)
    (hs : ∀ x, foldedSetIterable iter X.env x = pure x := by intro _; rfl) : PS X (.Assign [.Name x pos'] (.ListComp elt [⟨tg, iter, ifs, 0⟩] scope pos) spos) (tAsg (tComp wi own cap g ti te) (gName i)) := by
  intro pins s σ H D I h
  rw [exec_Assign_Name_used _ _ _ _ hsw]
  refine wpAny_bind (wpAny_standAt (wpAny_bind ?_))
  show wpAny _ X.A (do let _ ← comprehension (.ListComp elt [⟨tg, iter, ifs, 0⟩] scope pos) scope X.env _ (newList []) false (eval iter X.env) (some (assign (.Name x pos') X.env))) _ _ s
  refine wpAny_bind (wpAny_mono (comprehensionX (use := some (assign (.Name x pos') X.env)) (Q := fun _ s' => SP X pins D .next s') rfl hs S.clos S.kind S.names
    (thn (hi pins s σ H _ I h) fun xv s1 h1 => thn h1 fun itv s2 h2 => ?_)) (fun _ s' hq => wpAny_pure (wpAny_pure hq)) fun _ _ e => e)
  obtain ⟨it, fp, tn, J, H2, e, I2, T, st2, f2, all⟩ := h2
  subst e
  refine comp_blockX (RR := fun acc C => compPostX (model X.prog X.w) X.A X.xe (some (assign (.Name x pos') X.env)) (fun _ s' => SP X pins D .next s') acc C) R S hc hg ht he I2 T st2 f2 all ?_ (fun D C s' H5 mm ea Cc a0 B h1 h2 h3 h4 h5 h6 h7 h8 => pass_out R h1 h2 h3 h4 h5 h6 h7 h8)
  intro D' C s' He out mm hmm I' n' hD fin
  show wpAny _ X.A (assign (.Name x pos') X.env (.ref D')) _ _ s'
  refine wpAny_assign_Name (store_ok2 I' hN hx (.inl hk) (v := .ref D') rfl (fun s'' I'' ⟨a, sb, ha⟩ => ?_) (.inr hk))
  have hLC : C ≠ a := by
    rcases ha with z | z
    · rw [z]; exact n'.l
    · exact (n'.c _ _ z).symm
  exact ⟨mm, hmm.sameBut sb hLC, fun h' hs' => ⟨_, _, n'.go I'' hs', fin D' hD⟩⟩
end L2

set_option Elab.async false
set_option linter.all false
set_option maxRecDepth 100000
set_option maxHeartbeats 2000000
namespace LmMaxD
open PySem
section
variable {prog : Program} {w : World} {A : Around} {E : Value → Shared → Prop} {s : Shared} {R : Result → Shared → Prop} {I : Addr} {fp wr : List Addr} {n : Nat} {P : Nat → Value → Prop} {St : Nat → Heap → Prop} {kw : List (Str × Value)}
end
end LmMaxD
namespace L2
open PySem PySem.Spec PyProof.Rows
end L2

set_option Elab.async false
set_option linter.all false
set_option maxRecDepth 100000
set_option maxHeartbeats 2000000
namespace L2
open PySem PySem.Spec PyProof.Rows
section
variable {X : Cx}
theorem log_small {n : Int} (h0 : 0 ≤ n) (h : n < 1000000) : n.natAbs.log2 < 1920 := by
  by_cases z : n.natAbs = 0
  · rw [z]; decide
  · refine (Nat.log2_lt z).mpr (Nat.lt_of_lt_of_le (show n.natAbs < 2 ^ 20 by omega) (Nat.pow_le_pow_right (by decide) (by decide)))
def tFstr (t1 t2 : TE) (c : Str) : TE := fun σ H Q => t1 σ H fun v H1 => ∃ n : Int, v = .int n ∧ 0 ≤ n ∧ n < 1000000 ∧ (Str.ofString (toString n)).length ≤ 1000 ∧ c.length ≤ 1000 ∧ t2 σ H1 fun y H2 => ∃ x : Str, y = .str x ∧ x.length ≤ 1000 ∧ Q (.str (Str.empty ++ Str.ofString (toString n) ++ c ++ x)) H2
/-- f"{n}c{x}" -/
theorem pe_fstr {e1 e2 : Expr} {t1 t2 : TE} {c : Str} {k : Nat} {p1 p2 p3 pos : Pos} (h1 : PE X e1 t1) (h2 : PE X e2 t2) :
    PE X (.JoinedStr [.FormattedValue e1 (-1) none p1, .Constant (.str c) k p2, .FormattedValue e2 (-1) none p3] pos)
      (tFstr t1 t2 c) := by
  intro pins s σ H Q I h
  refine JoinedStr_many (joinParts_cons (FormattedValue_plain (thn (h1 pins s σ H _ I h) fun u s1 ⟨v, H1, I1, r1, n, e1', h0, hn, hl, hc, h3⟩ => ?_)))
  subst e1'
  obtain ⟨t, rfl⟩ := r1
  have e0 : Str.empty.length = 0 := rfl
  have l1 : (Str.empty ++ Str.ofString (toString n)).length = (Str.ofString (toString n)).length := by rw [LmTxt.app_len, e0, Nat.zero_add]
  have l2 : (Str.empty ++ Str.ofString (toString n) ++ c).length = (Str.ofString (toString n)).length + c.length := by rw [LmTxt.app_len, l1]
  refine wpAny_formatField_int (log_small h0 hn) ⟨small (by rw [l1]; omega), ?_⟩
  refine joinParts_cons (Calls.Constant_str ⟨small (by rw [l2]; omega), ?_⟩)
  refine joinParts_cons (FormattedValue_plain (thn (h2 pins _ σ H1 _ (I1.tok _) h3) fun u s2 ⟨y, H2, I2, r2, x, e2', hx, q⟩ => ?_))
  subst e2'
  obtain ⟨t', rfl⟩ := r2
  have l3 : (Str.empty ++ Str.ofString (toString n) ++ c ++ x).length ≤ 1000000 := by rw [LmTxt.app_len, l2]; omega
  refine formatField_str (fun t'' tk => ⟨small l3, joinParts_nil ⟨.str _, H2, I2.tok _, ⟨_, rfl⟩, q⟩ (small l3)⟩) (small (by omega))
/-- x.partition(y): a new tuple -/
def rPart : V → List V → Hp → VK → Prop := fun x vs H Q => ∃ i j : Str, x = .str i ∧ vs = [.str j] ∧ (j.length == 0) = false ∧ i.length ≤ sizeLine ∧ ∀ p, H p = none → Q (.ref p) (upd H p (.tup [.str (Txt.partition i j).1, .str (Txt.partition i j).2.1, .str (Txt.partition i j).2.2]))
theorem mt_partition : MtR X "str.partition" rPart := by
  intro pins s σ H x xs v us Q I rx rv h
  obtain ⟨i, j, rfl, rfl, hj, hi, q⟩ := h
  obtain ⟨t, rfl⟩ := rx
  obtain ⟨u, rfl, t', rfl⟩ := vals1 rv
  have hn : H s.heap.objs.size = none := I.hok.fresh (Nat.le_refl _)
  have q' := q _ hn
  refine call_meets F.slot_str_partition (typeIs_str _ _ _) F.entry_str_partition (F.args_str_partition_2 _ _) (meets_str_partition i j t t' hj hi) ?_
  unfold Txt.partition at q'
  revert q'
  cases Builtin.Str.occurrences i j 0 i.length 1 with
  | nil =>
    intro q'
    refine ⟨.ref s.heap.objs.size, _, ?_, rfl, q'⟩
    refine I.laid (fun b o e => Heap.get?_push_of_some _ e) (Nat.le_refl _) ⟨small (by show 3 ≤ 1000000; decide), [.str i t, .str Str.empty s.toks, .str Str.empty s.toks], .cons ⟨_, rfl⟩ (.cons ⟨_, rfl⟩ (.cons ⟨_, rfl⟩ .nil)), ?_⟩
    exact ⟨_, Heap.get?_push_size s.heap rfl, rfl, 0, rfl⟩
  | cons a r =>
    intro q'
    refine ⟨.ref s.heap.objs.size, _, ?_, rfl, q'⟩
    refine I.laid (fun b o e => Heap.get?_push_of_some _ e) (Nat.le_refl _) ⟨small (by show 3 ≤ 1000000; decide), [.str (Builtin.Str.strSub i 0 a) s.toks, .str j t', .str (Builtin.Str.strSub i (a + j.length) i.length) (s.toks + 1)], .cons ⟨_, rfl⟩ (.cons ⟨_, rfl⟩ (.cons ⟨_, rfl⟩ .nil)), ?_⟩
    exact ⟨_, Heap.get?_push_size s.heap rfl, rfl, 0, rfl⟩
/-- x.index(y) of what is there -/
def rIndex : V → List V → Hp → VK → Prop := fun x vs H Q => ∃ (i j : Str) (a : Nat) (r : List Nat), x = .str i ∧ vs = [.str j] ∧ Builtin.Str.occurrences i j 0 i.length 1 = a :: r ∧ Q (.int a) H
theorem mt_index : MtR X "str.index" rIndex := by
  intro pins s σ H x xs v us Q I rx rv h
  obtain ⟨i, j, a, r, rfl, rfl, ho, q⟩ := h
  obtain ⟨t, rfl⟩ := rx
  obtain ⟨u, rfl, t', rfl⟩ := vals1 rv
  exact call_gives F.slot_str_index (typeIs_str _ _ _) F.entry_str_index (F.args_str_index_2 _ _) (gives_str_index i j t t' a r ho) ⟨.int a, H, I.tok _, ⟨_, rfl⟩, q⟩
end
section
variable {X : Cx} {o e : Expr} {to : TE} {t : TA} {apos cpos : Pos}
theorem pe_partition (ho : PE X o to) (ha : PA X [e] t)
    (hbase : attributeBase o "partition" X.env (eval o X.env) = eval o X.env := by rfl)
    (hfew : ((backTo cpos (starEach [e] X.env)).all (fun x => !x.1) && (backToKw cpos (keywordEach [] X.env)).all (fun x => x.1.isSome)
      && decide (([e] : List Expr).length + ([] : List Keyword).length + (if ([] : List Keyword).isEmpty then 0 else 1) < 30)) = true := by rfl)
    (hline : (apos.endLine == cpos.line) = true := by rfl) (hs : starEach [e] X.env = (false, eval e X.env) :: starEach [] X.env := by rfl) (hplain : (backTo cpos (starEach [] X.env)).any (·.1) = false := by rfl) :
    PE X (.Call (.Attribute o "partition" apos) [e] [] cpos) (tBM X.K "str" rPart to t) :=
  pe_bm PySem.F.plainAttrs_str PySem.F.slot_str_partition PySem.F.type_str_partition mt_partition ho ha hbase hfew hline hs hplain
theorem pe_index (ho : PE X o to) (ha : PA X [e] t)
    (hbase : attributeBase o "index" X.env (eval o X.env) = eval o X.env := by rfl)
    (hfew : ((backTo cpos (starEach [e] X.env)).all (fun x => !x.1) && (backToKw cpos (keywordEach [] X.env)).all (fun x => x.1.isSome)
      && decide (([e] : List Expr).length + ([] : List Keyword).length + (if ([] : List Keyword).isEmpty then 0 else 1) < 30)) = true := by rfl)
    (hline : (apos.endLine == cpos.line) = true := by rfl) (hs : starEach [e] X.env = (false, eval e X.env) :: starEach [] X.env := by rfl) (hplain : (backTo cpos (starEach [] X.env)).any (·.1) = false := by rfl) :
    PE X (.Call (.Attribute o "index" apos) [e] [] cpos) (tBM X.K "str" rIndex to t) :=
  pe_bm PySem.F.plainAttrs_str PySem.F.slot_str_index PySem.F.type_str_index mt_index ho ha hbase hfew hline hs hplain
end
end L2

set_option Elab.async false
set_option linter.all false
set_option maxRecDepth 100000
set_option maxHeartbeats 2000000
namespace M14
open PySem PySem.Spec L2 PyProof.Rows LmTxt M02 M05 M06 M08 LmG
/-! ### figures -/
def dg (n : Nat) : List Nat := if n < 10 then [48 + n] else [48 + n / 10, 48 + n % 10]
def fig (n : Nat) : Str := Str.ofString (toString ((n : Nat) : Int))
def va (l : List Nat) : Nat := l.foldl (fun a c => 10 * a + (c - 48)) 0
theorem fig_all : ∀ n : Fin 64, (fig n.val).cps.toList = dg n.val := by decide +kernel
theorem fig_dg {n : Nat} (h : n < 64) : (fig n).cps.toList = dg n := fig_all ⟨n, h⟩
theorem dg_all : ∀ n : Fin 64, 1 ≤ n.val → (dg n.val ≠ [] ∧ (dg n.val).head? ≠ some 48 ∧ (∀ d ∈ dg n.val, 48 ≤ d ∧ d ≤ 57) ∧ va (dg n.val) = n.val) := by decide +kernel
theorem fig_len {n : Nat} (h : n < 64) : (fig n).length ≤ 2 := by
  rw [LmTxt.len_list, fig_dg h]
  unfold dg
  split <;> simp
theorem dg_inj {m n : Nat} (hm : m < 64) (hn : n < 64) (h1 : 1 ≤ m) (h2 : 1 ≤ n) (h : dg m = dg n) : m = n := by
  have a := (dg_all ⟨m, hm⟩ h1).2.2.2
  have b := (dg_all ⟨n, hn⟩ h2).2.2.2
  have a' : va (dg m) = m := a
  have b' : va (dg n) = n := b
  rw [h, b'] at a'
  exact a'.symm
/-- what a note tells: by the law, by the program -/
def LOk (l : List Nat) (n c : Nat) : Prop := ∃ ds, l = ds ++ [32, c] ∧ ds ≠ [] ∧ ds.head? ≠ some 48 ∧ (∀ d ∈ ds, 48 ≤ d ∧ d ≤ 57) ∧ va ds = n
def POk (most : Nat) (l : List Nat) (n c : Nat) : Prop := 1 ≤ n ∧ n ≤ most ∧ l = dg n ++ [32, c]
theorem po_lo {most : Nat} (hm : most < 64) {l : List Nat} {n c : Nat} (h : POk most l n c) : LOk l n c := by
  obtain ⟨h1, h2, e⟩ := h
  have := dg_all ⟨n, by omega⟩ h1
  exact ⟨dg n, e, this.1, this.2.1, this.2.2.1, this.2.2.2⟩
theorem va_ge : ∀ (l : List Nat) (a : Nat), a ≤ l.foldl (fun a c => 10 * a + (c - 48)) a
  | [], a => Nat.le_refl _
  | c :: l, a => by
    rw [List.foldl_cons]
    have := va_ge l (10 * a + (c - 48))
    omega
theorem lo_po {most : Nat} (hm : most < 64) {l : List Nat} {n c : Nat} (h : LOk l n c) (hn : n ≤ most) : POk most l n c := by
  obtain ⟨ds, e, hne, hh, hd, hv⟩ := h
  match ds, hne with
  | [a], _ =>
    have ha := hd a List.mem_cons_self
    have h48 : a ≠ 48 := fun z => hh (by rw [z]; rfl)
    have hv' : a - 48 = n := by have : 10 * 0 + (a - 48) = n := hv; omega
    refine ⟨by omega, hn, ?_⟩
    rw [e]
    unfold dg
    rw [if_pos (by omega), show 48 + n = a by omega]
  | [a, b], _ =>
    have ha := hd a List.mem_cons_self
    have hb := hd b (List.mem_cons_of_mem _ List.mem_cons_self)
    have h48 : a ≠ 48 := fun z => hh (by rw [z]; rfl)
    have hv' : 10 * (a - 48) + (b - 48) = n := by have : 10 * (10 * 0 + (a - 48)) + (b - 48) = n := hv; omega
    refine ⟨by omega, hn, ?_⟩
    rw [e]
    unfold dg
    rw [if_neg (by omega), show 48 + n / 10 = a by omega, show 48 + n % 10 = b by omega]
  | a :: b :: d :: r, _ =>
    exfalso
    have ha := hd a List.mem_cons_self
    have h48 : a ≠ 48 := fun z => hh (by rw [z]; rfl)
    have hv' : r.foldl (fun a c => 10 * a + (c - 48)) (10 * (10 * (10 * 0 + (a - 48)) + (b - 48)) + (d - 48)) = n := hv
    have := va_ge r (10 * (10 * (10 * 0 + (a - 48)) + (b - 48)) + (d - 48))
    omega
theorem lo_same {l : List Nat} {n c n' c' : Nat} (h : LOk l n c) (h' : LOk l n' c') : n = n' ∧ c = c' := by
  obtain ⟨ds, e, _, _, _, hv⟩ := h
  obtain ⟨ds', e', _, _, _, hv'⟩ := h'
  rw [e] at e'
  obtain ⟨e1, e2⟩ := List.append_inj' e' rfl
  subst e1
  have : c = c' := by simpa using e2
  exact ⟨hv.symm.trans hv', this⟩
/-! ### the part ahead of the first blank -/
theorem sub_list (x : Str) (i j : Nat) : (Builtin.Str.strSub x i j).cps.toList = (x.cps.toList.drop i).take (j - i) := PySem.StrLaws.strSub_toList x i j
theorem part_blank (x : Str) : (32 ∉ x.cps.toList ∧ Txt.partition x (one 32) = (x, Str.empty, Str.empty)) ∨ ∃ a b, x.cps.toList = a ++ 32 :: b ∧ 32 ∉ a ∧ (Txt.partition x (one 32)).1.cps.toList = a ∧ (Txt.partition x (one 32)).2.2.cps.toList = b := by
  have hat : ∀ i, PySem.StrLaws.At x (one 32) x.length i ↔ x.cps.toList[i]? = some 32 := fun i => by
    constructor
    · intro h
      exact (subAt_one x 32 i).mp h.2
    · intro h
      refine ⟨?_, (subAt_one x 32 i).mpr h⟩
      have := (List.getElem?_eq_some_iff.mp h).1
      rw [← LmTxt.len_list] at this
      show i + 1 ≤ x.length
      omega
  rcases PySem.StrLaws.occ_head x (one 32) 1 (Nat.le_refl _) with ⟨h0, hn⟩ | ⟨i, r, h0, hi, hk⟩
  · left
    refine ⟨fun h => ?_, ?_⟩
    · obtain ⟨i, hi, e⟩ := List.getElem_of_mem h
      exact hn i ((hat i).mpr (by rw [List.getElem?_eq_getElem hi, e]))
    · unfold Txt.partition
      rw [h0]
  · right
    have hi' := (hat i).mp hi
    obtain ⟨hil, hie⟩ := List.getElem?_eq_some_iff.mp hi'
    have el : x.cps.toList = x.cps.toList.take i ++ 32 :: x.cps.toList.drop (i + 1) := by
      conv => lhs; rw [← List.take_append_drop i x.cps.toList, List.drop_eq_getElem_cons hil, hie]
    refine ⟨x.cps.toList.take i, x.cps.toList.drop (i + 1), el, fun h => ?_, ?_, ?_⟩
    · obtain ⟨k, hkl, e⟩ := List.getElem_of_mem h
      rw [List.length_take] at hkl
      rw [List.getElem_take] at e
      exact hk k (by omega) ((hat k).mpr (by rw [List.getElem?_eq_getElem (by omega), e]))
    · unfold Txt.partition
      rw [h0]
      show (Builtin.Str.strSub x 0 i).cps.toList = _
      rw [sub_list, List.drop_zero, Nat.sub_zero]
    · unfold Txt.partition
      rw [h0]
      show (Builtin.Str.strSub x (i + 1) x.length).cps.toList = _
      rw [sub_list]
      refine List.take_of_length_le ?_
      rw [List.length_drop, ← LmTxt.len_list]
      exact Nat.le_refl _
theorem dg_blank {n : Nat} (h : n < 64) (h1 : 1 ≤ n) : 32 ∉ dg n := fun z => by
  have := (dg_all ⟨n, h⟩ h1).2.2.1 32 z
  omega
/-- the first blank is the only way -/
theorem first_blank {a b c d : List Nat} (ha : 32 ∉ a) (hc : 32 ∉ c) (h : a ++ 32 :: b = c ++ 32 :: d) : a = c ∧ b = d := by
  induction a generalizing c with
  | nil =>
    cases c with
    | nil => simpa using h
    | cons y c =>
      have : (32 : Nat) = y := by simpa using congrArg List.head? h
      exact absurd (this ▸ List.mem_cons_self) hc
  | cons x a ih =>
    cases c with
    | nil =>
      have : x = 32 := by simpa using congrArg List.head? h
      exact absurd (this ▸ List.mem_cons_self) ha
    | cons y c =>
      have h2 : x = y ∧ a ++ 32 :: b = c ++ 32 :: d := by simpa using h
      have := ih (fun z => ha (List.mem_cons_of_mem _ z)) (fun z => hc (List.mem_cons_of_mem _ z)) h2.2
      exact ⟨by rw [h2.1, this.1], this.2⟩
/-! ### the table of figures -/
def figs (most : Nat) : List (Key × V) := (List.range most).map fun i => ((Sum.inr (fig (i + 1)) : Key), V.int ((i + 1 : Nat) : Int))
theorem figs_nd {most : Nat} (hm : most < 64) : ((figs most).map (·.1)).Nodup := by
  unfold figs
  rw [List.map_map]
  refine List.pairwise_map.mpr (List.Pairwise.imp_of_mem (fun {a b} ha hb q e => q ?_) List.nodup_range)
  have h1 := List.mem_range.mp ha
  have h2 := List.mem_range.mp hb
  have e' : fig (a + 1) = fig (b + 1) := Sum.inr.inj e
  have e2 := congrArg (fun x : Str => x.cps.toList) e'
  have e3 : dg (a + 1) = dg (b + 1) := by
    rw [← fig_dg (by omega), ← fig_dg (by omega)]
    exact e2
  have := dg_inj (by omega) (by omega) (by omega) (by omega) e3
  omega
theorem figs_some {most : Nat} (hm : most < 64) {n : Nat} (h1 : 1 ≤ n) (h2 : n ≤ most) {x : Str} (hx : x.cps.toList = dg n) : valV (figs most) (.inr x) = some (.int (n : Int)) := by
  refine (mem_val (figs_nd hm)).mpr ?_
  unfold figs
  refine List.mem_map.mpr ⟨n - 1, List.mem_range.mpr (by omega), ?_⟩
  have e : n - 1 + 1 = n := by omega
  rw [e]
  have ex : fig n = x := str_ext (by rw [fig_dg (by omega), hx])
  rw [ex]
theorem figs_of {most : Nat} (hm : most < 64) {x : Str} {v : V} (h : valV (figs most) (.inr x) = some v) : ∃ n, 1 ≤ n ∧ n ≤ most ∧ x.cps.toList = dg n ∧ v = .int (n : Int) := by
  have := (mem_val (figs_nd hm)).mp h
  unfold figs at this
  obtain ⟨i, hi, e⟩ := List.mem_map.mp this
  have hi' := List.mem_range.mp hi
  have e1 : fig (i + 1) = x := Sum.inr.inj (congrArg Prod.fst e)
  have e2 : V.int ((i + 1 : Nat) : Int) = v := congrArg Prod.snd e
  exact ⟨i + 1, by omega, by omega, by rw [← e1]; exact fig_dg (by omega), e2.symm⟩
theorem figs_snoc (m : Nat) : figs (m + 1) = figs m ++ [((Sum.inr (fig (m + 1)) : Key), V.int ((m + 1 : Nat) : Int))] := by
  unfold figs
  rw [List.range_succ, List.map_append]
  rfl
/-! ### lists of notes -/
inductive Pt (P : Str → G → Prop) : List Str → List G → Prop
  | nil : Pt P [] []
  | cons {t : Str} {k : G} {ts : List Str} {ks : List G} : P t k → Pt P ts ks → Pt P (t :: ts) (k :: ks)
theorem Pt.len {P : Str → G → Prop} {ts : List Str} {ks : List G} (h : Pt P ts ks) : ts.length = ks.length := by
  induction h with
  | nil => rfl
  | cons _ _ ih => simp [ih]
theorem Pt.snoc {P : Str → G → Prop} {ts : List Str} {ks : List G} (h : Pt P ts ks) {t : Str} {k : G} (p : P t k) : Pt P (ts ++ [t]) (ks ++ [k]) := by
  induction h with
  | nil => exact .cons p .nil
  | cons q _ ih => exact .cons q ih
theorem Pt.mem {P : Str → G → Prop} {ts : List Str} {ks : List G} (h : Pt P ts ks) : ∀ t ∈ ts, ∃ k ∈ ks, P t k := by
  induction h with
  | nil => intro t ht; cases ht
  | cons p _ ih =>
    intro t ht
    rcases List.mem_cons.mp ht with q | q
    · rw [q]; exact ⟨_, List.mem_cons_self, p⟩
    · obtain ⟨k, hk, pk⟩ := ih t q
      exact ⟨k, List.mem_cons_of_mem _ hk, pk⟩
theorem Pt.imp {P R : Str → G → Prop} {ts : List Str} {ks : List G} (h : Pt P ts ks) (f : ∀ t k, P t k → R t k) : Pt R ts ks := by
  induction h with
  | nil => exact .nil
  | cons p _ ih => exact .cons (f _ _ p) ih
theorem Pt.back {P R : Str → G → Prop} {ts : List Str} {ks : List G} (h : Pt P ts ks) (f : ∀ t k, k ∈ ks → P t k → R t k) : Pt R ts ks := by
  induction h with
  | nil => exact .nil
  | cons p _ ih => exact .cons (f _ _ List.mem_cons_self p) (ih fun t k hk q => f t k (List.mem_cons_of_mem _ hk) q)
theorem Pt.same {P : Str → G → Prop} (u : ∀ t k k', P t k → P t k' → k = k') {ts : List Str} {ks ks' : List G} (h : Pt P ts ks) (h' : Pt P ts ks') : ks = ks' := by
  induction h generalizing ks' with
  | nil => cases h'; rfl
  | cons p _ ih =>
    cases h' with
    | cons p' h' => rw [u _ _ _ p p', ih h']
/-- a note's pair -/
def LP (t : Str) (k : G) : Prop := ∃ n c, LOk t.cps.toList n c ∧ k = (((n : Nat) : Int), one c)
def PP (most : Nat) (t : Str) (k : G) : Prop := ∃ n c, POk most t.cps.toList n c ∧ k = (((n : Nat) : Int), one c)
theorem lp_same (t : Str) (k k' : G) (h : LP t k) (h' : LP t k') : k = k' := by
  obtain ⟨n, c, h, rfl⟩ := h
  obtain ⟨n', c', h', rfl⟩ := h'
  obtain ⟨e1, e2⟩ := lo_same h h'
  rw [e1, e2]
theorem pp_lp {most : Nat} (hm : most < 64) (t : Str) (k : G) (h : PP most t k) : LP t k := by
  obtain ⟨n, c, h, rfl⟩ := h
  exact ⟨n, c, po_lo hm h, rfl⟩
/-- a book that the law reads is one that the program reads -/
theorem lp_pp {ts : List Str} {ks : List G} (hm : ts.length < 64) (h : Pt LP ts ks) (bk : Bk ks) : Pt (PP ts.length) ts ks := by
  have hl := h.len
  have hp := bk_pos bk
  refine h.back fun t k hk q => ?_
  obtain ⟨n, c, h, rfl⟩ := q
  have := hp _ hk
  exact ⟨n, c, lo_po hm h (by have h2 : ((n : Nat) : Int) ≤ ks.length := this.2; omega), rfl⟩
end M14

set_option Elab.async false
set_option linter.all false
set_option maxRecDepth 100000
set_option maxHeartbeats 2000000
namespace M14
open PySem PySem.Spec L2 PyProof.Rows LmTxt M02 M05 M06 M08 LmG
/-- a note that is not too long -/
def Okn (t : Str) : Prop := t.length ≤ 200 ∧ ∀ c ∈ t.cps.toList, c < 127
theorem Okn.app {x y : Str} (h1 : x.length ≤ 100 ∧ ∀ c ∈ x.cps.toList, c < 127) (h2 : y.length ≤ 100 ∧ ∀ c ∈ y.cps.toList, c < 127) : Okn (x ++ y) := by
  refine ⟨by rw [app_len]; omega, fun c hc => ?_⟩
  rw [app_list] at hc
  rcases List.mem_append.mp hc with q | q
  · exact h1.2 c q
  · exact h2.2 c q
theorem part_pp {most : Nat} (hm : most < 64) {t : Str} {k : G} (h : PP most t k) : valV (figs most) (.inr (Txt.partition t (one 32)).1) = some (.int k.1) ∧ (Txt.partition t (one 32)).2.2 = k.2 ∧ k.2.length = 1 := by
  obtain ⟨n, c, ⟨h1, h2, e⟩, rfl⟩ := h
  rcases part_blank t with ⟨hno, _⟩ | ⟨a, b, hab, ha, e1, e2⟩
  · exact absurd (by rw [e]; simp) hno
  · have h3 : a ++ 32 :: b = dg n ++ 32 :: [c] := by rw [← hab, e]
    obtain ⟨ea, eb⟩ := first_blank ha (dg_blank (by omega) h1) h3
    refine ⟨figs_some hm h1 h2 (by rw [e1, ea]), str_ext (by rw [e2, eb]), rfl⟩
theorem part_of {most : Nat} (hm : most < 64) {t : Str} {v : V} (h : valV (figs most) (.inr (Txt.partition t (one 32)).1) = some v) (h1 : (Txt.partition t (one 32)).2.2.length = 1) : ∃ n : Int, v = .int n ∧ PP most t (n, (Txt.partition t (one 32)).2.2) := by
  obtain ⟨n, n1, n2, hx, rfl⟩ := figs_of hm h
  rcases part_blank t with ⟨_, he⟩ | ⟨a, b, hab, ha, e1, e2⟩
  · rw [he] at h1
    cases h1
  · rw [LmTxt.len_list, e2] at h1
    obtain ⟨c, rfl⟩ := List.length_eq_one_iff.mp h1
    refine ⟨n, rfl, n, c, ⟨n1, n2, ?_⟩, ?_⟩
    · rw [hab, ← e1, hx]
    · rw [show (Txt.partition t (one 32)).2.2 = one c from str_ext e2]
theorem pp_sign {most : Nat} {t : Str} {k : G} (ht : Okn t) (h : PP most t k) : PyData.strOk k.2 = true := by
  obtain ⟨n, c, ⟨_, _, e⟩, rfl⟩ := h
  have : c < 127 := ht.2 c (by rw [e]; simp)
  have h2 : c < 1114112 := by omega
  simpa [PyData.strOk] using h2
theorem lp_sign {t : Str} {k : G} (ht : Okn t) (h : LP t k) : PyData.strOk k.2 = true := by
  obtain ⟨n, c, ⟨ds, e, _⟩, rfl⟩ := h
  have : c < 127 := ht.2 c (by rw [e]; simp)
  have h2 : c < 1114112 := by omega
  simpa [PyData.strOk] using h2
theorem Pt.all {P : Str → G → Prop} {ts : List Str} {ks : List G} (h : Pt P ts ks) : ∀ k ∈ ks, ∃ t ∈ ts, P t k := by
  induction h with
  | nil => intro t ht; cases ht
  | cons p _ ih =>
    intro k hk
    rcases List.mem_cons.mp hk with q | q
    · rw [q]; exact ⟨_, List.mem_cons_self, p⟩
    · obtain ⟨t, ht, pk⟩ := ih k q
      exact ⟨t, List.mem_cons_of_mem _ ht, pk⟩
/-! ### a note, as the law takes it apart -/
theorem ends_two {l : List Nat} (h : 3 ≤ l.length) : ∃ a ds b c, l = (a :: ds) ++ [b, c] := by
  match l, h with
  | a :: l', h =>
    have h2 : 2 ≤ l'.length := by simp at h; omega
    have e : l' = l'.take (l'.length - 2) ++ l'.drop (l'.length - 2) := (List.take_append_drop _ _).symm
    have hd : (l'.drop (l'.length - 2)).length = 2 := by rw [List.length_drop]; omega
    match hq : l'.drop (l'.length - 2), hd with
    | [b, c], _ => exact ⟨a, l'.take (l'.length - 2), b, c, by rw [hq] at e; rw [List.cons_append, ← e]⟩
theorem at_neg2 {α : Type} (ds : List α) (b c : α) : atI (ds ++ [b, c]) (-2) = some b := by
  unfold atI ixN
  have hl : (ds ++ [b, c]).length = ds.length + 2 := by simp
  rw [hl, if_neg (by decide), if_pos (by omega)]
  show (ds ++ [b, c])[(-2 + ((ds.length + 2 : Nat) : Int)).toNat]? = some b
  rw [show (-2 + ((ds.length + 2 : Nat) : Int)).toNat = ds.length by omega, List.getElem?_append_right (Nat.le_refl _)]
  simp
theorem at_neg1 {α : Type} (ds : List α) (c : α) : atI (ds ++ [c]) (-1) = some c := by
  unfold atI ixN
  have hl : (ds ++ [c]).length = ds.length + 1 := by simp
  rw [hl, if_neg (by decide), if_pos (by omega)]
  show (ds ++ [c])[(-1 + ((ds.length + 1 : Nat) : Int)).toNat]? = some c
  rw [show (-1 + ((ds.length + 1 : Nat) : Int)).toNat = ds.length by omega, List.getElem?_append_right (Nat.le_refl _)]
  simp
theorem at_neg1' {l : List Nat} (h : 1 ≤ l.length) : ∃ c, c ∈ l ∧ atI l (-1) = some c := by
  have hne : l ≠ [] := fun e => by rw [e] at h; simp at h
  refine ⟨l.getLast hne, List.getLast_mem hne, ?_⟩
  have := at_neg1 l.dropLast (l.getLast hne)
  rwa [List.dropLast_concat_getLast] at this
theorem slice_neg2 (x : Str) : (Txt.slice x none (some (-2))).cps.toList = x.cps.toList.take (x.length - 2) := by
  have e : Txt.slice x none (some (-2)) = Txt.slice x none (some ((x.length - 2 : Nat) : Int)) := by
    rw [PyProof.Rows.slice_to_neg (by decide)]
    congr 2
    omega
  rw [e]
  exact sl_to x (by omega)
/-! ### figures, one by one -/
def digits : Str := "0123456789"
theorem dig_at (i c : Nat) : PySem.StrLaws.At digits (one c) digits.length i ↔ i < 10 ∧ c = 48 + i := by
  have hl : digits.cps.toList = [48, 49, 50, 51, 52, 53, 54, 55, 56, 57] := by decide +kernel
  have hn : digits.length = 10 := by decide +kernel
  constructor
  · intro h
    have h2 := (subAt_one digits c i).mp h.2
    rw [hl] at h2
    have hi : i < 10 := by
      have := (List.getElem?_eq_some_iff.mp h2).1
      simpa using this
    have : ∀ i : Fin 10, ([48, 49, 50, 51, 52, 53, 54, 55, 56, 57] : List Nat)[i.val]? = some (48 + i.val) := by decide
    have h3 := this ⟨i, hi⟩
    have h4 := h2.symm.trans h3
    exact ⟨hi, Option.some.inj h4⟩
  · rintro ⟨hi, rfl⟩
    refine ⟨by rw [hn]; show i + 1 ≤ 10; omega, (subAt_one digits _ i).mpr ?_⟩
    rw [hl]
    have : ∀ i : Fin 10, ([48, 49, 50, 51, 52, 53, 54, 55, 56, 57] : List Nat)[i.val]? = some (48 + i.val) := by decide
    exact this ⟨i, hi⟩
theorem dig_occ (c : Nat) : (¬ (48 ≤ c ∧ c ≤ 57) ∧ Builtin.Str.occurrences digits (one c) 0 digits.length 1 = []) ∨ ((48 ≤ c ∧ c ≤ 57) ∧ ∃ r, Builtin.Str.occurrences digits (one c) 0 digits.length 1 = (c - 48) :: r) := by
  rcases PySem.StrLaws.occ_head digits (one c) 1 (Nat.le_refl _) with ⟨h0, hn⟩ | ⟨i, r, h0, hi, _⟩
  · refine .inl ⟨fun h => hn (c - 48) ((dig_at _ _).mpr ⟨by omega, by omega⟩), h0⟩
  · obtain ⟨h1, h2⟩ := (dig_at _ _).mp hi
    refine .inr ⟨by omega, r, ?_⟩
    rw [h0, h2, Nat.add_sub_cancel_left]
theorem va_snoc (l : List Nat) (c : Nat) : va (l ++ [c]) = 10 * va l + (c - 48) := by
  unfold va
  rw [List.foldl_append]
  rfl
end M14

set_option Elab.async false
set_option linter.all false
set_option maxRecDepth 100000
set_option maxHeartbeats 4000000
namespace K14
open PySem PySem.Spec L2 PyProof.Rows LmTxt M02 LmG M05 M06 M08
def top (i : Nat) : Stmt := PySem.Challenge.pw_lampcode_k14_whole_notes_of_books.main.body.getD i (.Pass ⟨0, 0, 0, 0⟩)
abbrev sIsBook : Stmt := top 8
abbrev sMake : Stmt := top 9
abbrev sRefuse : Stmt := top 10
abbrev sShown : Stmt := top 12
abbrev sReadNotes : Stmt := top 13
abbrev sLengths : Stmt := top 14
abbrev sPairOf : Stmt := top 15
abbrev sWhole : Stmt := top 17
abbrev sAt : Stmt := top 18
abbrev sGrown : Stmt := top 19
abbrev sGood : Stmt := top 20
abbrev sSame : Stmt := top 21
abbrev sLPair : Stmt := top 22
abbrev sMenu : Stmt := top 23
abbrev sTells : Stmt := top 24
abbrev sLaw : Stmt := top 25
/-- the built-in names that the text leaves as they are -/
structure Txt (mg : Str → Option Value) : Prop where
  isinstance : mg "isinstance" = none
  list : mg "list" = none
  tuple : mg "tuple" = none
  str : mg "str" = none
  int : mg "int" = none
  bool : mg "bool" = none
  len : mg "len" = none
  sorted : mg "sorted" = none
  min : mg "min" = none
  range : mg "range" = none
  set : mg "set" = none
  max : mg "max" = none
  sum : mg "sum" = none
  ValueError : mg "ValueError" = none
  dict : mg "dict" = none
/-- the text's own classes and constants -/
structure Own (K : PySem.W.Frag) (mg : Str → Option Value) (cL cB cS cF cT cN : Addr) : Prop where
  g_LampError : mg "LampError" = some (.ref cL)
  g_NoBook : mg "NoBook" = some (.ref cB)
  g_NoSign : mg "NoSign" = some (.ref cS)
  g_NoFlash : mg "NoFlash" = some (.ref cF)
  g_NoText : mg "NoText" = some (.ref cT)
  g_NoNotes : mg "NoNotes" = some (.ref cN)
  c_LampError : ExC K cL bmV
  c_NoBook : ExC K cB (.ref cL :: bmV)
  c_NoNotes : ExC K cN (.ref cL :: bmV)
  a_NoBook : ExA K cB
  a_NoNotes : ExA K cN
  kBB : PySem.W.kitOne K (.ref cB) (.ref cB) = some true
  kBS : PySem.W.kitOne K (.ref cB) (.ref cS) = some false
  kBF : PySem.W.kitOne K (.ref cB) (.ref cF) = some false
  kBT : PySem.W.kitOne K (.ref cB) (.ref cT) = some false
  kBN : PySem.W.kitOne K (.ref cB) (.ref cN) = some false
  kBV : PySem.W.kitOne K (.ref cB) (.type "ValueError") = some true
  kNB : PySem.W.kitOne K (.ref cN) (.ref cB) = some false
  kNS : PySem.W.kitOne K (.ref cN) (.ref cS) = some false
  kNF : PySem.W.kitOne K (.ref cN) (.ref cF) = some false
  kNT : PySem.W.kitOne K (.ref cN) (.ref cT) = some false
  kNN : PySem.W.kitOne K (.ref cN) (.ref cN) = some true
  kNV : PySem.W.kitOne K (.ref cN) (.type "ValueError") = some true
theorem two_new {H : Hp} {q r : Addr} {o o' : HO} (hq : H q = none) (hr : upd H q o r = none) : Same H (upd (upd H q o) r o') := (same_new hq o).trans (same_new hr o')
theorem u1 {k : Nat} {A : Around} (r : Room k A) : A.units + 1 < cLine := by have := r.units; omega
section
variable {P : Program} {w : World} {K : PySem.W.Frag} {mg : Str → Option Value} {base : Heap} {cL cB cS cF cT cN : Addr}
/-! ### make_a_whole -/
def spMake (K : PySem.W.Frag) : Sp := fun vs H Q _ => ∃ (a : Addr) (ls : List Int), vs = [.ref a] ∧ SqL K H a (ls.map V.int) ∧ ls ≠ [] ∧ ls.length ≤ 63 ∧ (∀ l ∈ ls, 1 ≤ l) ∧
  ∀ (b : Bool) (H' : Hp), Same H H' → (b = true ↔ Kr ls) → Q (.bl b) H'
theorem sc_make : FnScope ["lengths", "whole"] ["lengths"] (defScope sMake) := ⟨rfl, rfl, rfl, by decide +kernel, rfl, by decide +kernel, by decide +kernel⟩
theorem ok_make {f : Addr} {fd : FuncData} (F : Fun K "make_a_whole" "make_a_whole" sMake f fd) (T : Txt mg) : FnOk P w K mg base CX0 1 f fd ["lengths"] (spMake K) := by
  refine F.ok sc_make (fun vs H Q E h => ?_) (fun cdv A outer s H vs Q E hr h => ?_)
  · obtain ⟨a, ls, rfl, _⟩ := h; rfl
  obtain ⟨a, ls, rfl, hS, hne, hl, h1, fin⟩ := h
  refine ⟨_, (pss_cons (ps_if (pt_cmpR op_ge (pe_callB (call_max_ints rfl) rfl T.max boot_max (pa_cons (pv 0) pa_nil)) (pe_callB call_len rfl T.len PySem.boot_len (pa_cons (pv 0) pa_nil)) (nomark _)) (pss_one (ps_ret pe_bl)) pss_nil)
      (pss_cons (ps_set (i := 1) sc_make.nd rfl (Or.inr rfl) (pe_op op_shl pe_int (pe_callB call_len rfl T.len PySem.boot_len (pa_cons (pv 0) pa_nil))))
      (pss_one (ps_ret (pe_cmpR op_eq (pe_callB (call_sum_ints rfl) rfl T.sum boot_sum (pa_cons (pe_comp (own := ["length"]) (cap := [("whole", 1)]) (cl := [("whole", s.heap.objs.size + 1)]) ⟨rfl, rfl, by decide +kernel, by decide +kernel, ⟨rfl, trivial⟩, rfl, ⟨⟨rfl, .inl rfl, .inl rfl, rfl⟩, trivial⟩⟩ rfl (pi_list (pv 0)) (fun _ _ _ _ => (pg_name (i := 0) (by show List.Nodup (["length", "whole"] : List Str); decide +kernel) rfl (Or.inl rfl))) (fun _ _ _ _ => pts_nil) (fun _ _ _ _ => (pe_op op_shr (pv 1) (pv 0)))) pa_nil)) (pv 1) (nomark _)))))), ?_⟩
  refine ⟨_, rfl, a, ls, rfl, hS, hne, fun m hm hmax => ?_⟩
  refine ⟨_, rfl, _, _, rfl, .inl ⟨_, hS, rfl⟩, _, _, rfl, rfl, _, rfl, ?_⟩
  rw [List.length_map]
  refine ite2 (fun c => ?_) (fun c => ?_)
  · refine fin false H (Same.refl _) ⟨(fun z => nomatch z), (fun ⟨_, hb, _⟩ => ?_)⟩
    have h2 := of_decide_eq_true c
    have := hb m hm
    omega
  · have h2 : m < (ls.length : Int) := by
      have : ¬ ((ls.length : Int) ≤ m) := fun z => c (decide_eq_true z)
      omega
    refine ⟨_, rfl, _, _, rfl, .inl ⟨_, hS, rfl⟩, _, _, rfl, rfl, ⟨Int.natCast_nonneg _, by rw [List.length_map]; omega, by decide⟩, ?_⟩
    rw [List.length_map]
    refine ⟨_, rfl, a, rfl, ⟨_, hS⟩, fun C ex s0 H0 => comp_list_fin (K := K) (a := a) (xs := ls.map V.int)
      (fun i out σ H2 => ∃ (u : Option V) (os : List Int), σ = [u, some (.int (1 * 2 ^ ((ls.length : Nat) : Int).toNat))] ∧ out = os.map V.int ∧ Same H H2 ∧ os = (ls.take i).map fun l => (1 * 2 ^ ((ls.length : Nat) : Int).toNat : Int) / 2 ^ l.toNat)
      ⟨none, [], rfl, rfl, Same.refl _, rfl⟩ (fun i out σ H2 _ ⟨_, _, _, _, g, _⟩ => g.seq hS) ?_ ?_⟩
    · rintro i y out σ' H2 hi hy ⟨u, os, rfl, rfl, g2, hos⟩
      have hi' : i < ls.length := by rwa [List.length_map] at hi
      rw [List.getElem?_map, List.getElem?_eq_getElem hi'] at hy
      cases hy
      simp only [gName, tNoTest, ↓reduceIte]
      have hlp := h1 ls[i] (List.getElem_mem hi')
      refine ⟨_, rfl, _, rfl, _, _, rfl, rfl, by omega, smallL ?_, CW.next hi ⟨_, os ++ [(1 * 2 ^ ((ls.length : Nat) : Int).toNat : Int) / 2 ^ ls[i].toNat], rfl, ?_, g2, ?_⟩⟩
      · rw [List.length_map, hos, List.length_map, List.length_take]; omega
      · rw [List.map_append]; rfl
      · rw [hos, List.take_add_one, List.getElem?_eq_getElem hi', List.map_append]
        rfl
    · rintro out σ' H2 ⟨u, os, rfl, rfl, g2, hos⟩ p hp
      rw [List.length_map, List.take_of_length_le (Nat.le_refl _)] at hos
      refine ⟨p, os, rfl, SqL.of upd_same, _, rfl, rfl, fin _ _ (g2.trans (same_new hp _)) ?_⟩
      have e : os.sum = sm ls.length ls := by rw [hos]; rfl
      rw [e, decide_eq_true_iff]
      constructor
      · intro z
        refine ⟨h1, fun l hl' => ?_, ?_⟩
        · have := hmax l hl'; omega
        · have := V.int.inj z
          rw [this, Int.one_mul, Int.toNat_natCast]
      · rintro ⟨_, _, z⟩
        show V.int _ = V.int (1 * 2 ^ ((ls.length : Nat) : Int).toNat)
        rw [z, Int.one_mul, Int.toNat_natCast]
/-! ### is_book -/
def spIsBook (K : PySem.W.Frag) : Sp := fun vs H Q _ => ∃ (a : Addr) (zs : List (Addr × G)), vs = [.ref a] ∧ SqL K H a (refs zs) ∧ Tb fL H zs ∧ zs.length ≤ 63 ∧ (∀ z ∈ zs, PyData.strOk z.2.2 = true) ∧
  ∀ (b : Bool) (H' : Hp), Same H H' → (b = true ↔ Bk (zs.map (·.2))) → Q (.bl b) H'
theorem sc_isbook : FnScope ["book", "signs", "lengths"] ["book"] (defScope sIsBook) := ⟨rfl, rfl, rfl, by decide +kernel, rfl, by decide +kernel, by decide +kernel⟩
theorem ok_isbook {f : Addr} {fd : FuncData} (F : Fun K "is_book" "is_book" sIsBook f fd) (T : Txt mg) {fm : Addr} {fdm : FuncData} (M : Fn K mg "make_a_whole" fm fdm ["lengths"]) (GM : FnOk P w K mg base CX0 1 fm fdm ["lengths"] (spMake K)) : FnOk P w K mg base CX0 2 f fd ["book"] (spIsBook K) := by
  refine F.ok sc_isbook (fun vs H Q E h => ?_) (fun cdv A outer s H vs Q E hr h => ?_)
  · obtain ⟨a, zs, rfl, _⟩ := h; rfl
  obtain ⟨a, zs, rfl, hS, hT, hl, hok, fin⟩ := h
  refine ⟨_, (pss_cons (ps_comp (i := 1) sc_isbook.nd rfl rfl (own := ["sign", "length"]) (cap := []) (cl := []) ⟨rfl, rfl, by decide +kernel, by decide +kernel, trivial, rfl, trivial⟩ rfl (pi_list (pv 0)) (fun _ _ _ _ => (pg_tup (n := 2) rfl (pgs_cons (pg_name (i := 0) (by show List.Nodup (["sign", "length"] : List Str); decide +kernel) rfl (Or.inl rfl)) (pgs_cons (pg_name (i := 1) (by show List.Nodup (["sign", "length"] : List Str); decide +kernel) rfl (Or.inl rfl)) pgs_nil)))) (fun _ _ _ _ => pts_nil) (fun _ _ _ _ => (pv 0)))
      (pss_cons (ps_comp (i := 2) sc_isbook.nd rfl rfl (own := ["sign", "length"]) (cap := []) (cl := []) ⟨rfl, rfl, by decide +kernel, by decide +kernel, trivial, rfl, trivial⟩ rfl (pi_list (pv 0)) (fun _ _ _ _ => (pg_tup (n := 2) rfl (pgs_cons (pg_name (i := 0) (by show List.Nodup (["sign", "length"] : List Str); decide +kernel) rfl (Or.inl rfl)) (pgs_cons (pg_name (i := 1) (by show List.Nodup (["sign", "length"] : List Str); decide +kernel) rfl (Or.inl rfl)) pgs_nil)))) (fun _ _ _ _ => pts_nil) (fun _ _ _ _ => (pv 1)))
      (pss_cons (ps_if (pt_cmpR (op_neD hr.units) (pv 1) (pe_callB (call_sorted_set rfl) rfl T.sorted boot_sorted (pa_cons (pe_callTy (call_set_strs rfl) rfl T.set PyProof.Rows.boot_set (pa_cons (pv 1) pa_nil)) pa_nil)) (nomark _)) (pss_one (ps_ret pe_bl)) pss_nil)
      (pss_cons (ps_if (pt_cmpR op_lt (pe_callB call_len rfl T.len PySem.boot_len (pa_cons (pv 0) pa_nil)) pe_int (nomark _)) (pss_one (ps_ret (pe_or (pe_cmpR (op_eqD hr.units) (pv 2) (pe_lst pa_nil) (nomark _)) (pe_one (pe_cmpR (op_eqD hr.units) (pv 2) (pe_lst (pa_cons pe_int pa_nil)) (nomark _)))))) pss_nil)
      (pss_one (ps_ret (pe_and (pe_cmpR op_ge (pe_callB (call_min_ints rfl) rfl T.min boot_min (pa_cons (pv 2) pa_nil)) pe_int (nomark _)) (pe_one (pe_call GM hr rfl M.m M.k M.b .nil pass0 (pa_cons (pv 2) pa_nil)))))))))), ?_⟩
  obtain ⟨ts, hts⟩ : ∃ ts, ts = zs.map (·.2.2) := ⟨_, rfl⟩
  obtain ⟨ls, hls⟩ : ∃ ls, ls = zs.map (·.2.1) := ⟨_, rfl⟩
  have htl : ts.length = zs.length := by rw [hts, List.length_map]
  have hll : ls.length = zs.length := by rw [hls, List.length_map]
  have htok : ∀ t ∈ ts, PyData.strOk t = true := fun t ht => by
    rw [hts] at ht
    obtain ⟨z, hz, rfl⟩ := List.mem_map.mp ht
    exact hok z hz
  have eB : Bk (zs.map (·.2)) ↔ UpS ts ∧ ((zs.length < 2 ∧ (ls = [] ∨ ls = [1])) ∨ (2 ≤ zs.length ∧ Kr ls)) := by
    unfold Bk
    rw [List.map_map, List.map_map, List.length_map, hts, hls]
    exact Iff.rfl
  -- signs
  refine ⟨_, rfl, a, rfl, ⟨_, hS⟩, fun C ex s0 H0 => comp_list_set (K := K) (a := a) (xs := refs zs)
    (fun i out σ H2 => ∃ (u v : Option V), σ = [u, v] ∧ out = (ts.take i).map V.str ∧ Same H H2)
    ⟨none, none, rfl, rfl, Same.refl _⟩ (fun i out σ H2 _ ⟨_, _, _, _, g⟩ => g.seq hS) ?_ ?_⟩
  · rintro i y out σ' H2 hi hy ⟨u, v, rfl, rfl, g2⟩
    obtain ⟨hi', rfl⟩ := refs_at hy
    simp only [gTup, gCons, gNil, gName, tNoTest, ↓reduceIte]
    have ht := (hT.same g2).at hi'
    have eti : ts[i]? = some zs[i].2.2 := by rw [hts, List.getElem?_map, List.getElem?_eq_getElem hi']; rfl
    refine ⟨_, _, rfl, SqT.of ht, rfl, _, _, rfl, _, _, rfl, rfl, _, rfl, smallL ?_, CW.next hi ⟨_, _, rfl, ?_, g2⟩⟩
    · rw [List.length_map, List.length_take]; omega
    · rw [List.take_add_one, eti, List.map_append]; rfl
  rintro out σ' H1 ⟨u, v, rfl, rfl, g1⟩ p hp
  rw [refs_len, List.take_of_length_le (by omega)]
  have g2 := g1.trans (same_new hp (.lst (ts.map V.str)))
  have hp2 : upd H1 p (.lst (ts.map V.str)) p = some (.lst (ts.map V.str)) := upd_same
  generalize upd H1 p (.lst (ts.map V.str)) = H2 at g2 hp2 ⊢
  clear hp g1
  -- lengths
  refine ⟨_, rfl, a, rfl, ⟨_, g2.seq hS⟩, fun C ex s0 H0 => comp_list_set (K := K) (a := a) (xs := refs zs)
    (fun i out σ H3 => ∃ (u v : Option V), σ = [u, v] ∧ out = (ls.take i).map V.int ∧ Same H2 H3)
    ⟨none, none, rfl, rfl, Same.refl _⟩ (fun i out σ H3 _ ⟨_, _, _, _, g⟩ => (g2.trans g).seq hS) ?_ ?_⟩
  · rintro i y out σ' H3 hi hy ⟨u, v, rfl, rfl, g3⟩
    obtain ⟨hi', rfl⟩ := refs_at hy
    simp only [gTup, gCons, gNil, gName, tNoTest, ↓reduceIte]
    have ht := (hT.same (g2.trans g3)).at hi'
    have eti : ls[i]? = some zs[i].2.1 := by rw [hls, List.getElem?_map, List.getElem?_eq_getElem hi']; rfl
    refine ⟨_, _, rfl, SqT.of ht, rfl, _, _, rfl, _, _, rfl, rfl, _, rfl, smallL ?_, CW.next hi ⟨_, _, rfl, ?_, g3⟩⟩
    · rw [List.length_map, List.length_take]; omega
    · rw [List.take_add_one, eti, List.map_append]; rfl
  rintro out σ' H3 ⟨u, v, rfl, rfl, g3⟩ l hl0
  rw [refs_len, List.take_of_length_le (by omega)]
  have g4 := (g3.trans (same_new hl0 (.lst (ls.map V.int))))
  have hl4 : upd H3 l (.lst (ls.map V.int)) l = some (.lst (ls.map V.int)) := upd_same
  generalize upd H3 l (.lst (ls.map V.int)) = H4 at g4 hl4 ⊢
  clear hl0 g3 H3
  have hp4 := g4 _ _ hp2
  have gg := g2.trans g4
  clear g2 g4 hp2 H2 H1
  -- sorted(set(signs))
  refine ⟨_, rfl, _, rfl, p, ts, rfl, SqL.of hp4, by unfold scanBound; omega, fun q ss hq hsl nd hm => ?_⟩
  refine ⟨q, ss, rfl, upd_same, by omega, fun r ys hr0 pm so => ?_⟩
  have mx : SeqAt.noMix (.list (ts.map PyData.str)) (.list (ys.map PyData.str)) = true := by rw [SeqAt.noMix]; exact mix_strs _ _
  refine ⟨.list (ts.map .str), .list (ys.map .str), .lst (SqL.of ((two_new hq hr0) _ _ hp4)) (rd_strs ts), .lst (SqL.of upd_same) (rd_strs ys), sh_strs htok, sh_strs (fun t ht => htok t ((hm t).mp (pm.mem_iff.mp ht))), mx, _, rfl, ?_⟩
  have ne : same (.list (ts.map PyData.str)) (.list (ys.map PyData.str)) = decide (ts = ys) := by rw [same]; exact same_strs ts ys
  rw [ne]
  have eu := signs_up nd hm pm so
  refine ite2 (fun c => ?_) (fun c => ?_)
  · have hne : ts ≠ ys := by simpa using c
    exact fin false _ (gg.trans (two_new hq hr0)) ⟨(fun z => nomatch z), (fun z => absurd (eu.mpr (eB.mp z).1) hne)⟩
  have heq : ts = ys := by simpa using c
  have hup := eu.mp heq
  refine ⟨_, rfl, _, _, rfl, .inl ⟨_, (gg.trans (two_new hq hr0)).seq hS, rfl⟩, _, _, rfl, rfl, _, rfl, ?_⟩
  rw [refs_len]
  refine ite2 (fun c => ?_) (fun c => ?_)
  · have h2 : zs.length < 2 := by have := of_decide_eq_true c; omega
    have m0 : SeqAt.noMix (.list (ls.map PyData.int)) (.list []) = true := by rw [SeqAt.noMix]; exact mix_ints ls []
    have s0 : same (.list (ls.map PyData.int)) (.list []) = decide (ls = []) := by rw [same]; exact same_ints ls []
    have m1 : SeqAt.noMix (.list (ls.map PyData.int)) (.list [.int 1]) = true := by rw [SeqAt.noMix]; exact mix_ints ls [1]
    have s1 : same (.list (ls.map PyData.int)) (.list [.int 1]) = decide (ls = [1]) := by rw [same]; exact same_ints ls [1]
    refine ⟨_, rfl, small (by show 0 ≤ 1000000; decide), fun p7 hp7 => ?_⟩
    refine ⟨.list (ls.map .int), .list [], .lst (SqL.of ((same_new hp7 _) _ _ ((two_new hq hr0) _ _ hl4))) (rd_ints ls), .lst (SqL.of upd_same) .nil, sh_ints ls, rfl, m0, ?_⟩
    rw [s0]
    refine ⟨_, rfl, ite2 (fun c0 => ?_) (fun c0 => ?_)⟩
    · exact fin true _ ((gg.trans (two_new hq hr0)).trans (same_new hp7 _)) ⟨(fun _ => eB.mpr ⟨hup, .inl ⟨h2, .inl (of_decide_eq_true c0)⟩⟩), (fun _ => rfl)⟩
    · refine ⟨_, rfl, small (by show 1 ≤ 1000000; decide), fun p8 hp8 => ?_⟩
      refine ⟨.list (ls.map .int), .list [.int 1], .lst (SqL.of ((same_new hp8 _) _ _ ((same_new hp7 _) _ _ ((two_new hq hr0) _ _ hl4)))) (rd_ints ls), .lst (SqL.of upd_same) (rd_ints [1]), sh_ints ls, rfl, m1, ?_⟩
      rw [s1]
      refine fin _ _ (((gg.trans (two_new hq hr0)).trans (same_new hp7 _)).trans (same_new hp8 _)) ?_
      rw [decide_eq_true_iff, eB]
      constructor
      · intro z; exact ⟨hup, .inl ⟨h2, .inr z⟩⟩
      · rintro ⟨_, ⟨_, z | z⟩ | ⟨z, _⟩⟩
        · exact absurd (decide_eq_true z) c0
        · exact z
        · omega
  · have h2 : 2 ≤ zs.length := by
      have : ¬ ((zs.length : Int) < 2) := fun z => c (decide_eq_true z)
      omega
    have lne : ls ≠ [] := fun e => by rw [e] at hll; simp at hll; omega
    refine ⟨_, rfl, l, ls, rfl, SqL.of ((two_new hq hr0) _ _ hl4), lne, fun m hm' hmin => ?_⟩
    refine ⟨_, _, rfl, rfl, _, rfl, ite2 (fun c1 => ?_) (fun c1 => ?_)⟩
    · have hm1 := of_decide_eq_true c1
      have all1 : ∀ x ∈ ls, 1 ≤ x := fun x hx => by have := hmin x hx; omega
      refine ⟨_, rfl, l, ls, rfl, SqL.of ((two_new hq hr0) _ _ hl4), lne, by omega, all1, fun b H' g hb => ?_⟩
      refine fin b H' ((gg.trans (two_new hq hr0)).trans g) (hb.trans ?_)
      rw [eB]
      constructor
      · intro z; exact ⟨hup, .inr ⟨h2, z⟩⟩
      · rintro ⟨_, ⟨z, _⟩ | ⟨_, z⟩⟩
        · omega
        · exact z
    · refine fin false _ (gg.trans (two_new hq hr0)) ⟨(fun z => nomatch z), (fun z => ?_)⟩
      rcases (eB.mp z).2 with ⟨q, _⟩ | ⟨_, q⟩
      · omega
      · have := q.1 m hm'
        exact absurd (decide_eq_true this) c1
end
end K14

set_option Elab.async false
set_option linter.all false
set_option maxRecDepth 100000
set_option maxHeartbeats 4000000
namespace K14
open PySem PySem.Spec L2 PyProof.Rows LmTxt M02 LmG M05 M06 M08
section
variable {P : Program} {w : World} {K : PySem.W.Frag} {mg : Str → Option Value} {base : Heap} {cL cB cS cF cT cN : Addr}
/-! ### refuse_unless_book -/
def spRefuse (K : PySem.W.Frag) (cB : Addr) : Sp := fun vs H Q E => ∃ (a : Addr) (zs : List (Addr × G)), vs = [.ref a] ∧ SqL K H a (refs zs) ∧ Tb fL H zs ∧ zs.length ≤ 63 ∧ (∀ z ∈ zs, PyData.strOk z.2.2 = true) ∧
  ∀ H' : Hp, Same H H' → (Bk (zs.map (·.2)) → Q .non H') ∧ (¬ Bk (zs.map (·.2)) → E (.ref cB) none H')
theorem sc_refuse : FnScope ["book"] ["book"] (defScope sRefuse) := ⟨rfl, rfl, rfl, by decide +kernel, rfl, by decide +kernel, by decide +kernel⟩
theorem ok_refuse {f : Addr} {fd : FuncData} (F : Fun K "refuse_unless_book" "refuse_unless_book" sRefuse f fd) (O : Own K mg cL cB cS cF cT cN) {fm : Addr} {fdm : FuncData} (M : Fn K mg "is_book" fm fdm ["book"]) (GM : FnOk P w K mg base CX0 2 fm fdm ["book"] (spIsBook K)) :
    FnOk P w K mg base (CX1 P w) 3 f fd ["book"] (spRefuse K cB) := by
  refine F.okX sc_refuse (fun vs H Q E h => ?_) (fun cdv A outer s H vs Q E hr h => ?_)
  · obtain ⟨a, zs, rfl, _⟩ := h; rfl
  obtain ⟨a, zs, rfl, hS, hT, hl, hok, fin⟩ := h
  refine ⟨_, (pss_one (ps_if (pt_not (pt_val (pe_call GM hr rfl M.m M.k M.b .nil pass0 (pa_cons (pv 0) pa_nil)))) (pss_one (ps_raise O.c_NoBook O.g_NoBook hr.hd)) pss_nil)), ?_⟩
  refine ⟨_, rfl, a, zs, rfl, hS, hT, hl, hok, fun b H' g hb => ?_⟩
  refine ⟨_, rfl, ?_⟩
  cases b with
  | true => exact iteF ((fin H' g).1 (hb.mp rfl))
  | false => exact iteT ((fin H' g).2 fun z => Bool.false_ne_true (hb.mpr z))
end
end K14

set_option Elab.async false
set_option linter.all false
set_option maxRecDepth 100000
set_option maxHeartbeats 4000000
namespace K14
open PySem PySem.Spec L2 PyProof.Rows LmTxt M02 LmG M05 M06 M08
section
variable {P : Program} {w : World} {K : PySem.W.Frag} {mg : Str → Option Value} {base : Heap} {cL cB cS cF cT cN : Addr}
/-! ### _law_whole -/
def spWhole : Sp := fun vs H Q _ => ∃ n, vs = [.int n] ∧ Q (.bl true) H
theorem sc_whole : FnScope ["_law_found"] ["_law_found"] (defScope sWhole) := ⟨rfl, rfl, rfl, by decide +kernel, rfl, by decide +kernel, by decide +kernel⟩
theorem ok_whole {f : Addr} {fd : FuncData} (F : Fun K "_law_whole" "_law_whole" sWhole f fd) (T : Txt mg) : FnOk P w K mg base CX0 1 f fd ["_law_found"] spWhole := by
  refine F.ok sc_whole (fun vs H Q E h => ?_) (fun cdv A outer s H vs Q E hr h => ?_)
  · obtain ⟨n, rfl, _⟩ := h; rfl
  obtain ⟨n, rfl, q⟩ := h
  refine ⟨_, pss_one (ps_ret (pe_and (pe_isinst T.isinstance T.int boot_int (pv 0)) (pe_one (pe_not (pe_isinst T.isinstance T.bool boot_bool (pv 0)))))), ?_⟩
  refine ⟨_, rfl, _, _, _, true, rfl, .int n, rfl, true, rfl, iteT ?_⟩
  exact ⟨_, rfl, _, _, _, false, rfl, .int n, rfl, false, rfl, q⟩
/-! ### _law_at -/
def spAt (K : PySem.W.Frag) : Sp := fun vs H Q _ => ∃ (a : Addr) (ns : List Int) (k : Nat), vs = [.ref a, .int k] ∧ SqL K H a (ns.map V.int) ∧ ns.length ≤ 1000 ∧ Q (.int (ns.getD k 0)) H
theorem sc_at : FnScope ["_law_script", "_law_k"] ["_law_script", "_law_k"] (defScope sAt) := ⟨rfl, rfl, rfl, by decide +kernel, rfl, by decide +kernel, by decide +kernel⟩
theorem ok_at {f : Addr} {fd : FuncData} (F : Fun K "_law_at" "_law_at" sAt f fd) (T : Txt mg) : FnOk P w K mg base CX0 1 f fd ["_law_script", "_law_k"] (spAt K) := by
  refine F.ok sc_at (fun vs H Q E h => ?_) (fun cdv A outer s H vs Q E hr h => ?_)
  · obtain ⟨a, ns, k, rfl, _⟩ := h; rfl
  obtain ⟨a, ns, k, rfl, hS, hl, q⟩ := h
  refine ⟨_, (pss_cons (ps_if (pt_cmpR op_lt (pv 1) (pe_callB call_len rfl T.len PySem.boot_len (pa_cons (pv 0) pa_nil)) (nomark _)) (pss_one (ps_ret (pe_ix ix_list (pv 0) (pv 1) (fun _ _ => rfl)))) pss_nil)
      (pss_one (ps_ret pe_int))), ?_⟩
  refine ⟨_, rfl, _, rfl, _, _, rfl, .inl ⟨_, hS, rfl⟩, _, _, rfl, rfl, _, rfl, ?_⟩
  refine ite2 (fun c => ?_) (fun c => ?_)
  · have c' := of_decide_eq_true c
    rw [List.length_map] at c'
    have hk : k < ns.length := by omega
    have e : ns.getD k 0 = ns[k] := by simp [hk]
    rw [e] at q
    exact ⟨_, rfl, _, rfl, a, _, _, _, rfl, rfl, hS, atI_nat (by rw [List.getElem?_map, List.getElem?_eq_getElem hk]; rfl), q⟩
  · have c' := of_decide_eq_false (Bool.eq_false_iff.mpr c)
    rw [List.length_map] at c'
    have e : ns.getD k 0 = 0 := by
      have : ns.length ≤ k := by omega
      simp [this]
    rw [e] at q
    exact q

/-! ### _law_same -/
def spSame (K : PySem.W.Frag) : Sp := fun vs H Q _ => ∃ (a b : Addr) (zs ws : List (Addr × G)), vs = [.ref a, .ref b] ∧ H a = some (.lst (refs zs)) ∧ SqL K H b (refs ws) ∧ Tb fL H zs ∧ Tb fL H ws ∧ ws.map (·.2) = zs.map (·.2) ∧ zs.length ≤ 1000 ∧ (∀ z ∈ zs, PyData.strOk z.2.2 = true) ∧ Q (.bl true) H
theorem sc_same : FnScope ["_law_found", "_law_due", "_law_k", "_law_pair"] ["_law_found", "_law_due"] (defScope sSame) := ⟨rfl, rfl, rfl, by decide +kernel, rfl, by decide +kernel, by decide +kernel⟩
theorem ok_same {f : Addr} {fd : FuncData} (F : Fun K "_law_same" "_law_same" sSame f fd) (T : Txt mg) {fw : Addr} {fdw : FuncData} (M : Fn K mg "_law_whole" fw fdw ["_law_found"]) (GW : FnOk P w K mg base CX0 1 fw fdw ["_law_found"] spWhole) :
    FnOk P w K mg base CX0 2 f fd ["_law_found", "_law_due"] (spSame K) := by
  refine F.ok sc_same (fun vs H Q E h => ?_) (fun cdv A outer s H vs Q E hr h => ?_)
  · obtain ⟨a, b, zs, ws, rfl, _⟩ := h; rfl
  obtain ⟨a, b, zs, ws, rfl, hA0, hB, hT, hT2, hzw, hl, hok, q⟩ := h
  have hlen : ws.length = zs.length := by have := congrArg List.length hzw; rwa [List.length_map, List.length_map] at this
  have hA := SqL.of (K := K) hA0
  refine ⟨_, (pss_cons (ps_if (PW.pt (pw_or (pt_not (pt_val (pe_isinst T.isinstance T.list boot_list (pv 0)))) (pw_or1 (pt_cmpR op_ne (pe_callB call_len rfl T.len PySem.boot_len (pa_cons (pv 0) pa_nil)) (pe_callB call_len rfl T.len PySem.boot_len (pa_cons (pv 1) pa_nil)) (nomark _))))) (pss_one (ps_ret pe_bl)) pss_nil)
      (pss_cons (ps_for PassesOwn.never rfl (pi_range1 rfl T.range (pa_cons (pe_callB call_len rfl T.len PySem.boot_len (pa_cons (pv 1) pa_nil)) pa_nil)) (pg_name (i := 2) sc_same.nd rfl (Or.inl rfl)) (pss_cons (ps_set (i := 3) sc_same.nd rfl (Or.inl rfl) (pe_ix ix_list (pv 0) (pv 2) (fun _ _ => rfl)))
      (pss_cons (ps_if (PW.pt (pw_or (pt_not (pt_val (pe_isinst T.isinstance T.tuple boot_tuple (pv 3)))) (pw_or (pt_cmpR op_ne (pe_callB call_len rfl T.len PySem.boot_len (pa_cons (pv 3) pa_nil)) pe_int (nomark _)) (pw_or1 (pt_not (pt_val (pe_isinst T.isinstance T.str boot_str (pe_ix ix_tup (pv 3) pe_int (fun _ _ => rfl))))))))) (pss_one (ps_ret pe_bl)) pss_nil)
      (pss_one (ps_if (PW.pt (pw_or (pt_not (pt_val (pe_call GW hr rfl M.m M.k M.b .nil pass0 (pa_cons (pe_ix ix_tup (pv 3) pe_int (fun _ _ => rfl)) pa_nil)))) (pw_or1 (pt_cmpR (op_neD hr.units) (pv 3) (pe_ix ix_list (pv 1) (pv 2) (fun _ _ => rfl)) (nomark _))))) (pss_one (ps_ret pe_bl)) pss_nil)))))
      (pss_one (ps_ret pe_bl)))), ?_⟩
  -- isinstance(found, list), the lengths
  refine ⟨_, rfl, _, _, _, true, rfl, .lst hA0, rfl, _, rfl, iteF ?_⟩
  refine ⟨_, rfl, _, _, rfl, .inl ⟨_, hA, rfl⟩, _, rfl, _, _, rfl, .inl ⟨_, hB, rfl⟩, rfl, _, rfl, iteNS (by rw [refs_len, refs_len, hlen]) ?_⟩
  refine ⟨_, rfl, _, _, rfl, .inl ⟨_, hB, rfl⟩, _, rfl, by rw [refs_len]; omega, by rw [refs_len]; omega, ?_⟩
  rw [refs_len, Int.toNat_natCast, hlen]
  refine for_range (fun i σ H2 => ∃ u v : Option V, σ = [some (.ref a), some (.ref b), u, v] ∧ H2 = H) ⟨_, _, rfl, rfl⟩ ?_ ?_
  · rintro i σ H2 hi ⟨u, v, rfl, rfl⟩
    have hp := hT.at hi
    have sq := SqT.of (K := K) hp
    have at' : atI (refs zs) (0 + (i : Int)) = some (V.ref zs[i].1) := by rw [Int.zero_add]; exact atI_nat (refs_get hi)
    have hi2 : i < ws.length := by omega
    have hp2 := hT2.at hi2
    have at2 : atI (refs ws) (0 + (i : Int)) = some (V.ref ws[i].1) := by rw [Int.zero_add]; exact atI_nat (refs_get hi2)
    have e2 : ws[i].2 = zs[i].2 := by
      have h3 : (ws.map (·.2))[i]? = (zs.map (·.2))[i]? := by rw [hzw]
      rw [List.getElem?_map, List.getElem?_map, List.getElem?_eq_getElem hi, List.getElem?_eq_getElem hi2] at h3
      exact Option.some.inj h3
    rw [e2] at hp2
    refine ⟨_, rfl, _, rfl, _, _, _, _, rfl, rfl, hA, at', ?_⟩
    refine ⟨_, rfl, _, _, _, true, rfl, .tup hp, rfl, _, rfl, iteF ?_⟩
    refine ⟨_, rfl, _, _, rfl, .inr ⟨_, sq, rfl⟩, rfl, _, rfl, iteNS rfl ?_⟩
    refine ⟨_, rfl, _, _, _, _, rfl, rfl, sq, rfl, _, _, _, true, rfl, .str _, rfl, _, rfl, iteF ?_⟩
    refine ⟨_, rfl, _, _, _, _, rfl, rfl, sq, rfl, _, rfl, _, rfl, iteF ?_⟩
    have hsh := sh_pair (hok _ (List.getElem_mem hi))
    refine ⟨_, rfl, _, rfl, _, rfl, _, _, _, _, rfl, rfl, hB, at2, _, _, rd_pair hp, rd_pair hp2, hsh, hsh, rfl, _, rfl, ?_⟩
    rw [show same (.tuple [.str zs[i].2.2, .int zs[i].2.1]) (.tuple [.str zs[i].2.2, .int zs[i].2.1]) = true by simp [same, sameAll]]
    exact iteF ⟨_, _, rfl, rfl⟩
  · rintro σ H2 ⟨u, v, rfl, rfl⟩
    exact q

/-! ### _law_good -/
theorem up_chain : ∀ {ts : List Str}, (∀ (j : Nat) (h : j + 1 < ts.length), (ts[j]'(by omega)).cps.toList < ts[j + 1].cps.toList) → UpS ts
  | [], _ => List.Pairwise.nil
  | [_], _ => List.pairwise_singleton _ _
  | x :: y :: r, h => by
    have ih : UpS (y :: r) := up_chain fun j hj => h (j + 1) (by simpa using hj)
    have hxy : x.cps.toList < y.cps.toList := h 0 (by simp)
    refine List.pairwise_cons.mpr ⟨fun z hz => ?_, ih⟩
    rcases List.mem_cons.mp hz with e | hz
    · rw [e]; exact hxy
    · exact List.lt_trans hxy ((List.pairwise_cons.mp ih).1 z hz)
theorem bound : ∀ ls : List Int, ∃ N : Int, 0 ≤ N ∧ ∀ l ∈ ls, l ≤ N
  | [] => ⟨0, Int.le_refl _, fun l h => nomatch h⟩
  | x :: r => by
    obtain ⟨N, h0, h⟩ := bound r
    refine ⟨max x N, by omega, fun l hl => ?_⟩
    rcases List.mem_cons.mp hl with e | hl
    · omega
    · have := h l hl; omega
theorem bk_one {ks : List G} (h : Bk ks) : ∀ k ∈ ks, 1 ≤ k.1 := fun k hk => by
  have hm : k.1 ∈ ks.map (·.1) := List.mem_map.mpr ⟨k, hk, rfl⟩
  rcases h.2 with ⟨_, q | q⟩ | ⟨_, q⟩
  · rw [q] at hm; cases hm
  · rw [q] at hm
    have := List.mem_singleton.mp hm
    omega
  · exact q.1 _ hm
theorem sc_good : FnScope ["_law_book", "_law_k", "_law_left", "_law_deepest"] ["_law_book"] (defScope sGood) := ⟨rfl, rfl, rfl, by decide +kernel, rfl, by decide +kernel, by decide +kernel⟩
def LeftW (H : Hp) (a l : Addr) (N : Int) (ls0 : List Int) (m : Nat) (σ : L2.St) (H2 : Hp) : Prop :=
  ∃ (u v : Option V) (ls : List Int), σ = [some (.ref a), u, some (.ref l), v] ∧ m = ls.length ∧ H2 l = some (.lst (ls.map V.int)) ∧ ls ≠ [] ∧ ls.length ≤ 63 ∧ (∀ x ∈ ls, x ≤ N) ∧ W N ls = W N ls0 ∧ Same H H2
theorem ok_good {f : Addr} {fd : FuncData} (F : Fun K "_law_good" "_law_good" sGood f fd) (T : Txt mg) : FnOk P w K mg base CX0 1 f fd ["_law_book"] (spIsBook K) := by
  refine F.ok sc_good (fun vs H Q E h => ?_) (fun cdv A outer s H vs Q E hr h => ?_)
  · obtain ⟨a, zs, rfl, _⟩ := h; rfl
  obtain ⟨a, zs, rfl, hS, hT, hl, hok, fin⟩ := h
  refine ⟨_, (pss_cons (ps_for PassesOwn.never rfl (pi_range1 rfl T.range (pa_cons (pe_callB call_len rfl T.len PySem.boot_len (pa_cons (pv 0) pa_nil)) pa_nil)) (pg_name (i := 1) sc_good.nd rfl (Or.inl rfl)) (pss_one (ps_if (PW.pt (pw_or (pt_cmpR op_lt (pe_ix ix_tup (pe_ix ix_list (pv 0) (pv 1) (fun _ _ => rfl)) pe_int (fun _ _ => rfl)) pe_int (nomark _)) (pw_or1 (PW.pt (pw_and (pt_cmpR op_gt (pv 1) pe_int (nomark _)) (pw_and1 (pt_cmpR op_le_str (pe_ix ix_tup (pe_ix ix_list (pv 0) (pv 1) (fun _ _ => rfl)) pe_int (fun _ _ => rfl)) (pe_ix ix_tup (pe_ix ix_list (pv 0) (pe_op op_sub (pv 1) pe_int) (fun _ _ => rfl)) pe_int (fun _ _ => rfl)) (nomark _)))))))) (pss_one (ps_ret pe_bl)) pss_nil)))
      (pss_cons (ps_if (pt_cmpR op_lt (pe_callB call_len rfl T.len PySem.boot_len (pa_cons (pv 0) pa_nil)) pe_int (nomark _)) (pss_one (ps_ret (pe_or (pe_cmpR (op_eqD hr.units) (pv 0) (pe_lst pa_nil) (nomark _)) (pe_one (pe_cmpR op_eq (pe_ix ix_tup (pe_ix ix_list (pv 0) pe_int (fun _ _ => rfl)) pe_int (fun _ _ => rfl)) pe_int (nomark _)))))) pss_nil)
      (pss_cons (ps_comp (i := 2) sc_good.nd rfl rfl (own := ["_law_pair"]) (cap := []) (cl := []) ⟨rfl, rfl, by decide +kernel, by decide +kernel, trivial, rfl, trivial⟩ rfl (pi_list (pv 0)) (fun _ _ _ _ => (pg_name (i := 0) (by show List.Nodup (["_law_pair"] : List Str); decide +kernel) rfl (Or.inl rfl))) (fun _ _ _ _ => pts_nil) (fun _ _ _ _ => (pe_ix ix_tup (pv 0) pe_int (fun _ _ => rfl))))
      (pss_cons (ps_while PassesOwn.never (pt_cmpR op_gt (pe_callB call_len rfl T.len PySem.boot_len (pa_cons (pv 2) pa_nil)) pe_int (nomark _)) (pss_cons (ps_set (i := 3) sc_good.nd rfl (Or.inl rfl) (pe_callB (call_max_ints rfl) rfl T.max boot_max (pa_cons (pv 2) pa_nil)))
      (pss_cons (ps_if (pt_cmpR op_eq (pe_countI (pv 2) (pa_cons (pv 3) pa_nil)) pe_int (nomark _)) (pss_one (ps_ret pe_bl)) pss_nil)
      (pss_cons (ps_expr (pe_removeI (pv 2) (pa_cons (pv 3) pa_nil)))
      (pss_cons (ps_expr (pe_removeI (pv 2) (pa_cons (pv 3) pa_nil)))
      (pss_one (ps_expr (pe_append (pv 2) (pa_cons (pe_op op_sub (pv 3) pe_int) pa_nil)))))))))
      (pss_one (ps_ret (pe_cmpR (op_eqD hr.units) (pv 2) (pe_lst (pa_cons pe_int pa_nil)) (nomark _)))))))), ?_⟩
  obtain ⟨ls0, hls⟩ : ∃ ls, ls = zs.map (·.2.1) := ⟨_, rfl⟩
  have hll : ls0.length = zs.length := by rw [hls, List.length_map]
  have eB : Bk (zs.map (·.2)) ↔ UpS (zs.map (·.2.2)) ∧ ((zs.length < 2 ∧ (ls0 = [] ∨ ls0 = [1])) ∨ (2 ≤ zs.length ∧ Kr ls0)) := by
    unfold Bk
    rw [List.map_map, List.map_map, List.length_map, hls]
    exact Iff.rfl
  refine ⟨_, rfl, _, _, rfl, .inl ⟨_, hS, rfl⟩, _, rfl, by rw [refs_len]; omega, by rw [refs_len]; omega, ?_⟩
  rw [refs_len, Int.toNat_natCast]
  refine for_range (fun i σ H2 => ∃ u : Option V, σ = [some (.ref a), u, none, none] ∧ H2 = H ∧ (∀ (j : Nat) (hj : j < zs.length), j < i → 1 ≤ zs[j].2.1) ∧ ∀ (j : Nat) (hj : j + 1 < zs.length), j + 1 < i → (zs[j]'(by omega)).2.2.cps.toList < zs[j + 1].2.2.cps.toList) ⟨_, rfl, rfl, fun j _ h => absurd h (Nat.not_lt_zero _), fun j _ h => absurd h (Nat.not_lt_zero _)⟩ ?_ ?_
  · rintro i σ H2 hi ⟨u, rfl, rfl, p1, p2⟩
    have sq := SqT.of (K := K) (hT.at hi)
    have at' : atI (refs zs) (0 + (i : Int)) = some (V.ref zs[i].1) := by rw [Int.zero_add]; exact atI_nat (refs_get hi)
    refine ⟨_, rfl, _, rfl, _, _, _, _, rfl, rfl, hS, at', _, _, _, _, rfl, rfl, sq, rfl, _, _, rfl, rfl, _, rfl, ite2 (fun c => ?_) (fun c => ?_)⟩
    · have c' := of_decide_eq_true c
      refine fin false _ (Same.refl _) ⟨(fun z => nomatch z), (fun z => ?_)⟩
      have := bk_one z zs[i].2 (List.mem_map.mpr ⟨zs[i], List.getElem_mem hi, rfl⟩)
      omega
    have h1 : 1 ≤ zs[i].2.1 := by
      have : ¬ (zs[i].2.1 < 1) := fun z => c (decide_eq_true z)
      omega
    refine ⟨_, rfl, _, _, rfl, rfl, _, rfl, ite2 (fun c2 => ?_) (fun c2 => ?_)⟩
    · have hi0 : 0 < i := by have := of_decide_eq_true c2; omega
      have him : i - 1 < zs.length := by omega
      have at2 : atI (refs zs) (0 + (i : Int) - 1) = some (V.ref zs[i - 1].1) := by
        have : (0 + (i : Int) - 1) = ((i - 1 : Nat) : Int) := by omega
        rw [this]
        exact atI_nat (refs_get him)
      have sq2 := SqT.of (K := K) (hT.at him)
      refine ⟨_, rfl, _, rfl, _, _, _, _, rfl, rfl, hS, at', _, _, _, _, rfl, rfl, sq, rfl, _, rfl, _, rfl, _, _, rfl, rfl, _, _, _, _, rfl, rfl, hS, at2, _, _, _, _, rfl, rfl, sq2, rfl, _, _, rfl, rfl, _, rfl, ite2 (fun c3 => ?_) (fun c3 => ?_)⟩
      · refine fin false _ (Same.refl _) ⟨(fun z => nomatch z), (fun z => ?_)⟩
        have up := (eB.mp z).1
        have := List.pairwise_iff_getElem.mp up (i - 1) i (by simpa using him) (by simpa using hi) (by omega)
        rw [List.getElem_map, List.getElem_map] at this
        have c4 : ¬ (zs[i - 1].2.2.cps.toList < zs[i].2.2.cps.toList) := by simpa using c3
        exact absurd this c4
      · have h5 : zs[i - 1].2.2.cps.toList < zs[i].2.2.cps.toList := by
          simpa using c3
        refine ⟨_, rfl, rfl, fun j hj hlt => ?_, fun j hj hlt => ?_⟩
        · by_cases q : j = i
          · subst q; exact h1
          · exact p1 j hj (by omega)
        · by_cases q : j + 1 = i
          · subst q; exact h5
          · exact p2 j hj (by omega)
    · have hi0 : i = 0 := by
        have : ¬ ((0 : Int) < 0 + (i : Int)) := fun z => c2 (decide_eq_true z)
        omega
      subst hi0
      refine ⟨_, rfl, rfl, fun j hj hlt => ?_, fun j hj hlt => absurd hlt (by omega)⟩
      have : j = 0 := by omega
      subst this
      exact h1
  rintro σ H2 ⟨u, rfl, hH2, p1, p2⟩
  have hH2' := hH2.symm
  subst hH2'
  have all1 : ∀ l ∈ ls0, 1 ≤ l := fun l h => by
    rw [hls] at h
    obtain ⟨z, hz, rfl⟩ := List.mem_map.mp h
    obtain ⟨j, hj, rfl⟩ := List.getElem_of_mem hz
    exact p1 j hj hj
  have up : UpS (zs.map (·.2.2)) := up_chain fun j hj => by
    have hj' : j + 1 < zs.length := by simpa using hj
    rw [List.getElem_map, List.getElem_map]
    exact p2 j hj' hj'
  clear p1 p2
  refine ⟨_, rfl, _, _, rfl, .inl ⟨_, hS, rfl⟩, _, _, rfl, rfl, _, rfl, ?_⟩
  rw [refs_len]
  refine ite2 (fun c => ?_) (fun c => ?_)
  · have h2 : zs.length < 2 := by have := of_decide_eq_true c; omega
    have okc : ∀ k ∈ zs.map (·.2), PyData.strOk k.2 = true := fun k hk => by
      obtain ⟨z, hz, rfl⟩ := List.mem_map.mp hk
      exact hok z hz
    have shc : SeqAt.shaped (.list (zs.map fun z => pd z.2)) = true := by
      have := sh_pairs okc
      rw [List.map_map] at this
      exact this
    refine ⟨_, rfl, small (by show 0 ≤ 1000000; decide), fun p7 hp7 => ?_⟩
    have g7 := same_new hp7 (.lst [])
    rcases zs with _ | ⟨z, _ | ⟨y, r⟩⟩
    · refine ⟨.list [], .list [], .lst (g7.seq hS) .nil, .lst (SqL.of upd_same) .nil, rfl, rfl, by rw [SeqAt.noMix]; exact mix_ints [] [], true, rfl, iteT ?_⟩
      exact fin true _ g7 ⟨(fun _ => eB.mpr ⟨up, .inl ⟨by simp, .inl (by rw [hls]; rfl)⟩⟩), (fun _ => rfl)⟩
    · have hz := hT z List.mem_cons_self
      refine ⟨.list [pd z.2], .list [], .lst (g7.seq hS) (rd_pairs [z] (hT.same g7)), .lst (SqL.of upd_same) .nil, shc, rfl, by simp [SeqAt.noMix, SeqAt.noMixAll], false, rfl, iteF ?_⟩
      refine ⟨_, rfl, _, _, _, _, rfl, rfl, g7.seq hS, ref0, _, _, _, _, rfl, rfl, SqT.of (g7 _ _ hz), rfl, rfl, fin _ _ g7 ?_⟩
      rw [decide_eq_true_iff, eB]
      constructor
      · intro q; exact ⟨up, .inl ⟨by simp, .inr (by rw [hls, List.map_cons, List.map_nil, V.int.inj q])⟩⟩
      · rintro ⟨_, ⟨_, q | q⟩ | ⟨q, _⟩⟩
        · rw [hls] at q; cases q
        · rw [hls] at q
          have : z.2.1 = 1 := by simpa using q
          rw [this]
        · simp at q
    · exfalso; simp at h2; omega
  have h2 : 2 ≤ zs.length := by
    have : ¬ ((zs.length : Int) < 2) := fun z => c (decide_eq_true z)
    omega
  -- left
  refine ⟨_, rfl, a, rfl, ⟨_, hS⟩, fun C ex s0 H0 => comp_list_set (K := K) (a := a) (xs := refs zs)
    (fun i out σ H2 => ∃ (u : Option V), σ = [u] ∧ out = (ls0.take i).map V.int ∧ H2 = H)
    ⟨none, rfl, rfl, rfl⟩ (fun i out σ H2 _ ⟨_, _, _, g⟩ => g ▸ hS) ?_ ?_⟩
  · rintro i y out σ' H2 hi hy ⟨u, rfl, rfl, rfl⟩
    obtain ⟨hi', rfl⟩ := refs_at hy
    simp only [gName, tNoTest, ↓reduceIte]
    have eti : ls0[i]? = some zs[i].2.1 := by rw [hls, List.getElem?_map, List.getElem?_eq_getElem hi']; rfl
    refine ⟨_, rfl, _, _, _, _, rfl, rfl, SqT.of (hT.at hi'), rfl, smallL ?_, CW.next hi ⟨_, rfl, ?_, rfl⟩⟩
    · rw [List.length_map, List.length_take]; omega
    · rw [List.take_add_one, eti, List.map_append]; rfl
  rintro out σ' H1 ⟨u', rfl, rfl, hH1⟩ l hl0
  have hH1' := hH1.symm
  subst hH1'
  rw [refs_len, List.take_of_length_le (by omega)]
  obtain ⟨N, hN, hm⟩ := bound ls0
  have key := kr_W hN hm all1 (by omega)
  have g3 := same_new hl0 (.lst (ls0.map V.int))
  have hl3 : upd H l (.lst (ls0.map V.int)) l = some (.lst (ls0.map V.int)) := upd_same
  have hHl : H l = none := hl0
  generalize upd H l (.lst (ls0.map V.int)) = H3 at g3 hl3 ⊢
  refine ⟨LeftW H a l N ls0, ⟨_, _, _, ls0, rfl, rfl, hl3, (fun e => by rw [e] at hll; simp at hll; omega), by omega, hm, rfl, g3⟩, ?_⟩
  clear hl3 g3 H3 hl0
  rintro m σ H2 ⟨u, v, ls, rfl, rfl, hl2, hne, hl63, hmN, hW, g2⟩
  refine ⟨_, rfl, _, _, rfl, .inl ⟨_, SqL.of hl2, rfl⟩, _, _, rfl, rfl, _, rfl, ?_⟩
  rw [List.length_map]
  refine ite2 (fun c => ?_) (fun c => ?_)
  · have hl2' : 2 ≤ ls.length := by have := of_decide_eq_true c; omega
    refine ⟨fun σ' H' => ∃ m', m' < ls.length ∧ LeftW H a l N ls0 m' σ' H', fun _ _ h => h, ?_⟩
    refine ⟨_, rfl, l, ls, rfl, SqL.of hl2, hne, fun d hd hmax => ?_⟩
    refine ⟨_, rfl, .inl ⟨rfl, _, SqL.of hl2⟩, _, rfl, l, ls, d, rfl, rfl, hl2, rfl, _, rfl, ite2 (fun c1 => ?_) (fun c1 => ?_)⟩
    · have hc : ls.count d = 1 := by
        have := V.int.inj (of_decide_eq_true c1)
        omega
      refine fin false _ g2 ⟨(fun z => nomatch z), (fun z => ?_)⟩
      rcases (eB.mp z).2 with ⟨q, _⟩ | ⟨_, q⟩
      · omega
      · exact absurd (hW.trans (key.mp q)) (lone hN hd hmax (hmN d hd) hl2' hc)
    · have hc : 2 ≤ ls.count d := by
        have h1 := List.count_pos_iff.mpr hd
        have h3 : ls.count d ≠ 1 := fun e => c1 (decide_eq_true (by rw [e]; rfl))
        omega
      have hd2 : d ∈ ls.erase d := List.count_pos_iff.mp (by rw [List.count_erase_self]; omega)
      refine ⟨_, rfl, .inl ⟨rfl, _, SqL.of hl2⟩, _, rfl, l, ls, d, rfl, rfl, hl2, hd, ?_⟩
      have k1 : Same H (upd H2 l (.lst ((ls.erase d).map V.int))) := same_upd g2 hHl _
      have k2 : upd H2 l (.lst ((ls.erase d).map V.int)) l = some (.lst ((ls.erase d).map V.int)) := upd_same
      generalize upd H2 l (.lst ((ls.erase d).map V.int)) = H4 at k1 k2 ⊢
      refine ⟨_, rfl, .inl ⟨rfl, _, SqL.of k2⟩, _, rfl, l, ls.erase d, d, rfl, rfl, k2, hd2, ?_⟩
      have k3 : Same H (upd H4 l (.lst (((ls.erase d).erase d).map V.int))) := same_upd k1 hHl _
      have k4 : upd H4 l (.lst (((ls.erase d).erase d).map V.int)) l = some (.lst (((ls.erase d).erase d).map V.int)) := upd_same
      generalize upd H4 l (.lst (((ls.erase d).erase d).map V.int)) = H5 at k3 k4 ⊢
      have hrl := red_len hc
      have hel : ((ls.erase d).erase d).length ≤ 63 := by
        have h1 := List.length_erase_le (a := d) (l := ls.erase d)
        have h3 := List.length_erase_le (a := d) (l := ls)
        omega
      refine ⟨_, rfl, .inl ⟨rfl, _, SqL.of k4⟩, _, rfl, _, _, rfl, rfl, l, _, _, rfl, rfl, k4, smallL (by rw [List.length_map]; omega), ?_⟩
      refine ⟨(red ls d).length, by omega, _, _, red ls d, rfl, rfl, ?_, ?_, by omega, red_le hmN (hmN d hd), (red_W (hmN d hd) hc).trans hW, same_upd k3 hHl _⟩
      · rw [upd_same]
        unfold red
        rw [List.map_append]
        rfl
      · unfold red
        simp
  · have h1 : ls.length ≤ 1 := by
      have : ¬ ((1 : Int) < (ls.length : Int)) := fun z => c (decide_eq_true z)
      omega
    match ls, hne, h1 with
    | [x], _, _ =>
      refine ⟨_, rfl, small (by show 1 ≤ 1000000; decide), fun p8 hp8 => ?_⟩
      have g8 := same_new hp8 (.lst [.int 0])
      have s1 : same (.list [PyData.int x]) (.list [.int 0]) = decide ([x] = [(0 : Int)]) := by rw [same]; exact same_ints [x] [0]
      refine ⟨.list [.int x], .list [.int 0], .lst (SqL.of (g8 _ _ hl2)) (rd_ints [x]), .lst (SqL.of upd_same) (rd_ints [0]), rfl, rfl, by rw [SeqAt.noMix]; exact mix_ints [x] [0], ?_⟩
      rw [s1]
      refine fin _ _ (g2.trans g8) ?_
      rw [decide_eq_true_iff, eB]
      have hx := hmN x List.mem_cons_self
      have e1 := one_W hN hx
      rw [hW] at e1
      constructor
      · intro q
        exact ⟨up, .inr ⟨h2, key.mpr (e1.mpr (by simpa using q))⟩⟩
      · rintro ⟨_, ⟨q, _⟩ | ⟨_, q⟩⟩
        · omega
        · rw [e1.mp (key.mp q)]
end
end K14

set_option Elab.async false
set_option linter.all false
set_option maxRecDepth 100000
set_option maxHeartbeats 4000000
namespace K14
open PySem PySem.Spec L2 PyProof.Rows LmTxt M02 LmG M05 M06 M08
section
variable {P : Program} {w : World} {K : PySem.W.Frag} {mg : Str → Option Value} {base : Heap} {cL cB cS cF cT cN : Addr}
/-! ### _law_full_menu -/
def spMenu : Sp := fun vs H Q _ => vs = [] ∧ ∀ x : Str, Menu3 x → Q (.str x) H
theorem sc_menu : FnScope ["_law_signs"] [] (defScope sMenu) := ⟨rfl, rfl, rfl, by decide +kernel, rfl, by decide +kernel, by decide +kernel⟩
theorem ok_menu {f : Addr} {fd : FuncData} (F : Fun K "_law_full_menu" "_law_full_menu" sMenu f fd) : FnOk P w K mg base CX0 1 f fd [] spMenu := by
  refine F.ok sc_menu (fun vs H Q E h => ?_) (fun cdv A outer s H vs Q E hr h => ?_)
  · obtain ⟨rfl, _⟩ := h; rfl
  obtain ⟨rfl, q⟩ := h
  refine ⟨_, (pss_cons (ps_set (i := 0) sc_menu.nd rfl (Or.inl rfl) pe_str)
      (pss_one (ps_ret (pe_op op_add_str (pv 0) pe_str)))), ?_⟩
  exact ⟨_, rfl, _, _, rfl, rfl, by decide +kernel, q _ ⟨by decide +kernel, by unfold MnOk; decide +kernel⟩⟩
/-! ### _law_grown -/
def spGrown (K : PySem.W.Frag) : Sp := fun vs H Q _ => ∃ (a : Addr) (ns : List Int), vs = [.ref a] ∧ SqL K H a (ns.map V.int) ∧ ns.length ≤ 60 ∧
  ∀ (r : Addr) (zs : List (Addr × G)) (H' : Hp), Same H H' → H' r = some (.lst (refs zs)) → Tb fL H' zs → Bk (zs.map (·.2)) → zs.length ≤ 21 → (∀ z ∈ zs, ∃ c, z.2.2 = one c ∧ c < 127) → Q (.ref r) H'
theorem sc_grown : FnScope ["_law_cells", "_law_lengths", "_law_size", "_law_cell", "_law_spot", "_law_twins", "_law_menu", "_law_full", "_law_start"] ["_law_cells"] (defScope sGrown) := ⟨rfl, rfl, rfl, by decide +kernel, rfl, by decide +kernel, by decide +kernel⟩
theorem ok_grown {f : Addr} {fd : FuncData} (F : Fun K "_law_grown" "_law_grown" sGrown f fd) (T : Txt mg) {fm : Addr} {fdm : FuncData} (M_full_menu : Fn K mg "_law_full_menu" fm fdm []) (G_full_menu : FnOk P w K mg base CX0 1 fm fdm [] spMenu) : FnOk P w K mg base CX0 2 f fd ["_law_cells"] (spGrown K) := by
  refine F.ok sc_grown (fun vs H Q E h => ?_) (fun cdv A outer s H vs Q E hr h => ?_)
  · obtain ⟨a, ns, rfl, _⟩ := h; rfl
  obtain ⟨a, ns, rfl, hS, hl, fin⟩ := h
  refine ⟨_, (pss_cons (ps_if (pt_cmpR (op_eqD hr.units) (pv 0) (pe_lst pa_nil) (nomark _)) (pss_one (ps_ret (pe_lst pa_nil))) pss_nil)
      (pss_cons (ps_set (i := 1) sc_grown.nd rfl (Or.inr rfl) (pe_lst (pa_cons pe_int pa_nil)))
      (pss_cons (ps_if (pt_cmpR op_eq (pe_op op_mod (pe_ix ix_list (pv 0) pe_int (fun _ _ => rfl)) pe_int) pe_int (nomark _)) (pss_cons (ps_set (i := 2) sc_grown.nd rfl (Or.inl rfl) (pe_callB (call_min2 rfl) rfl T.min boot_min (pa_cons (pe_callB call_len rfl T.len PySem.boot_len (pa_cons (pv 0) pa_nil)) (pa_cons pe_int pa_nil))))
      (pss_cons (ps_if (pt_cmpR op_gt (pe_callB call_len rfl T.len PySem.boot_len (pa_cons (pv 0) pa_nil)) pe_int (nomark _)) (pss_one (ps_set (i := 2) sc_grown.nd rfl (Or.inl rfl) (pe_callB (call_min2 rfl) rfl T.min boot_min (pa_cons (pe_callB call_len rfl T.len PySem.boot_len (pa_cons (pv 0) pa_nil)) (pa_cons pe_int pa_nil))))) pss_nil)
      (pss_one (ps_set (i := 1) sc_grown.nd rfl (Or.inr rfl) (pe_op op_catS (pe_comp (own := ["_law_k"]) (cap := []) (cl := []) ⟨rfl, rfl, by decide +kernel, by decide +kernel, trivial, rfl, trivial⟩ rfl (pi_range1 rfl T.range (pa_cons (pv 2) pa_nil)) (fun _ _ _ _ => (pg_name (i := 0) (by show List.Nodup (["_law_k"] : List Str); decide +kernel) rfl (Or.inl rfl))) (fun _ _ _ _ => pts_nil) (fun _ _ _ _ => (pe_op op_add (pv 0) pe_int))) (pe_lst (pa_cons (pv 2) pa_nil))))))) (pss_one (ps_if (pt_cmpR op_gt (pe_op op_mod (pe_ix ix_list (pv 0) pe_int (fun _ _ => rfl)) pe_int) pe_int (nomark _)) (pss_cons (ps_set (i := 1) sc_grown.nd rfl (Or.inr rfl) (pe_lst (pa_cons pe_int (pa_cons pe_int pa_nil))))
      (pss_one (ps_for PassesOwn.never rfl (pi_list (pe_slice sl_list (pv 0) (po_some pe_int) po_none)) (pg_name (i := 3) sc_grown.nd rfl (Or.inl rfl)) (pss_cons (ps_set (i := 4) sc_grown.nd rfl (Or.inl rfl) (pe_op op_mod (pe_op op_fdiv (pv 3) pe_int) (pe_callB call_len rfl T.len PySem.boot_len (pa_cons (pv 1) pa_nil))))
      (pss_one (ps_if (PW.pt (pw_and (pt_cmpR op_gt (pe_op op_mod (pv 3) pe_int) pe_int (nomark _)) (pw_and (pt_cmpR op_lt (pe_callB call_len rfl T.len PySem.boot_len (pa_cons (pv 1) pa_nil)) pe_int (nomark _)) (pw_and1 (pt_cmpR op_lt (pe_ix ix_list (pv 1) (pv 4) (fun _ _ => rfl)) pe_int (nomark _)))))) (pss_cons (ps_set (i := 5) sc_grown.nd rfl (Or.inl rfl) (pe_op op_rep (pe_lst (pa_cons (pe_op op_add (pe_ix ix_list (pv 1) (pv 4) (fun _ _ => rfl)) pe_int) pa_nil)) pe_int))
      (pss_one (ps_set (i := 1) sc_grown.nd rfl (Or.inr rfl) (pe_op op_catS (pe_op op_catS (pe_slice sl_list (pv 1) po_none (po_some (pv 4))) (pv 5)) (pe_slice sl_list (pv 1) (po_some (pe_op op_add (pv 4) pe_int)) po_none))))) pss_nil)))))) pss_nil)))
      (pss_cons (ps_set (i := 6) sc_grown.nd rfl (Or.inr rfl) pe_str)
      (pss_cons (ps_if (pt_cmpR op_eq (pe_op op_mod (pe_op op_fdiv (pe_ix ix_list (pv 0) pe_int (fun _ _ => rfl)) pe_int) pe_int) pe_int (nomark _)) (pss_cons (ps_set (i := 7) sc_grown.nd rfl (Or.inl rfl) (pe_call0 G_full_menu (hr.mono (by decide)) rfl M_full_menu.m M_full_menu.k M_full_menu.b .nil pass0))
      (pss_cons (ps_set (i := 8) sc_grown.nd rfl (Or.inl rfl) (pe_op op_mod (pe_ix ix_list (pv 0) pe_int (fun _ _ => rfl)) (pe_op op_sub (pe_callB call_len rfl T.len PySem.boot_len (pa_cons (pv 7) pa_nil)) pe_int)))
      (pss_one (ps_set (i := 6) sc_grown.nd rfl (Or.inr rfl) (pe_slice sl_str (pv 7) (po_some (pv 8)) (po_some (pe_op op_add (pv 8) pe_int))))))) pss_nil)
      (pss_cons (ps_if (pt_cmpR op_gt (pe_callB call_len rfl T.len PySem.boot_len (pa_cons (pv 1) pa_nil)) pe_int (nomark _)) (pss_one (ps_set (i := 6) sc_grown.nd rfl (Or.inr rfl) (pe_call0 G_full_menu (hr.mono (by decide)) rfl M_full_menu.m M_full_menu.k M_full_menu.b .nil pass0))) pss_nil)
      (pss_one (ps_ret (pe_comp (own := ["_law_k"]) (cap := [("_law_lengths", 1), ("_law_menu", 6)]) (cl := _) ⟨rfl, rfl, by decide +kernel, by decide +kernel, ⟨rfl, rfl, trivial⟩, rfl, ⟨⟨by kernel_rfl, .inl (by kernel_rfl), .inl (by kernel_rfl), by kernel_rfl⟩, ⟨by kernel_rfl, .inl (by kernel_rfl), .inl (by kernel_rfl), by kernel_rfl⟩, trivial⟩⟩ rfl (pi_range1 rfl T.range (pa_cons (pe_callB call_len rfl T.len PySem.boot_len (pa_cons (pv 1) pa_nil)) pa_nil)) (fun _ _ _ _ => (pg_name (i := 0) (by show List.Nodup (["_law_k", "_law_lengths", "_law_menu"] : List Str); decide +kernel) rfl (Or.inl rfl))) (fun _ _ _ _ => pts_nil) (fun _ _ _ _ => (pe_tup (pa_cons (pe_ix ix_str (pv 2) (pv 0) (fun _ _ => rfl)) (pa_cons (pe_ix ix_list (pv 1) (pv 0) (fun _ _ => rfl)) pa_nil))))))))))))), ?_⟩
  have s0 : same (.list (ns.map PyData.int)) (.list []) = decide (ns = []) := by rw [same]; exact same_ints ns []
  have m0 : SeqAt.noMix (.list (ns.map PyData.int)) (.list []) = true := by rw [SeqAt.noMix]; exact mix_ints ns []
  refine ⟨_, rfl, small (by show 0 ≤ 1000000; decide), fun p0 hp0 => ?_⟩
  have g1 := same_new hp0 (.lst [])
  refine ⟨.list (ns.map .int), .list [], .lst (g1.seq hS) (rd_ints ns), .lst (SqL.of upd_same) .nil, sh_ints ns, rfl, m0, _, rfl, ?_⟩
  generalize upd H p0 (.lst []) = H1 at g1 ⊢
  rw [s0]
  refine ite2 (fun c => ?_) (fun c => ?_)
  · refine ⟨small (by show 0 ≤ 1000000; decide), fun r hr' => ?_⟩
    exact fin r [] _ (g1.trans (same_new hr' _)) upd_same Tb.nil bk_nil (by simp) (fun z hz => nomatch hz)
  have hne : ns ≠ [] := fun e => c (decide_eq_true e)
  have hpos : 0 < ns.length := List.length_pos_iff.mpr hne
  have at0 : atI (ns.map V.int) (0 : Int) = some (V.int ns[0]) := atI_nat (j := 0) (by rw [List.getElem?_map, List.getElem?_eq_getElem hpos]; rfl)
  clear s0 m0 c hp0 p0
  -- lengths = [1]
  refine ⟨small (by show 1 ≤ 1000000; decide), fun l0 hl0 => ?_⟩
  have g2 := g1.trans (same_new hl0 (.lst [.int 1]))
  have hl2 : upd H1 l0 (.lst [.int 1]) l0 = some (.lst (([1] : List Int).map V.int)) := upd_same
  generalize upd H1 l0 (.lst [.int 1]) = H2 at g2 hl2 ⊢
  clear hl0 g1 H1
  refine via_next (fun σ' H' => ∃ (l : Addr) (ls : List Int) (u2 u3 u4 u5 : Option V), σ' = [some (.ref a), some (.ref l), u2, u3, u4, u5, none, none, none] ∧ H' l = some (.lst (ls.map V.int)) ∧ Same H H' ∧ ls.length ≤ 21 ∧ GL ls) ?_ ?_
  · rintro σ' H3 ⟨l, ls, u2, u3, u4, u5, rfl, hl3, g3, hll, hgl⟩
    refine seq_c (via (fun σ' H' => ∃ (menu : Str) (u7 u8 : Option V), σ' = [some (.ref a), some (.ref l), u2, u3, u4, u5, some (.str menu), u7, u8] ∧ H' = H3 ∧ 22 ≤ menu.length ∧ menu.length ≤ 100 ∧ MnOk menu) ?_ ?_)
    · rintro σ' H4 ⟨menu, u7, u8, rfl, hH4, hm1, hm2, hm3⟩
      have hH4' := hH4.symm
      subst hH4'
      refine ⟨_, rfl, _, _, rfl, .inl ⟨_, SqL.of hl3, rfl⟩, _, _, rfl, rfl, _, rfl, ?_⟩
      rw [List.length_map]
      refine ite2 (fun c => absurd (of_decide_eq_true c) (by omega)) (fun _ => ?_)
      refine ⟨_, rfl, _, _, rfl, .inl ⟨_, SqL.of hl3, rfl⟩, _, rfl, by rw [List.length_map]; omega, by rw [List.length_map]; omega, ?_⟩
      rw [List.length_map, Int.toNat_natCast]
      refine fun C ex s0 H0 => comp_range_fin
        (fun i out σ H5 => ∃ (u : Option V) (zs : List (Addr × G)), σ = [u, some (.ref l), some (.str menu)] ∧ out = refs zs ∧ Same H3 H5 ∧ Tb fL H5 zs ∧ zs.map (·.2) = (ls.take i).zip ((menu.cps.toList.take i).map one))
        ⟨none, [], rfl, rfl, Same.refl _, Tb.nil, rfl⟩ ?_ ?_
      · rintro i out σ' H5 hi ⟨u, zs, rfl, rfl, g5, hzs, hzm⟩
        simp only [gName, tNoTest, ↓reduceIte]
        have him : i < menu.cps.toList.length := by rw [← LmTxt.len_list]; omega
        have hzl : zs.length = i := by
          have := congrArg List.length hzm
          rw [List.length_map, List.length_zip, List.length_map, List.length_take, List.length_take] at this
          omega
        have atm : atI menu.cps.toList (0 + (i : Int)) = some menu.cps.toList[i] := by rw [Int.zero_add]; exact atI_nat (List.getElem?_eq_getElem him)
        have atl : atI (ls.map V.int) (0 + (i : Int)) = some (V.int ls[i]) := by rw [Int.zero_add]; exact atI_nat (by rw [List.getElem?_map, List.getElem?_eq_getElem hi]; rfl)
        refine ⟨_, rfl, _, rfl, menu, _, _, rfl, rfl, small (by omega), atm, _, rfl, _, rfl, _, _, _, _, rfl, rfl, SqL.of (g5 _ _ hl3), atl, small (by show 2 ≤ 1000000; decide), fun t ht => ⟨smallL (by rw [refs_len]; omega), CW.next hi ⟨_, zs ++ [(t, (ls[i], one menu.cps.toList[i]))], rfl, ?_, g5.trans (same_new ht _), Tb.snoc (hzs.same (same_new ht _)) upd_same, ?_⟩⟩⟩
        · rw [refs_app]; rfl
        · rw [List.map_append, hzm, List.take_add_one, List.take_add_one, List.getElem?_eq_getElem hi, List.getElem?_eq_getElem him, List.map_append, List.zip_append (by rw [List.length_map, List.length_take, List.length_take]; omega)]
          rfl
      · rintro out σ' H5 ⟨u, zs, rfl, rfl, g5, hzs, hzm⟩ r hr'
        rw [List.take_of_length_le (Nat.le_refl _)] at hzm
        have hcl : (menu.cps.toList.take ls.length).length = ls.length := by
          rw [List.length_take, ← LmTxt.len_list]; omega
        have hzl : zs.length = ls.length := by
          have := congrArg List.length hzm
          rw [List.length_map, List.length_zip, List.length_map, hcl] at this
          omega
        refine fin r zs _ ((g3.trans g5).trans (same_new hr' _)) upd_same (hzs.same (same_new hr' _)) ?_ (by omega) (fun z hz => ?_)
        · rw [hzm]
          exact bk_of (hm3.1.sublist (List.take_sublist _ _)) hcl.symm hgl
        · have : z.2 ∈ ls.zip ((menu.cps.toList.take ls.length).map one) := by rw [← hzm]; exact List.mem_map.mpr ⟨z, hz, rfl⟩
          have h2 := (List.of_mem_zip (a := z.2.1) (b := z.2.2) this).2
          obtain ⟨c, hc, e⟩ := List.mem_map.mp h2
          exact ⟨c, e.symm, hm3.2 c (List.mem_of_mem_take hc)⟩
    · intro X hX
      refine ⟨_, rfl, _, _, _, _, rfl, rfl, g3.seq hS, at0, _, _, rfl, rfl, ⟨by decide, by decide⟩, _, _, rfl, rfl, (by show (0 : Int) < 3; decide), rfl, _, rfl, ite2 (fun c => ?_) (fun c => ?_)⟩
      · refine ⟨rfl, fun mx hmx => ?_⟩
        have hpos2 : (0 : Int) < (mx.length : Int) - 22 := by rw [hmx.1]; decide
        refine ⟨_, rfl, _, _, _, _, rfl, rfl, g3.seq hS, at0, _, rfl, _, _, rfl, ⟨small (by rw [hmx.1]; decide), rfl⟩, _, _, rfl, rfl, _, _, rfl, rfl, hpos2, ?_⟩
        have h0 := Int.emod_nonneg ns[0] (show (mx.length : Int) - 22 ≠ 0 by omega)
        have h1 := Int.emod_lt_of_pos ns[0] hpos2
        refine ⟨_, rfl, _, rfl, _, rfl, _, rfl, _, _, rfl, rfl, _, rfl, mx, rfl, small (by rw [hmx.1]; decide), ?_⟩
        refine hX _ _ ⟨_, _, _, rfl, rfl, ?_⟩
        generalize ns[0] % ((mx.length : Int) - 22) = st at h0 h1 ⊢
        rw [hmx.1] at h1
        have e1 : st = ((st.toNat : Nat) : Int) := by omega
        have e2 : st + 22 = ((st.toNat + 22 : Nat) : Int) := by omega
        have hle : st.toNat + 22 ≤ mx.length := by rw [hmx.1]; omega
        rw [e2, e1]
        have hs := sl_mid mx (a := st.toNat) (b := st.toNat + 22) (by omega) hle
        have hln : (Txt.slice mx (some ((st.toNat : Nat) : Int)) (some ((st.toNat + 22 : Nat) : Int))).length = 22 := by
          rw [LmTxt.len_list, hs, List.length_take, List.length_drop, ← LmTxt.len_list]; omega
        refine ⟨?_, ?_, ?_⟩
        · show 22 ≤ (Txt.slice mx (some ((st.toNat : Nat) : Int)) (some ((st.toNat + 22 : Nat) : Int))).length
          omega
        · show (Txt.slice mx (some ((st.toNat : Nat) : Int)) (some ((st.toNat + 22 : Nat) : Int))).length ≤ 100
          omega
        · exact hmx.2.mid (a := st.toNat) (b := st.toNat + 22) (by omega) hle
      · exact hX _ _ ⟨_, _, _, rfl, rfl, by decide +kernel, by decide +kernel, by unfold MnOk; decide +kernel⟩
  · intro X hX
    refine ⟨_, rfl, _, _, _, _, rfl, rfl, g2.seq hS, at0, _, _, rfl, rfl, (by show (0 : Int) < 7; decide), rfl, _, rfl, ite2 (fun c => ?_) (fun c => ?_)⟩
    · refine ⟨_, rfl, _, _, rfl, .inl ⟨_, g2.seq hS, rfl⟩, _, _, rfl, ?_⟩
      rw [List.length_map]
      refine via_next (fun σ' H' => ∃ k : Nat, σ' = [some (.ref a), some (.ref l0), some (.int (k : Int)), none, none, none, none, none, none] ∧ H' = H2 ∧ 1 ≤ k ∧ k ≤ 20) ?_ ?_
      · rintro σ' H3 ⟨k, rfl, hH3, hk1, hk2⟩
        have hH3' := hH3.symm
        subst hH3'
        refine ⟨_, rfl, _, rfl, by omega, by omega, ?_⟩
        rw [Int.toNat_natCast]
        refine fun C ex s0 H0 => comp_range_fin
          (fun i out σ H5 => ∃ (u : Option V) (os : List Int), σ = [u] ∧ out = os.map V.int ∧ os = M08.upTo i ∧ Same H2 H5)
          ⟨none, [], rfl, rfl, rfl, Same.refl _⟩ ?_ ?_
        · rintro i out σ' H5 hi ⟨u, os, rfl, rfl, hol, g5⟩
          simp only [gName, tNoTest, ↓reduceIte]
          refine ⟨_, rfl, _, _, rfl, rfl, smallL (by rw [List.length_map, hol, upTo_len]; omega), CW.next hi ⟨_, os ++ [0 + (i : Int) + 1], rfl, ?_, by rw [hol, upTo_succ, Int.zero_add], g5⟩⟩
          rw [List.map_append]; rfl
        · rintro out σ' H5 ⟨u, os, rfl, rfl, hol, g5⟩ p hp
          have hosl : os.length = k := by rw [hol, upTo_len]
          have g6 := (g2.trans g5).trans (same_new hp (.lst (os.map V.int)))
          have hp6 : upd H5 p (.lst (os.map V.int)) p = some (.lst (os.map V.int)) := upd_same
          generalize upd H5 p (.lst (os.map V.int)) = H6 at g6 hp6 ⊢
          refine ⟨_, rfl, small (by show 1 ≤ 1000000; decide), fun q hq => ?_⟩
          have g7 := same_new hq (.lst [.int (k : Int)])
          have hq7 : upd H6 q (.lst [.int (k : Int)]) q = some (.lst [.int (k : Int)]) := upd_same
          generalize upd H6 q (.lst [.int (k : Int)]) = H7 at g7 hq7 ⊢
          refine ⟨p, q, _, _, rfl, rfl, SqL.of (g7 _ _ hp6), SqL.of hq7, small (by rw [List.length_map]; show _ + 1 ≤ _; omega), fun r hr' => ?_⟩
          refine hX _ _ ⟨r, os ++ [(k : Int)], _, _, _, _, rfl, ?_, (g6.trans g7).trans (same_new hr' _), by simp; omega, .inr ⟨by simp; omega, by rw [hol]; exact wh_chain hk1 (by omega)⟩⟩
          rw [upd_same, List.map_append]
          rfl
      · intro Y hY
        refine ⟨_, rfl, _, _, rfl, .inl ⟨_, g2.seq hS, rfl⟩, _, _, rfl, rfl, _, rfl, ?_⟩
        rw [List.length_map]
        refine ite2 (fun c1 => absurd (of_decide_eq_true c1) (by omega)) (fun c1 => ?_)
        refine hY _ _ ⟨(if (20 : Int) < (ns.length : Int) then (20 : Int) else (ns.length : Int)).toNat, ?_, rfl, by split <;> omega, by split <;> omega⟩
        rw [show (((if (20 : Int) < (ns.length : Int) then (20 : Int) else (ns.length : Int)).toNat : Nat) : Int) = (if (20 : Int) < (ns.length : Int) then (20 : Int) else (ns.length : Int)) by split <;> omega]
        rfl
    · refine ⟨_, rfl, _, _, _, _, rfl, rfl, g2.seq hS, at0, _, _, rfl, rfl, (by show (0 : Int) < 7; decide), _, _, rfl, rfl, _, rfl, ite2 (fun c1 => ?_) (fun c1 => ?_)⟩
      · refine ⟨small (by show 2 ≤ 1000000; decide), fun l1 hl1 => ?_⟩
        have g3 := g2.trans (same_new hl1 (.lst [.int 1, .int 1]))
        have hl3 : upd H2 l1 (.lst [.int 1, .int 1]) l1 = some (.lst (([1, 1] : List Int).map V.int)) := upd_same
        generalize upd H2 l1 (.lst [.int 1, .int 1]) = H3 at g3 hl3 ⊢
        obtain ⟨ms, ems, _, hml⟩ := cut_ints ns (some 1) none
        refine ⟨_, rfl, 1, rfl, a, _, rfl, g3.seq hS, fun p hp => ?_⟩
        rw [ems]
        have g4 := g3.trans (same_new hp (.lst (ms.map V.int)))
        have hl4 := (same_new hp (.lst (ms.map V.int))) _ _ hl3
        have hp4 : upd H3 p (.lst (ms.map V.int)) p = some (.lst (ms.map V.int)) := upd_same
        generalize upd H3 p (.lst (ms.map V.int)) = H4 at g4 hl4 hp4 ⊢
        refine ⟨p, rfl, ⟨_, SqL.of hp4⟩, for_list (K := K) (a := p) (xs := ms.map V.int)
          (fun i σ H5 => ∃ (l : Addr) (ls : List Int) (u3 u4 u5 : Option V), σ = [some (.ref a), some (.ref l), none, u3, u4, u5, none, none, none] ∧ H5 l = some (.lst (ls.map V.int)) ∧ Same H4 H5 ∧ 2 ≤ ls.length ∧ ls.length ≤ 20 ∧ Wh ls)
          ⟨l1, [1, 1], none, none, none, rfl, hl4, Same.refl _, by decide, by decide, wh_two⟩ (fun i σ H5 _ ⟨_, _, _, _, _, _, _, g, _⟩ => SqL.of (g _ _ hp4)) ?_ ?_⟩
        · rintro i y σ H5 hy ⟨l, ls, u3, u4, u5, rfl, hl5, g5, hn2, hn20, hwh⟩
          rw [List.getElem?_map] at hy
          obtain ⟨cell, hcell, rfl⟩ := Option.map_eq_some_iff.mp hy
          have hlp : (0 : Int) < ((ls.map V.int).length : Int) := by rw [List.length_map]; omega
          refine ⟨_, rfl, _, _, rfl, rfl, ⟨by decide, by decide⟩, _, rfl, _, _, rfl, .inl ⟨_, SqL.of hl5, rfl⟩, _, _, rfl, rfl, hlp, ?_⟩
          have s0 := Int.emod_nonneg (cell / 3) (show ((ls.map V.int).length : Int) ≠ 0 by omega)
          have s1 := Int.emod_lt_of_pos (cell / 3) hlp
          dsimp only
          generalize cell / 3 % ((ls.map V.int).length : Int) = sp at s0 s1 ⊢
          rw [List.length_map] at s1
          have hsp : sp.toNat < ls.length := by omega
          have ats : atI (ls.map V.int) sp = some (V.int ls[sp.toNat]) := by
            have e : atI (ls.map V.int) ((sp.toNat : Nat) : Int) = some (V.int ls[sp.toNat]) := atI_nat (by rw [List.getElem?_map, List.getElem?_eq_getElem hsp]; rfl)
            rwa [show ((sp.toNat : Nat) : Int) = sp by omega] at e
          refine ⟨_, rfl, _, _, rfl, rfl, (by show (0 : Int) < 3; decide), _, _, rfl, rfl, _, rfl, ite2 (fun c2 => ?_) (fun _ => iteF ⟨l, ls, _, _, u5, rfl, hl5, g5, hn2, hn20, hwh⟩)⟩
          refine ⟨_, rfl, _, _, rfl, .inl ⟨_, SqL.of hl5, rfl⟩, _, _, rfl, rfl, _, rfl, ?_⟩
          rw [List.length_map]
          refine ite2 (fun c3 => ?_) (fun _ => iteF ⟨l, ls, _, _, u5, rfl, hl5, g5, hn2, hn20, hwh⟩)
          have hn19 : ls.length < 20 := by have := of_decide_eq_true c3; omega
          refine ⟨_, rfl, _, rfl, _, _, _, _, rfl, rfl, SqL.of hl5, ats, _, _, rfl, rfl, _, rfl, ite2 (fun c4 => ?_) (fun _ => ⟨l, ls, _, _, u5, rfl, hl5, g5, hn2, hn20, hwh⟩)⟩
          have h9 : ls[sp.toNat] < 9 := of_decide_eq_true c4
          have hwh2 := wh_split hwh hsp h9
          rw [show sp.toNat + 1 = (sp + 1).toNat by omega] at hwh2
          -- twins
          refine ⟨_, rfl, _, rfl, _, _, _, _, rfl, rfl, SqL.of hl5, ats, _, _, rfl, rfl, small (by show 1 ≤ 1000000; decide), fun p1 hp1 => ?_⟩
          have g6 := same_new hp1 (.lst [.int (ls[sp.toNat] + 1)])
          have hp6 : upd H5 p1 (.lst [.int (ls[sp.toNat] + 1)]) p1 = some (.lst [.int (ls[sp.toNat] + 1)]) := upd_same
          generalize upd H5 p1 (.lst [.int (ls[sp.toNat] + 1)]) = H6 at g6 hp6 ⊢
          refine ⟨p1, 2, _, rfl, rfl, hp6, by decide, by decide, small (by show 1 * 2 ≤ 1000000; decide), fun p2 hp2 => ?_⟩
          have erep : (List.replicate (2 : Int).toNat [V.int (ls[sp.toNat] + 1)]).flatten = ([ls[sp.toNat] + 1, ls[sp.toNat] + 1] : List Int).map V.int := rfl
          rw [erep]
          have g7 := same_new hp2 (.lst (([ls[sp.toNat] + 1, ls[sp.toNat] + 1] : List Int).map V.int))
          have hp7 : upd H6 p2 (.lst (([ls[sp.toNat] + 1, ls[sp.toNat] + 1] : List Int).map V.int)) p2 = some (.lst (([ls[sp.toNat] + 1, ls[sp.toNat] + 1] : List Int).map V.int)) := upd_same
          generalize upd H6 p2 (.lst (([ls[sp.toNat] + 1, ls[sp.toNat] + 1] : List Int).map V.int)) = H7 at g7 hp7 ⊢
          have hl7 := g7 _ _ (g6 _ _ hl5)
          have g57 := (g5.trans g6).trans g7
          -- the first part
          refine ⟨_, rfl, _, rfl, _, rfl, l, _, rfl, SqL.of hl7, fun p3 hp3 => ?_⟩
          rw [cut_to _ s0 (by rw [List.length_map]; omega), ← List.map_take]
          have g8 := same_new hp3 (.lst ((ls.take sp.toNat).map V.int))
          have hp8 : upd H7 p3 (.lst ((ls.take sp.toNat).map V.int)) p3 = some (.lst ((ls.take sp.toNat).map V.int)) := upd_same
          generalize upd H7 p3 (.lst ((ls.take sp.toNat).map V.int)) = H8 at g8 hp8 ⊢
          refine ⟨_, rfl, p3, p2, _, _, rfl, rfl, SqL.of hp8, SqL.of (g8 _ _ hp7), small (by rw [List.length_map, List.length_map, List.length_take]; show _ + 2 ≤ _; omega), fun p4 hp4' => ?_⟩
          rw [← List.map_append]
          have g9 := same_new hp4' (.lst ((ls.take sp.toNat ++ [ls[sp.toNat] + 1, ls[sp.toNat] + 1]).map V.int))
          have hp9 : upd H8 p4 (.lst ((ls.take sp.toNat ++ [ls[sp.toNat] + 1, ls[sp.toNat] + 1]).map V.int)) p4 = some (.lst ((ls.take sp.toNat ++ [ls[sp.toNat] + 1, ls[sp.toNat] + 1]).map V.int)) := upd_same
          generalize upd H8 p4 (.lst ((ls.take sp.toNat ++ [ls[sp.toNat] + 1, ls[sp.toNat] + 1]).map V.int)) = H9 at g9 hp9 ⊢
          have hl9 := g9 _ _ (g8 _ _ hl7)
          refine ⟨_, rfl, _, rfl, _, _, rfl, rfl, _, rfl, l, _, rfl, SqL.of hl9, fun p5 hp5 => ?_⟩
          rw [cut_from _ (show (0 : Int) ≤ sp + 1 by omega) (by rw [List.length_map]; omega), ← List.map_drop]
          have g10 := same_new hp5 (.lst ((ls.drop (sp + 1).toNat).map V.int))
          have hp10 : upd H9 p5 (.lst ((ls.drop (sp + 1).toNat).map V.int)) p5 = some (.lst ((ls.drop (sp + 1).toNat).map V.int)) := upd_same
          generalize upd H9 p5 (.lst ((ls.drop (sp + 1).toNat).map V.int)) = H10 at g10 hp10 ⊢
          have hlen : (ls.take sp.toNat ++ [ls[sp.toNat] + 1, ls[sp.toNat] + 1]).length + (ls.drop (sp + 1).toNat).length = ls.length + 1 := by
            rw [List.length_append, List.length_take, List.length_drop]
            show _ + 2 + _ = _
            omega
          refine ⟨p4, p5, _, _, rfl, rfl, SqL.of (g10 _ _ hp9), SqL.of hp10, small (by rw [List.length_map, List.length_map]; omega), fun p6 hp6' => ?_⟩
          rw [← List.map_append]
          exact ⟨p6, _, _, _, _, rfl, upd_same, (((g57.trans g8).trans g9).trans g10).trans (same_new hp6' _), by rw [List.length_append, hlen]; omega, by rw [List.length_append, hlen]; omega, hwh2⟩
        · rintro σ H5 ⟨l, ls, u3, u4, u5, rfl, hl5, g5, hn2, hn20, hwh⟩
          exact hX _ _ ⟨l, ls, _, _, _, _, rfl, hl5, g4.trans g5, by omega, .inr ⟨hn2, hwh⟩⟩
      · exact hX _ _ ⟨l0, [1], _, _, _, _, rfl, hl2, g2, by decide, .inl rfl⟩
end
end K14

set_option Elab.async false
set_option linter.all false
set_option maxRecDepth 100000
set_option maxHeartbeats 4000000
namespace K14
open PySem PySem.Spec L2 PyProof.Rows LmTxt M02 LmG M05 M06 M08
section
variable {P : Program} {w : World} {K : PySem.W.Frag} {mg : Str → Option Value} {base : Heap} {cL cB cS cF cT cN : Addr}
theorem boot_dict : bootBuiltins "dict" = some (.type "dict") := by decide +kernel
/-! ### shown -/
def nt (k : G) : Str := Str.empty ++ Str.ofString (toString k.1) ++ " " ++ k.2
def spShown (K : PySem.W.Frag) : Sp := fun vs H Q _ => ∃ (a : Addr) (zs : List (Addr × G)), vs = [.ref a] ∧ SqL K H a (refs zs) ∧ Tb fL H zs ∧ zs.length ≤ 63 ∧ (∀ z ∈ zs, PyData.strOk z.2.2 = true) ∧ (∀ z ∈ zs, z.2.2.length ≤ 1) ∧ Bk (zs.map (·.2)) ∧
  ∀ (r : Addr) (H' : Hp), Same H H' → H' r = some (.lst ((zs.map (·.2)).map fun k => V.str (nt k))) → Q (.ref r) H'
theorem sc_shown : FnScope ["book"] ["book"] (defScope sShown) := ⟨rfl, rfl, rfl, by decide +kernel, rfl, by decide +kernel, by decide +kernel⟩
theorem ok_shown {f : Addr} {fd : FuncData} (F : Fun K "shown" "shown" sShown f fd) {fm : Addr} {fdm : FuncData} (M_refuse_unless_book : Fn K mg "refuse_unless_book" fm fdm ["book"]) (G_refuse_unless_book : FnOk P w K mg base (CX1 P w) 3 fm fdm ["book"] (spRefuse K cB)) :
    FnOk P w K mg base (CX1 P w) 4 f fd ["book"] (spShown K) := by
  refine F.okX sc_shown (fun vs H Q E h => ?_) (fun cdv A outer s H vs Q E hr h => ?_)
  · obtain ⟨a, zs, rfl, _⟩ := h; rfl
  obtain ⟨a, zs, rfl, hS, hT, hl, hok, h1s, bk, fin⟩ := h
  refine ⟨_, (pss_cons (ps_expr (pe_call G_refuse_unless_book (hr.mono (by decide)) rfl M_refuse_unless_book.m M_refuse_unless_book.k M_refuse_unless_book.b .nil pass1 (pa_cons (pv 0) pa_nil)))
      (pss_one (ps_ret (pe_comp (own := ["sign", "length"]) (cap := []) (cl := []) ⟨rfl, rfl, by decide +kernel, by decide +kernel, trivial, rfl, trivial⟩ rfl (pi_list (pv 0)) (fun _ _ _ _ => (pg_tup (n := 2) rfl (pgs_cons (pg_name (i := 0) (by show List.Nodup (["sign", "length"] : List Str); decide +kernel) rfl (Or.inl rfl)) (pgs_cons (pg_name (i := 1) (by show List.Nodup (["sign", "length"] : List Str); decide +kernel) rfl (Or.inl rfl)) pgs_nil)))) (fun _ _ _ _ => pts_nil) (fun _ _ _ _ => (pe_fstr (pv 1) (pv 0))))))), ?_⟩
  refine ⟨_, rfl, a, zs, rfl, hS, hT, hl, hok, fun H1 g1 => ⟨fun _ => ?_, fun nb => absurd bk nb⟩⟩
  refine ⟨_, rfl, a, rfl, ⟨_, g1.seq hS⟩, fun C ex s0 H0 => comp_list_fin (K := K) (a := a) (xs := refs zs)
    (fun i out σ H3 => ∃ (u v : Option V), σ = [u, v] ∧ out = ((zs.map (·.2)).take i).map (fun k => V.str (nt k)) ∧ Same H1 H3)
    ⟨none, none, rfl, rfl, Same.refl _⟩ (fun i out σ H3 _ ⟨_, _, _, _, g⟩ => (g1.trans g).seq hS) ?_ ?_⟩
  · rintro i y out σ' H3 hi hy ⟨u, v, rfl, rfl, g3⟩
    obtain ⟨hi', rfl⟩ := refs_at hy
    simp only [gTup, gCons, gNil, gName, tNoTest, ↓reduceIte]
    have ht := (hT.same (g1.trans g3)).at hi'
    have hmem : zs[i].2 ∈ zs.map (·.2) := List.mem_map.mpr ⟨zs[i], List.getElem_mem hi', rfl⟩
    have hk := bk_pos bk _ hmem
    rw [List.length_map] at hk
    have eki : (zs.map (·.2))[i]? = some zs[i].2 := by rw [List.getElem?_map, List.getElem?_eq_getElem hi']; rfl
    have hfl : (Str.ofString (toString zs[i].2.1)).length ≤ 1000 := by
      have e : zs[i].2.1 = ((zs[i].2.1.toNat : Nat) : Int) := by omega
      rw [e]
      have := M14.fig_len (n := zs[i].2.1.toNat) (by omega)
      unfold M14.fig at this
      omega
    have h1 := h1s _ (List.getElem_mem hi')
    refine ⟨_, _, rfl, SqT.of ht, rfl, _, _, rfl, _, _, rfl, rfl, _, rfl, _, rfl, by omega, by omega, hfl, by decide, _, rfl, _, rfl, by omega, smallL ?_, CW.next hi ⟨_, _, rfl, ?_, g3⟩⟩
    · rw [List.length_map, List.length_take, List.length_map]; omega
    · rw [List.take_add_one, eki, List.map_append]; rfl
  · rintro out σ' H3 ⟨u, v, rfl, rfl, g3⟩ p hp
    rw [refs_len, List.take_of_length_le (by rw [List.length_map]; omega)]
    exact fin p _ ((g1.trans g3).trans (same_new hp _)) upd_same
/-! ### lengths_by_figures -/
def spLengths : Sp := fun vs H Q _ => ∃ m : Nat, vs = [.int m] ∧ m < 64 ∧ ∀ (d : Addr) (H' : Hp), Same H H' → H' d = some (.dK (M14.figs m)) → Q (.ref d) H'
theorem sc_lengths_by_figures : FnScope ["most"] ["most"] (defScope sLengths) := ⟨rfl, rfl, rfl, by decide +kernel, rfl, by decide +kernel, by decide +kernel⟩
theorem ok_lengths {f : Addr} {fd : FuncData} (F : Fun K "lengths_by_figures" "lengths_by_figures" sLengths f fd) (T : Txt mg) : FnOk P w K mg base CX0 1 f fd ["most"] spLengths := by
  refine F.ok sc_lengths_by_figures (fun vs H Q E h => ?_) (fun cdv A outer s H vs Q E hr h => ?_)
  · obtain ⟨m, rfl, _⟩ := h; rfl
  obtain ⟨m, rfl, hm, fin⟩ := h
  refine ⟨_, (pss_one (ps_ret (pe_callTy (call_dictP rfl) rfl T.dict boot_dict (pa_cons (pe_comp (own := ["length"]) (cap := []) (cl := []) ⟨rfl, rfl, by decide +kernel, by decide +kernel, trivial, rfl, trivial⟩ rfl (pi_range2 rfl T.range (pa_cons pe_int (pa_cons (pe_op op_add (pv 0) pe_int) pa_nil))) (fun _ _ _ _ => (pg_name (i := 0) (by show List.Nodup (["length"] : List Str); decide +kernel) rfl (Or.inl rfl))) (fun _ _ _ _ => pts_nil) (fun _ _ _ _ => (pe_tup (pa_cons (pe_callTy call_str_int rfl T.str boot_str (pa_cons (pv 0) pa_nil)) (pa_cons (pv 0) pa_nil))))) pa_nil)))), ?_⟩
  refine ⟨_, rfl, _, _, rfl, rfl, _, _, rfl, ⟨by omega, by omega, by omega, by omega⟩, ?_⟩
  rw [show ((m : Int) + 1 - 1).toNat = m by omega]
  refine fun C ex s0 H0 => comp_range_fin
    (fun i out σ H5 => ∃ (u : Option V) (ms : List (Addr × (Key × V))), σ = [u] ∧ out = refs ms ∧ Same H H5 ∧ Tb fK H5 ms ∧ ms.map (·.2) = M14.figs i)
    ⟨none, [], rfl, rfl, Same.refl _, Tb.nil, rfl⟩ ?_ ?_
  · rintro i out σ' H5 hi ⟨u, ms, rfl, rfl, g5, hms, hme⟩
    simp only [gName, tNoTest, ↓reduceIte]
    have hml : ms.length = i := by
      have := congrArg List.length hme
      rw [List.length_map] at this
      unfold M14.figs at this
      rw [List.length_map, List.length_range] at this
      exact this
    rw [show (1 : Int) + (i : Int) = ((i + 1 : Nat) : Int) by omega]
    refine ⟨_, rfl, _, rfl, log_small (by omega) (by omega), _, rfl, small (by show 2 ≤ 1000000; decide), fun t ht => ⟨smallL (by rw [refs_len]; omega), CW.next hi ⟨_, ms ++ [(t, ((Sum.inr (M14.fig (i + 1)) : Key), V.int ((i + 1 : Nat) : Int)))], rfl, ?_, g5.trans (same_new ht _), Tb.snoc (hms.same (same_new ht _)) upd_same, ?_⟩⟩⟩
    · rw [refs_app]; rfl
    · rw [List.map_append, hme, M14.figs_snoc]
      rfl
  · rintro out σ' H5 ⟨u, ms, rfl, rfl, g5, hms, hme⟩ p hp
    refine ⟨p, ms, rfl, upd_same, hms.same (same_new hp _), ?_, fun d hd0 => ?_⟩
    · have := congrArg List.length hme
      rw [List.length_map] at this
      unfold M14.figs at this
      rw [List.length_map, List.length_range] at this
      omega
    · rw [hme, putAll_nd (M14.figs_nd hm)]
      exact fin d _ ((g5.trans (same_new hp _)).trans (same_new hd0 _)) upd_same
/-! ### pair_of -/
def spPair (cN : Addr) : Sp := fun vs H Q E => ∃ (t : Str) (d : Addr) (m : Nat), vs = [.str t, .ref d] ∧ H d = some (.dK (M14.figs m)) ∧ m < 64 ∧ t.length ≤ 1000 ∧
  (∀ k, M14.PP m t k → ∀ (p : Addr) (H' : Hp), Same H H' → H' p = some (.tup (fL k)) → Q (.ref p) H') ∧ ((∀ k, ¬ M14.PP m t k) → ∀ H' : Hp, Same H H' → E (.ref cN) none H')
theorem sc_ppair : FnScope ["note", "length_of", "parts", "figures", "sign"] ["note", "length_of"] (defScope sPairOf) := ⟨rfl, rfl, rfl, by decide +kernel, rfl, by decide +kernel, by decide +kernel⟩
theorem ok_pair {f : Addr} {fd : FuncData} (F : Fun K "pair_of" "pair_of" sPairOf f fd) (T : Txt mg) (O : Own K mg cL cB cS cF cT cN) : FnOk P w K mg base (CX1 P w) 1 f fd ["note", "length_of"] (spPair cN) := by
  refine F.okX sc_ppair (fun vs H Q E h => ?_) (fun cdv A outer s H vs Q E hr h => ?_)
  · obtain ⟨t, d, m, rfl, _⟩ := h; rfl
  obtain ⟨t, d, m, rfl, hd, hm, htl, q, qe⟩ := h
  have hu1 := u1 hr
  refine ⟨_, (pss_cons (ps_set (i := 2) sc_ppair.nd rfl (Or.inl rfl) (pe_partition (pv 0) (pa_cons pe_str pa_nil)))
      (pss_cons (ps_set (i := 3) sc_ppair.nd rfl (Or.inl rfl) (pe_ix ix_tup (pv 2) pe_int (fun _ _ => rfl)))
      (pss_cons (ps_set (i := 4) sc_ppair.nd rfl (Or.inl rfl) (pe_ix ix_tup (pv 2) pe_int (fun _ _ => rfl)))
      (pss_cons (ps_if (PW.pt (pw_or (pt_cmp (pc_dnotin hu1 (pv 3) (pv 1))) (pw_or1 (pt_cmpR op_ne (pe_callB call_len rfl T.len PySem.boot_len (pa_cons (pv 4) pa_nil)) pe_int (nomark _))))) (pss_one (ps_raise O.c_NoNotes O.g_NoNotes hr.hd)) pss_nil)
      (pss_one (ps_ret (pe_tup (pa_cons (pv 4) (pa_cons (pe_dget hu1 (pv 1) (pv 3) (fun _ _ => rfl)) pa_nil))))))))), ?_⟩
  have d1 : (" " : Str) = one 32 := by decide +kernel
  rw [d1]
  refine ⟨_, rfl, rfl, t, one 32, rfl, rfl, rfl, small (by omega), fun p hp => ?_⟩
  have a1 := @M14.part_pp m hm t
  have a2 := @M14.part_of m hm t
  have l1 : (Txt.partition t (one 32)).2.2.length ≤ t.length := by
    rcases M14.part_blank t with ⟨_, e⟩ | ⟨x, y, e, _, _, e2⟩
    · rw [e]; exact Nat.zero_le _
    · rw [LmTxt.len_list, LmTxt.len_list, e2, e]
      simp
      omega
  generalize Txt.partition t (one 32) = z at a1 a2 l1 ⊢
  obtain ⟨fg, bl, sg⟩ := z
  have g1 := same_new hp (.tup [.str fg, .str bl, .str sg])
  have hp1 : upd H p (.tup [.str fg, .str bl, .str sg]) p = some (.tup [.str fg, .str bl, .str sg]) := upd_same
  generalize upd H p (.tup [.str fg, .str bl, .str sg]) = H1 at g1 hp1 ⊢
  have sq := SqT.of (K := K) hp1
  have hd1 := g1 _ _ hd
  refine ⟨_, rfl, _, _, _, _, rfl, rfl, sq, rfl, ?_⟩
  refine ⟨_, rfl, _, _, _, _, rfl, rfl, sq, rfl, ?_⟩
  refine ⟨_, rfl, _, rfl, d, _, rfl, DGet.k (k := Sum.inr fg) hd1, _, rfl, ?_⟩
  cases e : valV (M14.figs m) (.inr fg) with
  | none =>
    refine iteT (qe (fun k hk => ?_) H1 g1)
    have := (a1 hk).1
    rw [e] at this
    cases this
  | some v =>
    refine iteF ?_
    refine ⟨_, rfl, _, _, rfl, ⟨small (by have : sg.length ≤ t.length := l1; omega), rfl⟩, rfl, _, rfl, ite2 (fun c => ?_) (fun c => ?_)⟩
    · refine qe (fun k hk => ?_) H1 g1
      obtain ⟨_, h2, h3⟩ := a1 hk
      have h4 : sg = k.2 := h2
      rw [← h4] at h3
      rw [h3] at c
      exact absurd c (by decide)
    · have h3 : sg.length = 1 := by
        by_cases z : sg.length = 1
        · exact z
        · refine absurd ?_ c
          have : ¬ (V.int (sg.length : Int) = V.int 1) := fun y => z (by have := V.int.inj y; omega)
          rw [decide_eq_false this]
          rfl
      obtain ⟨n, rfl, pk⟩ := a2 e h3
      refine ⟨_, rfl, _, rfl, _, rfl, d, _, rfl, e ▸ DGet.k (k := Sum.inr fg) hd1, small (by show 2 ≤ 1000000; decide), fun r hr' => ?_⟩
      exact q (n, sg) pk r _ (g1.trans (same_new hr' _)) upd_same
/-! ### read_notes -/
def spRead (K : PySem.W.Frag) (cN : Addr) : Sp := fun vs H Q E => ∃ (a : Addr) (ts : List Str), vs = [.ref a] ∧ SqL K H a (ts.map V.str) ∧ ts.length ≤ 63 ∧ (∀ t ∈ ts, M14.Okn t) ∧
  (∀ ks, M14.Pt M14.LP ts ks → Bk ks → ∀ (r : Addr) (zs : List (Addr × G)) (H' : Hp), Same H H' → H' r = some (.lst (refs zs)) → Tb fL H' zs → zs.map (·.2) = ks → Q (.ref r) H') ∧
  ((∀ ks, M14.Pt M14.LP ts ks → ¬ Bk ks) → ∀ H' : Hp, Same H H' → E (.ref cN) none H')
theorem sc_read_notes : FnScope ["notes", "length_of", "book"] ["notes"] (defScope sReadNotes) := ⟨rfl, rfl, rfl, by decide +kernel, rfl, by decide +kernel, by decide +kernel⟩
theorem ok_read {f : Addr} {fd : FuncData} (F : Fun K "read_notes" "read_notes" sReadNotes f fd) (T : Txt mg) (O : Own K mg cL cB cS cF cT cN) {f1 f2 f3 : Addr} {d1 d2 d3 : FuncData} (M_lengths_by_figures : Fn K mg "lengths_by_figures" f1 d1 ["most"]) (G_lengths_by_figures : FnOk P w K mg base CX0 1 f1 d1 ["most"] spLengths)
    (M_pair_of : Fn K mg "pair_of" f2 d2 ["note", "length_of"]) (G_pair_of : FnOk P w K mg base (CX1 P w) 1 f2 d2 ["note", "length_of"] (spPair cN)) (M_is_book : Fn K mg "is_book" f3 d3 ["book"]) (G_is_book : FnOk P w K mg base CX0 2 f3 d3 ["book"] (spIsBook K)) :
    FnOk P w K mg base (CX1 P w) 3 f fd ["notes"] (spRead K cN) := by
  refine F.okX sc_read_notes (fun vs H Q E h => ?_) (fun cdv A outer s H vs Q E hr h => ?_)
  · obtain ⟨a, ts, rfl, _⟩ := h; rfl
  obtain ⟨a, ts, rfl, hS, hl, hok, fin, qe⟩ := h
  refine ⟨_, (pss_cons (ps_set (i := 1) sc_read_notes.nd rfl (Or.inr rfl) (pe_call G_lengths_by_figures (hr.mono (by decide)) rfl M_lengths_by_figures.m M_lengths_by_figures.k M_lengths_by_figures.b .nil pass0 (pa_cons (pe_callB call_len rfl T.len PySem.boot_len (pa_cons (pv 0) pa_nil)) pa_nil)))
      (pss_cons (ps_compX (i := 2) sc_read_notes.nd rfl rfl raises1 (own := ["note"]) (cap := [("length_of", 1)]) (cl := [("length_of", s.heap.objs.size + 1)]) ⟨rfl, rfl, by decide +kernel, by decide +kernel, ⟨rfl, trivial⟩, rfl, ⟨⟨rfl, .inl rfl, .inl rfl, rfl⟩, trivial⟩⟩ rfl (pi_list (pv 0)) (fun _ _ _ _ => (pg_name (i := 0) (by show List.Nodup (["note", "length_of"] : List Str); decide +kernel) rfl (Or.inl rfl))) (fun _ _ _ _ => pts_nil) (fun _ _ _ _ EE hp => (pe_call G_pair_of (hr.mono (by decide)) rfl M_pair_of.m M_pair_of.k M_pair_of.b .nil hp (pa_cons (pv 0) (pa_cons (pv 1) pa_nil)))))
      (pss_cons (ps_if (pt_not (pt_val (pe_call G_is_book (hr.mono (by decide)) rfl M_is_book.m M_is_book.k M_is_book.b .nil pass0 (pa_cons (pv 2) pa_nil)))) (pss_one (ps_raise O.c_NoNotes O.g_NoNotes hr.hd)) pss_nil)
      (pss_one (ps_ret (pv 2)))))), ?_⟩
  refine ⟨_, rfl, _, _, rfl, .inl ⟨_, hS, rfl⟩, _, rfl, by rw [List.length_map]; omega, fun d H1 g1 hd1 => ?_⟩
  rw [List.length_map] at hd1
  refine ⟨_, rfl, a, rfl, ⟨_, g1.seq hS⟩, fun C ex s0 H0 => comp_list_fin (K := K) (a := a) (xs := ts.map V.str)
    (fun i out σ H3 => ∃ (u : Option V) (zs : List (Addr × G)), σ = [u, some (.ref d)] ∧ out = refs zs ∧ Same H1 H3 ∧ Tb fL H3 zs ∧ M14.Pt (M14.PP ts.length) (ts.take i) (zs.map (·.2)))
    ⟨none, [], rfl, rfl, Same.refl _, Tb.nil, .nil⟩ (fun i out σ H3 _ ⟨_, _, _, _, g, _⟩ => (g1.trans g).seq hS) ?_ ?_⟩
  · rintro i y out σ' H3 hi hy ⟨u, zs, rfl, rfl, g3, hT, hP⟩
    rw [List.getElem?_map] at hy
    obtain ⟨t, ht, rfl⟩ := Option.map_eq_some_iff.mp hy
    have hmem : t ∈ ts := List.mem_of_getElem? ht
    have hzl := hP.len
    rw [List.length_map, List.length_take] at hzl
    simp only [gName, tNoTest, ↓reduceIte]
    refine ⟨_, rfl, _, rfl, t, d, ts.length, rfl, g3 _ _ hd1, by omega, by have := (hok t hmem).1; omega, fun k pk p H4 g4 hp4 => ?_, fun hno H4 g4 => ?_⟩
    · refine ⟨smallL (by rw [refs_len]; omega), CW.next hi ⟨_, zs ++ [(p, k)], rfl, ?_, g3.trans g4, Tb.snoc (hT.same g4) hp4, ?_⟩⟩
      · rw [refs_app]; rfl
      · rw [List.take_add_one, ht, List.map_append]
        exact hP.snoc pk
    · refine qe (fun ks hk bk => ?_) H4 ((g1.trans g3).trans g4)
      obtain ⟨k, _, pk⟩ := (M14.lp_pp (by omega) hk bk).mem t hmem
      exact hno k pk
  · rintro out σ' H3 ⟨u, zs, rfl, rfl, g3, hT, hP⟩ p hp
    rw [List.length_map, List.take_of_length_le (Nat.le_refl _)] at hP
    have hzl := hP.len
    rw [List.length_map] at hzl
    have g4 := (g1.trans g3).trans (same_new hp (.lst (refs zs)))
    have hT4 := hT.same (same_new hp (.lst (refs zs)))
    have hp4 : upd H3 p (.lst (refs zs)) p = some (.lst (refs zs)) := upd_same
    generalize upd H3 p (.lst (refs zs)) = H4 at g4 hT4 hp4 ⊢
    refine ⟨_, rfl, p, zs, rfl, SqL.of hp4, hT4, by omega, fun z hz => ?_, fun b H5 g5 hb => ?_⟩
    · obtain ⟨t, ht, pk⟩ := hP.all z.2 (List.mem_map.mpr ⟨z, hz, rfl⟩)
      exact M14.pp_sign (hok t ht) pk
    refine ⟨_, rfl, ?_⟩
    have hL := hP.imp (M14.pp_lp (by omega))
    cases b with
    | true => exact iteF ⟨_, rfl, fin _ hL (hb.mp rfl) p zs H5 (g4.trans g5) (g5 _ _ hp4) (hT4.same g5) rfl⟩
    | false =>
      refine iteT (qe (fun ks hk bk => ?_) H5 (g4.trans g5))
      rw [hk.same M14.lp_same hL] at bk
      exact Bool.false_ne_true (hb.mpr bk)
end
end K14

set_option Elab.async false
set_option linter.all false
set_option maxRecDepth 100000
set_option maxHeartbeats 4000000
namespace K14
open PySem PySem.Spec L2 PyProof.Rows LmTxt M02 LmG M05 M06 M08
section
variable {P : Program} {w : World} {K : PySem.W.Frag} {mg : Str → Option Value} {base : Heap} {cL cB cS cF cT cN : Addr}
/-! ### _law_pair_of -/
def spLPair : Sp := fun vs H Q _ => ∃ t : Str, vs = [.str t] ∧ t.length ≤ 1000 ∧ (∀ k, M14.LP t k → ∀ (p : Addr) (H' : Hp), Same H H' → H' p = some (.tup (fL k)) → Q (.ref p) H') ∧ ((∀ k, ¬ M14.LP t k) → Q .non H)
theorem sc_lpair : FnScope ["_law_note", "_law_number", "_law_sign"] ["_law_note"] (defScope sLPair) := ⟨rfl, rfl, rfl, by decide +kernel, rfl, by decide +kernel, by decide +kernel⟩
theorem ok_lpair {f : Addr} {fd : FuncData} (F : Fun K "_law_pair_of" "_law_pair_of" sLPair f fd) (T : Txt mg) : FnOk P w K mg base CX0 1 f fd ["_law_note"] spLPair := by
  refine F.ok sc_lpair (fun vs H Q E h => ?_) (fun cdv A outer s H vs Q E hr h => ?_)
  · obtain ⟨t, rfl, _⟩ := h; rfl
  obtain ⟨t, rfl, hl, q, qn⟩ := h
  refine ⟨_, (pss_cons (ps_if (PW.pt (pw_or (pt_cmpR op_lt (pe_callB call_len rfl T.len PySem.boot_len (pa_cons (pv 0) pa_nil)) pe_int (nomark _)) (pw_or (pt_cmpR op_ne (pe_ix ix_str (pv 0) (pe_un un_neg pe_int) (fun _ _ => rfl)) pe_str (nomark _)) (pw_or1 (pt_cmpR op_eq (pe_ix ix_str (pv 0) pe_int (fun _ _ => rfl)) pe_str (nomark _)))))) (pss_one (ps_ret pe_non)) pss_nil)
      (pss_cons (ps_set (i := 1) sc_lpair.nd rfl (Or.inl rfl) pe_int)
      (pss_cons (ps_for PassesOwn.never rfl (pi_str (pe_slice sl_str (pv 0) po_none (po_some (pe_un un_neg pe_int)))) (pg_name (i := 2) sc_lpair.nd rfl (Or.inl rfl)) (pss_cons (ps_if (pt_cmpR op_notin_str (pv 2) pe_str (by with_unfolding_all rfl)) (pss_one (ps_ret pe_non)) pss_nil)
      (pss_one (ps_set (i := 1) sc_lpair.nd rfl (Or.inl rfl) (pe_op op_add (pe_op op_mul pe_int (pv 1)) (pe_index pe_str (pa_cons (pv 2) pa_nil)))))))
      (pss_one (ps_ret (pe_tup (pa_cons (pe_ix ix_str (pv 0) (pe_un un_neg pe_int) (fun _ _ => rfl)) (pa_cons (pv 1) pa_nil)))))))), ?_⟩
  have d1 : (" " : Str) = one 32 := by decide +kernel
  have d2 : ("0" : Str) = one 48 := by decide +kernel
  have d3 : ("0123456789" : Str) = M14.digits := rfl
  rw [d1, d2, d3]
  refine ⟨_, rfl, _, _, rfl, ⟨small (by omega), rfl⟩, _, _, rfl, rfl, _, rfl, ite2 (fun c => ?_) (fun c => ?_)⟩
  · have c' := of_decide_eq_true c
    refine qn fun k hk => ?_
    obtain ⟨n, c, ⟨ds, e, hne, _⟩, _⟩ := hk
    have hll := LmTxt.len_list t
    rw [e] at hll
    have := List.length_pos_iff.mpr hne
    simp at hll
    omega
  have h3 : 3 ≤ t.cps.toList.length := by
    have : ¬ ((t.length : Int) < 3) := fun z => c (decide_eq_true z)
    rw [← LmTxt.len_list]
    omega
  clear c
  obtain ⟨a, ds, b, e, hlist⟩ := M14.ends_two h3
  have a2 : atI t.cps.toList (-2) = some b := by rw [hlist]; exact M14.at_neg2 _ _ _
  have a1 : atI t.cps.toList (-1) = some e := by rw [hlist, show (a :: ds) ++ [b, e] = ((a :: ds) ++ [b]) ++ [e] by simp]; exact M14.at_neg1 _ _
  have a0 : atI t.cps.toList (0 : Int) = some a := atI_nat (j := 0) (by rw [hlist]; rfl)
  have hsl := M14.slice_neg2 t
  have hds : t.cps.toList.take (t.length - 2) = a :: ds := by
    have hn : t.length - 2 = (a :: ds).length := by rw [LmTxt.len_list, hlist]; simp
    rw [hn, hlist, List.take_left]
  rw [hds] at hsl
  have lp : ∀ n c, M14.LOk t.cps.toList n c → b = 32 ∧ c = e ∧ a ≠ 48 ∧ (∀ d ∈ a :: ds, 48 ≤ d ∧ d ≤ 57) := fun n c hk => by
    obtain ⟨xs, ex, _, hh, hd, _⟩ := hk
    rw [hlist] at ex
    obtain ⟨e1, e2⟩ := List.append_inj' ex rfl
    subst e1
    have e3 : b = 32 ∧ e = c := by simpa using e2
    exact ⟨e3.1, e3.2.symm, fun z => hh (by rw [z]; rfl), hd⟩
  refine ⟨_, rfl, _, rfl, t, _, _, rfl, rfl, small (by omega), a2, rfl, _, rfl, ite2 (fun c => ?_) (fun c => ?_)⟩
  · refine qn fun k hk => ?_
    obtain ⟨n, c', hk, _⟩ := hk
    have := (lp n c' hk).1
    subst this
    exact absurd c (by simp)
  have hb : b = 32 := by
    by_cases z : b = 32
    · exact z
    · refine absurd ?_ c
      have : ¬ (V.str (one b) = V.str (one 32)) := fun y => z (LmTxt.one_inj (V.str.inj y))
      rw [decide_eq_false this]
      rfl
  clear c
  refine ⟨_, rfl, t, _, _, rfl, rfl, small (by omega), a0, rfl, _, rfl, ite2 (fun c => ?_) (fun c => ?_)⟩
  · refine qn fun k hk => ?_
    obtain ⟨n, c', hk, _⟩ := hk
    have h5 := (lp n c' hk).2.2.1
    exact h5 (LmTxt.one_inj (V.str.inj (of_decide_eq_true c)))
  have ha : a ≠ 48 := fun z => c (decide_eq_true (by rw [z]))
  clear c
  refine ⟨_, rfl, _, rfl, _, rfl, t, rfl, small (by omega), ?_⟩
  generalize Txt.slice t none (some (-2)) = x at hsl ⊢
  refine ⟨x, rfl, for_str (fun i σ H8 => ∃ u : Option V, σ = [some (.str t), some (.int ((M14.va ((a :: ds).take i) : Nat) : Int)), u] ∧ H8 = H ∧ ∀ d ∈ (a :: ds).take i, 48 ≤ d ∧ d ≤ 57)
    ⟨none, rfl, rfl, fun d hd => nomatch hd⟩ ?_ ?_⟩
  · rintro i c σ H8 hc ⟨u, rfl, hH8, hdig⟩
    have hH8' := hH8.symm
    subst hH8'
    have hcl : x.cps.toList[i]? = some c := by rw [Array.getElem?_toList]; exact hc
    rw [hsl] at hcl
    simp only [gName]
    refine ⟨_, rfl, _, _, rfl, rfl, _, rfl, ?_⟩
    rcases M14.dig_occ c with ⟨hno, ho⟩ | ⟨hyes, r, ho⟩
    · refine ite2 (fun _ => qn fun k hk => ?_) (fun z => absurd ?_ z)
      · obtain ⟨n, c', hk, _⟩ := hk
        exact hno ((lp n c' hk).2.2.2 c (List.mem_of_getElem? hcl))
      · rw [ho]; rfl
    · refine ite2 (fun z => ?_) (fun _ => ?_)
      · rw [ho] at z
        exact absurd z (by simp)
      · refine ⟨_, rfl, _, _, rfl, rfl, .inl ⟨by decide, by decide⟩, rfl, _, rfl, _, _, _, _, rfl, rfl, ho, _, _, rfl, rfl, some (sgn c), ?_, rfl, ?_⟩
        · rw [List.take_add_one, hcl, Option.toList_some, M14.va_snoc]
          have e5 : (10 : Int) * ((M14.va ((a :: ds).take i) : Nat) : Int) + ((c - 48 : Nat) : Int) = ((10 * M14.va ((a :: ds).take i) + (c - 48) : Nat) : Int) := by omega
          rw [← e5]
          rfl
        · intro d hd
          rw [List.take_add_one, hcl] at hd
          rcases List.mem_append.mp hd with z | z
          · exact hdig d z
          · have : d = c := by simpa using z
            rw [this]; exact hyes
  · rintro σ H8 ⟨u, rfl, hH8, hdig⟩
    have hH8' := hH8.symm
    subst hH8'
    have hsz : x.cps.size = (a :: ds).length := by rw [← hsl]; simp
    rw [hsz, List.take_of_length_le (Nat.le_refl _)] at hdig
    rw [hsz, List.take_of_length_le (Nat.le_refl _)]
    refine ⟨_, rfl, _, rfl, t, _, _, rfl, rfl, small (by omega), a1, _, rfl, small (by show 2 ≤ 1000000; decide), fun p hp => ?_⟩
    refine q (((M14.va (a :: ds) : Nat) : Int), one e) ⟨M14.va (a :: ds), e, ⟨a :: ds, ?_, by simp, ?_, hdig, rfl⟩, rfl⟩ p _ (same_new hp _) upd_same
    · rw [hlist, hb]
    · intro z
      exact ha (Option.some.inj z)
end
end K14

set_option Elab.async false
set_option linter.all false
set_option maxRecDepth 100000
set_option maxHeartbeats 4000000
namespace K14
open PySem PySem.Spec L2 PyProof.Rows LmTxt M02 LmG M05 M06 M08
section
variable {P : Program} {w : World} {K : PySem.W.Frag} {mg : Str → Option Value} {base : Heap} {cL cB cS cF cT cN : Addr}
theorem boot_VE : bootBuiltins "ValueError" = some (.type "ValueError") := by decide +kernel
/-! ### _law_base_tells -/
def spTells (K : PySem.W.Frag) : Sp := fun vs H Q _ => ∃ (a : Addr) (ts : List Str), vs = [.ref a] ∧ SqL K H a (ts.map V.str) ∧ ts.length ≤ 63 ∧ (∀ t ∈ ts, M14.Okn t) ∧ (∀ ks, M14.Pt M14.LP ts ks → ¬ Bk ks) ∧ ∀ H' : Hp, Q (.bl true) H'
theorem sc_base_tells : FnScope ["_law_lines", "e", "_law_many"] ["_law_lines"] (defScope sTells) := ⟨rfl, rfl, rfl, by decide +kernel, rfl, by decide +kernel, by decide +kernel⟩
theorem ok_tells {f : Addr} {fd : FuncData} (F : Fun K "_law_base_tells" "_law_base_tells" sTells f fd) (T : Txt mg) (O : Own K mg cL cB cS cF cT cN) {fn : Addr} {fdn : FuncData} (M_read_notes : Fn K mg "read_notes" fn fdn ["notes"]) (G_read_notes : FnOk P w K mg base (CX1 P w) 3 fn fdn ["notes"] (spRead K cN)) :
    FnOk P w K mg base CX0 4 f fd ["_law_lines"] (spTells K) := by
  refine F.ok sc_base_tells (fun vs H Q E h => ?_) (fun cdv A outer s H vs Q E hr h => ?_)
  · obtain ⟨a, ts, rfl, _⟩ := h; rfl
  obtain ⟨a, ts, rfl, hS, hl, hok, hno, fin⟩ := h
  refine ⟨_, (pss_cons (ps_try rfl rfl (fun pins E EE hp ho => (pss_one (ps_expr (pe_callS G_read_notes (hr.mono (by decide)) rfl M_read_notes.m M_read_notes.k M_read_notes.b hp (pa_cons (pv 0) pa_nil))))) (ph_consAs (i := 1) sc_base_tells.nd rfl rfl O.c_LampError O.g_LampError (fun pins ea oe vs C bm h1 h2 h3 h4 => (pss_cons (ps_set (i := 2) sc_base_tells.nd rfl (Or.inl rfl) (pe_op op_add (pe_callTy call_int1 rfl T.int boot_int (pa_cons (pe_isinstX h1 h3 h4 T.isinstance (pv 1) (pe_glob (v := .ref _) rfl O.g_NoBook rfl) (fun _ z => z)) pa_nil)) (pe_callTy call_int1 rfl T.int boot_int (pa_cons (pe_isinstX h1 h3 h4 T.isinstance (pv 1) (pe_glob (v := .ref _) rfl O.g_NoSign rfl) (fun _ z => z)) pa_nil))))
      (pss_cons (ps_set (i := 2) sc_base_tells.nd rfl (Or.inl rfl) (pe_op op_add (pe_op op_add (pv 2) (pe_callTy call_int1 rfl T.int boot_int (pa_cons (pe_isinstX h1 h3 h4 T.isinstance (pv 1) (pe_glob (v := .ref _) rfl O.g_NoFlash rfl) (fun _ z => z)) pa_nil))) (pe_callTy call_int1 rfl T.int boot_int (pa_cons (pe_isinstX h1 h3 h4 T.isinstance (pv 1) (pe_glob (v := .ref _) rfl O.g_NoText rfl) (fun _ z => z)) pa_nil))))
      (pss_cons (ps_set (i := 2) sc_base_tells.nd rfl (Or.inl rfl) (pe_op op_add (pv 2) (pe_callTy call_int1 rfl T.int boot_int (pa_cons (pe_isinstX h1 h3 h4 T.isinstance (pv 1) (pe_glob (v := .ref _) rfl O.g_NoNotes rfl) (fun _ z => z)) pa_nil))))
      (pss_one (ps_ret (pe_and (pe_isinstX h1 h3 h4 T.isinstance (pv 1) (pe_bltn (v := .ty "ValueError") rfl T.ValueError boot_VE rfl) (fun _ z => z)) (pe_one (pe_cmpR op_eq (pv 2) pe_int (nomark _)))))))))) ph_nil))
      (pss_one (ps_ret pe_bl))), ?_⟩
  refine ⟨_, rfl, ?_⟩
  dsimp only [tNil]
  refine ⟨a, ts, rfl, hS, hl, hok, fun ks hk bk => absurd bk (hno ks hk), fun _ H' g => ⟨cN, _, rfl, O.c_NoNotes, ?_⟩⟩
  unfold hConsAs
  rw [if_pos (by simp)]
  refine ⟨O.a_NoNotes, fun ea _ => ?_⟩
  refine ⟨_, rfl, rfl, _, O.kNB, .inr ⟨_, rfl, _, rfl, rfl, _, O.kNS, .inr ⟨_, rfl, _, _, rfl, rfl, ?_⟩⟩⟩
  refine ⟨_, rfl, _, rfl, rfl, _, O.kNF, .inr ⟨_, rfl, _, _, rfl, rfl, _, rfl, rfl, _, O.kNT, .inr ⟨_, rfl, _, _, rfl, rfl, ?_⟩⟩⟩
  refine ⟨_, rfl, _, rfl, rfl, _, O.kNN, .inr ⟨_, rfl, _, _, rfl, rfl, ?_⟩⟩
  refine ⟨_, rfl, rfl, _, O.kNV, true, rfl, iteT ?_⟩
  exact ⟨_, rfl, rfl, fin H'⟩
end
end K14

set_option Elab.async false
set_option linter.all false
set_option maxRecDepth 100000
set_option maxHeartbeats 4000000
namespace K14
open PySem PySem.Spec L2 PyProof.Rows LmTxt M02 LmG M05 M06 M08
section
variable {P : Program} {w : World} {K : PySem.W.Frag} {mg : Str → Option Value} {base : Heap} {cL cB cS cF cT cN : Addr}
theorem pass10 {X : Cx} : Passes (CX1 P w) X E0 := fun _ _ _ _ _ _ _ h => by
  obtain ⟨_, _, _, _, _, z⟩ := h
  exact False.elim z
/-! ### law -/
theorem emp_app (x : Str) : Str.empty ++ x = x := str_ext (by rw [app_list]; rfl)
theorem nt_eq (k : G) : Str.ofString (toString k.1) ++ (" " : Str) ++ k.2 = nt k := by
  unfold nt
  rw [emp_app]
theorem cut_strs (ts : List Str) (lo hi : Option Int) : ∃ us : List Str, cutV (ts.map V.str) lo hi = us.map V.str ∧ us.length ≤ ts.length ∧ ∀ t ∈ us, t ∈ ts := by
  refine ⟨(ts.drop (HT.sIx ts.length 0 lo)).take (HT.sIx ts.length ts.length hi - HT.sIx ts.length 0 lo), ?_, ?_, ?_⟩
  · unfold cutV
    rw [List.length_map, List.map_take, List.map_drop]
  · rw [List.length_take, List.length_drop]
    omega
  · intro t ht
    exact List.mem_of_mem_drop (List.mem_of_mem_take ht)
theorem at_mod (xs : List Str) {n : Int} (hn : n = (xs.length : Int)) (h0 : 0 < n) (x : Int) : ∃ t ∈ xs, atI (xs.map V.str) (x % n) = some (V.str t) := by
  have s0 := Int.emod_nonneg x (show n ≠ 0 by omega)
  have s1 := Int.emod_lt_of_pos x h0
  have hlt : (x % n).toNat < xs.length := by omega
  refine ⟨xs[(x % n).toNat], List.getElem_mem hlt, ?_⟩
  have e : atI (xs.map V.str) (((x % n).toNat : Nat) : Int) = some (V.str xs[(x % n).toNat]) := atI_nat (by rw [List.getElem?_map, List.getElem?_eq_getElem hlt]; rfl)
  rwa [show (((x % n).toNat : Nat) : Int) = x % n by omega] at e
/-- a note that the law itself wrote -/
def Sn (t : Str) : Prop := 1 ≤ t.length ∧ t.length ≤ 10 ∧ ∀ c ∈ t.cps.toList, c < 127
theorem Sn.ok {t : Str} (h : Sn t) : M14.Okn t := ⟨by have := h.2.1; omega, h.2.2⟩
theorem nt_sn {k : G} (h1 : 1 ≤ k.1) (h2 : k.1 < 64) {c : Nat} (hc : k.2 = one c) (h127 : c < 127) : Sn (nt k) := by
  have e : k.1 = ((k.1.toNat : Nat) : Int) := by omega
  have hl : (nt k).cps.toList = M14.dg k.1.toNat ++ [32] ++ [c] := by
    rw [← nt_eq, app_list, app_list, hc]
    have d1 : (" " : Str).cps.toList = [32] := by decide +kernel
    rw [d1]
    have := M14.fig_dg (n := k.1.toNat) (by omega)
    unfold M14.fig at this
    rw [← e] at this
    rw [this]
  have hd : (M14.dg k.1.toNat).length ≤ 2 := by
    have := M14.fig_len (n := k.1.toNat) (by omega)
    rwa [LmTxt.len_list, M14.fig_dg (by omega)] at this
  refine ⟨?_, ?_, fun d hd' => ?_⟩
  · rw [LmTxt.len_list, hl]; simp
  · rw [LmTxt.len_list, hl]; simp; omega
  · rw [hl] at hd'
    rcases List.mem_append.mp hd' with q | q
    · rcases List.mem_append.mp q with q | q
      · have := (M14.dg_all ⟨k.1.toNat, by omega⟩ (by show 1 ≤ k.1.toNat; omega)).2.2.1 d q
        omega
      · rw [List.mem_singleton.mp q]; decide
    · rw [List.mem_singleton.mp q]; exact h127
def mn10 : List Str := ["", "1", "1 ", "1a", "01 a", "0 a", "-1 a", "+1 a", "1  a", "1 ab"]
theorem mn_ok : ∀ t ∈ mn10, M14.Okn t := by
  unfold M14.Okn mn10
  decide +kernel
def spLaw (K : PySem.W.Frag) : Sp := fun vs H Q _ => ∃ (a : Addr) (ns : List Int), vs = [.ref a] ∧ SqL K H a (ns.map V.int) ∧ ns.length ≤ 63 ∧ ∀ H', Q (.bl true) H'
theorem sc_law : FnScope ["_law_script", "_law_book", "_law_due", "_law_notes", "_law_k", "_law_way", "_law_spot", "_law_menu", "_law_note", "_law_line", "_law_bent", "_law_pairs", "_law_fine", "_law_pair", "_law_found", "_law_refused"] ["_law_script"] (defScope sLaw) := ⟨rfl, rfl, rfl, by decide +kernel, rfl, by decide +kernel, by decide +kernel⟩
theorem ok_law {f : Addr} {fd : FuncData} (F : Fun K "law" "law" sLaw f fd) (T : Txt mg) (O : Own K mg cL cB cS cF cT cN) {f1 f2 f3 f4 f5 f6 f7 f8 : Addr} {d1 d2 d3 d4 d5 d6 d7 d8 : FuncData}
    (M_grown : Fn K mg "_law_grown" f1 d1 ["_law_cells"]) (G_grown : FnOk P w K mg base CX0 2 f1 d1 ["_law_cells"] (spGrown K)) (M_at : Fn K mg "_law_at" f2 d2 ["_law_script", "_law_k"]) (G_at : FnOk P w K mg base CX0 1 f2 d2 ["_law_script", "_law_k"] (spAt K))
    (M_shown : Fn K mg "shown" f3 d3 ["book"]) (G_shown : FnOk P w K mg base (CX1 P w) 4 f3 d3 ["book"] (spShown K)) (M_pair_of : Fn K mg "_law_pair_of" f4 d4 ["_law_note"]) (G_pair_of : FnOk P w K mg base CX0 1 f4 d4 ["_law_note"] spLPair)
    (M_good : Fn K mg "_law_good" f5 d5 ["_law_book"]) (G_good : FnOk P w K mg base CX0 1 f5 d5 ["_law_book"] (spIsBook K)) (M_read_notes : Fn K mg "read_notes" f6 d6 ["notes"]) (G_read_notes : FnOk P w K mg base (CX1 P w) 3 f6 d6 ["notes"] (spRead K cN))
    (M_base_tells : Fn K mg "_law_base_tells" f7 d7 ["_law_lines"]) (G_base_tells : FnOk P w K mg base CX0 4 f7 d7 ["_law_lines"] (spTells K)) (M_same : Fn K mg "_law_same" f8 d8 ["_law_found", "_law_due"]) (G_same : FnOk P w K mg base CX0 2 f8 d8 ["_law_found", "_law_due"] (spSame K)) :
    FnOk P w K mg base CX0 7 f fd ["_law_script"] (spLaw K) := by
  refine F.ok sc_law (fun vs H Q E h => ?_) (fun cdv A outer s H vs Q E hr h => ?_)
  · obtain ⟨a, ns, rfl, _⟩ := h; rfl
  obtain ⟨a, ns, rfl, hS, hl, fin⟩ := h
  refine ⟨_, (pss_cons (ps_set (i := 1) sc_law.nd rfl (Or.inl rfl) (pe_call G_grown (hr.mono (by decide)) rfl M_grown.m M_grown.k M_grown.b .nil pass0 (pa_cons (pe_slice sl_list (pv 0) (po_some pe_int) po_none) pa_nil)))
      (pss_cons (ps_comp (i := 2) sc_law.nd rfl rfl (own := ["_law_pair"]) (cap := []) (cl := []) ⟨rfl, rfl, by decide +kernel, by decide +kernel, trivial, rfl, trivial⟩ rfl (pi_list (pv 1)) (fun _ _ _ _ => (pg_name (i := 0) (by show List.Nodup (["_law_pair"] : List Str); decide +kernel) rfl (Or.inl rfl))) (fun _ _ _ _ => pts_nil) (fun _ _ _ _ => (pe_op op_add_str (pe_op op_add_str (pe_callTy call_str_int rfl T.str boot_str (pa_cons (pe_ix ix_tup (pv 0) pe_int (fun _ _ => rfl)) pa_nil)) pe_str) (pe_ix ix_tup (pv 0) pe_int (fun _ _ => rfl)))))
      (pss_cons (ps_set (i := 3) sc_law.nd rfl (Or.inl rfl) (pe_call G_shown (hr.mono (by decide)) rfl M_shown.m M_shown.k M_shown.b .nil pass10 (pa_cons (pe_callTy call_list_of rfl T.list boot_list (pa_cons (pv 1) pa_nil)) pa_nil)))
      (pss_cons (ps_if (PW.pt (pw_or (pt_not (pt_val (pe_isinst T.isinstance T.list boot_list (pv 3)))) (pw_or1 (pt_cmpR op_ne (pe_callB call_len rfl T.len PySem.boot_len (pa_cons (pv 3) pa_nil)) (pe_callB call_len rfl T.len PySem.boot_len (pa_cons (pv 2) pa_nil)) (nomark _))))) (pss_one (ps_ret pe_bl)) pss_nil)
      (pss_cons (ps_for PassesOwn.never rfl (pi_range1 rfl T.range (pa_cons (pe_callB call_len rfl T.len PySem.boot_len (pa_cons (pv 2) pa_nil)) pa_nil)) (pg_name (i := 4) sc_law.nd rfl (Or.inl rfl)) (pss_one (ps_if (PW.pt (pw_or (pt_not (pt_val (pe_isinst T.isinstance T.str boot_str (pe_ix ix_list (pv 3) (pv 4) (fun _ _ => rfl))))) (pw_or1 (pt_cmpR op_ne (pe_ix ix_list (pv 3) (pv 4) (fun _ _ => rfl)) (pe_ix ix_list (pv 2) (pv 4) (fun _ _ => rfl)) (nomark _))))) (pss_one (ps_ret pe_bl)) pss_nil)))
      (pss_cons (ps_set (i := 5) sc_law.nd rfl (Or.inl rfl) (pe_op op_mod (pe_call G_at (hr.mono (by decide)) rfl M_at.m M_at.k M_at.b .nil pass0 (pa_cons (pv 0) (pa_cons pe_int pa_nil))) pe_int))
      (pss_cons (ps_set (i := 6) sc_law.nd rfl (Or.inl rfl) (pe_op op_mod (pe_call G_at (hr.mono (by decide)) rfl M_at.m M_at.k M_at.b .nil pass0 (pa_cons (pv 0) (pa_cons pe_int pa_nil))) (pe_op op_add (pe_callB call_len rfl T.len PySem.boot_len (pa_cons (pv 2) pa_nil)) pe_int)))
      (pss_cons (ps_set (i := 7) sc_law.nd rfl (Or.inl rfl) (pe_lst (pa_cons pe_str (pa_cons pe_str (pa_cons pe_str (pa_cons pe_str (pa_cons pe_str (pa_cons pe_str (pa_cons pe_str (pa_cons pe_str (pa_cons pe_str (pa_cons pe_str pa_nil))))))))))))
      (pss_cons (ps_if (pt_cmpR op_eq (pv 5) pe_int (nomark _)) (pss_one (ps_set (i := 2) sc_law.nd rfl (Or.inl rfl) (pe_op op_catS (pe_op op_catS (pe_slice sl_list (pv 2) po_none (po_some (pv 6))) (pe_lst (pa_cons (pe_ix ix_list (pv 7) (pe_op op_mod (pe_call G_at (hr.mono (by decide)) rfl M_at.m M_at.k M_at.b .nil pass0 (pa_cons (pv 0) (pa_cons pe_int pa_nil))) pe_int) (fun _ _ => rfl)) pa_nil))) (pe_slice sl_list (pv 2) (po_some (pv 6)) po_none)))) pss_nil)
      (pss_cons (ps_if (PW.pt (pw_and (pt_cmpR op_eq (pv 5) pe_int (nomark _)) (pw_and1 (pt_cmpR op_lt (pv 6) (pe_callB call_len rfl T.len PySem.boot_len (pa_cons (pv 2) pa_nil)) (nomark _))))) (pss_cons (ps_set (i := 8) sc_law.nd rfl (Or.inl rfl) (pe_ix ix_list (pv 2) (pv 6) (fun _ _ => rfl)))
      (pss_cons (ps_set (i := 9) sc_law.nd rfl (Or.inl rfl) (pe_op op_add_str (pe_op op_add_str (pe_slice sl_str (pv 8) po_none (po_some (pe_un un_neg pe_int))) pe_str) (pe_ix ix_str (pv 8) (pe_un un_neg pe_int) (fun _ _ => rfl))))
      (pss_cons (ps_set (i := 10) sc_law.nd rfl (Or.inl rfl) (pe_lst (pa_cons (pe_op op_add_str pe_str (pv 8)) (pa_cons (pe_op op_add_str pe_str (pv 8)) (pa_cons (pe_op op_add_str pe_str (pv 8)) (pa_cons (pe_op op_add_str (pv 8) pe_str) pa_nil))))))
      (pss_cons (ps_set (i := 10) sc_law.nd rfl (Or.inl rfl) (pe_op op_catS (pv 10) (pe_lst (pa_cons (pv 9) (pa_cons (pe_op op_add_str (pe_slice sl_str (pv 8) po_none (po_some (pe_un un_neg pe_int))) (pe_ix ix_str (pv 8) (pe_un un_neg pe_int) (fun _ _ => rfl))) pa_nil)))))
      (pss_one (ps_asg (pe_ix ix_list (pv 10) (pe_op op_mod (pe_call G_at (hr.mono (by decide)) rfl M_at.m M_at.k M_at.b .nil pass0 (pa_cons (pv 0) (pa_cons pe_int pa_nil))) pe_int) (fun _ _ => rfl)) (pg_sub (pv 2) (pv 6) set_list))))))) pss_nil)
      (pss_cons (ps_if (pt_cmpR op_eq (pv 5) pe_int (nomark _)) (pss_one (ps_set (i := 2) sc_law.nd rfl (Or.inl rfl) (pe_op op_catS (pe_slice sl_list (pv 2) po_none (po_some (pv 6))) (pe_slice sl_list (pv 2) (po_some (pe_op op_add (pv 6) pe_int)) po_none)))) pss_nil)
      (pss_cons (ps_comp (i := 11) sc_law.nd rfl rfl (own := ["_law_note"]) (cap := []) (cl := []) ⟨rfl, rfl, by decide +kernel, by decide +kernel, trivial, rfl, trivial⟩ rfl (pi_list (pv 2)) (fun _ _ _ _ => (pg_name (i := 0) (by show List.Nodup (["_law_note"] : List Str); decide +kernel) rfl (Or.inl rfl))) (fun _ _ _ _ => pts_nil) (fun _ _ _ _ => (pe_call G_pair_of (hr.mono (by decide)) rfl M_pair_of.m M_pair_of.k M_pair_of.b .nil pass0 (pa_cons (pv 0) pa_nil))))
      (pss_cons (ps_set (i := 12) sc_law.nd rfl (Or.inl rfl) pe_bl)
      (pss_cons (ps_for PassesOwn.never rfl (pi_list (pv 11)) (pg_name (i := 13) sc_law.nd rfl (Or.inl rfl)) (pss_one (ps_if (pt_cmpR op_isN (pv 13) pe_non (nomark _)) (pss_one (ps_set (i := 12) sc_law.nd rfl (Or.inl rfl) pe_bl)) pss_nil)))
      (pss_cons (ps_if (pt_val (pv 12)) (pss_one (ps_set (i := 12) sc_law.nd rfl (Or.inl rfl) (pe_call G_good (hr.mono (by decide)) rfl M_good.m M_good.k M_good.b .nil pass0 (pa_cons (pv 11) pa_nil)))) pss_nil)
      (pss_cons (ps_set (i := 14) sc_law.nd rfl (Or.inl rfl) pe_non)
      (pss_cons (ps_set (i := 15) sc_law.nd rfl (Or.inl rfl) pe_bl)
      (pss_cons (ps_try rfl rfl (fun pins E EE hp ho => (pss_one (ps_set (i := 14) sc_law.nd rfl (Or.inl rfl) (pe_callS G_read_notes (hr.mono (by decide)) rfl M_read_notes.m M_read_notes.k M_read_notes.b hp (pa_cons (pe_callTy (call_list_ofK (K := K)) rfl T.list boot_list (pa_cons (pv 2) pa_nil)) pa_nil))))) (ph_cons O.c_NoNotes O.g_NoNotes (fun pins ea oe vs C bm h1 h2 h3 => (pss_one (ps_set (i := 15) sc_law.nd rfl (Or.inl rfl) pe_bl))) ph_nil))
      (pss_cons (ps_if (pt_not (pt_val (pv 12))) (pss_one (ps_ret (pe_and (pv 15) (pe_one (pe_call G_base_tells (hr.mono (by decide)) rfl M_base_tells.m M_base_tells.k M_base_tells.b .nil pass0 (pa_cons (pe_callTy call_list_of rfl T.list boot_list (pa_cons (pv 2) pa_nil)) pa_nil)))))) pss_nil)
      (pss_one (ps_ret (pe_and (pe_not (pv 15)) (pe_one (pe_call G_same (hr.mono (by decide)) rfl M_same.m M_same.k M_same.b .nil pass0 (pa_cons (pv 14) (pa_cons (pv 11) pa_nil)))))))))))))))))))))))))), ?_⟩
  obtain ⟨ms, ems, hm1, hm2⟩ := cut_ints ns (some 3) none
  have hml : ms.length ≤ 60 := by
    have e1 : HT.sIx ns.length ns.length none = ns.length := rfl
    have e2 : HT.sIx ns.length 0 (some 3) = min 3 ns.length := HT.sIx_nat ns.length 0 3
    rw [e1, e2] at hm1
    omega
  refine ⟨_, rfl, 3, rfl, a, _, rfl, hS, fun p hp => ?_⟩
  rw [ems]
  have g1 := same_new hp (.lst (ms.map V.int))
  have hp1 : upd H p (.lst (ms.map V.int)) p = some (.lst (ms.map V.int)) := upd_same
  generalize upd H p (.lst (ms.map V.int)) = H1 at g1 hp1 ⊢
  refine ⟨p, ms, rfl, SqL.of hp1, hml, fun b zs H2 g2' hb hT bk hzl hsg => ?_⟩
  have g2 := g1.trans g2'
  clear g2' hp1 g1 hp ems hm1 hm2 hml
  have hkp : ∀ z ∈ zs, 1 ≤ z.2.1 ∧ z.2.1 < 64 := fun z hz => by
    have h1 := bk_pos bk z.2 (List.mem_map.mpr ⟨z, hz, rfl⟩)
    have h2 := bk_one bk z.2 (List.mem_map.mpr ⟨z, hz, rfl⟩)
    rw [List.length_map] at h1
    omega
  have hsn : ∀ z ∈ zs, Sn (nt z.2) := fun z hz => by
    obtain ⟨c, e, h127⟩ := hsg z hz
    have := hkp z hz
    exact nt_sn this.1 this.2 e h127
  -- the notes that are due
  refine ⟨_, rfl, b, rfl, ⟨_, SqL.of hb⟩, fun C ex s0 H0 => comp_list_fin (K := K) (a := b) (xs := refs zs)
    (fun i out σ H3 => ∃ (u : Option V), σ = [u] ∧ out = ((zs.map (·.2)).take i).map (fun k => V.str (nt k)) ∧ Same H2 H3)
    ⟨none, rfl, rfl, Same.refl _⟩ (fun i out σ H3 _ ⟨_, _, _, g⟩ => SqL.of (g _ _ hb)) ?_ ?_⟩
  · rintro i y out σ' H3 hi hy ⟨u, rfl, rfl, g3⟩
    obtain ⟨hi', rfl⟩ := refs_at hy
    simp only [gName, tNoTest, ↓reduceIte]
    have ht := SqT.of (K := K) ((hT.same g3).at hi')
    have hk := hkp _ (List.getElem_mem hi')
    have hs := hsn _ (List.getElem_mem hi')
    have eki : (zs.map (·.2))[i]? = some zs[i].2 := by rw [List.getElem?_map, List.getElem?_eq_getElem hi']; rfl
    have hfl : (Str.ofString (toString zs[i].2.1)).length + (" " : Str).length + zs[i].2.2.length ≤ 10 := by
      have := hs.2.1
      rwa [← nt_eq, app_len, app_len] at this
    refine ⟨_, rfl, _, _, _, _, rfl, rfl, ht, rfl, _, rfl, log_small (by omega) (by omega), _, _, rfl, rfl, small (by omega), _, rfl, _, _, _, _, rfl, rfl, ht, rfl, _, _, rfl, rfl, small (by rw [app_len]; omega), smallL ?_, CW.next hi ⟨_, rfl, ?_, g3⟩⟩
    · rw [List.length_map, List.length_take, List.length_map]; omega
    · rw [List.take_add_one, eki, List.map_append, nt_eq]; rfl
  rintro out σ' H3 ⟨u, rfl, rfl, g3⟩ d hd0
  rw [refs_len, List.take_of_length_le (by rw [List.length_map]; omega)]
  obtain ⟨ts, hts⟩ : ∃ ts : List Str, ts = (zs.map (·.2)).map nt := ⟨_, rfl⟩
  have ets : (zs.map (·.2)).map (fun k => V.str (nt k)) = ts.map V.str := by rw [hts]; exact (List.map_map ..).symm
  rw [ets]
  have htl : ts.length = zs.length := by rw [hts, List.length_map, List.length_map]
  have hts1 : ∀ t ∈ ts, Sn t := fun t ht => by
    rw [hts] at ht
    obtain ⟨k, hk, rfl⟩ := List.mem_map.mp ht
    obtain ⟨z, hz, rfl⟩ := List.mem_map.mp hk
    exact hsn z hz
  have hHd : H d = none := by
    cases q : H d with
    | none => rfl
    | some o => exact absurd ((g2.trans g3) _ _ q) (by rw [hd0]; simp)
  have g4 := (g2.trans g3).trans (same_new hd0 (.lst (ts.map V.str)))
  have hb4 := (same_new hd0 (.lst (ts.map V.str))) _ _ (g3 _ _ hb)
  have hT4 := (hT.same g3).same (same_new hd0 (.lst (ts.map V.str)))
  have hd4 : upd H3 d (.lst (ts.map V.str)) d = some (.lst (ts.map V.str)) := upd_same
  generalize upd H3 d (.lst (ts.map V.str)) = H4 at g4 hb4 hT4 hd4 ⊢
  clear hd0 g3 g2 hb hT H3 H2
  -- the program's notes
  refine ⟨_, rfl, b, _, rfl, .inl (SqL.of hb4), fun q hq => ?_⟩
  have g5 := g4.trans (same_new hq (.lst (refs zs)))
  have hT5 := hT4.same (same_new hq (.lst (refs zs)))
  have hd5 := (same_new hq (.lst (refs zs))) _ _ hd4
  have hq5 : upd H4 q (.lst (refs zs)) q = some (.lst (refs zs)) := upd_same
  generalize upd H4 q (.lst (refs zs)) = H5 at g5 hT5 hd5 hq5 ⊢
  refine ⟨q, zs, rfl, SqL.of hq5, hT5, by omega, fun z hz => ?_, fun z hz => ?_, bk, fun r H6 g6 hr6 => ?_⟩
  · obtain ⟨c, e, h127⟩ := hsg z hz
    rw [e]
    have h2 : c < 1114112 := by omega
    simpa [PyData.strOk] using h2
  · obtain ⟨c, e, _⟩ := hsg z hz
    rw [e]
    exact Nat.le_refl 1
  rw [ets] at hr6
  have hd6 := g6 _ _ hd5
  have g06 := g5.trans g6
  refine ⟨_, rfl, _, _, _, true, rfl, .lst hr6, rfl, _, rfl, iteF ?_⟩
  refine ⟨_, rfl, _, _, rfl, .inl ⟨_, SqL.of hr6, rfl⟩, _, rfl, _, _, rfl, .inl ⟨_, SqL.of hd6, rfl⟩, rfl, _, rfl, iteNS rfl ?_⟩
  refine ⟨_, rfl, _, _, rfl, .inl ⟨_, SqL.of hd6, rfl⟩, _, rfl, by rw [List.length_map]; omega, by rw [List.length_map]; omega, ?_⟩
  rw [List.length_map, Int.toNat_natCast]
  refine for_range (fun i σ H7 => ∃ u : Option V, σ = [some (.ref a), some (.ref b), some (.ref d), some (.ref r), u, none, none, none, none, none, none, none, none, none, none, none] ∧ H7 = H6) ⟨_, rfl, rfl⟩ ?_ ?_
  · rintro i σ H7 hi ⟨u, rfl, hH7⟩
    have hH7' := hH7.symm
    subst hH7'
    have at' : atI (ts.map V.str) (0 + (i : Int)) = some (V.str ts[i]) := by rw [Int.zero_add]; exact atI_nat (by rw [List.getElem?_map, List.getElem?_eq_getElem hi]; rfl)
    refine ⟨_, rfl, _, rfl, _, _, _, _, rfl, rfl, SqL.of hr6, at', _, _, _, true, rfl, .str _, rfl, _, rfl, iteF ?_⟩
    exact ⟨_, rfl, _, rfl, _, _, _, _, rfl, rfl, SqL.of hr6, at', _, rfl, _, rfl, _, _, _, _, rfl, rfl, SqL.of hd6, at', rfl, _, rfl, iteNS rfl ⟨_, rfl, rfl⟩⟩
  rintro σ H7 ⟨u4, rfl, hH7⟩
  have hH7' := hH7.symm
  subst hH7'
  clear hr6 g6 g5 hT5 hd5 hq5 hq H5 hb4 hT4 hd4 g4 H4
  -- how they are bent
  have hlp : (0 : Int) < ((ts.map V.str).length : Int) + 1 := by omega
  refine ⟨_, rfl, a, ns, 0, rfl, g06.seq hS, by omega, _, _, rfl, rfl, (by show (0 : Int) < 4; decide), ?_⟩
  refine ⟨_, rfl, a, ns, 1, rfl, g06.seq hS, by omega, _, rfl, _, _, rfl, .inl ⟨_, SqL.of hd6, rfl⟩, _, _, rfl, rfl, _, _, rfl, rfl, hlp, ?_⟩
  have s0 := Int.emod_nonneg (ns.getD 1 0) (show ((ts.map V.str).length : Int) + 1 ≠ 0 by omega)
  have s1 := Int.emod_lt_of_pos (ns.getD 1 0) hlp
  refine ⟨small (by show 10 ≤ 1000000; decide), fun mp hmp0 => ?_⟩
  dsimp only [gName]
  generalize ns.getD 1 0 % (((ts.map V.str).length : Int) + 1) = sp at s0 s1 ⊢
  generalize ns.getD 0 0 % 4 = wy
  have em : ([V.str "", V.str "1", V.str "1 ", V.str "1a", V.str "01 a", V.str "0 a", V.str "-1 a", V.str "+1 a", V.str "1  a", V.str "1 ab"] : List V) = mn10.map V.str := rfl
  rw [em]
  have g7 := g06.trans (same_new hmp0 (.lst (mn10.map V.str)))
  have hd7 := (same_new hmp0 (.lst (mn10.map V.str))) _ _ hd6
  have hm7 : upd H6 mp (.lst (mn10.map V.str)) mp = some (.lst (mn10.map V.str)) := upd_same
  generalize upd H6 mp (.lst (mn10.map V.str)) = H7 at g7 hd7 hm7 ⊢
  clear hmp0 hd6 g06 hH7 H6
  refine via (fun σ' H' => ∃ (d : Addr) (us : List Str), σ' = [some (.ref a), some (.ref b), some (.ref d), some (.ref r), u4, some (.int wy), some (.int sp), some (.ref mp), none, none, none, none, none, none, none, none] ∧ Same H H' ∧ H' d = some (.lst (us.map V.str)) ∧ H d = none ∧ us.length ≤ 43 ∧ (wy ≠ 1 → us.length ≤ 21 ∧ ∀ t ∈ us, Sn t) ∧ ∀ t ∈ us, M14.Okn t) ?_ ?_
  rotate_left
  · intro X hX
    refine ⟨_, rfl, rfl, _, rfl, ite2 (fun c => ?_) (fun c => ?_)⟩
    rotate_left
    · exact hX _ _ ⟨d, ts, rfl, g7, hd7, hHd, by omega, fun _ => ⟨by omega, hts1⟩, fun t ht => (hts1 t ht).ok⟩
    have hw : wy = 1 := V.int.inj (of_decide_eq_true c)
    obtain ⟨u1, eu1, hl1, hu1⟩ := cut_strs ts none (some sp)
    obtain ⟨u2, eu2, hl2, hu2⟩ := cut_strs ts (some sp) none
    obtain ⟨t0, ht0, hat⟩ := at_mod mn10 (n := 10) rfl (by decide) (ns.getD 2 0)
    refine ⟨_, rfl, _, rfl, _, rfl, d, _, rfl, SqL.of hd7, fun p1 hp1 => ?_⟩
    rw [eu1]
    have g8 := g7.trans (same_new hp1 (.lst (u1.map V.str)))
    have hd8 := (same_new hp1 (.lst (u1.map V.str))) _ _ hd7
    have hm8 := (same_new hp1 (.lst (u1.map V.str))) _ _ hm7
    have k8 : upd H7 p1 (.lst (u1.map V.str)) p1 = some (.lst (u1.map V.str)) := upd_same
    generalize upd H7 p1 (.lst (u1.map V.str)) = H8 at g8 hd8 hm8 k8 ⊢
    refine ⟨_, rfl, _, rfl, a, ns, 2, rfl, g8.seq hS, by omega, _, _, rfl, rfl, (by show (0 : Int) < 10; decide), _, _, _, _, rfl, rfl, SqL.of hm8, hat, small (by show 1 ≤ 1000000; decide), fun p2 hp2 => ?_⟩
    have e2 : ([V.str t0] : List V) = [t0].map V.str := rfl
    rw [e2]
    have g9 := g8.trans (same_new hp2 (.lst ([t0].map V.str)))
    have hd9 := (same_new hp2 (.lst ([t0].map V.str))) _ _ hd8
    have k9 := (same_new hp2 (.lst ([t0].map V.str))) _ _ k8
    have j9 : upd H8 p2 (.lst ([t0].map V.str)) p2 = some (.lst ([t0].map V.str)) := upd_same
    generalize upd H8 p2 (.lst ([t0].map V.str)) = H9 at g9 hd9 k9 j9 ⊢
    refine ⟨p1, p2, _, _, rfl, rfl, SqL.of k9, SqL.of j9, small (by rw [List.length_map, List.length_map]; show _ + 1 ≤ _; omega), fun p3 hp3 => ?_⟩
    rw [← List.map_append]
    have g10 := g9.trans (same_new hp3 (.lst ((u1 ++ [t0]).map V.str)))
    have hd10 := (same_new hp3 (.lst ((u1 ++ [t0]).map V.str))) _ _ hd9
    have k10 : upd H9 p3 (.lst ((u1 ++ [t0]).map V.str)) p3 = some (.lst ((u1 ++ [t0]).map V.str)) := upd_same
    generalize upd H9 p3 (.lst ((u1 ++ [t0]).map V.str)) = H10 at g10 hd10 k10 ⊢
    refine ⟨_, rfl, _, rfl, _, rfl, d, _, rfl, SqL.of hd10, fun p4 hp4 => ?_⟩
    rw [eu2]
    have g11 := g10.trans (same_new hp4 (.lst (u2.map V.str)))
    have k11 := (same_new hp4 (.lst (u2.map V.str))) _ _ k10
    have j11 : upd H10 p4 (.lst (u2.map V.str)) p4 = some (.lst (u2.map V.str)) := upd_same
    generalize upd H10 p4 (.lst (u2.map V.str)) = H11 at g11 k11 j11 ⊢
    refine ⟨p3, p4, _, _, rfl, rfl, SqL.of k11, SqL.of j11, small (by rw [List.length_map, List.length_map, List.length_append]; show _ + 1 + _ ≤ _; omega), fun p5 hp5 => ?_⟩
    rw [← List.map_append]
    refine hX _ _ ⟨p5, u1 ++ [t0] ++ u2, rfl, g11.trans (same_new hp5 _), upd_same, ?_, ?_, fun z => absurd hw z, fun t ht => ?_⟩
    · cases q : H p5 with
      | none => rfl
      | some o => exact absurd (g11 _ _ q) (by rw [hp5]; simp)
    · rw [List.length_append, List.length_append]; show _ + 1 + _ ≤ _; omega
    · rcases List.mem_append.mp ht with q | q
      · rcases List.mem_append.mp q with q | q
        · exact (hts1 t (hu1 t q)).ok
        · rw [List.mem_singleton.mp q]; exact mn_ok t0 ht0
      · exact (hts1 t (hu2 t q)).ok
  clear s1 hlp hd7 hHd hts1 ets htl hts ts d hsn hkp hsg
  rintro σ' H8 ⟨d, us, rfl, g8, hd8, hHd, hul, husn, huok⟩
  clear hm7 g7 H7
  refine via (fun σ' H' => ∃ (us : List Str) (u8 u9 u10 : Option V), σ' = [some (.ref a), some (.ref b), some (.ref d), some (.ref r), u4, some (.int wy), some (.int sp), some (.ref mp), u8, u9, u10, none, none, none, none, none] ∧ Same H H' ∧ H' d = some (.lst (us.map V.str)) ∧ us.length ≤ 43 ∧ (wy ≠ 1 → us.length ≤ 21) ∧ ∀ t ∈ us, M14.Okn t) ?_ ?_
  rotate_left
  · intro X hX
    have stay := hX _ _ ⟨us, none, none, none, rfl, g8, hd8, hul, (fun z => (husn z).1), huok⟩
    refine ⟨_, rfl, rfl, _, rfl, ite2 (fun c => ?_) (fun _ => iteF stay)⟩
    refine ⟨_, rfl, _, rfl, _, _, rfl, .inl ⟨_, SqL.of hd8, rfl⟩, _, _, rfl, rfl, _, rfl, ite2 (fun c2 => ?_) (fun _ => stay)⟩
    clear stay
    have hw : wy = 2 := V.int.inj (of_decide_eq_true c)
    have hlt : sp < ((us.map V.str).length : Int) := of_decide_eq_true c2
    rw [List.length_map] at hlt
    have hj : sp.toNat < us.length := by omega
    obtain ⟨hu21, hsn⟩ := husn (by omega)
    have htm := List.getElem_mem hj
    have ats : atI (us.map V.str) sp = some (V.str us[sp.toNat]) := by
      have e : atI (us.map V.str) ((sp.toNat : Nat) : Int) = some (V.str us[sp.toNat]) := atI_nat (by rw [List.getElem?_map, List.getElem?_eq_getElem hj]; rfl)
      rwa [show ((sp.toNat : Nat) : Int) = sp by omega] at e
    generalize us[sp.toNat] = t at ats htm
    have st := hsn t htm
    have st1 := st.1
    have st2 := st.2.1
    obtain ⟨lc, hlc, hla⟩ := M14.at_neg1' (l := t.cps.toList) (by rw [← LmTxt.len_list]; exact st.1)
    have hlc127 := st.2.2 lc hlc
    refine ⟨_, rfl, _, rfl, _, _, _, _, rfl, rfl, SqL.of hd8, ats, ?_⟩
    have hsl : (Txt.slice t none (some (-2))).length ≤ 10 ∧ ∀ c ∈ (Txt.slice t none (some (-2))).cps.toList, c < 127 := by
      refine ⟨?_, fun c hc => ?_⟩
      · rw [LmTxt.len_list, M14.slice_neg2, List.length_take, ← LmTxt.len_list]; omega
      · rw [M14.slice_neg2] at hc
        exact st.2.2 c (List.mem_of_mem_take hc)
    have l1 : ∀ c, (one c).length = 1 := fun _ => rfl
    have c0 : ("0" : Str).length = 1 ∧ ∀ c ∈ ("0" : Str).cps.toList, c < 127 := by decide +kernel
    have c1 : ("+" : Str).length = 1 ∧ ∀ c ∈ ("+" : Str).cps.toList, c < 127 := by decide +kernel
    have c3 : (" " : Str).length = 1 ∧ ∀ c ∈ (" " : Str).cps.toList, c < 127 := by decide +kernel
    have c4 : ("_" : Str).length = 1 ∧ ∀ c ∈ ("_" : Str).cps.toList, c < 127 := by decide +kernel
    have h0l := c0.1
    have h1l := c1.1
    have h3l := c3.1
    have h4l := c4.1
    have hsll := hsl.1
    refine ⟨_, rfl, _, rfl, _, rfl, t, rfl, small (by omega), _, _, rfl, rfl, small (by omega), _, rfl, _, rfl, t, _, _, rfl, rfl, small (by omega), hla, _, _, rfl, rfl, small (by rw [app_len]; show _ + _ + 1 ≤ _; omega), ?_⟩
    have okL : M14.Okn (Txt.slice t none (some (-2)) ++ "_" ++ one lc) := by
      refine ⟨by rw [app_len, app_len, l1]; omega, fun c hc => ?_⟩
      rw [app_list, app_list] at hc
      rcases List.mem_append.mp hc with q | q
      · rcases List.mem_append.mp q with q | q
        · exact hsl.2 c q
        · exact c4.2 c q
      · rw [List.mem_singleton.mp q]; exact hlc127
    have okM : M14.Okn (Txt.slice t none (some (-2)) ++ one lc) := by
      refine ⟨by rw [app_len, l1]; omega, fun c hc => ?_⟩
      rw [app_list] at hc
      rcases List.mem_append.mp hc with q | q
      · exact hsl.2 c q
      · rw [List.mem_singleton.mp q]; exact hlc127
    have ok2 : ∀ x : Str, x.length = 1 → (∀ c ∈ x.cps.toList, c < 127) → M14.Okn (x ++ t) ∧ M14.Okn (t ++ x) := fun x h1 h2 =>
      ⟨M14.Okn.app ⟨by omega, h2⟩ ⟨by omega, st.2.2⟩, M14.Okn.app ⟨by omega, st.2.2⟩ ⟨by omega, h2⟩⟩
    generalize hsv : Txt.slice t none (some (-2)) = sv at hsll okL okM ⊢
    refine ⟨_, rfl, _, _, rfl, rfl, small (by omega), _, rfl, _, _, rfl, rfl, small (by omega), _, rfl, _, _, rfl, rfl, small (by omega), _, rfl, _, _, rfl, rfl, small (by omega), small (by show 4 ≤ 1000000; decide), fun q1 hq1 => ?_⟩
    have e1 : ([V.str ("0" ++ t), V.str ("+" ++ t), V.str (" " ++ t), V.str (t ++ " ")] : List V) = ["0" ++ t, "+" ++ t, " " ++ t, t ++ " "].map V.str := rfl
    rw [e1]
    obtain ⟨b1, hb1⟩ : ∃ b1 : List Str, b1 = ["0" ++ t, "+" ++ t, " " ++ t, t ++ " "] := ⟨_, rfl⟩
    rw [← hb1]
    have g9 := g8.trans (same_new hq1 (.lst (b1.map V.str)))
    have hd9 := (same_new hq1 (.lst (b1.map V.str))) _ _ hd8
    have k9 : upd H8 q1 (.lst (b1.map V.str)) q1 = some (.lst (b1.map V.str)) := upd_same
    generalize upd H8 q1 (.lst (b1.map V.str)) = H9 at g9 hd9 k9 ⊢
    refine ⟨_, rfl, _, rfl, _, rfl, _, rfl, _, rfl, t, rfl, small (by omega), _, rfl, _, rfl, t, _, _, rfl, rfl, small (by omega), hla, _, _, rfl, rfl, small (by rw [hsv]; show _ + 1 ≤ _; omega), small (by show 2 ≤ 1000000; decide), fun q2 hq2 => ?_⟩
    rw [hsv]
    have e2 : ([V.str (sv ++ "_" ++ one lc), V.str (sv ++ one lc)] : List V) = [sv ++ "_" ++ one lc, sv ++ one lc].map V.str := rfl
    have e2' : upd H9 q2 (.lst [V.str (sv ++ "_" ++ one lc), V.str (sv ++ one lc)]) = upd H9 q2 (.lst ([sv ++ "_" ++ one lc, sv ++ one lc].map V.str)) := rfl
    rw [e2']
    obtain ⟨b2, hb2⟩ : ∃ b2 : List Str, b2 = [sv ++ "_" ++ one lc, sv ++ one lc] := ⟨_, rfl⟩
    rw [← hb2]
    have g10 := g9.trans (same_new hq2 (.lst (b2.map V.str)))
    have hd10 := (same_new hq2 (.lst (b2.map V.str))) _ _ hd9
    have k10 := (same_new hq2 (.lst (b2.map V.str))) _ _ k9
    have j10 : upd H9 q2 (.lst (b2.map V.str)) q2 = some (.lst (b2.map V.str)) := upd_same
    generalize upd H9 q2 (.lst (b2.map V.str)) = H10 at g10 hd10 k10 j10 ⊢
    have hbl : (b1 ++ b2).length = 6 := by rw [hb1, hb2]; rfl
    refine ⟨q1, q2, _, _, rfl, rfl, SqL.of k10, SqL.of j10, small (by rw [List.length_map, List.length_map, ← List.length_append, hbl]; decide), fun q3 hq3 => ?_⟩
    rw [← List.map_append]
    have hbok : ∀ x ∈ b1 ++ b2, M14.Okn x := fun x hx => by
      rw [hb1, hb2] at hx
      have hx' : x = "0" ++ t ∨ x = "+" ++ t ∨ x = " " ++ t ∨ x = t ++ " " ∨ x = sv ++ "_" ++ one lc ∨ x = sv ++ one lc := by simpa using hx
      rcases hx' with q | q | q | q | q | q
      · rw [q]; exact (ok2 _ c0.1 c0.2).1
      · rw [q]; exact (ok2 _ c1.1 c1.2).1
      · rw [q]; exact (ok2 _ c3.1 c3.2).1
      · rw [q]; exact (ok2 _ c3.1 c3.2).2
      · rw [q]; exact okL
      · rw [q]; exact okM
    generalize b1 ++ b2 = bl at hbl hbok ⊢
    have g11 := g10.trans (same_new hq3 (.lst (bl.map V.str)))
    have hd11 := (same_new hq3 (.lst (bl.map V.str))) _ _ hd10
    have k11 : upd H10 q3 (.lst (bl.map V.str)) q3 = some (.lst (bl.map V.str)) := upd_same
    generalize upd H10 q3 (.lst (bl.map V.str)) = H11 at g11 hd11 k11 ⊢
    obtain ⟨x0, hx0, hat⟩ := at_mod bl (n := 6) (by rw [hbl]; rfl) (by decide) (ns.getD 2 0)
    have hix : ixN (us.map V.str).length sp = some sp.toNat := by
      unfold ixN
      rw [List.length_map, if_pos s0, if_pos hlt]
    refine ⟨_, rfl, _, rfl, a, ns, 2, rfl, g11.seq hS, by omega, _, _, rfl, rfl, (by show (0 : Int) < 6; decide), _, _, _, _, rfl, rfl, SqL.of k11, hat, ?_⟩
    refine ⟨_, rfl, _, rfl, d, _, _, _, rfl, rfl, hd11, hix, ?_⟩
    refine hX _ _ ⟨us.set sp.toNat x0, _, _, _, rfl, same_upd g11 hHd _, ?_, by rw [List.length_set]; exact hul, fun _ => by rw [List.length_set]; exact hu21, fun y hy => ?_⟩
    · rw [upd_same, List.map_set]
    · rcases List.mem_or_eq_of_mem_set hy with q | q
      · exact huok y q
      · rw [q]; exact hbok x0 hx0
  clear hd8 hul husn huok us g8 H8
  rintro σ' H8 ⟨us, u8, u9, u10, rfl, g8, hd8, hul, hul2, huok⟩
  refine via (fun σ' H' => ∃ (d : Addr) (us : List Str), σ' = [some (.ref a), some (.ref b), some (.ref d), some (.ref r), u4, some (.int wy), some (.int sp), some (.ref mp), u8, u9, u10, none, none, none, none, none] ∧ H' d = some (.lst (us.map V.str)) ∧ us.length ≤ 43 ∧ ∀ t ∈ us, M14.Okn t) ?_ ?_
  rotate_left
  · intro X hX
    refine ⟨_, rfl, rfl, _, rfl, ite2 (fun c => ?_) (fun c => ?_)⟩
    rotate_left
    · exact hX _ _ ⟨d, us, rfl, hd8, hul, huok⟩
    have hw : wy = 3 := V.int.inj (of_decide_eq_true c)
    have h21 := hul2 (by omega)
    obtain ⟨u1, eu1, hl1, hu1⟩ := cut_strs us none (some sp)
    obtain ⟨u2, eu2, hl2, hu2⟩ := cut_strs us (some (sp + 1)) none
    refine ⟨_, rfl, _, rfl, _, rfl, d, _, rfl, SqL.of hd8, fun p1 hp1 => ?_⟩
    rw [eu1]
    have hd9 := (same_new hp1 (.lst (u1.map V.str))) _ _ hd8
    have k9 : upd H8 p1 (.lst (u1.map V.str)) p1 = some (.lst (u1.map V.str)) := upd_same
    generalize upd H8 p1 (.lst (u1.map V.str)) = H9 at hd9 k9 ⊢
    refine ⟨_, rfl, _, rfl, _, _, rfl, rfl, _, rfl, d, _, rfl, SqL.of hd9, fun p2 hp2 => ?_⟩
    rw [eu2]
    have k10 := (same_new hp2 (.lst (u2.map V.str))) _ _ k9
    have j10 : upd H9 p2 (.lst (u2.map V.str)) p2 = some (.lst (u2.map V.str)) := upd_same
    generalize upd H9 p2 (.lst (u2.map V.str)) = H10 at k10 j10 ⊢
    refine ⟨p1, p2, _, _, rfl, rfl, SqL.of k10, SqL.of j10, small (by rw [List.length_map, List.length_map]; omega), fun p3 hp3 => ?_⟩
    rw [← List.map_append]
    refine hX _ _ ⟨p3, u1 ++ u2, rfl, upd_same, by rw [List.length_append]; omega, fun t ht => ?_⟩
    rcases List.mem_append.mp ht with q | q
    · exact huok t (hu1 t q)
    · exact huok t (hu2 t q)
  clear hd8 hHd hul hul2 huok us d g8 H8
  rintro σ' H8 ⟨d, ts, rfl, hd8, htl, hok⟩
  -- the pairs that the notes tell
  refine ⟨_, rfl, d, rfl, ⟨_, SqL.of hd8⟩, fun C ex s0 H0 => comp_list_fin (K := K) (a := d) (xs := ts.map V.str)
    (fun i out σ H9 => ∃ (u : Option V), σ = [u] ∧ out.length = i ∧ Same H8 H9 ∧ ((∃ zs : List (Addr × G), out = refs zs ∧ Tb fL H9 zs ∧ M14.Pt M14.LP (ts.take i) (zs.map (·.2))) ∨ (V.non ∈ out ∧ ∀ ks, ¬ M14.Pt M14.LP ts ks)))
    ⟨none, rfl, rfl, Same.refl _, .inl ⟨[], rfl, Tb.nil, .nil⟩⟩ (fun i out σ H9 _ ⟨_, _, _, g, _⟩ => SqL.of (g _ _ hd8)) ?_ ?_⟩
  · rintro i y out σ' H9 hi hy ⟨u, rfl, hol, g9, hcase⟩
    rw [List.getElem?_map] at hy
    obtain ⟨t, ht, rfl⟩ := Option.map_eq_some_iff.mp hy
    have hmem : t ∈ ts := List.mem_of_getElem? ht
    have htl' := (hok t hmem).1
    rw [List.length_map] at hi
    simp only [gName, tNoTest, ↓reduceIte]
    refine ⟨_, rfl, t, rfl, by omega, fun k pk p H10 g10 hp10 => ?_, fun hno => ?_⟩
    · refine ⟨smallL (by omega), CW.next (by rw [List.length_map]; exact hi) ⟨_, rfl, by simp [hol], g9.trans g10, ?_⟩⟩
      rcases hcase with ⟨zs, e, hT, hP⟩ | ⟨hm, hn⟩
      · refine .inl ⟨zs ++ [(p, k)], by rw [e, refs_app]; rfl, Tb.snoc (hT.same g10) hp10, ?_⟩
        rw [List.take_add_one, ht, List.map_append]
        exact hP.snoc pk
      · exact .inr ⟨List.mem_append.mpr (.inl hm), hn⟩
    · refine ⟨smallL (by omega), CW.next (by rw [List.length_map]; exact hi) ⟨_, rfl, by simp [hol], g9, .inr ⟨by simp, fun ks hk => ?_⟩⟩⟩
      obtain ⟨k, _, pk⟩ := hk.mem t hmem
      exact hno k pk
  rintro out σ' H9 ⟨u, rfl, hol, g9, hcase⟩ q hq0
  rw [List.length_map] at hol hcase
  rw [List.take_of_length_le (Nat.le_refl _)] at hcase
  have g10 := g9.trans (same_new hq0 (.lst out))
  have hq10 : upd H9 q (.lst out) q = some (.lst out) := upd_same
  have hcase10 : (∃ zs : List (Addr × G), out = refs zs ∧ Tb fL (upd H9 q (.lst out)) zs ∧ M14.Pt M14.LP ts (zs.map (·.2))) ∨ (V.non ∈ out ∧ ∀ ks, ¬ M14.Pt M14.LP ts ks) := by
    rcases hcase with ⟨zs, e, hT, hP⟩ | h
    · exact .inl ⟨zs, e, hT.same (same_new hq0 _), hP⟩
    · exact .inr h
  clear hcase
  generalize upd H9 q (.lst out) = H10 at g10 hq10 hcase10 ⊢
  have hd10 := g10 _ _ hd8
  clear hq0 g10 g9 hd8 H9 H8
  dsimp only [gName]
  refine seq_c ?_
  refine via (fun σ' H' => ∃ (bb : Bool) (u13 : Option V), σ' = [some (.ref a), some (.ref b), some (.ref d), some (.ref r), u4, some (.int wy), some (.int sp), some (.ref mp), u8, u9, u10, some (.ref q), some (.bl bb), u13, none, none] ∧ H' = H10 ∧
    (bb = true → ∃ zs : List (Addr × G), out = refs zs ∧ Tb fL H10 zs ∧ M14.Pt M14.LP ts (zs.map (·.2))) ∧ (bb = false → ∀ ks, ¬ M14.Pt M14.LP ts ks)) ?_ ?_
  rotate_left
  · intro X hX
    rcases hcase10 with ⟨zs, e, hT, hP⟩ | ⟨hm, hn⟩
    · refine ⟨_, rfl, q, rfl, ⟨_, SqL.of hq10⟩, for_list (K := K) (a := q) (xs := out)
        (fun i σ H5 => ∃ u : Option V, σ = [some (.ref a), some (.ref b), some (.ref d), some (.ref r), u4, some (.int wy), some (.int sp), some (.ref mp), u8, u9, u10, some (.ref q), some (.bl true), u, none, none] ∧ H5 = H10)
        ⟨_, rfl, rfl⟩ (fun i σ H5 _ ⟨_, _, e⟩ => by rw [e]; exact SqL.of hq10) ?_ ?_⟩
      · rintro i y σ H5 hy ⟨u, rfl, hH5⟩
        rw [e] at hy
        obtain ⟨hi', rfl⟩ := refs_at hy
        refine ⟨_, rfl, rfl, _, rfl, ite2 (fun c => ?_) (fun _ => ⟨_, rfl, hH5⟩)⟩
        exact absurd (of_decide_eq_true c) (fun z => nomatch z)
      · rintro σ H5 ⟨u, rfl, hH5⟩
        exact hX _ _ ⟨true, _, rfl, hH5, fun _ => ⟨zs, e, hT, hP⟩, (fun z => nomatch z)⟩
    · refine ⟨_, rfl, q, rfl, ⟨_, SqL.of hq10⟩, for_list (K := K) (a := q) (xs := out)
        (fun i σ H5 => ∃ (bb : Bool) (u : Option V), σ = [some (.ref a), some (.ref b), some (.ref d), some (.ref r), u4, some (.int wy), some (.int sp), some (.ref mp), u8, u9, u10, some (.ref q), some (.bl bb), u, none, none] ∧ H5 = H10 ∧ (V.non ∈ out.take i → bb = false))
        ⟨true, _, rfl, rfl, (fun z => nomatch z)⟩ (fun i σ H5 _ ⟨_, _, _, e, _⟩ => by rw [e]; exact SqL.of hq10) ?_ ?_⟩
      · rintro i y σ H5 hy ⟨bb, u, rfl, hH5, hb⟩
        refine ⟨_, rfl, rfl, _, rfl, ite2 (fun c => ⟨false, _, rfl, hH5, fun _ => rfl⟩) (fun c => ⟨bb, _, rfl, hH5, fun z => ?_⟩)⟩
        rw [List.take_add_one, hy] at z
        rcases List.mem_append.mp z with z | z
        · exact hb z
        · have : V.non = y := by simpa using z
          exact absurd (decide_eq_true this.symm) c
      · rintro σ H5 ⟨bb, u, rfl, hH5, hb⟩
        refine hX _ _ ⟨bb, _, rfl, hH5, fun z => ?_, fun _ => hn⟩
        rw [hb (by rw [List.take_of_length_le (Nat.le_refl _)]; exact hm)] at z
        cases z
  rintro σ' H11 ⟨bb, u13, rfl, hH11, hyes, hnoo⟩
  have hH11' := hH11.symm
  subst hH11'
  refine via (fun σ' H' => ∃ (bb : Bool), σ' = [some (.ref a), some (.ref b), some (.ref d), some (.ref r), u4, some (.int wy), some (.int sp), some (.ref mp), u8, u9, u10, some (.ref q), some (.bl bb), u13, none, none] ∧ Same H10 H' ∧
    (bb = true → ∃ zs : List (Addr × G), out = refs zs ∧ Tb fL H10 zs ∧ M14.Pt M14.LP ts (zs.map (·.2)) ∧ Bk (zs.map (·.2))) ∧ (bb = false → ∀ ks, M14.Pt M14.LP ts ks → ¬ Bk ks)) ?_ ?_
  rotate_left
  · intro X hX
    refine ⟨_, rfl, _, rfl, ?_⟩
    cases bb with
    | false => exact iteF (hX _ _ ⟨false, rfl, Same.refl _, (fun z => nomatch z), fun _ ks hk => absurd hk (hnoo rfl ks)⟩)
    | true =>
      obtain ⟨zs, e, hT, hP⟩ := hyes rfl
      have hzl := hP.len
      rw [List.length_map] at hzl
      refine iteT ⟨_, rfl, q, zs, rfl, SqL.of (by rw [← e]; exact hq10), hT, by omega, fun z hz => ?_, fun b2 H12 g12 hb2 => ?_⟩
      · obtain ⟨t, ht, pk⟩ := hP.all z.2 (List.mem_map.mpr ⟨z, hz, rfl⟩)
        exact M14.lp_sign (hok t ht) pk
      · refine hX _ _ ⟨b2, rfl, g12, fun z => ⟨zs, e, hT, hP, hb2.mp z⟩, fun z ks hk bk => ?_⟩
        rw [hk.same M14.lp_same hP] at bk
        rw [hb2.mpr bk] at z
        cases z
  clear hyes hnoo bb
  rintro σ' H11 ⟨bb, rfl, g11, hyes, hnoo⟩
  have hd11 := g11 _ _ hd10
  have hq11 := g11 _ _ hq10
  -- the program's pairs
  refine seq_c ?_
  refine seq_c ?_
  have nN : (Value.ref cN :: Value.ref cL :: bmV).contains (.ref cN) = true := by simp
  refine via (fun σ' H' => ∃ (fnd : V) (rf : Bool), σ' = [some (.ref a), some (.ref b), some (.ref d), some (.ref r), u4, some (.int wy), some (.int sp), some (.ref mp), u8, u9, u10, some (.ref q), some (.bl bb), u13, some fnd, some (.bl rf)] ∧ Same H11 H' ∧
    (bb = true → rf = false ∧ ∃ (x : Addr) (ws zs : List (Addr × G)), fnd = .ref x ∧ H' x = some (.lst (refs ws)) ∧ Tb fL H' ws ∧ out = refs zs ∧ Tb fL H10 zs ∧ M14.Pt M14.LP ts (zs.map (·.2)) ∧ ws.map (·.2) = zs.map (·.2)) ∧ (bb = false → rf = true)) ?_ ?_
  rotate_left
  · intro X hX
    refine ⟨_, rfl, d, _, rfl, .inl (SqL.of hd11), fun h hh => ?_⟩
    have g12 := same_new hh (.lst (ts.map V.str))
    have hh12 : upd H11 h (.lst (ts.map V.str)) h = some (.lst (ts.map V.str)) := upd_same
    generalize upd H11 h (.lst (ts.map V.str)) = H12 at g12 hh12 ⊢
    dsimp only [tNil]
    refine ⟨h, ts, rfl, SqL.of hh12, by omega, hok, fun ks hk bk x ws H13 g13 hx hT13 hws => ?_, fun hno H13 g13 => ⟨cN, _, rfl, O.c_NoNotes, ?_⟩⟩
    · refine hX _ _ ⟨.ref x, false, rfl, g12.trans g13, fun z => ?_, fun z => absurd bk (hnoo z ks hk)⟩
      obtain ⟨zs, e, hT, hP, _⟩ := hyes z
      exact ⟨rfl, x, ws, zs, rfl, hx, hT13, e, hT, hP, by rw [hws]; exact hk.same M14.lp_same hP⟩
    · unfold hCons
      rw [if_pos nN]
      intro ea _
      refine hX _ _ ⟨.non, true, rfl, g12.trans g13, fun z => ?_, fun _ => rfl⟩
      obtain ⟨zs, e, hT, hP, bk⟩ := hyes z
      exact absurd bk (hno _ hP)
  rintro σ' H12 ⟨fnd, rf, rfl, g12, hy2, hn2⟩
  refine ⟨_, rfl, _, rfl, ?_⟩
  cases bb with
  | false =>
    have hrf := hn2 rfl
    subst hrf
    refine iteT ⟨_, rfl, _, rfl, iteT ?_⟩
    refine ⟨_, rfl, d, _, rfl, .inl (SqL.of (g12 _ _ hd11)), fun h hh => ?_⟩
    exact ⟨h, ts, rfl, SqL.of upd_same, by omega, hok, hnoo rfl, fin⟩
  | true =>
    obtain ⟨hrf, x, ws, zs, hf, hx, hTw, e, hT, hP, hwz⟩ := hy2 rfl
    subst hrf
    subst hf
    have hq12 := g12 _ _ hq11
    rw [e] at hq12
    have hzl := hP.len
    rw [List.length_map] at hzl
    have hwl : ws.length = zs.length := by have := congrArg List.length hwz; rwa [List.length_map, List.length_map] at this
    refine iteF ⟨_, rfl, _, rfl, _, rfl, iteT ?_⟩
    refine ⟨_, rfl, _, rfl, x, q, ws, zs, rfl, hx, SqL.of hq12, hTw, (hT.same g11).same g12, hwz.symm, by omega, fun z hz => ?_, fin _⟩
    have hm : z.2 ∈ zs.map (·.2) := by rw [← hwz]; exact List.mem_map.mpr ⟨z, hz, rfl⟩
    obtain ⟨t, ht, pk⟩ := hP.all z.2 hm
    exact M14.lp_sign (hok t ht) pk
end
end K14

set_option Elab.async false
set_option linter.all false
set_option maxRecDepth 100000
set_option maxHeartbeats 4000000
namespace K14
open PySem PySem.Spec L2 PyProof.Rows LmTxt M02 LmG M05 M06 M08
theorem len0 {us : List Value} (h : us.length = 0) : us = [] := List.length_eq_zero_iff.mp h
theorem len1 {us : List Value} (h : us.length = 1) : ∃ a, us = [a] := List.length_eq_one_iff.mp h
theorem len2 {us : List Value} (h : us.length = 2) : ∃ a b, us = [a, b] := by
  cases us with
  | nil => cases h
  | cons a us =>
    obtain ⟨b, rfl⟩ := len1 (Nat.succ.inj h)
    exact ⟨a, b, rfl⟩
theorem all_mk {l : PySem.W.OpenLaw} {w : World} {K : PySem.W.Frag} {h : Heap} {mg : Str → Option Value} {fa f1 f2 f3 f4 f5 f6 f7 f8 f9 f10 f11 f12 f13 f14 f15 f16 : Addr} (X : K.In h) (G : h.Ns mainGlobals mg) (hfa : mg "law" = some (.ref fa))
    {od1 an1 od2 an2 od3 an3 od4 an4 od5 an5 od6 an6 od7 an7 od8 an8 od9 an9 od10 an10 od11 an11 od12 an12 od13 an13 od14 an14 od15 an15 od16 an16 : Option Addr} {sl1 sl2 sl3 sl4 sl5 sl6 sl7 sl8 sl9 sl10 sl11 sl12 sl13 sl14 sl15 sl16 : Array (Option Value)} {oc1 kV1 dc1 pm1 cd1 ct1 oc2 kV2 dc2 pm2 cd2 ct2 oc3 kV3 dc3 pm3 cd3 ct3 oc4 kV4 dc4 pm4 cd4 ct4 oc5 kV5 dc5 pm5 cd5 ct5 oc6 kV6 dc6 pm6 cd6 ct6 oc7 kV7 dc7 pm7 cd7 ct7 oc8 kV8 dc8 pm8 cd8 ct8 oc9 kV9 dc9 pm9 cd9 ct9 oc10 kV10 dc10 pm10 cd10 ct10 oc11 kV11 dc11 pm11 cd11 ct11 oc12 kV12 dc12 pm12 cd12 ct12 oc13 kV13 dc13 pm13 cd13 ct13 oc14 kV14 dc14 pm14 cd14 ct14 oc15 kV15 dc15 pm15 cd15 ct15 oc16 kV16 dc16 pm16 cd16 ct16 : Value}
    {cL cB cS cF cT cN : Addr}
    {nmcL qncL : Str} {NcL : Addr} {bscL sbcL : List Value} {hdcL abcL : Bool} {sncL : List Str} {cocL : Option Bool} {ddcL : Option Addr} {kacL kbcL kccL kdcL kecL : Option Value}
    {nmcB qncB : Str} {NcB : Addr} {bscB sbcB : List Value} {hdcB abcB : Bool} {sncB : List Str} {cocB : Option Bool} {ddcB : Option Addr} {kacB kbcB kccB kdcB kecB : Option Value}
    {nmcN qncN : Str} {NcN : Addr} {bscN sbcN : List Value} {hdcN abcN : Bool} {sncN : List Str} {cocN : Option Bool} {ddcN : Option Addr} {kacN kbcN kccN kdcN kecN : Option Value}
    (a1 : PySem.W.nsIn K mainGlobals "is_book" = some (some (.ref f1))) (l1 : K.lookup f1 = some ⟨oc1, od1, .func (PySem.W.fnOf "is_book" "is_book" (defArgs sIsBook) (defBody sIsBook) (defScope sIsBook) .none kV1 dc1 pm1 an1 cd1 ct1), sl1⟩) (c1 : PySem.W.codeIn K cd1 "is_book" = true) (k1 : PySem.W.keepIn K (.ref f1) = true)
    (a2 : PySem.W.nsIn K mainGlobals "make_a_whole" = some (some (.ref f2))) (l2 : K.lookup f2 = some ⟨oc2, od2, .func (PySem.W.fnOf "make_a_whole" "make_a_whole" (defArgs sMake) (defBody sMake) (defScope sMake) .none kV2 dc2 pm2 an2 cd2 ct2), sl2⟩) (c2 : PySem.W.codeIn K cd2 "make_a_whole" = true) (k2 : PySem.W.keepIn K (.ref f2) = true)
    (a3 : PySem.W.nsIn K mainGlobals "refuse_unless_book" = some (some (.ref f3))) (l3 : K.lookup f3 = some ⟨oc3, od3, .func (PySem.W.fnOf "refuse_unless_book" "refuse_unless_book" (defArgs sRefuse) (defBody sRefuse) (defScope sRefuse) .none kV3 dc3 pm3 an3 cd3 ct3), sl3⟩) (c3 : PySem.W.codeIn K cd3 "refuse_unless_book" = true) (k3 : PySem.W.keepIn K (.ref f3) = true)
    (a4 : PySem.W.nsIn K mainGlobals "shown" = some (some (.ref f4))) (l4 : K.lookup f4 = some ⟨oc4, od4, .func (PySem.W.fnOf "shown" "shown" (defArgs sShown) (defBody sShown) (defScope sShown) .none kV4 dc4 pm4 an4 cd4 ct4), sl4⟩) (c4 : PySem.W.codeIn K cd4 "shown" = true) (k4 : PySem.W.keepIn K (.ref f4) = true)
    (a5 : PySem.W.nsIn K mainGlobals "read_notes" = some (some (.ref f5))) (l5 : K.lookup f5 = some ⟨oc5, od5, .func (PySem.W.fnOf "read_notes" "read_notes" (defArgs sReadNotes) (defBody sReadNotes) (defScope sReadNotes) .none kV5 dc5 pm5 an5 cd5 ct5), sl5⟩) (c5 : PySem.W.codeIn K cd5 "read_notes" = true) (k5 : PySem.W.keepIn K (.ref f5) = true)
    (a6 : PySem.W.nsIn K mainGlobals "lengths_by_figures" = some (some (.ref f6))) (l6 : K.lookup f6 = some ⟨oc6, od6, .func (PySem.W.fnOf "lengths_by_figures" "lengths_by_figures" (defArgs sLengths) (defBody sLengths) (defScope sLengths) .none kV6 dc6 pm6 an6 cd6 ct6), sl6⟩) (c6 : PySem.W.codeIn K cd6 "lengths_by_figures" = true) (k6 : PySem.W.keepIn K (.ref f6) = true)
    (a7 : PySem.W.nsIn K mainGlobals "pair_of" = some (some (.ref f7))) (l7 : K.lookup f7 = some ⟨oc7, od7, .func (PySem.W.fnOf "pair_of" "pair_of" (defArgs sPairOf) (defBody sPairOf) (defScope sPairOf) .none kV7 dc7 pm7 an7 cd7 ct7), sl7⟩) (c7 : PySem.W.codeIn K cd7 "pair_of" = true) (k7 : PySem.W.keepIn K (.ref f7) = true)
    (a8 : PySem.W.nsIn K mainGlobals "_law_whole" = some (some (.ref f8))) (l8 : K.lookup f8 = some ⟨oc8, od8, .func (PySem.W.fnOf "_law_whole" "_law_whole" (defArgs sWhole) (defBody sWhole) (defScope sWhole) .none kV8 dc8 pm8 an8 cd8 ct8), sl8⟩) (c8 : PySem.W.codeIn K cd8 "_law_whole" = true) (k8 : PySem.W.keepIn K (.ref f8) = true)
    (a9 : PySem.W.nsIn K mainGlobals "_law_at" = some (some (.ref f9))) (l9 : K.lookup f9 = some ⟨oc9, od9, .func (PySem.W.fnOf "_law_at" "_law_at" (defArgs sAt) (defBody sAt) (defScope sAt) .none kV9 dc9 pm9 an9 cd9 ct9), sl9⟩) (c9 : PySem.W.codeIn K cd9 "_law_at" = true) (k9 : PySem.W.keepIn K (.ref f9) = true)
    (a10 : PySem.W.nsIn K mainGlobals "_law_grown" = some (some (.ref f10))) (l10 : K.lookup f10 = some ⟨oc10, od10, .func (PySem.W.fnOf "_law_grown" "_law_grown" (defArgs sGrown) (defBody sGrown) (defScope sGrown) .none kV10 dc10 pm10 an10 cd10 ct10), sl10⟩) (c10 : PySem.W.codeIn K cd10 "_law_grown" = true) (k10 : PySem.W.keepIn K (.ref f10) = true)
    (a11 : PySem.W.nsIn K mainGlobals "_law_good" = some (some (.ref f11))) (l11 : K.lookup f11 = some ⟨oc11, od11, .func (PySem.W.fnOf "_law_good" "_law_good" (defArgs sGood) (defBody sGood) (defScope sGood) .none kV11 dc11 pm11 an11 cd11 ct11), sl11⟩) (c11 : PySem.W.codeIn K cd11 "_law_good" = true) (k11 : PySem.W.keepIn K (.ref f11) = true)
    (a12 : PySem.W.nsIn K mainGlobals "_law_same" = some (some (.ref f12))) (l12 : K.lookup f12 = some ⟨oc12, od12, .func (PySem.W.fnOf "_law_same" "_law_same" (defArgs sSame) (defBody sSame) (defScope sSame) .none kV12 dc12 pm12 an12 cd12 ct12), sl12⟩) (c12 : PySem.W.codeIn K cd12 "_law_same" = true) (k12 : PySem.W.keepIn K (.ref f12) = true)
    (a13 : PySem.W.nsIn K mainGlobals "_law_pair_of" = some (some (.ref f13))) (l13 : K.lookup f13 = some ⟨oc13, od13, .func (PySem.W.fnOf "_law_pair_of" "_law_pair_of" (defArgs sLPair) (defBody sLPair) (defScope sLPair) .none kV13 dc13 pm13 an13 cd13 ct13), sl13⟩) (c13 : PySem.W.codeIn K cd13 "_law_pair_of" = true) (k13 : PySem.W.keepIn K (.ref f13) = true)
    (a14 : PySem.W.nsIn K mainGlobals "_law_full_menu" = some (some (.ref f14))) (l14 : K.lookup f14 = some ⟨oc14, od14, .func (PySem.W.fnOf "_law_full_menu" "_law_full_menu" (defArgs sMenu) (defBody sMenu) (defScope sMenu) .none kV14 dc14 pm14 an14 cd14 ct14), sl14⟩) (c14 : PySem.W.codeIn K cd14 "_law_full_menu" = true) (k14 : PySem.W.keepIn K (.ref f14) = true)
    (a15 : PySem.W.nsIn K mainGlobals "_law_base_tells" = some (some (.ref f15))) (l15 : K.lookup f15 = some ⟨oc15, od15, .func (PySem.W.fnOf "_law_base_tells" "_law_base_tells" (defArgs sTells) (defBody sTells) (defScope sTells) .none kV15 dc15 pm15 an15 cd15 ct15), sl15⟩) (c15 : PySem.W.codeIn K cd15 "_law_base_tells" = true) (k15 : PySem.W.keepIn K (.ref f15) = true)
    (a16 : PySem.W.nsIn K mainGlobals "law" = some (some (.ref f16))) (l16 : K.lookup f16 = some ⟨oc16, od16, .func (PySem.W.fnOf "law" "law" (defArgs sLaw) (defBody sLaw) (defScope sLaw) .none kV16 dc16 pm16 an16 cd16 ct16), sl16⟩) (c16 : PySem.W.codeIn K cd16 "law" = true) (k16 : PySem.W.keepIn K (.ref f16) = true)
    (gLampError : PySem.W.nsIn K mainGlobals "LampError" = some (some (.ref cL)))
    (gNoBook : PySem.W.nsIn K mainGlobals "NoBook" = some (some (.ref cB)))
    (gNoSign : PySem.W.nsIn K mainGlobals "NoSign" = some (some (.ref cS)))
    (gNoFlash : PySem.W.nsIn K mainGlobals "NoFlash" = some (some (.ref cF)))
    (gNoText : PySem.W.nsIn K mainGlobals "NoText" = some (some (.ref cT)))
    (gNoNotes : PySem.W.nsIn K mainGlobals "NoNotes" = some (some (.ref cN)))
    (lLampError : K.lookup cL = some (excClassObj nmcL qncL cL NcL bscL bmV hdcL sncL sbcL abcL cocL ddcL kacL kbcL kccL kdcL kecL "ValueError.__new__")) (eLampError : PySem.W.excIn K cL bmV "ValueError.__new__" = true)
    (lNoBook : K.lookup cB = some (excClassObj nmcB qncB cB NcB bscB (.ref cL :: bmV) hdcB sncB sbcB abcB cocB ddcB kacB kbcB kccB kdcB kecB "ValueError.__new__")) (eNoBook : PySem.W.excIn K cB bmV "ValueError.__new__" = true)
    (lNoNotes : K.lookup cN = some (excClassObj nmcN qncN cN NcN bscN (.ref cL :: bmV) hdcN sncN sbcN abcN cocN ddcN kacN kbcN kccN kdcN kecN "ValueError.__new__")) (eNoNotes : PySem.W.excIn K cN bmV "ValueError.__new__" = true)
    (gaNoBook : PySem.W.findIn K (.ref cB) "__getattribute__" = some (some (.builtin "BaseException.__getattribute__")))
    (hkNoBook : PySem.W.findIn K (.ref cB) "__getattr__" = some none)
    (ccNoBook : PySem.W.findIn K (.ref cB) "__class__" = some (some (.builtin "object.__class__")))
    (gtNoBook : PySem.W.specialIn K (.builtin "object.__class__") "__get__" = some (some (.builtin "getset_descriptor.__get__")))
    (tkNoBook : PySem.W.takesIn K (.builtin "object.__class__") = some true)
    (moNoBook : PySem.W.mroIn K cB (.type "object") = some true)
    (mbNoBook : PySem.W.mroIn K cB (.type "BaseException") = some true)
    (gaNoNotes : PySem.W.findIn K (.ref cN) "__getattribute__" = some (some (.builtin "BaseException.__getattribute__")))
    (hkNoNotes : PySem.W.findIn K (.ref cN) "__getattr__" = some none)
    (ccNoNotes : PySem.W.findIn K (.ref cN) "__class__" = some (some (.builtin "object.__class__")))
    (gtNoNotes : PySem.W.specialIn K (.builtin "object.__class__") "__get__" = some (some (.builtin "getset_descriptor.__get__")))
    (tkNoNotes : PySem.W.takesIn K (.builtin "object.__class__") = some true)
    (moNoNotes : PySem.W.mroIn K cN (.type "object") = some true)
    (mbNoNotes : PySem.W.mroIn K cN (.type "BaseException") = some true)
    (kBB : PySem.W.kitOne K (.ref cB) (.ref cB) = some true)
    (kBS : PySem.W.kitOne K (.ref cB) (.ref cS) = some false)
    (kBF : PySem.W.kitOne K (.ref cB) (.ref cF) = some false)
    (kBT : PySem.W.kitOne K (.ref cB) (.ref cT) = some false)
    (kBN : PySem.W.kitOne K (.ref cB) (.ref cN) = some false)
    (kBV : PySem.W.kitOne K (.ref cB) (.type "ValueError") = some true)
    (kNB : PySem.W.kitOne K (.ref cN) (.ref cB) = some false)
    (kNS : PySem.W.kitOne K (.ref cN) (.ref cS) = some false)
    (kNF : PySem.W.kitOne K (.ref cN) (.ref cF) = some false)
    (kNT : PySem.W.kitOne K (.ref cN) (.ref cT) = some false)
    (kNN : PySem.W.kitOne K (.ref cN) (.ref cN) = some true)
    (kNV : PySem.W.kitOne K (.ref cN) (.type "ValueError") = some true)
    (z1 : PySem.W.nsIn K mainGlobals "isinstance" = some none) (z2 : PySem.W.nsIn K mainGlobals "list" = some none) (z3 : PySem.W.nsIn K mainGlobals "tuple" = some none) (z4 : PySem.W.nsIn K mainGlobals "str" = some none) (z5 : PySem.W.nsIn K mainGlobals "int" = some none) (z6 : PySem.W.nsIn K mainGlobals "bool" = some none) (z7 : PySem.W.nsIn K mainGlobals "len" = some none) (z8 : PySem.W.nsIn K mainGlobals "sorted" = some none) (z9 : PySem.W.nsIn K mainGlobals "min" = some none) (z10 : PySem.W.nsIn K mainGlobals "range" = some none) (z11 : PySem.W.nsIn K mainGlobals "set" = some none) (z12 : PySem.W.nsIn K mainGlobals "max" = some none) (z13 : PySem.W.nsIn K mainGlobals "sum" = some none) (z14 : PySem.W.nsIn K mainGlobals "ValueError" = some none) (z15 : PySem.W.nsIn K mainGlobals "dict" = some none) :
    ∃ fd : FuncData, (∀ (s : Shared) (v : Value), BindsTo s fd ⟨[v], []⟩ [("_law_script", v)]) ∧ ∀ base : Heap, K.In base → base.Ns mainGlobals mg → FnOk l.prog w K mg base CX0 7 fa fd ["_law_script"] (spLaw K) := by
  have e := hfa.symm.trans (PySem.W.mg_of X G a16)
  cases e
  have T : Txt mg := ⟨PySem.W.mg_none_of X G z1, PySem.W.mg_none_of X G z2, PySem.W.mg_none_of X G z3, PySem.W.mg_none_of X G z4, PySem.W.mg_none_of X G z5, PySem.W.mg_none_of X G z6, PySem.W.mg_none_of X G z7, PySem.W.mg_none_of X G z8, PySem.W.mg_none_of X G z9, PySem.W.mg_none_of X G z10, PySem.W.mg_none_of X G z11, PySem.W.mg_none_of X G z12, PySem.W.mg_none_of X G z13, PySem.W.mg_none_of X G z14, PySem.W.mg_none_of X G z15⟩
  have xLampError : ExC K cL bmV := exc_mk lLampError eLampError
  have xNoBook : ExC K cB (.ref cL :: bmV) := exc_mk lNoBook eNoBook
  have xNoNotes : ExC K cN (.ref cL :: bmV) := exc_mk lNoNotes eNoNotes
  have yNoBook : ExA K cB := ⟨gaNoBook, hkNoBook, ccNoBook, gtNoBook, tkNoBook, moNoBook, mbNoBook⟩
  have yNoNotes : ExA K cN := ⟨gaNoNotes, hkNoNotes, ccNoNotes, gtNoNotes, tkNoNotes, moNoNotes, mbNoNotes⟩
  have O : Own K mg cL cB cS cF cT cN  := ⟨PySem.W.mg_of X G gLampError, PySem.W.mg_of X G gNoBook, PySem.W.mg_of X G gNoSign, PySem.W.mg_of X G gNoFlash, PySem.W.mg_of X G gNoText, PySem.W.mg_of X G gNoNotes, xLampError, xNoBook, xNoNotes, yNoBook, yNoNotes, kBB, kBS, kBF, kBT, kBN, kBV, kNB, kNS, kNF, kNT, kNN, kNV⟩
  have F1 := fun_mk (st := sIsBook) l1 c1 k1
  have F2 := fun_mk (st := sMake) l2 c2 k2
  have F3 := fun_mk (st := sRefuse) l3 c3 k3
  have F4 := fun_mk (st := sShown) l4 c4 k4
  have F5 := fun_mk (st := sReadNotes) l5 c5 k5
  have F6 := fun_mk (st := sLengths) l6 c6 k6
  have F7 := fun_mk (st := sPairOf) l7 c7 k7
  have F8 := fun_mk (st := sWhole) l8 c8 k8
  have F9 := fun_mk (st := sAt) l9 c9 k9
  have F10 := fun_mk (st := sGrown) l10 c10 k10
  have F11 := fun_mk (st := sGood) l11 c11 k11
  have F12 := fun_mk (st := sSame) l12 c12 k12
  have F13 := fun_mk (st := sLPair) l13 c13 k13
  have F14 := fun_mk (st := sMenu) l14 c14 k14
  have F15 := fun_mk (st := sTells) l15 c15 k15
  have F16 := fun_mk (st := sLaw) l16 c16 k16
  have b1 := F1.binds (ps := ["book"]) fun _ _ _ _ _ _ us hl => by obtain ⟨_, rfl⟩ := len1 hl; rfl
  have n1 : Fn K mg "is_book" f1 _ ["book"] := ⟨PySem.W.mg_of X G a1, k1, b1⟩
  have b2 := F2.binds (ps := ["lengths"]) fun _ _ _ _ _ _ us hl => by obtain ⟨_, rfl⟩ := len1 hl; rfl
  have n2 : Fn K mg "make_a_whole" f2 _ ["lengths"] := ⟨PySem.W.mg_of X G a2, k2, b2⟩
  have b3 := F3.binds (ps := ["book"]) fun _ _ _ _ _ _ us hl => by obtain ⟨_, rfl⟩ := len1 hl; rfl
  have n3 : Fn K mg "refuse_unless_book" f3 _ ["book"] := ⟨PySem.W.mg_of X G a3, k3, b3⟩
  have b4 := F4.binds (ps := ["book"]) fun _ _ _ _ _ _ us hl => by obtain ⟨_, rfl⟩ := len1 hl; rfl
  have n4 : Fn K mg "shown" f4 _ ["book"] := ⟨PySem.W.mg_of X G a4, k4, b4⟩
  have b5 := F5.binds (ps := ["notes"]) fun _ _ _ _ _ _ us hl => by obtain ⟨_, rfl⟩ := len1 hl; rfl
  have n5 : Fn K mg "read_notes" f5 _ ["notes"] := ⟨PySem.W.mg_of X G a5, k5, b5⟩
  have b6 := F6.binds (ps := ["most"]) fun _ _ _ _ _ _ us hl => by obtain ⟨_, rfl⟩ := len1 hl; rfl
  have n6 : Fn K mg "lengths_by_figures" f6 _ ["most"] := ⟨PySem.W.mg_of X G a6, k6, b6⟩
  have b7 := F7.binds (ps := ["note", "length_of"]) fun _ _ _ _ _ _ us hl => by obtain ⟨_, _, rfl⟩ := len2 hl; rfl
  have n7 : Fn K mg "pair_of" f7 _ ["note", "length_of"] := ⟨PySem.W.mg_of X G a7, k7, b7⟩
  have b8 := F8.binds (ps := ["_law_found"]) fun _ _ _ _ _ _ us hl => by obtain ⟨_, rfl⟩ := len1 hl; rfl
  have n8 : Fn K mg "_law_whole" f8 _ ["_law_found"] := ⟨PySem.W.mg_of X G a8, k8, b8⟩
  have b9 := F9.binds (ps := ["_law_script", "_law_k"]) fun _ _ _ _ _ _ us hl => by obtain ⟨_, _, rfl⟩ := len2 hl; rfl
  have n9 : Fn K mg "_law_at" f9 _ ["_law_script", "_law_k"] := ⟨PySem.W.mg_of X G a9, k9, b9⟩
  have b10 := F10.binds (ps := ["_law_cells"]) fun _ _ _ _ _ _ us hl => by obtain ⟨_, rfl⟩ := len1 hl; rfl
  have n10 : Fn K mg "_law_grown" f10 _ ["_law_cells"] := ⟨PySem.W.mg_of X G a10, k10, b10⟩
  have b11 := F11.binds (ps := ["_law_book"]) fun _ _ _ _ _ _ us hl => by obtain ⟨_, rfl⟩ := len1 hl; rfl
  have n11 : Fn K mg "_law_good" f11 _ ["_law_book"] := ⟨PySem.W.mg_of X G a11, k11, b11⟩
  have b12 := F12.binds (ps := ["_law_found", "_law_due"]) fun _ _ _ _ _ _ us hl => by obtain ⟨_, _, rfl⟩ := len2 hl; rfl
  have n12 : Fn K mg "_law_same" f12 _ ["_law_found", "_law_due"] := ⟨PySem.W.mg_of X G a12, k12, b12⟩
  have b13 := F13.binds (ps := ["_law_note"]) fun _ _ _ _ _ _ us hl => by obtain ⟨_, rfl⟩ := len1 hl; rfl
  have n13 : Fn K mg "_law_pair_of" f13 _ ["_law_note"] := ⟨PySem.W.mg_of X G a13, k13, b13⟩
  have b14 := F14.binds (ps := []) fun _ _ _ _ _ _ us hl => by obtain rfl := len0 hl; rfl
  have n14 : Fn K mg "_law_full_menu" f14 _ [] := ⟨PySem.W.mg_of X G a14, k14, b14⟩
  have b15 := F15.binds (ps := ["_law_lines"]) fun _ _ _ _ _ _ us hl => by obtain ⟨_, rfl⟩ := len1 hl; rfl
  have n15 : Fn K mg "_law_base_tells" f15 _ ["_law_lines"] := ⟨PySem.W.mg_of X G a15, k15, b15⟩
  refine ⟨PySem.W.fnOf "law" "law" (defArgs sLaw) (defBody sLaw) (defScope sLaw) .none kV16 dc16 pm16 an16 cd16 ct16, fun s v => .of_eq rfl, fun base _ _ => ?_⟩
  have G2 := ok_make (P := l.prog) (w := w) (base := base) F2 T
  have G1 := ok_isbook F1 T n2 G2
  have G3 := ok_refuse F3 O n1 G1
  have GM := ok_menu (P := l.prog) (w := w) (mg := mg) (base := base) F14
  have GG := ok_grown F10 T n14 GM
  have GA := ok_at (P := l.prog) (w := w) (base := base) F9 T
  have GS := ok_shown F4 n3 G3
  have GR := ok_read F5 T O n6 (ok_lengths F6 T) n7 (ok_pair F7 T O) n1 G1
  have GW := ok_whole (P := l.prog) (w := w) (base := base) F8 T
  exact ok_law F16 T O n10 GG n9 GA n4 GS n13 (ok_lpair F13 T) n11 (ok_good F11 T) n5 GR n15 (ok_tells F15 T O n5 GR) n12 (ok_same F12 T n8 GW)
theorem walk {l : PySem.W.OpenLaw} {q : Program} {loose : List Str} {XP : (Str → Option Value) → Heap → Prop} {YP : World → Heap → Prop} {d : DefRec} {K : Params → PySem.W.Frag} (hn : l.most = some 63) (hdf : d.params.defaults = [])
    (hY : ∀ (w : World) (h : Heap), YP w h → (K w.params).In h)
    (F : ∀ (w : World) (mg : Str → Option Value) (fa : Addr) (h : Heap), (K w.params).In h → h.Ns mainGlobals mg → mg d.name = some (.ref fa) →
      ∃ fd : FuncData, (∀ (s : Shared) (u : Value), BindsTo s fd ⟨[u], []⟩ [("_law_script", u)]) ∧ ∀ base : Heap, (K w.params).In base → base.Ns mainGlobals mg → FnOk l.prog w (K w.params) mg base CX0 7 fa fd ["_law_script"] (spLaw (K w.params))) :
    PySem.W.WalkO q loose XP YP l.row.toRowW d [] (fun f vs => PySem.call f vs) :=
  L2.walk_of (n := 63) (k := 7) (x := "_law_script") (CX := fun _ => CX0) (sp := fun w => spLaw (K w.params)) hn (by decide) hdf ⟨rfl, by decide, by decide⟩ hY F (fun _ _ a ns hl _ hS => ⟨a, ns, rfl, hS, hl, fun _ => rfl⟩) fun _ _ _ _ _ z => z
end K14
open PySem PySem.W PyProof.Rows
set_option maxRecDepth 100000 in
set_option maxHeartbeats 0 in
theorem PySem.Challenge.cw_lampcode_k14_whole_notes_of_books_holds : PySem.Challenge.rw_lampcode_k14_whole_notes_of_books.Holds := by
  w_on; o_law; k_head; (case hw => w_witness2)
  k_fill
  refine K14.walk (l := PySem.Challenge.rw_lampcode_k14_whole_notes_of_books) rfl rfl (fun w h Y => PySem.W.kIn_of Y) ?F
  case F =>
    intro w mg fa h KX G hmg
    refine' K14.all_mk KX G hmg ?a1 ?l1 ?c1 ?k1 ?a2 ?l2 ?c2 ?k2 ?a3 ?l3 ?c3 ?k3 ?a4 ?l4 ?c4 ?k4 ?a5 ?l5 ?c5 ?k5 ?a6 ?l6 ?c6 ?k6 ?a7 ?l7 ?c7 ?k7 ?a8 ?l8 ?c8 ?k8 ?a9 ?l9 ?c9 ?k9 ?a10 ?l10 ?c10 ?k10 ?a11 ?l11 ?c11 ?k11 ?a12 ?l12 ?c12 ?k12 ?a13 ?l13 ?c13 ?k13 ?a14 ?l14 ?c14 ?k14 ?a15 ?l15 ?c15 ?k15 ?a16 ?l16 ?c16 ?k16 ?gLampError ?gNoBook ?gNoSign ?gNoFlash ?gNoText ?gNoNotes ?lLampError ?eLampError ?lNoBook ?eNoBook ?lNoNotes ?eNoNotes ?gaNoBook ?hkNoBook ?ccNoBook ?gtNoBook ?tkNoBook ?moNoBook ?mbNoBook ?gaNoNotes ?hkNoNotes ?ccNoNotes ?gtNoNotes ?tkNoNotes ?moNoNotes ?mbNoNotes ?kBB ?kBS ?kBF ?kBT ?kBN ?kBV ?kNB ?kNS ?kNF ?kNT ?kNN ?kNV ?z1 ?z2 ?z3 ?z4 ?z5 ?z6 ?z7 ?z8 ?z9 ?z10 ?z11 ?z12 ?z13 ?z14 ?z15
    (case a1 => k_is); (case l1 => k_is); (case c1 => k_is); (case k1 => k_is)
    (case a2 => k_is); (case l2 => k_is); (case c2 => k_is); (case k2 => k_is)
    (case a3 => k_is); (case l3 => k_is); (case c3 => k_is); (case k3 => k_is)
    (case a4 => k_is); (case l4 => k_is); (case c4 => k_is); (case k4 => k_is)
    (case a5 => k_is); (case l5 => k_is); (case c5 => k_is); (case k5 => k_is)
    (case a6 => k_is); (case l6 => k_is); (case c6 => k_is); (case k6 => k_is)
    (case a7 => k_is); (case l7 => k_is); (case c7 => k_is); (case k7 => k_is)
    (case a8 => k_is); (case l8 => k_is); (case c8 => k_is); (case k8 => k_is)
    (case a9 => k_is); (case l9 => k_is); (case c9 => k_is); (case k9 => k_is)
    (case a10 => k_is); (case l10 => k_is); (case c10 => k_is); (case k10 => k_is)
    (case a11 => k_is); (case l11 => k_is); (case c11 => k_is); (case k11 => k_is)
    (case a12 => k_is); (case l12 => k_is); (case c12 => k_is); (case k12 => k_is)
    (case a13 => k_is); (case l13 => k_is); (case c13 => k_is); (case k13 => k_is)
    (case a14 => k_is); (case l14 => k_is); (case c14 => k_is); (case k14 => k_is)
    (case a15 => k_is); (case l15 => k_is); (case c15 => k_is); (case k15 => k_is)
    (case a16 => k_is); (case l16 => k_is); (case c16 => k_is); (case k16 => k_is)
    (case gLampError => k_is); (case gNoBook => k_is); (case gNoSign => k_is); (case gNoFlash => k_is)
    (case gNoText => k_is); (case gNoNotes => k_is); (case lLampError => k_is); (case eLampError => k_exc)
    (case lNoBook => k_is); (case eNoBook => k_exc); (case lNoNotes => k_is); (case eNoNotes => k_exc)
    (case gaNoBook => k_is); (case hkNoBook => k_is); (case ccNoBook => k_is); (case gtNoBook => k_is)
    (case tkNoBook => k_is); (case moNoBook => k_is); (case mbNoBook => k_is); (case gaNoNotes => k_is)
    (case hkNoNotes => k_is); (case ccNoNotes => k_is); (case gtNoNotes => k_is); (case tkNoNotes => k_is)
    (case moNoNotes => k_is); (case mbNoNotes => k_is); (case kBB => kit_is); (case kBS => kit_is)
    (case kBF => kit_is); (case kBT => kit_is); (case kBN => kit_is); (case kBV => kit_is)
    (case kNB => kit_is); (case kNS => kit_is); (case kNF => kit_is); (case kNT => kit_is)
    (case kNN => kit_is); (case kNV => kit_is); (case z1 => k_is); (case z2 => k_is)
    (case z3 => k_is); (case z4 => k_is); (case z5 => k_is); (case z6 => k_is)
    (case z7 => k_is); (case z8 => k_is); (case z9 => k_is); (case z10 => k_is)
    (case z11 => k_is); (case z12 => k_is); (case z13 => k_is); (case z14 => k_is)
    (case z15 => k_is)
#print axioms PySem.Challenge.cw_lampcode_k14_whole_notes_of_books_holds
