import PyProof.Rows.All
import Wide.All
import OpenK.AllK
import Wide.FinOn
import PySem.Challenge.RW_lampcode_k06_whole_no_code_begins_anothe
import Lean
import PyProof.EqAt
import PyProof.EqKinds
import PyProof.TupleCall
import PyProof.AttrMissSeq
set_option Elab.async false
set_option linter.all false
set_option maxRecDepth 100000
namespace L2
open PySem PySem.Spec PyProof.Rows

/-- a key: an int or a str -/
abbrev Key := Sum Int Str
def keyIs : Key → Value → Bool
  | .inl k, v => Value.isInt k v
  | .inr x, v => Value.isStrOf x v
def keyH (w : World) : Key → Int
  | .inl k => hashInt k
  | .inr x => hashStr w x
theorem keyIs_shape : ∀ {k : Key} {v : Value}, keyIs k v = true → (∃ i t, k = Sum.inl i ∧ v = Value.int i t) ∨ (∃ x t, k = Sum.inr x ∧ v = Value.str x t)
  | .inl i, v, h => by
    obtain ⟨t, e⟩ := Value.isInt_shape (k := i) (v := v) h
    exact .inl ⟨i, t, rfl, e⟩
  | .inr x, v, h => by
    obtain ⟨t, e⟩ := Value.isStrOf_shape (x := x) (v := v) h
    exact .inr ⟨x, t, rfl, e⟩
theorem keyIs_int (i : Int) (t : Tok) : keyIs (.inl i) (.int i t) = true := by simp [keyIs, Value.isInt]
theorem keyIs_str (x : Str) (t : Tok) : keyIs (.inr x) (.str x t) = true := by simp [keyIs, Value.isStrOf]
theorem key_ll (a b : Int) : decide ((Sum.inl a : Key) = Sum.inl b) = (a == b) := by
  by_cases e : a = b
  · subst e; simp
  · have h : ¬ (Sum.inl a : Key) = Sum.inl b := fun q => e (Sum.inl.inj q)
    rw [decide_eq_false h]
    exact (beq_eq_false_iff_ne.mpr e).symm
theorem key_rr (a b : Str) : decide ((Sum.inr a : Key) = Sum.inr b) = decide (a = b) := by
  by_cases e : a = b
  · subst e; simp
  · have h : ¬ (Sum.inr a : Key) = Sum.inr b := fun q => e (Sum.inr.inj q)
    rw [decide_eq_false h, decide_eq_false e]
theorem key_lr (a : Int) (b : Str) : decide ((Sum.inl a : Key) = Sum.inr b) = false := decide_eq_false (fun q => nomatch q)
theorem key_rl (a : Str) (b : Int) : decide ((Sum.inr a : Key) = Sum.inl b) = false := decide_eq_false (fun q => nomatch q)

def mixKind (prog : Program) (w : World) : PySem.KeyKind prog w Key where
  is := keyIs
  hash := keyH w
  inj := fun v a b ha hb => by
    rcases keyIs_shape ha with ⟨i, t, rfl, rfl⟩ | ⟨x, t, rfl, rfl⟩
    · rcases keyIs_shape hb with ⟨j, u, rfl, e⟩ | ⟨y, u, rfl, e⟩
      · injection e with e1 _; rw [e1]
      · exact nomatch e
    · rcases keyIs_shape hb with ⟨j, u, rfl, e⟩ | ⟨y, u, rfl, e⟩
      · exact nomatch e
      · injection e with e1 _; rw [e1]
  byValue := fun k v h => by
    rcases keyIs_shape h with ⟨i, t, rfl, rfl⟩ | ⟨x, t, rfl, rfl⟩ <;> rfl
  pyHash := fun hv h => by
    rcases keyIs_shape hv with ⟨i, t, rfl, rfl⟩ | ⟨x, t, rfl, rfl⟩
    · exact wpAny_pyHash_int h
    · exact wpAny_pyHash_str h
  eqBool := fun hu hv h => by
    rcases keyIs_shape hu with ⟨i, t, rfl, rfl⟩ | ⟨x, t, rfl, rfl⟩
    · rcases keyIs_shape hv with ⟨j, u, rfl, rfl⟩ | ⟨y, u, rfl, rfl⟩
      · rw [key_ll] at h; exact wpAny_eqBool_int h
      · rw [key_lr] at h; exact SeqAt.EqAt.int_str i t y u _ _ _ _ h
    · rcases keyIs_shape hv with ⟨j, u, rfl, rfl⟩ | ⟨y, u, rfl, rfl⟩
      · rw [key_rl] at h; exact SeqAt.EqAt.str_int x t j u _ _ _ _ h
      · rw [key_rr] at h; exact wpAny_eqBool_str h
  «strs» := fun k x t v h => by
    rcases keyIs_shape h with ⟨i, u, rfl, e⟩ | ⟨y, u, rfl, e⟩
    · exact nomatch e
    · injection e with e1 _
      subst e1
      cases v <;> rfl

theorem mixKind_int (prog : Program) (w : World) (i : Int) (t : Tok) : (mixKind prog w).is (.inl i) (.int i t) = true := keyIs_int i t
theorem mixKind_str (prog : Program) (w : World) (x : Str) (t : Tok) : (mixKind prog w).is (.inr x) (.str x t) = true := keyIs_str x t
end L2

namespace L2
open PySem PySem.Spec PyProof.Rows

/-- a value, without the heap -/
inductive V where
  | non | bl (b : Bool) | int (i : Int) | str (x : Str) | byt (b : Array UInt8) | flt (b : UInt64) | ref (a : Addr) | ty (n : String)
  deriving DecidableEq

def RelV : V → Value → Prop
  | .non, u => u = Value.none
  | .bl b, u => u = Value.bool b
  | .int i, u => ∃ t, u = Value.int i t
  | .str x, u => ∃ t, u = Value.str x t
  | .byt b, u => ∃ t, u = Value.bytes b t
  | .flt b, u => ∃ t, u = Value.float b t
  | .ref a, u => u = Value.ref a
  | .ty n, u => u = Value.type n

abbrev Vals : List V → List Value → Prop := Paired RelV
theorem Vals.length {xs : List V} {us : List Value} (r : Vals xs us) : xs.length = us.length := Paired.length r
theorem Vals.get : ∀ {xs : List V} {us : List Value} {i : Nat} {x : V}, Vals xs us → xs[i]? = some x → ∃ u, us[i]? = some u ∧ RelV x u
  | _, _, _, _, .nil, e => by simp at e
  | _, _, 0, _, .cons r _, e => by simp at e; subst e; exact ⟨_, rfl, r⟩
  | _, _, i + 1, x, .cons _ t, e => by
    obtain ⟨u, h1, h2⟩ := Vals.get (i := i) (x := x) t (by simpa using e)
    exact ⟨u, by simpa using h1, h2⟩
theorem Vals.append : ∀ {xs ys : List V} {us ws : List Value}, Vals xs us → Vals ys ws → Vals (xs ++ ys) (us ++ ws)
  | _, _, _, _, .nil, s => s
  | _, _, _, _, .cons r t, s => .cons r (Vals.append t s)
theorem Vals.take : ∀ {xs : List V} {us : List Value} (n : Nat), Vals xs us → Vals (xs.take n) (us.take n)
  | _, _, 0, _ => .nil
  | _, _, _ + 1, .nil => .nil
  | _, _, n + 1, .cons r t => .cons r (Vals.take n t)
theorem Vals.drop : ∀ {xs : List V} {us : List Value} (n : Nat), Vals xs us → Vals (xs.drop n) (us.drop n)
  | _, _, 0, r => r
  | _, _, _ + 1, .nil => .nil
  | _, _, n + 1, .cons _ t => Vals.drop n t

def RelO : Option V → Option Value → Prop
  | some v, some u => RelV v u
  | none, none => True
  | _, _ => False
def KV {κ : Type} : List (κ × V) → List (κ × Value) → Prop := Paired fun (p : κ × V) (q : κ × Value) => p.1 = q.1 ∧ RelV p.2 q.2

/-- a key of a dict (00_mix): an int or a text -/
def kV : Key → V
  | .inl i => .int i
  | .inr x => .str x

/-- what stands at a tracked address -/
inductive HO where
  /-- a list -/
  | lst (xs : List V)
  /-- a tuple (never changes) -/
  | tup (xs : List V)
  /-- a dict whose keys are ints and texts; one whose keys are tuples of ints and texts (the empty one is both) -/
  | dK (kvs : List (Key × V)) | dT (kvs : List (List Key × V))
  /-- a set of ints: its members, its size -/
  | set (S : Int → Bool) (n : Nat)
  /-- an instance of the class at C, its dict at dx, its attributes -/
  | ins (C dx : Addr) (fs : List (Str × V))
  /-- the dict of the instance at x -/
  | own (x : Addr)
  /-- the dict of an exception -/
  | xd (fs : List (Str × V))
  /-- a bound method, f of x -/
  | met (f x : Addr)
  /-- a range object lo, lo + 1, .. below hi -/
  | rng (lo hi : Int)
  /-- a thing that is known to the object (the script; a dict while a loop walks it): read, never written while it is so -/
  | frz (o : Obj) (u : HO)
  /-- a code object's table -/
  | tbl (ps : Array Value)
  /-- any other thing, by what is true of its one object (a def of one's own: SetO a S n := HO.ext fun h => ..) -/
  | ext (φ : Heap → Prop)

abbrev Hp := Addr → Option HO
def upd (H : Hp) (a : Addr) (o : HO) : Hp := fun b => if b = a then some o else H b
theorem upd_same {H : Hp} {a : Addr} {o : HO} : upd H a o a = some o := by unfold upd; rw [if_pos rfl]
theorem upd_ne {H : Hp} {a b : Addr} {o : HO} (h : b ≠ a) : upd H a o b = H b := by unfold upd; rw [if_neg h]
/-- two objects of different content stand apart -/
theorem ne_of {H : Hp} {a b : Addr} {o u : HO} (h : H a = some o) (h' : H b = some u) (d : o ≠ u) : a ≠ b := by
  intro e; subst e; rw [h] at h'; exact d (Option.some.inj h')
theorem ne_of_none {H : Hp} {a b : Addr} {o : HO} (h : H a = some o) (h' : H b = none) : a ≠ b := by
  intro e; subst e; rw [h] at h'; cases h'

section
variable (P : Program) (w : World)
def ObjOk (H : Hp) (h : Heap) (a : Addr) : HO → Prop
  | .lst xs => xs.length ≤ sizeLine ∧ ∃ (its : List Value) (n : Nat), Vals xs its ∧ h.get? a = some { cls := .type "list", data := .seq its.toArray n }
  | .tup xs => xs.length ≤ sizeLine ∧ ∃ its : List Value, Vals xs its ∧ IsTup h a its.toArray
  | .dK kvs => kvs.length ≤ sizeLine ∧ (a == sysModules) = false ∧ ∃ vs, KV kvs vs ∧ h.DictOf (mixKind P w) a vs
  | .dT kvs => kvs.length ≤ sizeLine ∧ (a == sysModules) = false ∧ ∃ xs : List (List Key × Addr × Value),
      Paired (fun (p : List Key × V) (q : List Key × Addr × Value) => p.1 = q.1 ∧ H q.2.1 = some (.tup (p.1.map kV)) ∧ RelV p.2 q.2.2) kvs xs ∧
      ∃ o es ep, h.get? a = some o ∧ o.ExactDict ∧ o.data = .dict es ep ∧ es.toList = xs.map (entryOfKey (tupleKind (mixKind P w))) ∧ (xs.map (·.1)).Nodup
  | .set S n => h.SetOf (intKind P w) a S n
  | .ins C dx fs => H dx = some (.own a) ∧ fs.length ≤ 1000 ∧ dx ≠ a ∧ h.get? a = some (PySem.W.instObj C dx) ∧
      ∃ mA, h.Ns1 dx mA ∧ (∀ f, RelO (fs.lookup f) (mA f)) ∧ PySem.Within mA (fs.map (·.1))
  | .own _ => ∃ o, h.get? a = some o
  | .xd fs => ∃ mA, h.Ns1 a mA ∧ ∀ f, RelO (fs.lookup f) (mA f)
  | .rng lo hi => ∃ t u v, h.get? a = some { cls := .type "range", data := .fields #[.int lo t, .int hi u, .int 1 v] }
  | .frz o u => h.get? a = some o ∧ ObjOk H h a u
  | .tbl ps => h.get? a = some { cls := .none, data := .fields ps }
  | .met f x => h.get? a = some (PySem.W.methodObj (.ref f) (.ref x))
  | .ext φ => φ h ∧ (∃ o, h.get? a = some o) ∧ ∀ h1 h2 : Heap, φ h1 → (∀ o, h1.get? a = some o → h2.get? a = some o) → φ h2
/-- the abstract heap is held -/
def HOk (H : Hp) (h : Heap) : Prop := ∀ a o, H a = some o → ObjOk P w H h a o
end

section
variable {P : Program} {w : World} {H H' : Hp} {h h' : Heap} {a : Addr} {o : HO}
theorem ObjOk.lt (x : ObjOk P w H h a o) : a < h.objs.size := by
  cases o with
  | lst xs => obtain ⟨_, _, _, _, e⟩ := x; exact Heap.lt_size e
  | tup xs => obtain ⟨_, _, _, p⟩ := x; exact p.lt
  | dK kvs => obtain ⟨_, _, _, _, o, _, _, e, _⟩ := x; exact Heap.lt_size e
  | dT kvs => obtain ⟨_, _, _, _, o, _, _, e, _⟩ := x; exact Heap.lt_size e
  | set S n => obtain ⟨o, _, _, _, e, _⟩ := x; exact Heap.lt_size e
  | ins C dx fs => obtain ⟨_, _, _, e, _⟩ := x; exact Heap.lt_size e
  | own y => obtain ⟨_, e⟩ := x; exact Heap.lt_size e
  | xd fs => obtain ⟨_, ⟨_, _, _, e, _⟩, _⟩ := x; exact Heap.lt_size e
  | rng lo hi => obtain ⟨_, _, _, e⟩ := x; exact Heap.lt_size e
  | frz ob u => obtain ⟨e, _⟩ := x; exact Heap.lt_size e
  | tbl ps => exact Heap.lt_size (show h.get? a = some _ from x)
  | met f y => exact Heap.lt_size (show h.get? a = some _ from x)
  | ext φ => obtain ⟨_, ⟨_, e⟩, _⟩ := x; exact Heap.lt_size e
theorem Paired.mapP {α β : Type} {F G : α → β → Prop} : ∀ {l₁ : List α} {l₂ : List β}, Paired F l₁ l₂ → (∀ a b, F a b → G a b) → Paired G l₁ l₂
  | _, _, .nil, _ => .nil
  | _, _, .cons r t, f => .cons (f _ _ r) (Paired.mapP t f)
/-- what an object's description leans on: its own object, its own dict, the tuples -/
theorem ObjOk.stay (x : ObjOk P w H h a o) (k : ∀ b u, (b = a ∨ H b = some (.own a)) → h.get? b = some u → h'.get? b = some u)
    (ho : ∀ b, H b = some (.own a) → H' b = some (.own a)) (ht : ∀ b xs, H b = some (.tup xs) → H' b = some (.tup xs)) : ObjOk P w H' h' a o := by
  induction o with
  | lst xs => obtain ⟨z, its, n, r, e⟩ := x; exact ⟨z, its, n, r, k _ _ (.inl rfl) e⟩
  | tup xs => obtain ⟨z, its, r, ob, e, c⟩ := x; exact ⟨z, its, r, ob, k _ _ (.inl rfl) e, c⟩
  | dK kvs => obtain ⟨z, y, vs, r, ob, es, ep, e, c⟩ := x; exact ⟨z, y, vs, r, ob, es, ep, k _ _ (.inl rfl) e, c⟩
  | dT kvs =>
    obtain ⟨z, y, xs, r, ob, es, ep, e, c⟩ := x
    exact ⟨z, y, xs, Paired.mapP r fun p q z => ⟨z.1, ht _ _ z.2.1, z.2.2⟩, ob, es, ep, k _ _ (.inl rfl) e, c⟩
  | set S n => obtain ⟨ob, es, ep, t, e, c⟩ := x; exact ⟨ob, es, ep, t, k _ _ (.inl rfl) e, c⟩
  | ins C dx fs =>
    obtain ⟨d, z, ne, e, mA, ⟨od, es, ep, e2, c⟩, r⟩ := x
    exact ⟨ho _ d, z, ne, k _ _ (.inl rfl) e, mA, ⟨od, es, ep, k _ _ (.inr d) e2, c⟩, r⟩
  | own y => obtain ⟨ob, e⟩ := x; exact ⟨ob, k _ _ (.inl rfl) e⟩
  | xd fs => obtain ⟨mA, ⟨od, es, ep, e, c⟩, r⟩ := x; exact ⟨mA, ⟨od, es, ep, k _ _ (.inl rfl) e, c⟩, r⟩
  | rng lo hi => obtain ⟨t, u, v, e⟩ := x; exact ⟨t, u, v, k _ _ (.inl rfl) e⟩
  | frz ob u ih => obtain ⟨e, q⟩ := x; exact ⟨k _ _ (.inl rfl) e, ih q⟩
  | tbl ps =>
    have e : h.get? a = some { cls := .none, data := .fields ps } := x
    show h'.get? a = some { cls := .none, data := .fields ps }
    exact k a _ (.inl rfl) e
  | met f y =>
    have e : h.get? a = some (PySem.W.methodObj (.ref f) (.ref y)) := x
    show h'.get? a = some (PySem.W.methodObj (.ref f) (.ref y))
    exact k a _ (.inl rfl) e
  | ext φ => obtain ⟨p, ⟨o, e⟩, st⟩ := x; exact ⟨st _ _ p fun o q => k _ _ (.inl rfl) q, ⟨o, k _ _ (.inl rfl) e⟩, st⟩
theorem HOk.lt (x : HOk P w H h) (e : H a = some o) : a < h.objs.size := (x a o e).lt
theorem HOk.fresh (x : HOk P w H h) (e : h.objs.size ≤ a) : H a = none := by
  cases q : H a with
  | none => rfl
  | some u => exact absurd (Nat.lt_of_lt_of_le (x.lt q) e) (Nat.lt_irrefl _)
/-- every object of the heap is kept -/
theorem HOk.kept (x : HOk P w H h) (k : ∀ b u, h.get? b = some u → h'.get? b = some u) : HOk P w H h' := fun a o e =>
  (x a o e).stay (fun b u _ q => k b u q) (fun _ q => q) fun _ _ q => q
/-- a new object is laid and tracked -/
theorem HOk.laid (x : HOk P w H h) (k : ∀ b u, h.get? b = some u → h'.get? b = some u) (hp : h.objs.size ≤ a) (new : ObjOk P w (upd H a o) h' a o) : HOk P w (upd H a o) h' := fun b u e => by
  have hn := x.fresh hp
  by_cases hb : b = a
  · subst hb; rw [upd_same] at e; cases e; exact new
  · rw [upd_ne hb] at e
    exact (x b u e).stay (fun c v _ q => k c v q) (fun c q => by rw [upd_ne (ne_of_none q hn)]; exact q) fun c xs q => by rw [upd_ne (ne_of_none q hn)]; exact q
end

/-- what may be read as u: it is u, or a known u -/
def Rd (H : Hp) (a : Addr) (u : HO) : Prop := H a = some u ∨ ∃ o, H a = some (.frz o u)
theorem Rd.ok {P : Program} {w : World} {H : Hp} {h : Heap} {a : Addr} {u : HO} (r : Rd H a u) (x : HOk P w H h) : ObjOk P w H h a u := by
  rcases r with r | ⟨o, r⟩
  · exact x a u r
  · obtain ⟨_, q⟩ := x a _ r
    exact q
/-- what may be written -/
def Mut : Option HO → Prop
  | some (.lst _) => True
  | some (.dK _) => True
  | some (.dT _) => True
  | some (.set _ _) => True
  | some (.ins _ _ _) => True
  | some (.ext _) => True
  | _ => False
section
variable {P : Program} {w : World} {H : Hp} {h h' : Heap} {x e : Addr} {o' : HO}
/-- the object at e is changed: x itself, or the dict of the instance x -/
theorem HOk.write (ok : HOk P w H h) (mu : Mut (H x)) (he : e = x ∨ H e = some (.own x)) (k : ∀ b u, b ≠ e → h.get? b = some u → h'.get? b = some u) (heo : ∃ u, h'.get? e = some u)
    (new : ObjOk P w (upd H x o') h' x o') : HOk P w (upd H x o') h' := fun b u q => by
  have nown : ∀ c y, H c = some (.own y) → c ≠ x := fun c y r z => by subst z; rw [r] at mu; exact mu
  have ntup : ∀ c xs, H c = some (.tup xs) → c ≠ x := fun c xs r z => by subst z; rw [r] at mu; exact mu
  by_cases hb : b = x
  · subst hb; rw [upd_same] at q; cases q; exact new
  · rw [upd_ne hb] at q
    by_cases hbe : b = e
    · have q' : H b = some (.own x) := by
        rcases he with z | z
        · exact absurd (hbe.trans z) hb
        · rw [hbe]; exact z
      rw [q] at q'; cases q'
      obtain ⟨v, hv⟩ := heo
      exact ⟨v, by rw [hbe]; exact hv⟩
    · refine (ok b u q).stay (fun c v hc r => k c v ?_ r) (fun c r => by rw [upd_ne (nown c b r)]; exact r) fun c xs r => by rw [upd_ne (ntup c xs r)]; exact r
      rcases hc with rfl | hc
      · exact hbe
      · rintro rfl
        rcases he with z | z
        · exact nown c b hc z
        · rw [hc] at z; cases z; exact hb rfl
end

/-! ### kept unless tracked; of the frames at fs (the callers') the slots may change (an exception that passes writes there); of the records at ex (iterators) nothing is said -/
structure Un (fs ex : List Addr) (H H' : Hp) (h h' : Heap) : Prop where
  keep : ∀ b o, h.get? b = some o → H b = none → b ∉ fs → b ∉ ex → h'.get? b = some o
  slot : ∀ b o, h.get? b = some o → H b = none → b ∈ fs → b ∉ ex → ∃ sl, h'.get? b = some { o with slots := sl }
  free : ∀ b o, h.get? b = some o → H b = none → b ∉ ex → H' b = none
  there : ∀ b o, h.get? b = some o → b ∉ ex → ∃ o', h'.get? b = some o'
  tups : ∀ b xs, H b = some (.tup xs) → H' b = some (.tup xs)
  frzs : ∀ b o u, H b = some (.frz o u) → H' b = some (.frz o u)
  tbls : ∀ b ps, H b = some (.tbl ps) → ∃ more, H' b = some (.tbl (ps ++ more))
section
variable {fs fs' ex ex' : List Addr} {H H1 H2 : Hp} {h h1 h2 h' : Heap} {a x e : Addr} {o : HO}
theorem Un.any (u : Un fs ex H H1 h h1) {b : Addr} {ob : Obj} (q : h.get? b = some ob) (n : H b = none) (hx : b ∉ ex) : ∃ sl, h1.get? b = some { ob with slots := sl } := by
  by_cases hb : b ∈ fs
  · exact u.slot b ob q n hb hx
  · exact ⟨ob.slots, u.keep b ob q n hb hx⟩
theorem Un.kept (k : ∀ b u, h.get? b = some u → h'.get? b = some u) : Un fs ex H H h h' :=
  ⟨fun b ob q _ _ _ => k b ob q, fun b ob q _ _ _ => ⟨ob.slots, k b ob q⟩, fun _ _ _ n _ => n, fun b ob q _ => ⟨ob, k b ob q⟩, fun _ _ q => q, fun _ _ _ q => q, fun _ ps q => ⟨#[], by rw [q]; simp⟩⟩
theorem Un.refl : Un fs ex H H h h := Un.kept fun _ _ q => q
theorem Un.laid (k : ∀ b u, h.get? b = some u → h'.get? b = some u) (hp : h.objs.size ≤ a) (hn : H a = none) : Un fs ex H (upd H a o) h h' where
  keep := fun b u q _ _ _ => k b u q
  slot := fun b u q _ _ _ => ⟨u.slots, k b u q⟩
  free := fun b u q n _ => by rw [upd_ne (Nat.ne_of_lt (Nat.lt_of_lt_of_le (Heap.lt_size q) hp))]; exact n
  there := fun b u q _ => ⟨u, k b u q⟩
  tups := fun b xs q => by rw [upd_ne (ne_of_none q hn)]; exact q
  frzs := fun b u xs q => by rw [upd_ne (ne_of_none q hn)]; exact q
  tbls := fun b ps q => ⟨#[], by rw [upd_ne (ne_of_none q hn), q]; simp⟩
theorem Un.write (mu : Mut (H x)) (he : e = x ∨ H e = some (.own x)) (k : ∀ b u, b ≠ e → h.get? b = some u → h'.get? b = some u) (heo : ∃ u, h'.get? e = some u) : Un fs ex H (upd H x o) h h' := by
  have hx : ∀ b, H b = none → b ≠ x := fun b n z => by subst z; rw [n] at mu; exact mu
  have hb : ∀ b, H b = none → b ≠ e := fun b n z => by
    subst z
    rcases he with r | r
    · exact hx b n r
    · rw [n] at r; cases r
  have hm : ∀ b u, H b = some u → ¬ Mut (some u) → b ≠ x := fun b u q nm z => by subst z; rw [q] at mu; exact nm mu
  refine ⟨fun b u q n _ _ => k b u (hb b n) q, fun b u q n _ _ => ⟨u.slots, k b u (hb b n) q⟩, fun b u q n _ => by rw [upd_ne (hx b n)]; exact n, fun b u q _ => ?_,
    fun b xs q => by rw [upd_ne (hm b _ q fun z => z)]; exact q, fun b u xs q => by rw [upd_ne (hm b _ q fun z => z)]; exact q, fun b ps q => ⟨#[], by rw [upd_ne (hm b _ q fun z => z), q]; simp⟩⟩
  by_cases hbe : b = e
  · subst hbe; exact heo
  · exact ⟨u, k b u hbe q⟩
end

/-! ### the heap without what is tracked -/
def trk (h : Heap) (H : Hp) : List Addr := (List.range h.objs.size).filter fun a => (H a).isSome
def hidT (h : Heap) (H : Hp) : Heap := PySem.W.hideAll h (trk h H)
theorem hidT_size (h : Heap) (H : Hp) : (hidT h H).objs.size = h.objs.size := PySem.W.hideAll_size _ _
theorem hidT_get {h : Heap} {H : Hp} {b : Addr} {o : Obj} (e : h.get? b = some o) (n : H b = none) : (hidT h H).get? b = some o :=
  PySem.W.hideAll_get _ e fun hm => by
    have q : (H b).isSome = true := (List.mem_filter.mp hm).2
    rw [n] at q; simp at q
theorem of_hidT {h : Heap} {H : Hp} {b : Addr} {o : Obj} (e : (hidT h H).get? b = some o) : h.get? b = some o ∧ H b = none := by
  have e' : h.get? b = some o := PySem.W.of_hideAll (trk h H) e
  refine ⟨e', ?_⟩
  cases q : H b with
  | none => rfl
  | some x =>
    have hm : b ∈ trk h H := List.mem_filter.mpr ⟨List.mem_range.mpr (Heap.lt_size e'), by simp [q]⟩
    have z : (hidT h H).get? b = none := PySem.W.hideAll_none (trk h H) hm
    rw [z] at e; cases e

/-! ### OpenK's ledger, filled with every new object but one -/
end L2

namespace L2
open PySem PySem.Spec PyProof.Rows

/-- the module's facts, over the base: the heap at the law's entry without what is tracked there -/
structure Mod (K : PySem.W.Frag) (mg : Str → Option Value) (base : Heap) : Prop where
  kin : K.In base
  glob : base.Ns mainGlobals mg
  blt : ∃ mb, base.Ns builtinsNs mb ∧ ∀ x : Str, x ≠ "__name__" → mb x = bootBuiltins x
  nolimit : base.NoLimit

/-- the context: a def's body (or a comprehension's block) running. base: fixed through the whole law; s₀, H₀: the entry; outer: the frames whose slots others may change (a def's callers); stack: all frames that run;
   ex: iterators that were made ahead of the entry and are walked here (a comprehension's); fn: the names whose cells were made at the entry (a def: all; a comprehension's block: its own); calm: not within an except suite; pn: pins that every state bears; xe: what is wanted of an exception that leaves the code -/
structure Cx where
  prog : Program
  w : World
  K : PySem.W.Frag
  mg : Str → Option Value
  base : Heap
  A : Around
  N : List Str
  s₀ : Shared
  H₀ : Hp
  env : Env
  outer : List Env
  stack : List Env
  ex : List Addr
  fn : Str → Bool
  calm : Bool
  pn : List (Addr × Obj)
  xe : Value → Shared → Prop
/-- the callers' frames -/
def frs (l : List Env) : List Addr := l.filterMap (·.frame)
abbrev Cx.fs (X : Cx) : List Addr := frs X.outer

def Vis (sc : Scope) (x : Str) : Prop := sc.names.lookup x = some .local ∨ sc.names.lookup x = some .cell ∨ sc.names.lookup x = some .free
def Loc (sc : Scope) (x : Str) : Prop := sc.names.lookup x = some .local ∨ sc.names.lookup x = some .cell
def Look (env : Env) (h : Heap) (m : Str → Option Value) (x : Str) (u : Value) : Prop :=
  (env.kindOf x = some .local ∧ m x = some u) ∨ ((env.kindOf x = some .cell ∨ env.kindOf x = some .free) ∧ ∃ c, env.cells.lookup x = some c ∧ h.IsCell c (some u))

structure Cx.Ok (X : Cx) : Prop where
  mod : Mod X.K X.mg X.base
  kind : X.env.scope.kind = .function
  glob : X.env.globals = mainGlobals
  blt : X.env.builtins = builtinsNs
  above : X.s₀.heap.objs.size ≤ X.env.locals
  inj : ∀ x y c, X.env.cells.lookup x = some c → X.env.cells.lookup y = some c → x = y
  has : ∀ x, (X.env.kindOf x = some .cell ∨ X.env.kindOf x = some .free) → ∃ c, X.env.cells.lookup x = some c
  cab : ∀ x c, X.fn x = true → X.env.cells.lookup x = some c → X.s₀.heap.objs.size ≤ c
  hd : X.calm = true → X.A.handled = none
  frames : X.A.frames = some X.stack
  stk : X.stack = X.outer ∨ (X.stack = X.env :: X.outer ∧ X.env.frame = some X.env.locals)
  exf : ∀ b ∈ X.ex, b ≠ X.env.locals ∧ ∀ x c, X.env.cells.lookup x = some c → c ≠ b
  bs : ∀ b o, X.base.get? b = some o → X.s₀.heap.get? b = some o ∧ X.H₀ b = none
  bsz : X.base.objs.size ≤ X.s₀.heap.objs.size
  noex : ∀ b o, X.base.get? b = some o → b ∉ X.ex
  exfs : ∀ b ∈ X.ex, b ∉ X.fs
  funs : X.s₀.heap.FunFrames X.base X.outer
  frf : ∀ b ∈ X.fs, X.H₀ b = none

structure Inv (X : Cx) (pins : List (Addr × Obj)) (σ : List (Option V)) (H : Hp) (s : Shared) : Prop where
  ok : X.Ok
  os : s.os = X.s₀.os
  bare : AllBare s.gens
  base : Un X.fs X.ex X.H₀ H X.s₀.heap s.heap
  loc : ∃ m, s.heap.Ns X.env.locals m ∧ ∀ (i : Nat) (x : Str) (v : V), X.N[i]? = some x → σ[i]? = some (some v) → Vis X.env.scope x → ∃ u, RelV v u ∧ Look X.env s.heap m x u
  cell : ∀ x c, X.env.cells.lookup x = some c → ∃ v, s.heap.IsCell c v
  free : H X.env.locals = none
  freeC : ∀ x c, X.env.cells.lookup x = some c → H c = none
  pin : ∀ p ∈ X.pn ++ pins, s.heap.get? p.1 = some p.2 ∧ H p.1 = none ∧ p.1 ≠ X.env.locals ∧ p.1 ∉ X.fs ∧ ∀ v, p.2.data ≠ .cell v
  hok : HOk X.prog X.w H s.heap
  len : σ.length = X.N.length

section
variable {X : Cx} {pins : List (Addr × Obj)} {σ : List (Option V)} {H H' : Hp} {s : Shared} {h' : Heap}

theorem Cx.Ok.nofr (ok : X.Ok) {b : Addr} {o : Obj} (e : X.base.get? b = some o) : b ∉ X.fs := fun hb => by
  have := (ok.funs.mem hb).1
  rw [e] at this; cases this
theorem Inv.bs (I : Inv X pins σ H s) : ∀ b o, X.base.get? b = some o → s.heap.get? b = some o ∧ H b = none := fun b o e =>
  ⟨I.base.keep b o (I.ok.bs b o e).1 (I.ok.bs b o e).2 (I.ok.nofr e) (I.ok.noex b o e), I.base.free b o (I.ok.bs b o e).1 (I.ok.bs b o e).2 (I.ok.noex b o e)⟩
theorem Inv.bk (I : Inv X pins σ H s) : ∀ b o, X.base.get? b = some o → s.heap.get? b = some o := fun b o e => (I.bs b o e).1
theorem Inv.mod (I : Inv X pins σ H s) : Mod X.K X.mg X.base := I.ok.mod
theorem Inv.kIn (I : Inv X pins σ H s) : X.K.In s.heap := I.ok.mod.kin.keeps I.bk
theorem Inv.lt (I : Inv X pins σ H s) : X.env.locals < s.heap.objs.size := let ⟨_, hn, _⟩ := I.loc; hn.lt
theorem Inv.sz (I : Inv X pins σ H s) : X.s₀.heap.objs.size ≤ s.heap.objs.size := Nat.le_trans I.ok.above (Nat.le_of_lt I.lt)
theorem Inv.nofs (I : Inv X pins σ H s) {a : Addr} (h : s.heap.objs.size ≤ a) : a ∉ X.fs := fun hb => by
  obtain ⟨_, o, ho, _⟩ := I.ok.funs.mem hb
  exact absurd (Nat.lt_of_lt_of_le (Heap.lt_size ho) (Nat.le_trans I.sz h)) (Nat.lt_irrefl _)
theorem Inv.cne (I : Inv X pins σ H s) : ∀ x c, X.env.cells.lookup x = some c → c ≠ X.env.locals := fun x c e z => by
  obtain ⟨v, o, ho, hd⟩ := I.cell x c e
  obtain ⟨m, ⟨o', es, ep, ho', hd', _⟩, _⟩ := I.loc
  rw [z, ho'] at ho; cases ho; rw [hd'] at hd; cases hd
theorem Inv.funs (I : Inv X pins σ H s) : s.heap.FunFrames X.base X.outer := by
  have all : ∀ (l : List Env), (∀ b ∈ frs l, b ∈ X.fs) → X.s₀.heap.FunFrames X.base l → s.heap.FunFrames X.base l := by
    intro l
    induction l with
    | nil => intro _ _; trivial
    | cons env r ih =>
      intro hs hl
      obtain ⟨hk, ⟨L, o, hf, hn, ho, hd⟩, hr⟩ := hl
      have hL : L ∈ X.fs := hs L (by unfold frs; rw [List.filterMap_cons, hf]; exact List.mem_cons_self)
      obtain ⟨sl, e⟩ := I.base.slot L o ho (I.ok.frf L hL) hL fun z => I.ok.exfs L z hL
      exact ⟨hk, ⟨L, _, hf, hn, e, hd⟩, ih (fun b hb => hs b (by unfold frs; rw [List.filterMap_cons, hf]; exact List.mem_cons_of_mem _ hb)) hr⟩
  exact all X.outer (fun _ hb => hb) I.ok.funs

/-- the frames that run, for a call -/
theorem Inv.stack (I : Inv X pins σ H s) : s.heap.FunFrames X.base X.stack := by
  rcases I.ok.stk with e | ⟨e, hf⟩
  · rw [e]; exact I.funs
  · rw [e]
    obtain ⟨m, hn, _⟩ := I.loc
    refine .cons (by rw [I.ok.kind]; decide) hf hn ?_ I.funs
    exact Heap.get?_none_of_le (Nat.le_trans I.ok.bsz I.ok.above)
theorem Inv.stkSub (I : Inv X pins σ H s) : ∀ b ∈ frs X.stack, b ∈ X.env.locals :: X.fs := fun b hb => by
  rcases I.ok.stk with e | ⟨e, hf⟩
  · rw [e] at hb; exact List.mem_cons_of_mem _ hb
  · rw [e] at hb
    unfold frs at hb
    rw [List.filterMap_cons, hf] at hb
    exact hb
theorem Inv.stkFree (I : Inv X pins σ H s) : ∀ b ∈ frs X.stack, H b = none := fun b hb => by
  rcases List.mem_cons.mp (I.stkSub b hb) with e | hb
  · rw [e]; exact I.free
  · obtain ⟨_, o, ho, _⟩ := I.ok.funs.mem hb
    exact I.base.free b o ho (I.ok.frf b hb) fun z => I.ok.exfs b z hb

/-- THE STEP: the untracked objects but the frame and the records at ch are kept (the callers' frames up to slots), the frame's map is kept, the new abstract heap is held -/
theorem Inv.step {g' : Array GenState} {t' : Nat} {d' : Drawn} {ch : List Addr} (I : Inv X pins σ H s)
    (hch : ∀ b ∈ ch, (b ∈ X.ex ∨ X.s₀.heap.objs.size ≤ b) ∧ b ≠ X.env.locals ∧ (∀ x c, X.env.cells.lookup x = some c → c ≠ b) ∧ ∀ p ∈ X.pn ++ pins, p.1 ≠ b)
    (keep : ∀ b o, b ≠ X.env.locals → b ∉ X.fs → b ∉ ch → s.heap.get? b = some o → H b = none → h'.get? b = some o)
    (slot : ∀ b o, b ≠ X.env.locals → b ∈ X.fs → b ∉ ch → s.heap.get? b = some o → H b = none → ∃ sl, h'.get? b = some { o with slots := sl }) (free : ∀ b o, b ∉ ch → s.heap.get? b = some o → H b = none → H' b = none)
    (there : ∀ b o, b ∉ ch → s.heap.get? b = some o → ∃ o', h'.get? b = some o')
    (tups : ∀ b xs, H b = some (.tup xs) → H' b = some (.tup xs)) (frzs : ∀ b o u, H b = some (.frz o u) → H' b = some (.frz o u)) (tbls : ∀ b ps, H b = some (.tbl ps) → ∃ more, H' b = some (.tbl (ps ++ more)))
    (ns : ∀ m, s.heap.Ns X.env.locals m → h'.Ns X.env.locals m) (hok : HOk X.prog X.w H' h') (hg : AllBare g') :
    Inv X pins σ H' { s with heap := h', gens := g', drawn := d', toks := t' } := by
  have neL : ∀ b o, X.s₀.heap.get? b = some o → b ≠ X.env.locals := fun b o e => Nat.ne_of_lt (Nat.lt_of_lt_of_le (Heap.lt_size e) I.ok.above)
  have neC : ∀ b o, X.s₀.heap.get? b = some o → b ∉ X.ex → b ∉ ch := fun b o e hx hb => by
    rcases (hch b hb).1 with z | z
    · exact hx z
    · exact absurd (Nat.lt_of_lt_of_le (Heap.lt_size e) z) (Nat.lt_irrefl _)
  have cellK : ∀ x c, X.env.cells.lookup x = some c → ∀ v, s.heap.IsCell c v → h'.IsCell c v := fun x c e v ⟨o, ho, hd⟩ => by
    have nch : c ∉ ch := fun z => (hch c z).2.2.1 x c e rfl
    by_cases hc : c ∈ X.fs
    · obtain ⟨sl, q⟩ := slot c o (I.cne x c e) hc nch ho (I.freeC x c e)
      exact ⟨_, q, hd⟩
    · exact ⟨o, keep c o (I.cne x c e) hc nch ho (I.freeC x c e), hd⟩
  refine ⟨I.ok, I.os, hg, ⟨fun b o e n hb hx => ?_, fun b o e n hb hx => ?_, fun b o e n hx => ?_, fun b o e hx => ?_, fun b xs e => tups b xs (I.base.tups b xs e), fun b o xs e => frzs b o xs (I.base.frzs b o xs e), fun b ps e => ?_⟩, ?_, fun x c e => ?_, ?_, fun x c e => ?_, fun p hp => ?_, hok, I.len⟩
  · exact keep b o (neL b o e) hb (neC b o e hx) (I.base.keep b o e n hb hx) (I.base.free b o e n hx)
  · obtain ⟨sl, e1⟩ := I.base.slot b o e n hb hx
    obtain ⟨sl', e2⟩ := slot b _ (neL b o e) hb (neC b o e hx) e1 (I.base.free b o e n hx)
    exact ⟨sl', e2⟩
  · obtain ⟨o', e1⟩ := I.base.there b o e hx
    exact free b o' (neC b o e hx) e1 (I.base.free b o e n hx)
  · obtain ⟨o', e1⟩ := I.base.there b o e hx
    exact there b o' (neC b o e hx) e1
  · obtain ⟨m1, e1⟩ := I.base.tbls b ps e
    obtain ⟨m2, e2⟩ := tbls b _ e1
    exact ⟨m1 ++ m2, by rw [e2, Array.append_assoc]⟩
  · obtain ⟨m, hn, hl⟩ := I.loc
    refine ⟨m, ns m hn, fun i x v e1 e2 e3 => ?_⟩
    obtain ⟨u, r, l⟩ := hl i x v e1 e2 e3
    refine ⟨u, r, ?_⟩
    rcases l with l | ⟨k, c, e, z⟩
    · exact .inl l
    · exact .inr ⟨k, c, e, cellK x c e _ z⟩
  · obtain ⟨v, z⟩ := I.cell x c e
    exact ⟨v, cellK x c e v z⟩
  · obtain ⟨m, ⟨o, _, _, ho, _⟩, _⟩ := I.loc
    exact free _ o (fun z => (hch _ z).2.1 rfl) ho I.free
  · obtain ⟨v, o, ho, hd⟩ := I.cell x c e
    exact free c o (fun z => (hch c z).2.2.1 x c e rfl) ho (I.freeC x c e)
  · obtain ⟨e, n, ne, nf, d⟩ := I.pin p hp
    have nch : p.1 ∉ ch := fun z => (hch p.1 z).2.2.2 p hp rfl
    exact ⟨keep p.1 p.2 ne nf nch e n, free p.1 p.2 nch e n, ne, nf, d⟩
/-- .. where the frame's own object is kept too -/
theorem Inv.un {t' : Nat} (I : Inv X pins σ H s) (u : Un X.fs [] H H' s.heap h') (hok : HOk X.prog X.w H' h') : Inv X pins σ H' { s with heap := h', toks := t' } := by
  obtain ⟨m, ⟨o, es, ep, ho, r⟩, _⟩ := id I.loc
  obtain ⟨sl, hL⟩ := u.any ho I.free (by simp)
  exact I.step (g' := s.gens) (d' := s.drawn) (ch := []) (fun _ z => nomatch z) (fun b o _ hb _ e n => u.keep b o e n hb (by simp)) (fun b o _ hb _ e n => u.slot b o e n hb (by simp)) (fun b o _ e n => u.free b o e n (by simp)) (fun b o _ e => u.there b o e (by simp)) u.tups u.frzs u.tbls (fun m' hm => by
    obtain ⟨o', es', ep', ho', r'⟩ := hm
    rw [ho] at ho'; cases ho'
    exact ⟨_, es', ep', hL, r'⟩) hok I.bare
/-- behind a call (or a comprehension's block): the slots of this frame may have changed too, the records at ch may have turned -/
theorem Inv.call {g' : Array GenState} {t' : Nat} {d' : Drawn} {ch : List Addr} (I : Inv X pins σ H s) (u : Un (frs X.stack) ch H H' s.heap h') (hok : HOk X.prog X.w H' h') (hg : AllBare g')
    (hch : ∀ b ∈ ch, (b ∈ X.ex ∨ X.s₀.heap.objs.size ≤ b) ∧ b ≠ X.env.locals ∧ (∀ x c, X.env.cells.lookup x = some c → c ≠ b) ∧ ∀ p ∈ X.pn ++ pins, p.1 ≠ b) :
    Inv X pins σ H' { s with heap := h', gens := g', drawn := d', toks := t' } := by
  obtain ⟨m, ⟨o, es, ep, ho, r⟩, _⟩ := id I.loc
  obtain ⟨sl, hL⟩ := u.any ho I.free fun z => (hch _ z).2.1 rfl
  exact I.step (ch := ch) hch (fun b o hL hb hc e n => u.keep b o e n (fun z => (List.mem_cons.mp (I.stkSub b z)).elim hL hb) hc) (fun b o _ _ hc e n => u.any e n hc) (fun b o hc e n => u.free b o e n hc) (fun b o hc e => u.there b o e hc) u.tups u.frzs u.tbls (fun m' hm => by
    obtain ⟨o', es', ep', ho', r'⟩ := hm
    rw [ho] at ho'; cases ho'
    exact ⟨_, es', ep', hL, r'⟩) hok hg
/-- an untracked record of ours (an iterator) has turned -/
theorem Inv.turned {t' : Nat} {it : Addr} (I : Inv X pins σ H s) (k : ∀ b o, b ≠ it → s.heap.get? b = some o → h'.get? b = some o) (hn : H it = none) (hL : it ≠ X.env.locals)
    (h1 : it ∈ X.ex ∨ X.s₀.heap.objs.size ≤ it) (h2 : ∀ x c, X.env.cells.lookup x = some c → c ≠ it) (h3 : ∀ p ∈ X.pn ++ pins, p.1 ≠ it) : Inv X pins σ H { s with heap := h', toks := t' } := by
  have nit : ∀ b u, H b = some u → b ≠ it := fun b u e z => by rw [z, hn] at e; cases e
  refine I.step (g' := s.gens) (d' := s.drawn) (ch := [it]) (fun b hb => ?_) (fun b o _ _ hc e _ => k b o (fun z => hc (by simp [z])) e) (fun b o _ _ hc e _ => ⟨o.slots, k b o (fun z => hc (by simp [z])) e⟩) (fun _ _ _ _ n => n)
    (fun b o hc e => ⟨o, k b o (fun z => hc (by simp [z])) e⟩) (fun _ _ e => e) (fun _ _ _ e => e) (fun b ps e => ⟨#[], by rw [e]; simp⟩) (fun m hm => ?_) (fun b u e => ?_) I.bare
  · have e : b = it := by simpa using hb
    subst e
    exact ⟨h1, hL, h2, h3⟩
  · obtain ⟨o, es, ep, ho, r⟩ := hm
    exact ⟨o, es, ep, k _ o (Ne.symm hL) ho, r⟩
  · refine (I.hok b u e).stay (fun c v hc q => k c v ?_ q) (fun _ q => q) fun _ _ q => q
    rcases hc with z | z
    · rw [z]; exact nit b u e
    · exact nit c _ z
theorem Inv.tok (I : Inv X pins σ H s) (t : Nat) : Inv X pins σ H { s with toks := t } := I.un (h' := s.heap) (t' := t) Un.refl I.hok
/-- all objects kept -/
theorem Inv.kept {t' : Nat} (I : Inv X pins σ H s) (k : ∀ b u, s.heap.get? b = some u → h'.get? b = some u) : Inv X pins σ H { s with heap := h', toks := t' } := I.un (Un.kept k) (I.hok.kept k)
/-- a new object laid and tracked -/
theorem Inv.laid {a : Addr} {o : HO} {t' : Nat} (I : Inv X pins σ H s) (k : ∀ b u, s.heap.get? b = some u → h'.get? b = some u) (hp : s.heap.objs.size ≤ a) (new : ObjOk X.prog X.w (upd H a o) h' a o) :
    Inv X pins σ (upd H a o) { s with heap := h', toks := t' } := I.un (Un.laid k hp (I.hok.fresh hp)) (I.hok.laid k hp new)
/-- an object written -/
theorem Inv.write {x e : Addr} {o : HO} {t' : Nat} (I : Inv X pins σ H s) (mu : Mut (H x)) (he : e = x ∨ H e = some (.own x)) (k : ∀ b u, b ≠ e → s.heap.get? b = some u → h'.get? b = some u) (heo : ∃ u, h'.get? e = some u)
    (new : ObjOk X.prog X.w (upd H x o) h' x o) : Inv X pins σ (upd H x o) { s with heap := h', toks := t' } := I.un (Un.write mu he k heo) (I.hok.write mu he k heo new)
theorem Inv.pins_of {pins' : List (Addr × Obj)} (I : Inv X pins σ H s) (h : ∀ p ∈ pins', s.heap.get? p.1 = some p.2 ∧ H p.1 = none ∧ p.1 ≠ X.env.locals ∧ p.1 ∉ X.fs ∧ ∀ v, p.2.data ≠ .cell v) : Inv X pins' σ H s :=
  ⟨I.ok, I.os, I.bare, I.base, I.loc, I.cell, I.free, I.freeC, fun p hp => (List.mem_append.mp hp).elim (fun z => I.pin p (List.mem_append_left _ z)) (h p), I.hok, I.len⟩

theorem nodup_ix {N : List Str} (hN : N.Nodup) {i j : Nat} {x : Str} (a : N[i]? = some x) (b : N[j]? = some x) : i = j := by
  obtain ⟨h1, e1⟩ := List.getElem?_eq_some_iff.mp a
  obtain ⟨h2, e2⟩ := List.getElem?_eq_some_iff.mp b
  exact (List.getElem_inj hN).mp (e1.trans e2.symm)

/-- a name is stored; what changed -/
theorem store_ok2 {M : Model} {A : Around} {E : Value → Shared → Prop} {i : Nat} {x : Str} {v : V} {u : Value} {Q : Unit → Shared → Prop} (I : Inv X pins σ H s) (hN : X.N.Nodup) (hi : X.N[i]? = some x) (hx : Loc X.env.scope x) (r : RelV v u)
    (h : ∀ s', Inv X pins (σ.set i (some v)) H s' → (∃ a, Heap.SameBut a s.heap s'.heap ∧ (a = X.env.locals ∨ X.env.cells.lookup x = some a)) → Q () s') (hf : X.fn x = true ∨ X.env.scope.names.lookup x = some .local := by first | exact .inl rfl | exact .inr rfl | assumption) : wpAny M A (storeName X.env x u) Q E s := by
  obtain ⟨m, hn, hl⟩ := id I.loc
  have hcls : (X.env.scope.kind == .class || (X.env.scope.kind == .module && X.env.locals != X.env.globals)) = false := by rw [I.ok.kind]; rfl
  have hiσ : i < σ.length := by rw [I.len]; exact (List.getElem?_eq_some_iff.mp hi).1
  have cne := I.cne
  have tracked : ∀ {a : Addr} {h' : Heap}, (∃ o, s.heap.get? a = some o ∧ H a = none) → Heap.SameBut a s.heap h' → HOk X.prog X.w H h' := fun {a h'} ha hs b ob e => by
    obtain ⟨_, _, hfree⟩ := ha
    refine (I.hok b ob e).stay (fun c w' hc q => (hs.2 c ?_).trans q) (fun _ q => q) fun _ _ q => q
    rintro rfl
    rcases hc with rfl | hc
    · rw [hfree] at e; cases e
    · rw [hfree] at hc; cases hc
  rcases hx with hk | hk
  · refine wpAny_storeName_local hk hn (fun h' hn' hs => ?_) hcls
    obtain ⟨oL, _, _, hoL, _⟩ := id hn
    refine h _ ⟨I.ok, I.os, I.bare, ⟨fun b o e n hb hx => ?_, fun b o e n hb hx => ?_, I.base.free, fun b o e hx => ?_, I.base.tups, I.base.frzs, I.base.tbls⟩, ⟨_, hn', fun j y v' e1 e2 e3 => ?_⟩, fun y c e => ?_, I.free, I.freeC, fun p hp => ?_, tracked ⟨oL, hoL, I.free⟩ hs, by simpa using I.len⟩ ⟨_, hs, .inl rfl⟩
    · exact (hs.2 b (Nat.ne_of_lt (Nat.lt_of_lt_of_le (Heap.lt_size e) I.ok.above))).trans (I.base.keep b o e n hb hx)
    · obtain ⟨sl, e1⟩ := I.base.slot b o e n hb hx
      exact ⟨sl, (hs.2 b (Nat.ne_of_lt (Nat.lt_of_lt_of_le (Heap.lt_size e) I.ok.above))).trans e1⟩
    · obtain ⟨o', e1⟩ := I.base.there b o e hx
      exact ⟨o', (hs.2 b (Nat.ne_of_lt (Nat.lt_of_lt_of_le (Heap.lt_size e) I.ok.above))).trans e1⟩
    · by_cases hj : j = i
      · subst hj
        rw [hi] at e1; cases e1
        rw [List.getElem?_set_self hiσ] at e2
        cases e2
        exact ⟨u, r, .inl ⟨hk, by simp⟩⟩
      · rw [List.getElem?_set_ne (Ne.symm hj)] at e2
        obtain ⟨u', r', q⟩ := hl j y v' e1 e2 e3
        refine ⟨u', r', ?_⟩
        rcases q with ⟨k, e⟩ | ⟨k, c, e, z⟩
        · refine .inl ⟨k, ?_⟩
          have : y ≠ x := fun e => hj (nodup_ix hN e1 (e ▸ hi))
          simp [this, e]
        · exact .inr ⟨k, c, e, z.sameBut hs (cne y c e)⟩
    · obtain ⟨w', z⟩ := I.cell y c e
      exact ⟨w', z.sameBut hs (cne y c e)⟩
    · obtain ⟨e, n, ne, nf, d⟩ := I.pin p hp
      exact ⟨(hs.2 p.1 ne).trans e, n, ne, nf, d⟩
  · have hfn : X.fn x = true := by
      rcases hf with z | z
      · exact z
      · rw [z] at hk; cases hk
    obtain ⟨c, hc⟩ := I.ok.has x (.inl hk)
    obtain ⟨w', z⟩ := I.cell x c hc
    refine wpAny_storeName_cell I.ok.kind hk hc z (fun h' hc' hs => ?_)
    obtain ⟨oc, hoc, hocd⟩ := id z
    refine h { s with heap := h' } ⟨I.ok, I.os, I.bare, ⟨fun b o e n hb hx => ?_, fun b o e n hb hx => ?_, I.base.free, fun b o e hx => ?_, I.base.tups, I.base.frzs, I.base.tbls⟩, ⟨m, hn.sameBut hs (Ne.symm (cne x c hc)), fun j y v' e1 e2 e3 => ?_⟩, fun y c' e => ?_, I.free, I.freeC, fun p hp => ?_, tracked ⟨oc, hoc, I.freeC x c hc⟩ hs, by simpa using I.len⟩ ⟨c, hs, .inr hc⟩
    · exact (hs.2 b (Nat.ne_of_lt (Nat.lt_of_lt_of_le (Heap.lt_size e) (I.ok.cab x c hfn hc)))).trans (I.base.keep b o e n hb hx)
    · obtain ⟨sl, e1⟩ := I.base.slot b o e n hb hx
      exact ⟨sl, (hs.2 b (Nat.ne_of_lt (Nat.lt_of_lt_of_le (Heap.lt_size e) (I.ok.cab x c hfn hc)))).trans e1⟩
    · obtain ⟨o', e1⟩ := I.base.there b o e hx
      exact ⟨o', (hs.2 b (Nat.ne_of_lt (Nat.lt_of_lt_of_le (Heap.lt_size e) (I.ok.cab x c hfn hc)))).trans e1⟩
    · by_cases hj : j = i
      · subst hj
        rw [hi] at e1; cases e1
        rw [List.getElem?_set_self hiσ] at e2
        cases e2
        exact ⟨u, r, .inr ⟨.inl hk, c, hc, hc'⟩⟩
      · rw [List.getElem?_set_ne (Ne.symm hj)] at e2
        obtain ⟨u', r', q⟩ := hl j y v' e1 e2 e3
        refine ⟨u', r', ?_⟩
        rcases q with q | ⟨k, c', e, z'⟩
        · exact .inl q
        · refine .inr ⟨k, c', e, z'.sameBut hs ?_⟩
          rintro rfl
          exact hj (nodup_ix hN e1 (I.ok.inj _ _ _ e hc ▸ hi))
    · by_cases hcc : c' = c
      · subst hcc; exact ⟨_, hc'⟩
      · obtain ⟨w2, z2⟩ := I.cell y c' e
        exact ⟨w2, z2.sameBut hs hcc⟩
    · obtain ⟨e, n, ne, nf, d⟩ := I.pin p hp
      refine ⟨(hs.2 p.1 ?_).trans e, n, ne, nf, d⟩
      intro q
      rw [q, hoc] at e
      have q' : oc = p.2 := Option.some.inj e
      exact d w' (by rw [← q']; exact hocd)
theorem store_ok {M : Model} {A : Around} {E : Value → Shared → Prop} {i : Nat} {x : Str} {v : V} {u : Value} {Q : Unit → Shared → Prop} (I : Inv X pins σ H s) (hN : X.N.Nodup) (hi : X.N[i]? = some x) (hx : Loc X.env.scope x) (r : RelV v u)
    (h : ∀ s', Inv X pins (σ.set i (some v)) H s' → Q () s') (hf : X.fn x = true ∨ X.env.scope.names.lookup x = some .local := by first | exact .inl rfl | exact .inr rfl | assumption) : wpAny M A (storeName X.env x u) Q E s :=
  store_ok2 I hN hi hx r (fun s' I' _ => h s' I') hf
/-- behind a call or a block, the state as it is -/
theorem Inv.call' {s' : Shared} {ch : List Addr} (I : Inv X pins σ H s) (ho : s'.os = s.os) (u : Un (frs X.stack) ch H H' s.heap s'.heap) (hok : HOk X.prog X.w H' s'.heap) (hg : AllBare s'.gens)
    (hch : ∀ b ∈ ch, (b ∈ X.ex ∨ X.s₀.heap.objs.size ≤ b) ∧ b ≠ X.env.locals ∧ (∀ x c, X.env.cells.lookup x = some c → c ≠ b) ∧ ∀ p ∈ X.pn ++ pins, p.1 ≠ b) : Inv X pins σ H' s' := by
  obtain ⟨h', g', d', t', o'⟩ := s'
  have e : o' = s.os := ho
  subst e
  exact I.call (g' := g') (t' := t') (d' := d') u hok hg hch
end

/-! ### the judgements -/
/-- an exception: its class, its own dict's address (where it has one), the abstract heap behind it -/
abbrev XK := Value → Option Addr → Hp → Prop
abbrev St := List (Option V)
abbrev VK := V → Hp → Prop
/-- an expression's reading; a test's; an argument list's -/
abbrev TE := St → Hp → VK → Prop
abbrev TT := St → Hp → (Bool → Hp → Prop) → Prop
abbrev TA := St → Hp → (List V → Hp → Prop) → Prop
/-- what is wanted behind a statement -/
structure Ends where
  nx : St → Hp → Prop
  rt : VK
  bk : St → Hp → Prop := fun _ _ => False
  ct : St → Hp → Prop := fun _ _ => False
abbrev TS := Ends → St → Hp → Prop

def EP (X : Cx) (pins : List (Addr × Obj)) (σ : St) (Q : VK) (u : Value) (s' : Shared) : Prop := ∃ v H', Inv X pins σ H' s' ∧ RelV v u ∧ Q v H'
def TP (X : Cx) (pins : List (Addr × Obj)) (σ : St) (Q : Bool → Hp → Prop) (b : Bool) (s' : Shared) : Prop := ∃ H', Inv X pins σ H' s' ∧ Q b H'
def AP (X : Cx) (pins : List (Addr × Obj)) (σ : St) (Q : List V → Hp → Prop) (us : List Value) (s' : Shared) : Prop := ∃ vs H', Inv X pins σ H' s' ∧ Vals vs us ∧ Q vs H'
def SP (X : Cx) (pins : List (Addr × Obj)) (D : Ends) (f : Flow) (s' : Shared) : Prop :=
  match f with
  | .next => ∃ σ' H', Inv X pins σ' H' s' ∧ D.nx σ' H'
  | .brk => ∃ σ' H', Inv X pins σ' H' s' ∧ D.bk σ' H'
  | .cont => ∃ σ' H', Inv X pins σ' H' s' ∧ D.ct σ' H'
  | .ret u => ∃ v σ' H', Inv X pins σ' H' s' ∧ RelV v u ∧ D.rt v H'

def PE (X : Cx) (e : Expr) (t : TE) : Prop :=
  ∀ (pins : List (Addr × Obj)) (s : Shared) (σ : St) (H : Hp) (Q : VK), Inv X pins σ H s → t σ H Q → wpAny (model X.prog X.w) X.A (eval e X.env) (EP X pins σ Q) X.xe s
def PT (X : Cx) (e : Expr) (t : TT) : Prop :=
  ∀ (pins : List (Addr × Obj)) (s : Shared) (σ : St) (H : Hp) (Q : Bool → Hp → Prop), Inv X pins σ H s → t σ H Q → wpAny (model X.prog X.w) X.A (isTrue e X.env (eval e X.env)) (TP X pins σ Q) X.xe s
/-- a test whatever its 'whole' is (and, or) -/
def PW (X : Cx) (e : Expr) (t : TT) : Prop :=
  ∀ (whole : Sem Value) (pins : List (Addr × Obj)) (s : Shared) (σ : St) (H : Hp) (Q : Bool → Hp → Prop), Inv X pins σ H s → t σ H Q → wpAny (model X.prog X.w) X.A (isTrue e X.env whole) (TP X pins σ Q) X.xe s
theorem PW.pt {X : Cx} {e : Expr} {t : TT} (h : PW X e t) : PT X e t := h _
/-- an argument list (no star), from the left -/
def PA (X : Cx) (es : List Expr) (t : TA) : Prop :=
  ∀ (pos : Pos) (pins : List (Addr × Obj)) (s : Shared) (σ : St) (H : Hp) (Q : List V → Hp → Prop), Inv X pins σ H s → t σ H Q → wpAny (model X.prog X.w) X.A (spliced (backTo pos (starEach es X.env))) (AP X pins σ Q) X.xe s
def PS (X : Cx) (st : Stmt) (t : TS) : Prop :=
  ∀ (pins : List (Addr × Obj)) (s : Shared) (σ : St) (H : Hp) (D : Ends), Inv X pins σ H s → t D σ H → wpAny (model X.prog X.w) X.A (exec st X.env) (SP X pins D) X.xe s
def PSs (X : Cx) (st : List Stmt) (t : TS) : Prop :=
  ∀ (pins : List (Addr × Obj)) (s : Shared) (σ : St) (H : Hp) (D : Ends), Inv X pins σ H s → t D σ H → wpAny (model X.prog X.w) X.A (execs st X.env) (SP X pins D) X.xe s
/-- weaken the end -/
theorem thn {α : Type} {t : Sem α} {Q Q' : α → Shared → Prop} {M : Model} {A : Around} {E : Value → Shared → Prop} {s : Shared} (h : wpAny M A t Q E s) (hQ : ∀ a s, Q a s → Q' a s) : wpAny M A t Q' E s := wpAny_mono h hQ fun _ _ x => x
end L2

namespace L2
open PySem PySem.Spec PyProof.Rows
section
variable {X : Cx}

/-- two expressions in a row -/
theorem bin {a b : Expr} {ta tb : TE} (ha : PE X a ta) (hb : PE X b tb) {pins : List (Addr × Obj)} {s : Shared} {σ : St} {H : Hp} {R : V → V → Hp → Prop} (I : Inv X pins σ H s) (h : ta σ H fun x H1 => tb σ H1 fun y H2 => R x y H2)
    {α : Type} {Q : α → Shared → Prop} {f : Value → Value → Sem α}
    (hf : ∀ v u s2 x y H2, Inv X pins σ H2 s2 → RelV x v → RelV y u → R x y H2 → wpAny (model X.prog X.w) X.A (f v u) Q X.xe s2) :
    wpAny (model X.prog X.w) X.A (eval a X.env) (fun v s₁ => wpAny (model X.prog X.w) X.A (eval b X.env) (fun u s₂ => wpAny (model X.prog X.w) X.A (f v u) Q X.xe s₂) X.xe s₁) X.xe s := by
  refine thn (ha pins s σ H _ I h) fun v s1 ⟨x, H1, I1, r1, q1⟩ => ?_
  refine thn (hb pins s1 σ H1 _ I1 q1) fun u s2 ⟨y, H2, I2, r2, q2⟩ => ?_
  exact hf v u s2 x y H2 I2 r1 r2 q2

/-! ### names and constants -/
def tVar (i : Nat) : TE := fun σ H Q => ∃ v, σ[i]? = some (some v) ∧ Q v H
def tC (v : V) : TE := fun _ H Q => Q v H
theorem pe_var {i : Nat} {x : Str} {pos : Pos} (hN : X.N[i]? = some x) (hv : Vis X.env.scope x) (hd : (x == ("__debug__" : Str)) = false := by decide) (hcd : (x == ("__classdict__" : Str)) = false := by decide) : PE X (.Name x pos) (tVar i) := by
  intro pins s σ H Q I h
  obtain ⟨v, e, h⟩ := h
  obtain ⟨m, hn, hl⟩ := I.loc
  obtain ⟨u, r, l⟩ := hl i x v hN e hv
  have fin : EP X pins σ Q u s := ⟨v, H, I, r, h⟩
  rcases l with ⟨hk, hm⟩ | ⟨hk, c, hc, hcell⟩
  · exact wpAny_Name (wpAny_loadName_local I.ok.kind hk hn hm fin) hd
  · rcases hk with hk | hk
    · exact wpAny_Name (wpAny_loadName_cell I.ok.kind hk hc hcell fin) hd
    · exact wpAny_Name (wpAny_loadName_free I.ok.kind hk hc hcell fin hcd) hd
theorem pe_int {i j pos} : PE X (.Constant (.int i) j pos) (tC (.int i)) := fun _ _ _ H _ I h => wpAny_Constant_int ⟨.int i, H, I.tok _, ⟨_, rfl⟩, h⟩
theorem pe_bl {b j pos} : PE X (.Constant (.bool b) j pos) (tC (.bl b)) := fun _ _ _ H _ I h => Constant_bool ⟨.bl b, H, I, rfl, h⟩
theorem pe_str {x j pos} : PE X (.Constant (.str x) j pos) (tC (.str x)) := fun _ _ _ H _ I h => Calls.Constant_str ⟨.str x, H, I.tok _, ⟨_, rfl⟩, h⟩

/-- a global name of the def -/
def Gl (X : Cx) (x : Str) : Prop := X.env.kindOf x = some .globalImplicit
theorem ld_glob {E : Value → Shared → Prop} {pins : List (Addr × Obj)} {s : Shared} {σ : St} {H : Hp} {x : Str} {u : Value} {pos : Pos} {Q : Value → Shared → Prop} (I : Inv X pins σ H s) (hg : Gl X x) (hm : X.mg x = some u) (h : Q u s)
    (hd : (x == ("__debug__" : Str)) = false := by decide) : wpAny (model X.prog X.w) X.A (eval (.Name x pos) X.env) Q E s :=
  Calls.Name_function_global I.ok.kind hg (Calls.loadGlobal_global (by rw [I.ok.glob]; exact I.mod.glob.keeps I.bk) hm h) hd
theorem ld_blt {E : Value → Shared → Prop} {pins : List (Addr × Obj)} {s : Shared} {σ : St} {H : Hp} {x : Str} {u : Value} {pos : Pos} {Q : Value → Shared → Prop} (I : Inv X pins σ H s) (hg : Gl X x) (hm : X.mg x = none) (hv : bootBuiltins x = some u) (h : Q u s)
    (hn : x ≠ "__name__" := by decide) (hd : (x == ("__debug__" : Str)) = false := by decide) : wpAny (model X.prog X.w) X.A (eval (.Name x pos) X.env) Q E s := by
  obtain ⟨mb, h1, h2⟩ := I.mod.blt
  exact Calls.Name_function_global I.ok.kind hg (Calls.loadGlobal_builtin (by rw [I.ok.glob]; exact I.mod.glob.keeps I.bk) hm (by rw [I.ok.blt]; exact h1.keeps I.bk) ((h2 x hn).trans hv) h) hd
/-- a module's constant, a class, a function, as a value -/
theorem pe_glob {x : Str} {v : V} {u : Value} {pos : Pos} (hg : Gl X x) (hm : X.mg x = some u) (r : RelV v u) (hd : (x == ("__debug__" : Str)) = false := by decide) : PE X (.Name x pos) (tC v) :=
  fun _ _ _ H _ I h => ld_glob I hg hm ⟨v, H, I, r, h⟩ hd
theorem pe_bltn {x : Str} {v : V} {u : Value} {pos : Pos} (hg : Gl X x) (hm : X.mg x = none) (hv : bootBuiltins x = some u) (r : RelV v u) (hn : x ≠ "__name__" := by decide) (hd : (x == ("__debug__" : Str)) = false := by decide) : PE X (.Name x pos) (tC v) :=
  fun _ _ _ H _ I h => ld_blt I hg hm hv ⟨v, H, I, r, h⟩ hn hd

/-! ### arithmetic -/
variable {a b : Expr} {ta tb : TE} {pos : Pos}

/-! ### comparisons -/
def PC (X : Cx) (op : CmpOp) (a b : Expr) (t : TE) : Prop :=
  ∀ (pins : List (Addr × Obj)) (s : Shared) (σ : St) (H : Hp) (Q : VK), Inv X pins σ H s → t σ H Q →
    wpAny (model X.prog X.w) X.A (eval a X.env) (fun v s₁ => wpAny (model X.prog X.w) X.A (eval b X.env) (fun u s₂ => wpAny (model X.prog X.w) X.A (compareOp op v u) (EP X pins σ Q) X.xe s₂) X.xe s₁) X.xe s
/-- a comparison as a value, as a test -/
def tB (t : TE) : TT := fun σ H Q => t σ H fun x H1 => ∃ c, x = .bl c ∧ Q c H1
theorem pt_cmp {op : CmpOp} {t : TE} (h : PC X op a b t) (h1 : behindInMarks op b = false := by first | exact nobehind _ (by decide) (by decide) | rfl) : PT X (.Compare a [op] [b] pos) (tB t) := by
  intro pins s σ H Q I hw
  refine wpAny_isTrue_Compare1 (thn (h pins s σ H _ I hw) fun v s1 h1 => thn h1 fun u s2 h2 => thn h2 fun c s3 ⟨x, H1, I1, r1, q1⟩ => ?_) h1
  obtain ⟨d, rfl, q⟩ := q1
  cases r1
  exact wpAny_truthy_bool ⟨H1, I1, q⟩
/-- an expression whose value is a bool, as a test -/
theorem pt_val {e : Expr} {t : TE} (h : PE X e t) (he : ∀ whole, isTrue e X.env whole = (do let v ← whole; standAt e.pos; holding [v] (truthy v)) := by intro _; rfl) : PT X e (tB t) := by
  intro pins s σ H Q I hw
  refine isTrue_plain (thn (h pins s σ H _ I hw) fun v s1 ⟨x, H1, I1, r1, q1⟩ => ?_) (he _)
  obtain ⟨d, rfl, q⟩ := q1
  cases r1
  exact wpAny_truthy_bool ⟨H1, I1, q⟩

/-! ### and, or, not -/
variable {tA tB' : TT} {rest : List Expr}
def tAnd (t u : TT) : TT := fun σ H Q => t σ H fun c H1 => if c = true then u σ H1 Q else Q false H1
def tOr (t u : TT) : TT := fun σ H Q => t σ H fun c H1 => if c = true then Q true H1 else u σ H1 Q
def tNot (t : TT) : TT := fun σ H Q => t σ H fun c H1 => Q (!c) H1
theorem pw_and1 (ha : PT X a tA) : PW X (.BoolOp .And [a] pos) tA := by
  intro wh pins s σ H Q I h
  refine isTrue_and (thn (ha pins s σ H Q I h) fun c s1 e => ?_)
  cases c with
  | true => exact isTrue_and_nil e
  | false => exact e
theorem pw_or1 (ha : PT X a tA) : PW X (.BoolOp .Or [a] pos) tA := by
  intro wh pins s σ H Q I h
  refine isTrue_or (thn (ha pins s σ H Q I h) fun c s1 e => ?_)
  cases c with
  | false => exact isTrue_or_nil e
  | true => exact e
theorem pw_and (ha : PT X a tA) (hb : PW X (.BoolOp .And (b :: rest) pos) tB') : PW X (.BoolOp .And (a :: b :: rest) pos) (tAnd tA tB') := by
  intro wh pins s σ H Q I h
  refine isTrue_and (thn (ha pins s σ H _ I h) fun c s1 ⟨H1, I1, q1⟩ => ?_)
  cases c with
  | true => exact hb wh pins s1 σ H1 Q I1 q1
  | false => exact ⟨H1, I1, q1⟩
theorem pw_or (ha : PT X a tA) (hb : PW X (.BoolOp .Or (b :: rest) pos) tB') : PW X (.BoolOp .Or (a :: b :: rest) pos) (tOr tA tB') := by
  intro wh pins s σ H Q I h
  refine isTrue_or (thn (ha pins s σ H _ I h) fun c s1 ⟨H1, I1, q1⟩ => ?_)
  cases c with
  | true => exact ⟨H1, I1, q1⟩
  | false => exact hb wh pins s1 σ H1 Q I1 q1
theorem pt_not (ha : PT X a tA) : PT X (.UnaryOp .Not a pos) (tNot tA) := by
  intro pins s σ H Q I h
  exact isTrue_not (ha pins s σ H (fun c H1 => Q (!c) H1) I h)
/-- .. as values (bools) -/
def tAndV (ta tb : TE) : TE := fun σ H Q => ta σ H fun x H1 => ∃ c, x = .bl c ∧ if c = true then tb σ H1 Q else Q (.bl false) H1
def tOrV (ta tb : TE) : TE := fun σ H Q => ta σ H fun x H1 => ∃ c, x = .bl c ∧ if c = true then Q (.bl true) H1 else tb σ H1 Q
theorem pe_one {op} {t : TE} (h : PE X a t) : PE X (.BoolOp op [a] pos) t := fun pins s σ H Q I hw => BoolOp_one (h pins s σ H Q I hw)
theorem pe_and (ha : PE X a ta) (hb : PE X (.BoolOp .And (b :: rest) pos) tb) : PE X (.BoolOp .And (a :: b :: rest) pos) (tAndV ta tb) := by
  intro pins s σ H Q I h
  refine BoolOp_and (thn (ha pins s σ H _ I h) fun v s1 ⟨x, H1, I1, r1, q1⟩ => ?_)
  obtain ⟨c, rfl, q1⟩ := q1
  cases r1
  refine wpAny_truthy_bool ?_
  cases c with
  | true => exact hb pins s1 σ H1 Q I1 q1
  | false => exact ⟨.bl false, H1, I1, rfl, q1⟩
theorem pe_or (ha : PE X a ta) (hb : PE X (.BoolOp .Or (b :: rest) pos) tb) : PE X (.BoolOp .Or (a :: b :: rest) pos) (tOrV ta tb) := by
  intro pins s σ H Q I h
  refine BoolOp_or (thn (ha pins s σ H _ I h) fun v s1 ⟨x, H1, I1, r1, q1⟩ => ?_)
  obtain ⟨c, rfl, q1⟩ := q1
  cases r1
  refine wpAny_truthy_bool ?_
  cases c with
  | false => exact hb pins s1 σ H1 Q I1 q1
  | true => exact ⟨.bl true, H1, I1, rfl, q1⟩
end
end L2

namespace L2
open PySem PySem.Spec PyProof.Rows

/-! ### a list, a tuple that is read: tracked, frozen, or an object of the module -/
def SqL (K : PySem.W.Frag) (H : Hp) (a : Addr) (xs : List V) : Prop :=
  Rd H a (.lst xs) ∨
    ∃ (o : Obj) (its : Array Value) (n : Nat), K.lookup a = some o ∧ o.cls = .type "list" ∧ o.dict = none ∧ o.data = .seq its n ∧ its.size ≤ sizeLine ∧ Vals xs its.toList
def SqT (K : PySem.W.Frag) (H : Hp) (a : Addr) (xs : List V) : Prop :=
  Rd H a (.tup xs) ∨
    ∃ (o : Obj) (its : Array Value) (n : Nat), K.lookup a = some o ∧ o.cls = .type "tuple" ∧ o.data = .seq its n ∧ its.size ≤ sizeLine ∧ Vals xs its.toList
def absV : Value → Option V
  | .none => some .non
  | .bool b => some (.bl b)
  | .int i _ => some (.int i)
  | .str x _ => some (.str x)
  | .bytes b _ => some (.byt b)
  | .float b _ => some (.flt b)
  | .ref a => some (.ref a)
  | .type n => some (.ty n)
  | _ => none
theorem RelV.abs {x : V} {u : Value} (r : RelV x u) : absV u = some x := by
  cases x with
  | non => cases r; rfl
  | bl _ => cases r; rfl
  | int _ => obtain ⟨t, rfl⟩ := r; rfl
  | str _ => obtain ⟨t, rfl⟩ := r; rfl
  | byt _ => obtain ⟨t, rfl⟩ := r; rfl
  | flt _ => obtain ⟨t, rfl⟩ := r; rfl
  | ref _ => cases r; rfl
  | ty _ => cases r; rfl
theorem RelV.inj {x y : V} {u : Value} (r : RelV x u) (q : RelV y u) : x = y := Option.some.inj (r.abs.symm.trans q.abs)
theorem Vals.inj : ∀ {xs ys : List V} {us : List Value}, Vals xs us → Vals ys us → xs = ys
  | _, _, _, .nil, .nil => rfl
  | _, _, _, .cons r t, .cons r' t' => by rw [r.inj r', Vals.inj t t']
section
variable {X : Cx} {pins : List (Addr × Obj)} {σ : St} {H : Hp} {s : Shared} {a : Addr} {xs ys : List V}
theorem SqL.of {K : PySem.W.Frag} (h : H a = some (.lst xs)) : SqL K H a xs := .inl (.inl h)
theorem SqT.of {K : PySem.W.Frag} (h : H a = some (.tup xs)) : SqT K H a xs := .inl (.inl h)
theorem Inv.list (I : Inv X pins σ H s) (h : SqL X.K H a xs) : ∃ its : List Value, Vals xs its ∧ PlainL s.heap a its.toArray ∧ xs.length ≤ sizeLine := by
  rcases h with h | ⟨o, its, n, hk, hc, hd, hs, hz, r⟩
  · obtain ⟨z, its, n, r, e⟩ := h.ok I.hok
    exact ⟨its, r, ⟨_, n, e, rfl, rfl, rfl⟩, z⟩
  · refine ⟨its.toList, r, ⟨o, n, I.kIn a o hk, hc, hd, by simpa using hs⟩, ?_⟩
    have e := r.length
    simp only [Array.length_toList] at e
    omega
theorem Inv.tuple (I : Inv X pins σ H s) (h : SqT X.K H a xs) : ∃ its : List Value, Vals xs its ∧ IsTup s.heap a its.toArray ∧ xs.length ≤ sizeLine := by
  rcases h with h | ⟨o, its, n, hk, hc, hs, hz, r⟩
  · obtain ⟨z, its, r, p⟩ := h.ok I.hok
    exact ⟨its, r, p, z⟩
  · refine ⟨its.toList, r, ⟨o, I.kIn a o hk, hc, n, by simpa using hs⟩, ?_⟩
    have e := r.length
    simp only [Array.length_toList] at e
    omega
theorem Inv.list_inj (I : Inv X pins σ H s) (h : SqL X.K H a xs) (h' : SqL X.K H a ys) : xs = ys := by
  obtain ⟨its, r, ⟨o, n, e, _, _, d⟩, _⟩ := I.list h
  obtain ⟨its', r', ⟨o', n', e', _, _, d'⟩, _⟩ := I.list h'
  rw [e] at e'; cases e'
  rw [d] at d'
  injection d' with d1 _
  have : its = its' := by simpa using congrArg Array.toList d1
  subst this
  exact r.inj r'
end

/-! ### another wish about exceptions -/
abbrev Cx.wish (X : Cx) (E : Value → Shared → Prop) : Cx := { X with xe := E }
/-- no exception leaves -/
abbrev Cx.nox (X : Cx) : Cx := X.wish fun _ _ => False
theorem Cx.Ok.wish {X : Cx} (ok : X.Ok) (E : Value → Shared → Prop) : (X.wish E).Ok :=
  ⟨ok.mod, ok.kind, ok.glob, ok.blt, ok.above, ok.inj, ok.has, ok.cab, ok.hd, ok.frames, ok.stk, ok.exf, ok.bs, ok.bsz, ok.noex, ok.exfs, ok.funs, ok.frf⟩
theorem Cx.Ok.unwish {X : Cx} {E : Value → Shared → Prop} (ok : (X.wish E).Ok) : X.Ok :=
  ⟨ok.mod, ok.kind, ok.glob, ok.blt, ok.above, ok.inj, ok.has, ok.cab, ok.hd, ok.frames, ok.stk, ok.exf, ok.bs, ok.bsz, ok.noex, ok.exfs, ok.funs, ok.frf⟩
section
variable {X : Cx} {pins : List (Addr × Obj)} {σ : St} {H : Hp} {s : Shared} {E : Value → Shared → Prop}
theorem Inv.wish (I : Inv X pins σ H s) (E : Value → Shared → Prop) : Inv (X.wish E) pins σ H s := ⟨I.ok.wish E, I.os, I.bare, I.base, I.loc, I.cell, I.free, I.freeC, I.pin, I.hok, I.len⟩
theorem Inv.unwish (I : Inv (X.wish E) pins σ H s) : Inv X pins σ H s := ⟨I.ok.unwish, I.os, I.bare, I.base, I.loc, I.cell, I.free, I.freeC, I.pin, I.hok, I.len⟩
theorem SP.unwish {D : Ends} {f : Flow} {s' : Shared} (h : SP (X.wish E) pins D f s') : SP X pins D f s' := by
  cases f with
  | next => obtain ⟨σ', H', I, q⟩ := h; exact ⟨σ', H', I.unwish, q⟩
  | brk => obtain ⟨σ', H', I, q⟩ := h; exact ⟨σ', H', I.unwish, q⟩
  | cont => obtain ⟨σ', H', I, q⟩ := h; exact ⟨σ', H', I.unwish, q⟩
  | ret u => obtain ⟨v, σ', H', I, r, q⟩ := h; exact ⟨v, σ', H', I.unwish, r, q⟩
theorem PSs.nox {st : List Stmt} {t : TS} (h : PSs X.nox st t) : PSs X st t := fun pins s σ H D I hw =>
  wpAny_mono (h pins s σ H D (I.wish _) hw) (fun _ _ q => q.unwish) fun _ _ z => False.elim z
end

/-! ### blocks and small statements -/
section
variable {X : Cx} {st : Stmt} {rest : List Stmt} {t u : TS} {e : Expr} {te : TE} {pos : Pos}
def tNext : TS := fun D σ H => D.nx σ H
def tSeq (t u : TS) : TS := fun D σ H => t { D with nx := u D } σ H
theorem pss_nil : PSs X [] tNext := fun _ _ σ H _ I h => wpAny_execs_nil ⟨σ, H, I, h⟩
theorem pss_cons (h1 : PS X st t) (h2 : PSs X rest u) : PSs X (st :: rest) (tSeq t u) := by
  intro pins s σ H D I h
  refine wpAny_execs_cons (thn (h1 pins s σ H { D with nx := u D } I h) fun f s1 q => ?_)
  cases f with
  | next =>
    obtain ⟨σ', H', I', q⟩ := q
    exact h2 pins s1 σ' H' D I' q
  | ret v => exact q
  | brk => exact q
  | cont => exact q
theorem pss_one (h1 : PS X st t) : PSs X [st] t := by
  intro pins s σ H D I h
  refine wpAny_execs_cons (thn (h1 pins s σ H D I h) fun f s1 q => ?_)
  cases f with
  | next => exact wpAny_execs_nil q
  | ret v => exact q
  | brk => exact q
  | cont => exact q
/-- in a def's body nothing is shown -/
theorem Inv.quiet {pins : List (Addr × Obj)} {σ : St} {H : Hp} {s : Shared} (I : Inv X pins σ H s) : interactive X.env = false := by simp [interactive, I.ok.kind]
/-- an expression whose value is dropped -/
def tDrop (te : TE) : TS := fun D σ H => te σ H fun _ H1 => D.nx σ H1
theorem ps_expr (he : PE X e te) (hs : swapsWith e none pos.line X.env = pure false := by rfl) : PS X (.Expr e pos) (tDrop te) := by
  intro pins s σ H D I h
  exact wpAny_Expr_any (thn (he pins s σ H _ I h) fun v s1 ⟨x, H1, I1, r1, q1⟩ => ⟨σ, H1, I1, q1⟩) I.quiet hs
def tRet (te : TE) : TS := fun D σ H => te σ H D.rt
theorem ps_ret (he : PE X e te) : PS X (.Return (some e) pos) (tRet te) := by
  intro pins s σ H D I h
  exact wpAny_Return_some (thn (he pins s σ H _ I h) fun v s1 ⟨x, H1, I1, r1, q1⟩ => ⟨x, σ, H1, I1, r1, q1⟩)
def tIfS (c : TT) (t u : TS) : TS := fun D σ H => c σ H fun b H1 => if b = true then t D σ H1 else u D σ H1
theorem ps_if {c : Expr} {a b : List Stmt} {tc : TT} (hc : PT X c tc) (ha : PSs X a t) (hb : PSs X b u) : PS X (.If c a b pos) (tIfS tc t u) := by
  intro pins s σ H D I h
  refine wpAny_If (thn (hc pins s σ H _ I h) fun d s1 ⟨H1, I1, q1⟩ => ?_)
  cases d with
  | true => exact ha pins s1 σ H1 D I1 q1
  | false => exact hb pins s1 σ H1 D I1 q1
end

/-! ### targets -/
abbrev TG := V → St → Hp → (St → Hp → Prop) → Prop
abbrev TGs := List V → St → Hp → (St → Hp → Prop) → Prop
def PG (X : Cx) (target : Expr) (t : TG) : Prop :=
  ∀ (pins : List (Addr × Obj)) (s : Shared) (σ : St) (H : Hp) (v : V) (u : Value) (Q : St → Hp → Prop), Inv X pins σ H s → RelV v u → t v σ H Q →
    wpAny (model X.prog X.w) X.A (assign target X.env u) (fun _ s' => ∃ σ' H', Inv X pins σ' H' s' ∧ Q σ' H') X.xe s
/-- several targets, one after another -/
def PGs (X : Cx) (ts : List Expr) (t : TGs) : Prop :=
  ∀ (pins : List (Addr × Obj)) (s : Shared) (σ : St) (H : Hp) (vs : List V) (us : List Value) (Q : St → Hp → Prop), Inv X pins σ H s → Vals vs us → t vs σ H Q →
    wpAny (model X.prog X.w) X.A (assignInOrder ((assignEach ts X.env).map (·.2)) us) (fun _ s' => ∃ σ' H', Inv X pins σ' H' s' ∧ Q σ' H') X.xe s
section
variable {X : Cx} {pos : Pos}
def gName (i : Nat) : TG := fun v σ H Q => Q (σ.set i (some v)) H
theorem pg_name {i : Nat} {x : Str} (hN : X.N.Nodup) (hi : X.N[i]? = some x) (hx : Loc X.env.scope x) (hf : X.fn x = true ∨ X.env.scope.names.lookup x = some .local := by first | exact .inl rfl | exact .inr rfl | assumption) : PG X (.Name x pos) (gName i) := by
  intro pins s σ H v u Q I r h
  exact wpAny_assign_Name (store_ok I hN hi hx r (fun s' I' => ⟨_, H, I', h⟩) hf)
def gNil : TGs := fun vs σ H Q => vs = [] ∧ Q σ H
def gCons (t : TG) (u : TGs) : TGs := fun vs σ H Q => ∃ v r, vs = v :: r ∧ t v σ H fun σ' H' => u r σ' H' Q
theorem pgs_nil : PGs X [] gNil := by
  intro pins s σ H vs us Q I r h
  obtain ⟨e, h⟩ := h
  subst e
  cases r
  exact assignInOrder_nil ⟨σ, H, I, h⟩
theorem pgs_cons {e : Expr} {es : List Expr} {t : TG} {u : TGs} (h1 : PG X e t) (h2 : PGs X es u)
    (hs : (assignEach (e :: es) X.env).map (·.2) = assign e X.env :: (assignEach es X.env).map (·.2) := by rfl) : PGs X (e :: es) (gCons t u) := by
  intro pins s σ H vs us Q I r h
  obtain ⟨v, vr, e1, h⟩ := h
  subst e1
  cases r with
  | cons r rr =>
    rw [hs]
    refine assignInOrder_cons (thn (h1 pins s σ H _ _ _ I r h) fun _ s1 ⟨σ1, H1, I1, q1⟩ => ?_)
    exact h2 pins s1 σ1 H1 _ _ Q I1 rr q1
/-- (a, b, ..) = a tuple of that length -/
def gTup (K : PySem.W.Frag) (n : Nat) (t : TGs) : TG := fun v σ H Q => ∃ a xs, v = .ref a ∧ SqT K H a xs ∧ xs.length = n ∧ t xs σ H Q
theorem pg_tup {es : List Expr} {k : Nat} {t : TGs} {n : Nat} (hc : X.calm = true) (h : PGs X es t)
    (hn : (assignEach es X.env).length = n := by rfl) (hst : (assignEach es X.env).findIdx? (·.1) = none := by rfl) : PG X (.Tuple es k pos) (gTup X.K n t) := by
  intro pins s σ H v u Q I r hw
  obtain ⟨a, xs, e1, hq, hl, hw⟩ := hw
  subst e1
  cases r
  obtain ⟨its, rv, ht, hz⟩ := I.tuple hq
  refine assign_Tuple_tuple (I.ok.hd hc) ht (by simp [hn, ← hl, rv.length]) hst fun h' hx => ?_
  have I1 : Inv X pins σ H { s with heap := h' } := I.kept (t' := s.toks) fun b o e => hx b o (Nat.ne_of_lt (Heap.lt_size e)) e
  exact h pins _ σ H xs _ Q I1 (by simpa using rv) hw
/-- target = value -/
def tAsg (te : TE) (g : TG) : TS := fun D σ H => te σ H fun x H1 => g x σ H1 D.nx
/-- name = value -/
theorem ps_set {i : Nat} {x : Str} {e : Expr} {te : TE} {pos' : Pos} (hN : X.N.Nodup) (hi : X.N[i]? = some x) (hx : Loc X.env.scope x) (he : PE X e te) (hs : swapsWith e (some (.Name x pos')) pos.line X.env = pure false := by rfl) (hf : X.fn x = true ∨ X.env.scope.names.lookup x = some .local := by first | exact .inl rfl | exact .inr rfl | assumption) :
    PS X (.Assign [.Name x pos'] e pos) (tAsg te (gName i)) := by
  intro pins s σ H D I h
  refine wpAny_Assign_Name (thn (he pins s σ H _ I h) fun v s1 ⟨y, H1, I1, r1, q1⟩ => ?_) hs
  exact store_ok I1 hN hi hx r1 (fun s2 I2 => ⟨_, H1, I2, q1⟩) hf
end

/-! ### while -/
section
variable {X : Cx} {pos : Pos}
end

/-! ### what a loop or a comprehension walks -/
/-- at turn i: it yields x (the heap may grow), or it stops -/
structure It where
  go : Nat → Hp → Prop
  yld : Nat → Hp → V → Hp → Prop
  stop : Nat → Hp → Prop
/-- the iterator's own objects may turn: they are not the frame's, not pinned, younger than the entry (or a comprehension's own) -/
def FpOk (X : Cx) (pins : List (Addr × Obj)) (H : Hp) (b : Addr) : Prop :=
  H b = none ∧ b ≠ X.env.locals ∧ b ∉ X.fs ∧ (b ∈ X.ex ∨ X.s₀.heap.objs.size ≤ b) ∧ (∀ x c, X.env.cells.lookup x = some c → c ≠ b) ∧ ∀ p ∈ X.pn ++ pins, p.1 ≠ b
theorem Inv.fpOk {X : Cx} {pins : List (Addr × Obj)} {σ : St} {H H' : Hp} {s : Shared} {b : Addr} (I : Inv X pins σ H s) (hb : s.heap.objs.size ≤ b) (hn : H' b = none) : FpOk X pins H' b := by
  refine ⟨hn, Nat.ne_of_gt (Nat.lt_of_lt_of_le I.lt hb), I.nofs hb, .inr (Nat.le_trans I.sz hb), fun x c e z => ?_, fun p hp z => ?_⟩
  · obtain ⟨v, q⟩ := I.cell x c e
    exact absurd (Nat.lt_of_lt_of_le q.lt (by rw [z]; exact hb)) (Nat.lt_irrefl _)
  · exact absurd (Nat.lt_of_lt_of_le (Heap.lt_size (I.pin p hp).1) (by rw [z]; exact hb)) (Nat.lt_irrefl _)
structure Turn (P : Program) (w : World) (K : PySem.W.Frag) (tg : Expr) (J : It) (fp : List Addr) (it : Addr) (tn : Nat → Heap → Prop) : Prop where
  mem : it ∈ fp
  obj : ∀ i h, tn i h → ∀ b ∈ fp, ∃ o, h.get? b = some o ∧ ∀ v, o.data ≠ .cell v
  keep : ∀ i h h', tn i h → (∀ b ∈ fp, ∀ o, h.get? b = some o → h'.get? b = some o) → tn i h'
  item : ∀ (X : Cx), X.prog = P → X.w = w → X.K = K → X.calm = true → ∀ (i : Nat) (pins : List (Addr × Obj)) (s : Shared) (σ : St) (H : Hp) (E : Value → Shared → Prop), Inv X pins σ H s → (∀ b ∈ fp, FpOk X pins H b) → tn i s.heap → J.go i H →
    wpAny (model P w) X.A (pyNext (.ref it)) (fun r s1 => ∃ u, r = some u ∧
      wpAny (model P w) X.A (letOwnedTupleGo tg (.ref it) u) (fun _ s2 => ∃ x H', Inv X pins σ H' s2 ∧ RelV x u ∧ J.yld i H x H' ∧ tn (i + 1) s2.heap ∧ ∀ b ∈ fp, H' b = none) E s1) E s
  done : ∀ (X : Cx), X.prog = P → X.w = w → X.K = K → X.calm = true → ∀ (i : Nat) (pins : List (Addr × Obj)) (s : Shared) (σ : St) (H : Hp) (E : Value → Shared → Prop), Inv X pins σ H s → (∀ b ∈ fp, FpOk X pins H b) → tn i s.heap → J.stop i H →
    wpAny (model P w) X.A (pyNext (.ref it)) (fun r s1 => r = none ∧ Inv X pins σ H s1) E s
  self : ∀ (A : Around) (i : Nat) (s : Shared) (Q : Value → Shared → Prop) (E : Value → Shared → Prop), tn i s.heap → Q (.ref it) s → wpAny (model P w) A (pyIter (.ref it)) Q E s
abbrev TI := St → Hp → (It → Hp → Prop) → Prop
/-- an iterator has come -/
def PIE (X : Cx) (pins : List (Addr × Obj)) (σ : St) (tg : Expr) (R : It → Hp → Prop) (itv : Value) (s2 : Shared) : Prop :=
  ∃ (it : Addr) (fp : List Addr) (tn : Nat → Heap → Prop) (J : It) (H' : Hp), itv = .ref it ∧ Inv X pins σ H' s2 ∧ Turn X.prog X.w X.K tg J fp it tn ∧ tn 0 s2.heap ∧ (∀ b ∈ fp, FpOk X pins H' b) ∧ R J H'
def PI (X : Cx) (tg iter : Expr) (wi : TI) : Prop :=
  ∀ (pins : List (Addr × Obj)) (s : Shared) (σ : St) (H : Hp) (R : It → Hp → Prop), Inv X pins σ H s → wi σ H R →
    wpAny (model X.prog X.w) X.A (eval iter X.env) (fun v s1 => wpAny (model X.prog X.w) X.A (pyIter v) (PIE X pins σ tg R) X.xe s1) X.xe s

/-- the step ahead of the store is nothing for an iterator that keeps no tuple -/
theorem go_of {M : Model} {A : Around} {E : Value → Shared → Prop} {s : Shared} {tg : Expr} {it : Addr} {u : Value} {o : Obj} {n : String} {vs : Array Value} {Q : Unit → Shared → Prop} (ho : s.heap.get? it = some o) (hc : o.cls = .type n) (hd : o.data = .fields vs)
    (hn : ["enumerate", "zip", "dict_itemiterator", "dict_reverseitemiterator", "odict_iterator", "itertools.zip_longest", "itertools.pairwise"].contains n = false) (hQ : Q () s) : wpAny M A (letOwnedTupleGo tg (.ref it) u) Q E s := by
  unfold letOwnedTupleGo
  cases tg <;> first
    | exact wpAny_pure hQ
    | (cases u <;> first
        | exact wpAny_pure hQ
        | (refine wpAny_bind (wpAny_load ho ?_)
           rw [hc, hd]
           show wpAny M A (if (["enumerate", "zip", "dict_itemiterator", "dict_reverseitemiterator", "odict_iterator", "itertools.zip_longest", "itertools.pairwise"].contains n && vs[0]? == some (rawInt _)) = true then _ else _) Q E s
           rw [if_neg (by intro h; rw [hn, Bool.false_and] at h; cases h)]
           exact wpAny_pure hQ))

/-- the list at a, as it stands at each turn (a loop may append to it) -/
def Itl (K : PySem.W.Frag) (a : Addr) : It :=
  ⟨fun i H => ∃ xs x, SqL K H a xs ∧ xs[i]? = some x, fun i H x H' => H' = H ∧ ∀ xs, SqL K H a xs → xs[i]? = some x, fun i H => ∃ xs, SqL K H a xs ∧ xs.length ≤ i⟩
/-- lo, lo + 1, .. (n of them) -/
def Itr (lo : Int) (n : Nat) : It := ⟨fun i _ => i < n, fun i H x H' => H' = H ∧ x = .int (lo + i), fun i _ => n ≤ i⟩
theorem turn_list {P : Program} {w : World} {K : PySem.W.Frag} {tg : Expr} (a it : Addr) : Turn P w K tg (Itl K a) [it] it (fun i h => h.IsListIter it a i) where
  mem := by simp
  obj := fun i h st b hb => by
    have e : b = it := by simpa using hb
    subst e
    obtain ⟨o, e, c, d⟩ := st
    exact ⟨o, e, fun v z => by rw [d] at z; cases z⟩
  keep := fun i h h' st k => st.at fun o e => k it (by simp) o e
  item := by
    intro X hP hw hK hc i pins s σ H E I hf st hg
    subst hP hw hK
    obtain ⟨xs, x, hq, hx⟩ := hg
    obtain ⟨its, rv, p, hz⟩ := I.list hq
    obtain ⟨u, hu, ru⟩ := rv.get hx
    obtain ⟨f0, f1, f2, f3, f4, f5⟩ := hf it (by simp)
    refine wpAny_pyNext_list_item st p.isList (x := u) (by simpa using hu) fun h' st' sb => ?_
    have I1 : Inv X pins σ H { s with heap := h' } := I.turned (t' := s.toks) (fun b o hb e => (sb.2 b hb).trans e) f0 f1 f3 f4 f5
    obtain ⟨o, e, c, d⟩ := id st'
    exact ⟨u, rfl, go_of (s := { s with heap := h' }) e c d (by decide) ⟨x, H, I1, ru, ⟨rfl, fun ys hy => by rw [I.list_inj hy hq]; exact hx⟩, st', fun b hb => (hf b hb).1⟩⟩
  done := by
    intro X hP hw hK hc i pins s σ H E I hf st hg
    subst hP hw hK
    obtain ⟨xs, hq, hx⟩ := hg
    obtain ⟨its, rv, p, hz⟩ := I.list hq
    obtain ⟨f0, f1, f2, f3, f4, f5⟩ := hf it (by simp)
    have hl := rv.length
    exact wpAny_pyNext_list_end (I.ok.hd hc) st p.isList (by simp; omega) fun h' eb => ⟨rfl, I.turned (t' := s.toks) (fun b o hb e => eb b o hb e) f0 f1 f3 f4 f5⟩
  self := fun _ _ _ _ _ st h => wpAny_pyIter_listiter st h
theorem turn_range {P : Program} {w : World} {K : PySem.W.Frag} {tg : Expr} (it : Addr) (lo : Int) (n : Nat) : Turn P w K tg (Itr lo n) [it] it (fun i h => IsRangeIter h it (lo + (i : Nat) * 1) ((n : Int) - (i : Nat)) 1) where
  mem := by simp
  obj := fun i h st b hb => by
    have e : b = it := by simpa using hb
    subst e
    exact ⟨_, st, fun v z => by
      have z' : Data.fields _ = Data.cell v := z
      cases z'⟩
  keep := fun i h h' st k => k it (by simp) _ st
  item := by
    intro X hP hw hK hc i pins s σ H E I hf st hg
    subst hP hw hK
    obtain ⟨f0, f1, f2, f3, f4, f5⟩ := hf it (by simp)
    have W := Walks.range (prog := X.prog) (w := X.w) (I.ok.hd hc) it lo 1 n
    refine W.item i s _ _ hg st fun v h' tk hv st' kk => ?_
    obtain ⟨t, rfl⟩ := hv
    have I1 : Inv X pins σ H { s with heap := h', toks := tk } := I.turned (fun b o hb e => kk b o (by simpa using hb) e) f0 f1 f3 f4 f5
    refine ⟨_, rfl, go_of (s := { s with heap := h', toks := tk }) (n := "range_iterator") st' rfl rfl (by decide) ⟨.int (lo + i), H, I1, ⟨t, ?_⟩, ⟨rfl, rfl⟩, st', fun b hb => (hf b hb).1⟩⟩
    rw [Int.mul_one]
  done := by
    intro X hP hw hK hc i pins s σ H E I hf st hg
    subst hP hw hK
    obtain ⟨f0, f1, f2, f3, f4, f5⟩ := hf it (by simp)
    exact wpAny_pyNext_range_end (I.ok.hd hc) st (by have : n ≤ i := hg; omega) fun h' eb => ⟨rfl, I.turned (t' := s.toks) (fun b o hb e => eb b o hb e) f0 f1 f3 f4 f5⟩
  self := fun _ _ _ _ _ st h => wpAny_pyIter_rangeiter st h
end L2

namespace L2
open PySem PySem.Spec PyProof.Rows
section
variable {X : Cx} {tg : Expr}
def iList (K : PySem.W.Frag) (tl : TE) : TI := fun σ H R => tl σ H fun x H1 => ∃ a, x = .ref a ∧ (∃ xs, SqL K H1 a xs) ∧ R (Itl K a) H1
theorem pi_list {l : Expr} {tl : TE} (hl : PE X l tl) : PI X tg l (iList X.K tl) := by
  intro pins s σ H R I h
  refine thn (hl pins s σ H _ I h) fun v s1 ⟨x, H1, I1, r1, q1⟩ => ?_
  obtain ⟨a, e, ⟨xs, hq⟩, q⟩ := q1
  subst e
  cases r1
  obtain ⟨its, rv, p, hz⟩ := I1.list hq
  refine wpAny_pyIter_list p.isList ?_
  refine ⟨s1.heap.objs.size, [s1.heap.objs.size], _, _, H1, rfl, I1.kept (t' := s1.toks) fun b o e => Heap.get?_push_of_some _ e, turn_list a _, ⟨_, Heap.get?_push_size _ rfl, rfl, rfl⟩, fun b hb => ?_, q⟩
  have e : b = s1.heap.objs.size := by simpa using hb
  subst e
  exact I1.fpOk (Nat.le_refl _) (I1.hok.fresh (Nat.le_refl _))
/-- a range object just made, walked -/
theorem range_it {pins : List (Addr × Obj)} {σ : St} {H : Hp} {s : Shared} {R : It → Hp → Prop} {E : Value → Shared → Prop} {lo hi : Int} {t u v : Tok} {tk : Nat} (I : Inv X pins σ H s) (h1 : -(2 ^ 62) ≤ lo) (h2 : lo < 2 ^ 62) (h3 : -(2 ^ 62) ≤ hi) (h4 : hi < 2 ^ 62)
    (q : R (Itr lo (hi - lo).toNat) H) : wpAny (model X.prog X.w) X.A (pyIter (.ref s.heap.objs.size)) (PIE X pins σ tg R) E { s with heap := s.heap.push { cls := .type "range", data := .fields #[.int lo t, .int hi u, .int 1 v] }, toks := tk } := by
  refine wpAny_pyIter_range (IsRange.new ..) (small_one h1 h2 h3 h4) ?_
  have I1 : Inv X pins σ H { s with heap := s.heap.push { cls := .type "range", data := .fields #[.int lo t, .int hi u, .int 1 v] }, toks := tk } := I.kept fun b o e => Heap.get?_push_of_some _ e
  refine ⟨(s.heap.push { cls := .type "range", data := .fields #[.int lo t, .int hi u, .int 1 v] }).objs.size, [(s.heap.push { cls := .type "range", data := .fields #[.int lo t, .int hi u, .int 1 v] }).objs.size], _, _, H, rfl,
    I1.kept (t' := tk) fun b o e => Heap.get?_push_of_some _ e, turn_range _ lo (hi - lo).toNat, ?_, fun b hb => ?_, q⟩
  · have e1 : lo + ((0 : Nat) : Int) * 1 = lo := by simp
    have e2 : (((hi - lo).toNat : Nat) : Int) - ((0 : Nat) : Int) = Builtin.Range.rangeSize lo hi 1 := by rw [rangeSize_one]; split <;> omega
    show IsRangeIter _ _ (lo + ((0 : Nat) : Int) * 1) ((((hi - lo).toNat : Nat) : Int) - ((0 : Nat) : Int)) 1
    rw [e1, e2]
    exact Heap.get?_push_size _ rfl
  · have e : b = (s.heap.push { cls := .type "range", data := .fields #[.int lo t, .int hi u, .int 1 v] }).objs.size := by simpa using hb
    subst e
    exact I1.fpOk (Nat.le_refl _) (I1.hok.fresh (Nat.le_refl _))
def iRng1 (ta : TA) : TI := fun σ H R => ta σ H fun vs H1 => ∃ j : Int, vs = [.int j] ∧ -(2 ^ 62) ≤ j ∧ j < 2 ^ 62 ∧ R (Itr 0 j.toNat) H1
theorem pi_range1 {a : Expr} {ta : TA} {p pos : Pos} (hg : Gl X "range") (hm : X.mg "range" = none) (ha : PA X [a] ta) (hs : starEach [a] X.env = [(false, eval a X.env)] := by rfl) : PI X tg (.Call (.Name "range" p) [a] [] pos) (iRng1 ta) := by
  intro pins s σ H R I h
  refine Call_ (ld_blt I hg hm boot_range (PyProof.Rows.callWith_type1 (thn (ha pos pins s σ H _ I h) fun us s1 ⟨vs, H1, I1, r1, q1⟩ => ?_) hs rfl))
  obtain ⟨j, e, q1, q2, q⟩ := q1
  subst e
  cases r1 with
  | cons r rr =>
    cases rr
    obtain ⟨t, rfl⟩ := r
    exact call_range_1 (range_it I1 (by omega) (by omega) q1 q2 (by simpa using q))

/-! ### for -/
/-- W: the invariant by the turn and a measure; N: what the body is to reach -/
def tFor (wi : TI) (g : TG) (tb : TS) : TS := fun D σ H => wi σ H fun J H1 => ∃ W : Nat → Nat → St → Hp → Prop, (∃ m, W 0 m σ H1) ∧ ∀ i m σ H, W i m σ H →
  (J.stop i H ∧ D.nx σ H) ∨ (J.go i H ∧ ∃ N : St → Hp → Prop, (∀ σ' H', N σ' H' → ∃ m', m' < m ∧ W (i + 1) m' σ' H') ∧ ∀ x H', J.yld i H x H' → g x σ H' fun σ2 H2 => tb { D with nx := N, ct := N, bk := D.nx } σ2 H2)
/-- the records at fp as they stand -/
def pinsAt (fp : List Addr) (h : Heap) : List (Addr × Obj) := fp.filterMap fun b => (h.get? b).map fun o => (b, o)
theorem mem_pinsAt {fp : List Addr} {h : Heap} {b : Addr} {o : Obj} (hb : b ∈ fp) (e : h.get? b = some o) : (b, o) ∈ pinsAt fp h := List.mem_filterMap.mpr ⟨b, hb, by rw [e]; rfl⟩
theorem of_pinsAt {fp : List Addr} {h : Heap} {p : Addr × Obj} (hp : p ∈ pinsAt fp h) : p.1 ∈ fp ∧ h.get? p.1 = some p.2 := by
  obtain ⟨b, hb, e⟩ := List.mem_filterMap.mp hp
  cases q : h.get? b with
  | none => rw [q] at e; cases e
  | some o =>
    rw [q] at e
    have e' : (b, o) = p := Option.some.inj e
    subst e'
    exact ⟨hb, q⟩
theorem Inv.pinned {pins : List (Addr × Obj)} {σ : St} {H : Hp} {s : Shared} {fp : List Addr} (I : Inv X pins σ H s) (hf : ∀ b ∈ fp, FpOk X pins H b) (ho : ∀ b ∈ fp, ∃ o, s.heap.get? b = some o ∧ ∀ v, o.data ≠ .cell v) : Inv X (pins ++ pinsAt fp s.heap) σ H s :=
  I.pins_of fun p hp => (List.mem_append.mp hp).elim (fun z => I.pin p (List.mem_append_right _ z)) fun z => by
    obtain ⟨hb, e⟩ := of_pinsAt z
    obtain ⟨f0, f1, f2, _⟩ := hf p.1 hb
    obtain ⟨o, e', d⟩ := ho p.1 hb
    rw [e] at e'; cases e'
    exact ⟨e, f0, f1, f2, d⟩
theorem Inv.unpinned {pins pl : List (Addr × Obj)} {σ : St} {H : Hp} {s : Shared} (I : Inv X (pins ++ pl) σ H s) : Inv X pins σ H s := I.pins_of fun p hp => I.pin p (List.mem_append_right _ (List.mem_append_left _ hp))
theorem ps_for {iter : Expr} {body : List Stmt} {wi : TI} {g : TG} {tb : TS} {pos : Pos} (hp : PassesOwn (model X.prog X.w) X.A X.env X.xe) (hc : X.calm = true) (hi : PI X tg iter wi) (hg : PG X tg g) (hb : PSs X body tb)
    (hs : ∀ x, foldedSetIterable iter X.env x = pure x := by intro _; rfl) : PS X (.For tg iter body [] pos) (tFor wi g tb) := by
  intro pins s σ H D I h
  refine wpAny_For (thn (hi pins s σ H _ I h) fun v s1 h1 => thn h1 fun itv s2 h2 => ?_) hs
  obtain ⟨it, fp, tn, J, H2, e, I2, T, st2, f2, W, ⟨m0, w0⟩, turn⟩ := h2
  subst e
  -- what stays true of the iterator's objects through the loop
  have stat : ∀ {H' : Hp}, (∀ b ∈ fp, H' b = none) → ∀ b ∈ fp, FpOk X pins H' b := fun hn b hb => ⟨hn b hb, (f2 b hb).2⟩
  refine codeAny_forLoop_any (fun n s' => ∃ i σ' H', Inv X pins σ' H' s' ∧ tn i s'.heap ∧ (∀ b ∈ fp, H' b = none) ∧ W i n σ' H') ?_ m0 ⟨0, σ, H2, I2, st2, fun b hb => (f2 b hb).1, w0⟩
  rintro n s3 ⟨i, σ3, H3, I3, st3, fr3, w3⟩
  rcases turn i n σ3 H3 w3 with ⟨stop, qn⟩ | ⟨go, N, hN, step⟩
  · refine wpAny_passesOwn hp (thn (T.done X rfl rfl rfl hc i pins s3 σ3 H3 X.xe I3 (stat fr3) st3 stop) fun r s4 ⟨hr, I4⟩ => ?_)
    subst hr
    exact wpAny_execs_nil ⟨σ3, H3, I4, qn⟩
  · refine wpAny_passesOwn hp (thn (T.item X rfl rfl rfl hc i pins s3 σ3 H3 X.xe I3 (stat fr3) st3 go) fun r s4 ⟨u, hr, h4⟩ => ?_)
    subst hr
    refine wpAny_passesOwn hp (thn h4 fun _ s5 ⟨x, H5, I5, r5, y5, st5, fr5⟩ => ?_)
    have I5' := I5.pinned (stat fr5) (T.obj _ _ st5)
    refine wpAny_passesOwn hp (thn (hg _ s5 σ3 H5 x u _ I5' r5 (step x H5 y5)) fun _ s6 ⟨σ6, H6, I6, q6⟩ => ?_)
    refine wpAny_passesOwn hp (thn (hb _ s6 σ6 H6 _ I6 q6) fun f s7 q7 => ?_)
    have again : ∀ {σ7 : St} {H7 : Hp}, Inv X (pins ++ pinsAt fp s5.heap) σ7 H7 s7 → N σ7 H7 → ∃ m, m < n ∧ ∃ i σ' H', Inv X pins σ' H' s7 ∧ tn i s7.heap ∧ (∀ b ∈ fp, H' b = none) ∧ W i m σ' H' := fun {σ7 H7} I7 n7 => by
      obtain ⟨m', hm, w7⟩ := hN σ7 H7 n7
      refine ⟨m', hm, i + 1, σ7, H7, I7.unpinned, T.keep _ _ _ st5 fun b hb o e => (I7.pin (b, o) (List.mem_append_right _ (List.mem_append_right _ (mem_pinsAt hb e)))).1, fun b hb => ?_, w7⟩
      obtain ⟨o, e, d⟩ := T.obj _ _ st5 b hb
      exact (I7.pin (b, o) (List.mem_append_right _ (List.mem_append_right _ (mem_pinsAt hb e)))).2.1
    cases f with
    | next => obtain ⟨σ7, H7, I7, n7⟩ := q7; exact again I7 n7
    | cont => obtain ⟨σ7, H7, I7, n7⟩ := q7; exact again I7 n7
    | brk => obtain ⟨σ7, H7, I7, q7⟩ := q7; exact ⟨σ7, H7, I7.unpinned, q7⟩
    | ret v => obtain ⟨x7, σ7, H7, I7, r7, q7⟩ := q7; exact ⟨x7, σ7, H7, I7.unpinned, r7, q7⟩
end

/-! ### the forms one uses -/
/-- over a list that the body leaves as it is -/
theorem for_list {K : PySem.W.Frag} {a : Addr} {xs : List V} {g : TG} {tb : TS} {D : Ends} {σ : St} {H : Hp} (Pv : Nat → St → Hp → Prop) (h0 : Pv 0 σ H) (hl : ∀ i σ H, i ≤ xs.length → Pv i σ H → SqL K H a xs)
    (hs : ∀ i x σ H, xs[i]? = some x → Pv i σ H → g x σ H fun σ2 H2 => tb { D with nx := Pv (i + 1), ct := Pv (i + 1), bk := D.nx } σ2 H2) (hd : ∀ σ H, Pv xs.length σ H → D.nx σ H) :
    ∃ W : Nat → Nat → St → Hp → Prop, (∃ m, W 0 m σ H) ∧ ∀ i m σ H, W i m σ H →
      ((Itl K a).stop i H ∧ D.nx σ H) ∨ ((Itl K a).go i H ∧ ∃ N : St → Hp → Prop, (∀ σ' H', N σ' H' → ∃ m', m' < m ∧ W (i + 1) m' σ' H') ∧ ∀ x H', (Itl K a).yld i H x H' → g x σ H' fun σ2 H2 => tb { D with nx := N, ct := N, bk := D.nx } σ2 H2) := by
  refine ⟨fun i m σ H => m = xs.length - i ∧ i ≤ xs.length ∧ Pv i σ H, ⟨xs.length, by simp, Nat.zero_le _, h0⟩, ?_⟩
  rintro i m σ H ⟨rfl, hi, p⟩
  have q := hl i σ H hi p
  by_cases hlt : i < xs.length
  · refine .inr ⟨⟨xs, xs[i], q, by simp [hlt]⟩, Pv (i + 1), fun σ' H' p' => ⟨xs.length - (i + 1), by omega, rfl, hlt, p'⟩, fun x H' y => ?_⟩
    obtain ⟨e, y⟩ := y
    subst e
    exact hs i x σ _ (y xs q) p
  · have e : i = xs.length := by omega
    subst e
    exact .inl ⟨⟨xs, q, Nat.le_refl _⟩, hd σ H p⟩
theorem for_range {lo : Int} {n : Nat} {g : TG} {tb : TS} {D : Ends} {σ : St} {H : Hp} (Pv : Nat → St → Hp → Prop) (h0 : Pv 0 σ H)
    (hs : ∀ i σ H, i < n → Pv i σ H → g (.int (lo + i)) σ H fun σ2 H2 => tb { D with nx := Pv (i + 1), ct := Pv (i + 1), bk := D.nx } σ2 H2) (hd : ∀ σ H, Pv n σ H → D.nx σ H) :
    ∃ W : Nat → Nat → St → Hp → Prop, (∃ m, W 0 m σ H) ∧ ∀ i m σ H, W i m σ H →
      ((Itr lo n).stop i H ∧ D.nx σ H) ∨ ((Itr lo n).go i H ∧ ∃ N : St → Hp → Prop, (∀ σ' H', N σ' H' → ∃ m', m' < m ∧ W (i + 1) m' σ' H') ∧ ∀ x H', (Itr lo n).yld i H x H' → g x σ H' fun σ2 H2 => tb { D with nx := N, ct := N, bk := D.nx } σ2 H2) := by
  refine ⟨fun i m σ H => m = n - i ∧ i ≤ n ∧ Pv i σ H, ⟨n, by simp, Nat.zero_le _, h0⟩, ?_⟩
  rintro i m σ H ⟨rfl, hi, p⟩
  by_cases hlt : i < n
  · refine .inr ⟨hlt, Pv (i + 1), fun σ' H' p' => ⟨n - (i + 1), by omega, rfl, hlt, p'⟩, fun x H' y => ?_⟩
    obtain ⟨e, y⟩ := y
    subst e y
    exact hs i σ _ hlt p
  · have e : i = n := by omega
    subst e
    exact .inl ⟨Nat.le_refl _, hd σ H p⟩
end L2

namespace L2
open PySem PySem.Spec PyProof.Rows

abbrev R2 := V → V → Hp → VK → Prop
/-- a two-place operation on values: f is binaryOp op, inplaceOp op or compareOp op -/
def OpR (X : Cx) (f : Value → Value → Sem Value) (r : R2) : Prop :=
  ∀ (pins : List (Addr × Obj)) (s : Shared) (σ : St) (H : Hp) (x y : V) (v u : Value) (Q : VK), Inv X pins σ H s → RelV x v → RelV y u → r x y H Q →
    wpAny (model X.prog X.w) X.A (f v u) (EP X pins σ Q) X.xe s
/-- a call of a value that is known (a builtin, a type) with values -/
def CallR (X : Cx) (f : Value) (r : List V → Hp → VK → Prop) : Prop :=
  ∀ (pins : List (Addr × Obj)) (s : Shared) (σ : St) (H : Hp) (xs : List V) (us : List Value) (Q : VK), Inv X pins σ H s → Vals xs us → r xs H Q →
    wpAny (model X.prog X.w) X.A (call f us) (EP X pins σ Q) X.xe s
/-- a value's truth -/
def TruR (X : Cx) (r : V → Hp → (Bool → Hp → Prop) → Prop) : Prop :=
  ∀ (pins : List (Addr × Obj)) (s : Shared) (σ : St) (H : Hp) (x : V) (v : Value) (Q : Bool → Hp → Prop), Inv X pins σ H s → RelV x v → r x H Q →
    wpAny (model X.prog X.w) X.A (truthy v) (TP X pins σ Q) X.xe s

def tOp (r : R2) (ta tb : TE) : TE := fun σ H Q => ta σ H fun x H1 => tb σ H1 fun y H2 => r x y H2 Q
/-- ints in, under C, and a value out -/
def rI (C : Int → Int → Prop) (g : Int → Int → V) : R2 := fun x y H Q => ∃ i j, x = .int i ∧ y = .int j ∧ C i j ∧ Q (g i j) H
def rI0 (g : Int → Int → V) : R2 := fun x y H Q => ∃ i j, x = .int i ∧ y = .int j ∧ Q (g i j) H

section
variable {X : Cx} {a b c : Expr} {ta tb tc : TE} {pos : Pos}

theorem binT (ha : PE X a ta) (hb : PE X b tb) {pins : List (Addr × Obj)} {s : Shared} {σ : St} {H : Hp} {R : V → V → Hp → Prop} (I : Inv X pins σ H s)
    (h : ta σ H fun x H1 => tb σ H1 fun y H2 => R x y H2) {Q : Value → Shared → Prop} {f : Value → Value → Sem Value}
    (hf : ∀ v u s2 x y H2, Inv X pins σ H2 s2 → RelV x v → RelV y u → R x y H2 → wpAny (model X.prog X.w) X.A (f v u) Q X.xe s2) :
    wpAny (model X.prog X.w) X.A (eval a X.env) (fun v s₁ => wpAny (model X.prog X.w) X.A (eval b X.env) (fun u s₂ => wpAny (model X.prog X.w) X.A (f v u) Q X.xe s₂) X.xe s₁) X.xe s := by
  refine thn (ha pins s σ H _ I h) fun v s1 ⟨x, H1, I1, r1, q1⟩ => ?_
  refine thn (hb pins s1 σ H1 _ I1 q1) fun u s2 ⟨y, H2, I2, r2, q2⟩ => ?_
  exact hf v u s2 x y H2 I2 r1 r2 q2

theorem pe_op {op : Operator} {r : R2} (ho : OpR X (binaryOp op) r) (ha : PE X a ta) (hb : PE X b tb) : PE X (.BinOp a op b pos) (tOp r ta tb) := by
  intro pins s σ H Q I h
  exact wpAny_BinOp (binT ha hb I h fun v u s2 x y H2 I2 rx ry q => ho pins s2 σ H2 x y v u Q I2 rx ry q)

/-! ### ints -/
theorem opI {f : Value → Value → Sem Value} {C : Int → Int → Prop} {g : Int → Int → Int}
    (rule : ∀ (i j : Int) (t u : Tok) (s : Shared) (Q : Value → Shared → Prop) (E : Value → Shared → Prop), C i j → Q (.int (g i j) s.toks) { s with toks := s.toks + 1 } → wpAny (model X.prog X.w) X.A (f (.int i t) (.int j u)) Q E s) :
    OpR X f (rI C fun i j => .int (g i j)) := by
  intro pins s σ H x y v u Q I rx ry h
  obtain ⟨i, j, rfl, rfl, hc, q⟩ := h
  obtain ⟨t, rfl⟩ := rx
  obtain ⟨t', rfl⟩ := ry
  exact rule i j t t' s _ _ hc ⟨.int (g i j), H, I.tok _, ⟨_, rfl⟩, q⟩
theorem opI0 {f : Value → Value → Sem Value} {g : Int → Int → Int}
    (rule : ∀ (i j : Int) (t u : Tok) (s : Shared) (Q : Value → Shared → Prop) (E : Value → Shared → Prop), Q (.int (g i j) s.toks) { s with toks := s.toks + 1 } → wpAny (model X.prog X.w) X.A (f (.int i t) (.int j u)) Q E s) :
    OpR X f (rI0 fun i j => .int (g i j)) := by
  intro pins s σ H x y v u Q I rx ry h
  obtain ⟨i, j, rfl, rfl, q⟩ := h
  obtain ⟨t, rfl⟩ := rx
  obtain ⟨t', rfl⟩ := ry
  exact rule i j t t' s _ _ ⟨.int (g i j), H, I.tok _, ⟨_, rfl⟩, q⟩
theorem opB0 {f : Value → Value → Sem Value} {g : Int → Int → Bool}
    (rule : ∀ (i j : Int) (t u : Tok) (s : Shared) (Q : Value → Shared → Prop) (E : Value → Shared → Prop), Q (.bool (g i j)) s → wpAny (model X.prog X.w) X.A (f (.int i t) (.int j u)) Q E s) :
    OpR X f (rI0 fun i j => .bl (g i j)) := by
  intro pins s σ H x y v u Q I rx ry h
  obtain ⟨i, j, rfl, rfl, q⟩ := h
  obtain ⟨t, rfl⟩ := rx
  obtain ⟨t', rfl⟩ := ry
  exact rule i j t t' s _ _ ⟨.bl (g i j), H, I, rfl, q⟩

def CDiv (i j : Int) : Prop := 0 < j ∧ j < 1073741824
def CPow (i j : Int) : Prop := 0 ≤ j ∧ j ≤ 1000000 ∧ i.natAbs < 2 ^ 64
theorem two_pow_nn (k : Nat) : (0 : Int) ≤ 2 ^ k := by
  rw [two_pow_cast]
  exact Int.natCast_nonneg _

theorem op_add : OpR X (binaryOp .Add) (rI0 fun i j => .int (i + j)) := opI0 fun _ _ _ _ _ _ _ q => add_int q
theorem op_sub : OpR X (binaryOp .Sub) (rI0 fun i j => .int (i - j)) := opI0 fun _ _ _ _ _ _ _ q => sub_int q
/-- // by a positive divisor -/
theorem op_fdiv : OpR X (binaryOp .FloorDiv) (rI CDiv fun i j => .int (i / j)) := opI fun i j _ _ _ _ _ hc q => by
  have h1 : (0 : Int) < j := hc.1
  have h2 : j < 1073741824 := hc.2
  exact floordiv_int (by omega) (by rw [Int.fdiv_eq_ediv_of_nonneg i (by omega)]; exact q) (.inl (PyProof.noPylong_small (by omega)))
/-- % by a positive divisor of any size -/
theorem op_mod : OpR X (binaryOp .Mod) (rI (fun _ j => 0 < j) fun i j => .int (i % j)) := opI fun i j _ _ _ _ _ hc q => by
  have h1 : (0 : Int) < j := hc
  exact mod_int' (by omega) (by rw [Int.fmod_eq_emod_of_nonneg i (by omega)]; exact q)
theorem op_shl : OpR X (binaryOp .LShift) (rI CPow fun i j => .int (i * 2 ^ j.toNat)) := opI fun _ _ _ _ _ _ _ hc q => lshift_int_small hc.1 hc.2.1 hc.2.2 q
theorem op_shr : OpR X (binaryOp .RShift) (rI (fun _ j => 0 ≤ j) fun i j => .int (i / 2 ^ j.toNat)) := opI fun i j _ _ _ _ _ hc q =>
  rshift_int hc (by rw [Int.fdiv_eq_ediv_of_nonneg i (two_pow_nn _)]; exact q)

/-! ### bools among ints: n += (a < b) -/
end

/-! ### comparisons -/
/-- the scalars that == tells apart as data does -/
def scal : V → V → Bool
  | .non, .non => true | .non, .int _ => true | .int _, .non => true | .non, .bl _ => true | .bl _, .non => true | .non, .str _ => true | .str _, .non => true
  | .int _, .int _ => true | .bl _, .bl _ => true | .str _, .str _ => true | .byt _, .byt _ => true
  | .int _, .str _ => true | .str _, .int _ => true | .bl _, .str _ => true | .str _, .bl _ => true
  | _, _ => false
def rEq : R2 := fun x y H Q => scal x y = true ∧ Q (.bl (decide (x = y))) H
def rNe : R2 := fun x y H Q => scal x y = true ∧ Q (.bl (!decide (x = y))) H

theorem dec_int {i j : Int} : decide (V.int i = V.int j) = (i == j) := by
  rw [Bool.eq_iff_iff]
  simp
theorem dec_bl {i j : Bool} : decide (V.bl i = V.bl j) = (i == j) := by
  rw [Bool.eq_iff_iff]
  simp
theorem dec_str {i j : Str} : decide (V.str i = V.str j) = (i == j) := by
  rw [Bool.eq_iff_iff]
  simp
theorem dec_byt {i j : Array UInt8} : decide (V.byt i = V.byt j) = (i.toList == j.toList) := by
  rw [Bool.eq_iff_iff]
  cases i
  cases j
  simp

section
variable {X : Cx} {a b c : Expr} {ta tb tc : TE} {pos : Pos}
theorem fin_bl {pins : List (Addr × Obj)} {σ : St} {H : Hp} {s : Shared} {Q : VK} {k k' : Bool} (I : Inv X pins σ H s) (q : Q (.bl k) H) (e : k = k') : EP X pins σ Q (.bool k') s := by
  subst e
  exact ⟨.bl k, H, I, rfl, q⟩
theorem op_eq : OpR X (compareOp .Eq) rEq := by
  intro pins s σ H x y v u Q I rx ry h
  obtain ⟨hs, q⟩ := h
  cases x with
  | non =>
    cases rx
    cases y with
    | non => cases ry; exact PySem.EqNone.eq_none_none (fin_bl I q (by simp))
    | bl j => cases ry; exact PySem.EqNone.eq_none_bool (fin_bl I q (by simp))
    | int j => obtain ⟨t', rfl⟩ := ry; exact PySem.EqNone.eq_none_int (fin_bl I q (by simp))
    | str j => obtain ⟨t', rfl⟩ := ry; exact PySem.EqNone.eq_none_str (fin_bl I q (by simp))
    | _ => exact absurd (show false = true from hs) Bool.false_ne_true
  | bl i =>
    cases rx
    cases y with
    | non => cases ry; exact PySem.EqNone.eq_bool_none (fin_bl I q (by simp))
    | bl j => cases ry; exact eq_bool (fin_bl I q dec_bl)
    | str j => obtain ⟨t', rfl⟩ := ry; exact PySem.EqMixed.eq_bool_str (fin_bl I q (by simp))
    | _ => exact absurd (show false = true from hs) Bool.false_ne_true
  | int i =>
    obtain ⟨t, rfl⟩ := rx
    cases y with
    | non => cases ry; exact PySem.EqNone.eq_int_none (fin_bl I q (by simp))
    | int j => obtain ⟨t', rfl⟩ := ry; exact eq_int (fin_bl I q dec_int)
    | str j => obtain ⟨t', rfl⟩ := ry; exact PySem.EqMixed.eq_int_str (fin_bl I q (by simp))
    | _ => exact absurd (show false = true from hs) Bool.false_ne_true
  | str i =>
    obtain ⟨t, rfl⟩ := rx
    cases y with
    | non => cases ry; exact PySem.EqNone.eq_str_none (fin_bl I q (by simp))
    | bl j => cases ry; exact PySem.EqMixed.eq_str_bool (fin_bl I q (by simp))
    | int j => obtain ⟨t', rfl⟩ := ry; exact PySem.EqMixed.eq_str_int (fin_bl I q (by simp))
    | str j => obtain ⟨t', rfl⟩ := ry; exact eq_str (fin_bl I q dec_str)
    | _ => exact absurd (show false = true from hs) Bool.false_ne_true
  | byt i =>
    obtain ⟨t, rfl⟩ := rx
    cases y with
    | byt j => obtain ⟨t', rfl⟩ := ry; exact PySem.W.eq_bytes (fin_bl I q dec_byt)
    | _ => exact absurd (show false = true from hs) Bool.false_ne_true
  | _ => cases y <;> exact absurd (show false = true from hs) Bool.false_ne_true
theorem op_ne : OpR X (compareOp .NotEq) rNe := by
  intro pins s σ H x y v u Q I rx ry h
  obtain ⟨hs, q⟩ := h
  cases x with
  | non =>
    cases rx
    cases y with
    | non => cases ry; exact PySem.EqNone.ne_none_none (fin_bl I q (by simp))
    | bl j => cases ry; exact PySem.EqNone.ne_none_bool (fin_bl I q (by simp))
    | int j => obtain ⟨t', rfl⟩ := ry; exact PySem.EqNone.ne_none_int (fin_bl I q (by simp))
    | str j => obtain ⟨t', rfl⟩ := ry; exact PySem.EqNone.ne_none_str (fin_bl I q (by simp))
    | _ => exact absurd (show false = true from hs) Bool.false_ne_true
  | bl i =>
    cases rx
    cases y with
    | non => cases ry; exact PySem.EqNone.ne_bool_none (fin_bl I q (by simp))
    | bl j => cases ry; exact ne_bool (fin_bl I q (congrArg not dec_bl))
    | str j => obtain ⟨t', rfl⟩ := ry; exact PySem.EqMixed.ne_bool_str (fin_bl I q (by simp))
    | _ => exact absurd (show false = true from hs) Bool.false_ne_true
  | int i =>
    obtain ⟨t, rfl⟩ := rx
    cases y with
    | non => cases ry; exact PySem.EqNone.ne_int_none (fin_bl I q (by simp))
    | int j => obtain ⟨t', rfl⟩ := ry; exact ne_int (fin_bl I q (congrArg not dec_int))
    | str j => obtain ⟨t', rfl⟩ := ry; exact PySem.EqMixed.ne_int_str (fin_bl I q (by simp))
    | _ => exact absurd (show false = true from hs) Bool.false_ne_true
  | str i =>
    obtain ⟨t, rfl⟩ := rx
    cases y with
    | non => cases ry; exact PySem.EqNone.ne_str_none (fin_bl I q (by simp))
    | bl j => cases ry; exact PySem.EqMixed.ne_str_bool (fin_bl I q (by simp))
    | int j => obtain ⟨t', rfl⟩ := ry; exact PySem.EqMixed.ne_str_int (fin_bl I q (by simp))
    | str j => obtain ⟨t', rfl⟩ := ry; exact ne_str (fin_bl I q (congrArg not dec_str))
    | _ => exact absurd (show false = true from hs) Bool.false_ne_true
  | byt i =>
    obtain ⟨t, rfl⟩ := rx
    cases y with
    | byt j => obtain ⟨t', rfl⟩ := ry; exact PySem.W.ne_bytes (fin_bl I q (congrArg not dec_byt))
    | _ => exact absurd (show false = true from hs) Bool.false_ne_true
  | _ => cases y <;> exact absurd (show false = true from hs) Bool.false_ne_true

theorem op_lt : OpR X (compareOp .Lt) (rI0 fun i j => .bl (decide (i < j))) := opB0 fun _ _ _ _ _ _ _ q => lt_int q
theorem op_le : OpR X (compareOp .LtE) (rI0 fun i j => .bl (decide (i ≤ j))) := opB0 fun _ _ _ _ _ _ _ q => le_int q
theorem op_gt : OpR X (compareOp .Gt) (rI0 fun i j => .bl (decide (j < i))) := opB0 fun _ _ _ _ _ _ _ q => gt_int q
theorem op_ge : OpR X (compareOp .GtE) (rI0 fun i j => .bl (decide (j ≤ i))) := opB0 fun _ _ _ _ _ _ _ q => ge_int q

theorem op_notin_str : OpR X (compareOp .NotIn) (fun x y H Q => ∃ i j, x = .str i ∧ y = .str j ∧ Q (.bl (!(!(Builtin.Str.occurrences j i 0 j.length 1).isEmpty))) H) := by
  intro pins s σ H x y v u Q I rx ry h
  obtain ⟨i, j, rfl, rfl, q⟩ := h
  obtain ⟨t, rfl⟩ := rx
  obtain ⟨t', rfl⟩ := ry
  exact notIn_str (fin_bl I q rfl)

theorem nomark (b : Expr) {op : CmpOp} (h : op ≠ .In := by decide) (h2 : op ≠ .NotIn := by decide) : behindInMarks op b = false := by
  have e1 : (op == CmpOp.In) = false := by cases op <;> first | rfl | exact absurd rfl h
  have e2 : (op == CmpOp.NotIn) = false := by cases op <;> first | rfl | exact absurd rfl h2
  cases b <;> simp [behindInMarks, e1, e2]
/-- a comparison as a value; hm: nomark b, or (for in, not in) by with_unfolding_all rfl -/
theorem pe_cmpR {op : CmpOp} {r : R2} (ho : OpR X (compareOp op) r) (ha : PE X a ta) (hb : PE X b tb) (hm : behindInMarks op b = false) : PE X (.Compare a [op] [b] pos) (tOp r ta tb) := by
  intro pins s σ H Q I h
  exact wpAny_Compare1 (binT ha hb I h fun v u s2 x y H2 I2 rx ry q => ho pins s2 σ H2 x y v u Q I2 rx ry q) hm
/-- a reading of a value as a test -/
def tTest (t : TE) : TT := fun σ H Q => t σ H fun x H' => ∃ k, x = .bl k ∧ Q k H'
theorem pt_cmpR {op : CmpOp} {r : R2} (ho : OpR X (compareOp op) r) (ha : PE X a ta) (hb : PE X b tb) (hm : behindInMarks op b = false) : PT X (.Compare a [op] [b] pos) (tTest (tOp r ta tb)) := by
  intro pins s σ H Q I h
  refine wpAny_isTrue_Compare1 (thn (ha pins s σ H _ I h) fun v s1 ⟨x, H1, I1, r1, q1⟩ => thn (hb pins s1 σ H1 _ I1 q1) fun u s2 ⟨y, H2, I2, r2, q2⟩ =>
    thn (ho pins s2 σ H2 x y v u _ I2 r1 r2 q2) fun c s3 ⟨z, H3, I3, r3, k, e, q3⟩ => ?_) hm
  subst e
  cases r3
  exact wpAny_truthy_bool ⟨H3, I3, q3⟩

/-! ### truth -/
/-- a value's truth by the abstract heap -/
def TruV (K : PySem.W.Frag) (x : V) (H : Hp) (k : Bool) : Prop :=
  match x with
  | .non => k = false
  | .bl b => k = b
  | .int i => k = (i != 0)
  | .str y => y.length ≤ sizeLine ∧ k = ((y.length : Int) != 0)
  | .byt y => y.size ≤ sizeLine ∧ k = ((y.size : Int) != 0)
  | .ref p => (∃ xs, SqL K H p xs ∧ k = !xs.isEmpty) ∨ (∃ xs, SqT K H p xs ∧ k = !xs.isEmpty) ∨ ∃ kvs, H p = some (.dK kvs) ∧ k = !kvs.isEmpty
  | _ => False
theorem isEmpty_kv {κ : Type} {kvs : List (κ × V)} {vs : List (κ × Value)} (r : KV kvs vs) : (!vs.isEmpty) = !kvs.isEmpty := by
  cases r <;> rfl
theorem isEmpty_of {xs : List V} {its : List Value} (r : Vals xs its) : (!its.toArray.isEmpty) = !xs.isEmpty := by
  cases r <;> simp
theorem line63 : (sizeLine : Nat) < 2 ^ 63 := by rw [sizeLine_eq]; decide
theorem tru_ok : TruR X (fun x H Q => ∃ k, TruV X.K x H k ∧ Q k H) := by
  intro pins s σ H x v Q I rx h
  obtain ⟨k, e, q⟩ := h
  have hl := line63
  have hs : sizeLine = 16777216 := sizeLine_eq
  cases x with
  | non =>
    cases rx
    have e' : k = false := e
    subst e'
    exact truthy_none ⟨H, I, q⟩
  | bl b =>
    cases rx
    have e' : k = b := e
    subst e'
    exact wpAny_truthy_bool ⟨H, I, q⟩
  | int i =>
    obtain ⟨t, rfl⟩ := rx
    have e' : k = (i != 0) := e
    subst e'
    exact PySem.P.truthy_int ⟨H, I, q⟩
  | str y =>
    obtain ⟨t, rfl⟩ := rx
    obtain ⟨hy, e'⟩ : y.length ≤ sizeLine ∧ k = ((y.length : Int) != 0) := e
    subst e'
    exact PySem.P.truthy_str (by omega) ⟨H, I.tok _, q⟩
  | byt y =>
    obtain ⟨t, rfl⟩ := rx
    obtain ⟨hy, e'⟩ : y.size ≤ sizeLine ∧ k = ((y.size : Int) != 0) := e
    subst e'
    exact PySem.W.truthy_bytes (by omega) ⟨H, I.tok _, q⟩
  | ref p =>
    cases rx
    have e' : (∃ xs, SqL X.K H p xs ∧ k = !xs.isEmpty) ∨ (∃ xs, SqT X.K H p xs ∧ k = !xs.isEmpty) ∨ ∃ kvs, H p = some (.dK kvs) ∧ k = !kvs.isEmpty := e
    rcases e' with ⟨xs, hx, e'⟩ | ⟨xs, hx, e'⟩ | ⟨kvs, hx, e'⟩
    · subst e'
      obtain ⟨its, r, pl, hz⟩ := I.list hx
      have hlen := r.length
      exact wpAny_truthy_list pl.isList (by simp only [List.size_toArray]; omega) ⟨H, I.tok _, by rw [isEmpty_of r]; exact q⟩
    · subst e'
      obtain ⟨its, r, pl, hz⟩ := I.tuple hx
      have hlen := r.length
      exact truthy_tuple pl (by simp only [List.size_toArray]; omega) ⟨H, I.tok _, by rw [isEmpty_of r]; exact q⟩
    · subst e'
      obtain ⟨hz, hS, vs, r, m⟩ : kvs.length ≤ sizeLine ∧ (p == sysModules) = false ∧ ∃ vs, KV kvs vs ∧ s.heap.DictOf (mixKind X.prog X.w) p vs := I.hok p _ hx
      have hlen : kvs.length = vs.length := Paired.length r
      exact wpAny_truthy_dict hS m (by omega) ⟨H, I.tok _, by rw [isEmpty_kv r]; exact q⟩
  | _ => exact (show False from e).elim

/-! ### strs and bytes -/
theorem op_add_str : OpR X (binaryOp .Add) (fun x y H Q => ∃ i j, x = .str i ∧ y = .str j ∧ i.length + j.length ≤ sizeLine ∧ Q (.str (i ++ j)) H) := by
  intro pins s σ H x y v u Q I rx ry h
  obtain ⟨i, j, rfl, rfl, hz, q⟩ := h
  obtain ⟨t, rfl⟩ := rx
  obtain ⟨t', rfl⟩ := ry
  exact add_str (fun t' tk => ⟨.str (i ++ j), H, I.tok _, ⟨_, rfl⟩, q⟩) hz

/-! ### scalar builtins, by CallR -/
theorem vals1 {x : V} {us : List Value} (r : Vals [x] us) : ∃ u, us = [u] ∧ RelV x u := by
  cases r with
  | cons r1 r2 => cases r2; exact ⟨_, rfl, r1⟩
theorem vals2 {x y : V} {us : List Value} (r : Vals [x, y] us) : ∃ u w', us = [u, w'] ∧ RelV x u ∧ RelV y w' := by
  cases r with
  | cons r1 r2 =>
    cases r2 with
    | cons r3 r4 => cases r4; exact ⟨_, _, rfl, r1, r3⟩
theorem call_min2 (hc : X.calm = true) : CallR X (.builtin "min") (fun xs H Q => ∃ i j, xs = [.int i, .int j] ∧ Q (.int (if j < i then j else i)) H) := by
  intro pins s σ H xs us Q I r h
  obtain ⟨i, j, rfl, q⟩ := h
  obtain ⟨u, w', rfl, ⟨t, rfl⟩, ⟨t', rfl⟩⟩ := vals2 r
  refine min_two_ints (I.ok.hd hc) fun h' tk k => ⟨_, H, I.kept k, ?_, q⟩
  by_cases hj : j < i
  · rw [if_pos hj, if_pos hj]; exact ⟨_, rfl⟩
  · rw [if_neg hj, if_neg hj]; exact ⟨_, rfl⟩
/-- len of a str, a bytes, a list, a tuple -/
def LenV (K : PySem.W.Frag) (x : V) (H : Hp) (n : Nat) : Prop :=
  match x with
  | .str y => y.length ≤ sizeLine ∧ n = y.length
  | .byt y => y.size ≤ sizeLine ∧ n = y.size
  | .ref p => (∃ xs, SqL K H p xs ∧ n = xs.length) ∨ ∃ xs, SqT K H p xs ∧ n = xs.length
  | _ => False
theorem call_len : CallR X (.builtin "len") (fun xs H Q => ∃ x n, xs = [x] ∧ LenV X.K x H n ∧ Q (.int n) H) := by
  intro pins s σ H xs us Q I r h
  obtain ⟨x, n, rfl, e, q⟩ := h
  obtain ⟨u, rfl, rx⟩ := vals1 r
  have hl := line63
  have hs : sizeLine = 16777216 := sizeLine_eq
  cases x with
  | str y =>
    obtain ⟨t, rfl⟩ := rx
    obtain ⟨hy, e'⟩ : y.length ≤ sizeLine ∧ n = y.length := e
    subst e'
    exact len_str (by omega) ⟨.int _, H, I.tok _, ⟨_, rfl⟩, q⟩
  | byt y =>
    obtain ⟨t, rfl⟩ := rx
    obtain ⟨hy, e'⟩ : y.size ≤ sizeLine ∧ n = y.size := e
    subst e'
    exact PySem.W.len_bytes (by omega) ⟨.int _, H, I.tok _, ⟨_, rfl⟩, q⟩
  | ref p =>
    cases rx
    have e' : (∃ xs, SqL X.K H p xs ∧ n = xs.length) ∨ ∃ xs, SqT X.K H p xs ∧ n = xs.length := e
    rcases e' with ⟨xs, hx, e'⟩ | ⟨xs, hx, e'⟩
    · subst e'
      obtain ⟨its, r', pl, hz⟩ := I.list hx
      have hlen := r'.length
      exact Calls.call_len_list pl.isList (by simp only [List.size_toArray]; omega) ⟨.int xs.length, H, I.tok _, ⟨_, by simp only [List.size_toArray]; rw [hlen]⟩, q⟩
    · subst e'
      obtain ⟨its, r', pl, hz⟩ := I.tuple hx
      have hlen := r'.length
      exact len_tuple pl (by simp only [List.size_toArray]; omega) ⟨.int xs.length, H, I.tok _, ⟨_, by simp only [List.size_toArray]; rw [hlen]⟩, q⟩
  | _ => exact (show False from e).elim
end
end L2

namespace L2
open PySem PySem.Spec PyProof.Rows

/-! ### an instance, its attributes a map -/
structure ObjM (h : Heap) (x dx C : Addr) (mA : Str → Option Value) : Prop where
  obj : h.get? x = some (PySem.W.instObj C dx)
  ns : h.Ns1 dx mA
  ne : dx ≠ x

theorem lookIn_ns {h : Heap} {dx : Addr} {mA : Str → Option Value} (n : h.Ns1 dx mA) : ∃ od, h.get? dx = some od ∧ ∀ name, PySem.W.lookIn name od = some (mA name) := by
  obtain ⟨o, es, ep, ho, hd, hk, _, hm⟩ := n
  refine ⟨o, ho, fun name => ?_⟩
  have e := hm name
  unfold nsFind findBy at e
  rw [← Array.find?_toList] at e
  unfold PySem.W.lookIn
  rw [hd]
  dsimp only
  split
  · rename_i y q
    rw [q] at e
    exact congrArg some e
  · rename_i q
    rw [q] at e
    have a : es.toList.any (·.refKey) = false := by
      rw [List.any_eq_false]
      intro y hy
      obtain ⟨z, t, hkey⟩ := hk y (Array.mem_toList_iff.mp hy)
      simp [DictEntry.refKey, hkey]
    have a' : ¬ es.toList.any (·.refKey) = true := by rw [a]; exact Bool.false_ne_true
    rw [if_neg a']
    exact congrArg some e

theorem ObjM.look {h : Heap} {x dx C : Addr} {mA : Str → Option Value} (I : ObjM h x dx C mA) : ∃ od, PySem.W.InstAt h x (PySem.W.instObj C dx) C (some od) ∧ ∀ name, PySem.W.lookIn name od = some (mA name) :=
  let ⟨od, ho, hl⟩ := lookIn_ns I.ns
  ⟨od, ⟨I.obj, rfl, rfl, ho⟩, hl⟩

section
variable {prog : Program} {w : World} {A : Around} {E : Value → Shared → Prop} {s : Shared} {K : PySem.W.Frag} {x dx C f : Addr} {mA : Str → Option Value} {name : Str} {v : Value}

end

/-! ### the attributes as a list of pairs -/

theorem RelO.some_of {v : V} {o : Option Value} (r : RelO (some v) o) : ∃ u, o = some u ∧ RelV v u := by
  cases o with
  | none => exact (show False from r).elim
  | some u => exact ⟨u, rfl, r⟩

section
variable {P : Program} {w : World} {H H' : Hp} {h h' : Heap} {a C dx : Addr} {fs fs' : List (Str × V)}
theorem ins_get (hok : HOk P w H h) (e : H a = some (.ins C dx fs)) : ∃ mA, ObjM h a dx C mA ∧ (∀ f, RelO (fs.lookup f) (mA f)) ∧ PySem.Within mA (fs.map (·.1)) ∧ fs.length ≤ 1000 ∧ H dx = some (.own a) := by
  obtain ⟨d, z, ne, ob, mA, n, r, q⟩ := (show ObjOk P w H h a (.ins C dx fs) from hok a _ e)
  exact ⟨mA, ⟨ob, n, ne⟩, r, q, z, d⟩
end

/-! ### what of the text a class must have -/
structure Cls (K : PySem.W.Frag) (C : Addr) : Prop where
  pg : PySem.W.plainGet K C Str.empty = true
  hd : PySem.W.hasDictIn K C = true
  po : PySem.W.plainOver K C = true
  sa : PySem.W.findIn K (.ref C) "__setattr__" = some (some (.builtin "object.__setattr__"))
theorem Cls.get {K : PySem.W.Frag} {C : Addr} (c : Cls K C) (f : Str) : PySem.W.plainGet K C f = true := c.pg

section
variable {X : Cx} {pins : List (Addr × Obj)} {σ : St} {H : Hp} {s : Shared} {a C dx : Addr} {fs : List (Str × V)} {f : Str} {v : V} {A : Around} {E : Value → Shared → Prop}

end

/-! ### readings and rules -/

section
variable {X : Cx} {o e value : Expr} {f : Str} {pos pos' tpos : Pos} {ta tv : TE}

end

/-! ### isinstance -/
section
variable {X : Cx} {pins : List (Addr × Obj)} {σ : St} {H : Hp} {s : Shared} {A : Around} {E : Value → Shared → Prop} {Q : Value → Shared → Prop} {c : Value} {b : Bool}
/-- the type of a value, as the fragment's deciders take it; for an instance its class -/
inductive TyOf (K : PySem.W.Frag) (H : Hp) : V → Value → Prop where
  | non : TyOf K H .non (.type "NoneType")
  | bl (x : Bool) : TyOf K H (.bl x) (.type "bool")
  | int (i : Int) : TyOf K H (.int i) (.type "int")
  | str (x : Str) : TyOf K H (.str x) (.type "str")
  | flt (x : UInt64) : TyOf K H (.flt x) (.type "float")
  | lst {a : Addr} {xs : List V} (e : H a = some (.lst xs)) : TyOf K H (.ref a) (.type "list")
  | frz {a : Addr} {o : Obj} {xs : List V} (e : H a = some (.frz o (.lst xs))) : TyOf K H (.ref a) (.type "list")
  | tup {a : Addr} {xs : List V} (e : H a = some (.tup xs)) : TyOf K H (.ref a) (.type "tuple")
  | dK {a : Addr} {kvs : List (Key × V)} (e : H a = some (.dK kvs)) : TyOf K H (.ref a) (.type "dict")
  | dT {a : Addr} {kvs : List (List Key × V)} (e : H a = some (.dT kvs)) : TyOf K H (.ref a) (.type "dict")
  | ins {a C dx : Addr} {fs : List (Str × V)} (e : H a = some (.ins C dx fs)) (cl : Cls K C) (ha : PySem.W.findIn K (.ref C) "__class__" = some (some (.builtin "object.__class__")))
      (hn : PySem.W.specialIn K (.builtin "object.__class__") "__get__" = some (some (.builtin "getset_descriptor.__get__"))) (htk : PySem.W.takesIn K (.builtin "object.__class__") = some true)
      (hm : PySem.W.mroIn K C (.type "object") = some true) : TyOf K H (.ref a) (.ref C)
/-- isinstance(x, c) for one class c, a built-in or an own one: kitOne's answer -/
theorem isinst_ok {x : V} {u t : Value} (I : Inv X pins σ H s) (rx : RelV x u) (ty : TyOf X.K H x t) (e : PySem.W.kitOne X.K t c = some b) (h : ∀ tk, Q (.bool b) { s with toks := tk }) :
    wpAny (model X.prog X.w) A (call (.builtin "isinstance") [u, c]) Q E s := by
  cases ty with
  | non => cases (show u = Value.none from rx); exact PySem.W.kia_one PySem.W.kitx_none I.kIn True.intro e (fun z => nomatch z) h
  | bl y => cases (show u = Value.bool y from rx); exact PySem.W.kia_one PySem.W.kitx_bool I.kIn True.intro e (fun z => nomatch z) h
  | int i => obtain ⟨t, q⟩ := (show ∃ t, u = Value.int i t from rx); cases q; exact PySem.W.kia_one PySem.W.kitx_int I.kIn True.intro e (fun z => nomatch z) h
  | str y => obtain ⟨t, q⟩ := (show ∃ t, u = Value.str y t from rx); cases q; exact PySem.W.kia_one PySem.W.kitx_str I.kIn True.intro e (fun z => nomatch z) h
  | flt y => obtain ⟨t, q⟩ := (show ∃ t, u = Value.float y t from rx); cases q; exact PySem.W.kia_one PySem.W.kitx_float I.kIn True.intro e (fun z => nomatch z) h
  | @lst a xs ea =>
    cases (show u = Value.ref a from rx)
    obtain ⟨_, _, n, _, h1⟩ := (show ObjOk X.prog X.w H s.heap a (.lst xs) from I.hok a _ ea)
    exact PySem.W.kia_one PySem.W.kitx_list I.kIn ⟨_, h1, rfl⟩ e (fun z => nomatch z) h
  | @frz a ob xs ea =>
    cases (show u = Value.ref a from rx)
    obtain ⟨_, _, _, n, _, h1⟩ := (show ObjOk X.prog X.w H s.heap a (.frz ob (.lst xs)) from I.hok a _ ea)
    exact PySem.W.kia_one PySem.W.kitx_list I.kIn ⟨_, h1, rfl⟩ e (fun z => nomatch z) h
  | @tup a xs ea =>
    cases (show u = Value.ref a from rx)
    obtain ⟨_, _, _, p⟩ := (show ObjOk X.prog X.w H s.heap a (.tup xs) from I.hok a _ ea)
    obtain ⟨o, h1, h2, _⟩ := p
    exact PySem.W.kia_one PySem.W.kitx_tuple I.kIn ⟨o, h1, h2⟩ e (fun z => nomatch z) h
  | @dK a kvs ea =>
    cases (show u = Value.ref a from rx)
    obtain ⟨_, _, vs, _, p⟩ := (show ObjOk X.prog X.w H s.heap a (.dK kvs) from I.hok a _ ea)
    obtain ⟨o, es, ep, h1, h2, _⟩ := p
    exact PySem.W.kia_one PySem.W.kitx_dict I.kIn ⟨o, h1, h2.1⟩ e (fun z => nomatch z) h
  | @dT a kvs ea =>
    cases (show u = Value.ref a from rx)
    obtain ⟨_, _, xs, _, o, es, ep, h1, h2, _⟩ := (show ObjOk X.prog X.w H s.heap a (.dT kvs) from I.hok a _ ea)
    exact PySem.W.kia_one PySem.W.kitx_dict I.kIn ⟨o, h1, h2.1⟩ e (fun z => nomatch z) h
  | @ins a C dx fs ea cl ha hn htk hm =>
    cases (show u = Value.ref a from rx)
    obtain ⟨mA, O, _⟩ := ins_get I.hok ea
    obtain ⟨od, J, _⟩ := O.look
    exact PySem.W.kia_one (PySem.W.kitx_own (cl.get _) cl.hd ha hn htk hm) I.kIn J e (fun z => nomatch z) h
end
end L2

namespace L2
open PySem PySem.Spec PyProof.Rows

/-! ### room -/
structure Room (k : Nat) (A : Around) : Prop where
  hd : A.handled = none
  dp : A.depth + 3 * k + 5 < recursionLimit
  un : A.units + 16 * k + 200 < cLine
theorem Room.mono {j k : Nat} {A : Around} (r : Room k A) (h : j ≤ k) : Room j A := ⟨r.hd, by have := r.dp; omega, by have := r.un; omega⟩
theorem Room.deeper {k : Nat} {A : Around} (r : Room (k + 1) A) (env : Env) : Room k (A.deeper env) :=
  ⟨r.hd, by have := r.dp; show A.depth + 1 + 3 * k + 5 < _; omega, by have := r.un; show A.units + 3 + 16 * k + 200 < _; omega⟩
theorem Room.depth {k : Nat} {A : Around} (r : Room k A) : A.depth < recursionLimit := by have := r.dp; omega
theorem Room.units {k : Nat} {A : Around} (r : Room k A) : A.units + 64 < cLine := by have := r.un; omega

/-! ### argument lists and displays -/
def tNil : TA := fun _ H Q => Q [] H
def tCons (ta : TE) (tr : TA) : TA := fun σ H Q => ta σ H fun x H1 => tr σ H1 fun xs H2 => Q (x :: xs) H2
section
variable {X : Cx} {e : Expr} {es : List Expr} {te : TE} {t : TA} {pos : Pos}
theorem pa_nil : PA X [] tNil := fun _ _ _ _ H Q I h => Calls.spliced_nil ⟨[], H, I, .nil, h⟩
theorem pa_cons (ha : PE X e te) (hr : PA X es t) (hs : starEach (e :: es) X.env = (false, eval e X.env) :: starEach es X.env := by rfl) : PA X (e :: es) (tCons te t) := by
  intro pos pins s σ H Q I h
  rw [hs]
  show wpAny _ _ (spliced ((false, eval e X.env) :: backTo pos (starEach es X.env))) _ _ s
  refine Calls.spliced_cons (thn (ha pins s σ H _ I h) fun u s1 ⟨x, H1, I1, r1, q1⟩ => ?_)
  exact thn (hr pos pins s1 σ H1 _ I1 q1) fun us s2 ⟨xs, H2, I2, r2, q2⟩ => ⟨x :: xs, H2, I2, .cons r1 r2, q2⟩

/-- a tuple, a list of written items -/
def tTup (t : TA) : TE := fun σ H Q => t σ H fun xs H1 => xs.length ≤ sizeLine ∧ ∀ p, H1 p = none → Q (.ref p) (upd H1 p (.tup xs))
def tLst (t : TA) : TE := fun σ H Q => t σ H fun xs H1 => xs.length ≤ sizeLine ∧ ∀ p, H1 p = none → Q (.ref p) (upd H1 p (.lst xs))
theorem pe_tup {x1} (h : PA X es t) : PE X (.Tuple es x1 pos) (tTup t) := by
  intro pins s σ H Q I hq
  refine wpAny_Tuple_spliced (thn (h pos pins s σ H _ I hq) fun us s1 ⟨xs, H1, I1, r, z, q⟩ => ⟨by rw [← r.length]; exact z, ?_⟩)
  have hf : H1 s1.heap.objs.size = none := I1.hok.fresh (Nat.le_refl _)
  refine ⟨.ref s1.heap.objs.size, upd H1 s1.heap.objs.size (.tup xs), I1.laid (t' := s1.toks) (fun b u e => Heap.get?_push_of_some _ e) (Nat.le_refl _) ?_, rfl, q _ hf⟩
  exact ⟨z, us, r, ⟨_, Heap.get?_push_size _ rfl, rfl, _, rfl⟩⟩
theorem pe_lst (h : PA X es t) : PE X (.List es pos) (tLst t) := by
  intro pins s σ H Q I hq
  refine wpAny_List_spliced (thn (h pos pins s σ H _ I hq) fun us s1 ⟨xs, H1, I1, r, z, q⟩ => ⟨by rw [← r.length]; exact z, ?_⟩)
  have hf : H1 s1.heap.objs.size = none := I1.hok.fresh (Nat.le_refl _)
  refine ⟨.ref s1.heap.objs.size, upd H1 s1.heap.objs.size (.lst xs), I1.laid (t' := s1.toks) (fun b u e => Heap.get?_push_of_some _ e) (Nat.le_refl _) ?_, rfl, q _ hf⟩
  exact ⟨z, us, 0, r, Heap.get?_push_size _ rfl⟩
end

/-! ### what a def promises -/
/-- a def's promise: the bound arguments in the parameters' order, the heap, the wanted end, the wanted exception -/
abbrev Sp := List V → Hp → VK → XK → Prop
/-- how an exception lies behind a call (file 08 gives it): the callers' frames, abstract heap and state ahead of the call, the wish, the exception, the state -/
abbrev CXT := List Env → Hp → Shared → XK → Value → Shared → Prop

/-- the state at a call -/
structure Env0 (P : Program) (w : World) (K : PySem.W.Frag) (mg : Str → Option Value) (base : Heap) (A : Around) (outer : List Env) (s : Shared) (H : Hp) : Prop where
  frames : A.frames = some outer
  mod : Mod K mg base
  bs : ∀ b o, base.get? b = some o → s.heap.get? b = some o ∧ H b = none
  bsz : base.objs.size ≤ s.heap.objs.size
  funs : s.heap.FunFrames base outer
  frf : ∀ b ∈ frs outer, H b = none
  hok : HOk P w H s.heap
  bare : AllBare s.gens
/-- a call's end -/
def CE (outer : List Env) (P : Program) (w : World) (H : Hp) (s : Shared) (Q : VK) (u : Value) (s' : Shared) : Prop :=
  ∃ v H', s'.os = s.os ∧ AllBare s'.gens ∧ Un (frs outer) [] H H' s.heap s'.heap ∧ HOk P w H' s'.heap ∧ RelV v u ∧ Q v H'
def CR (CX : CXT) (outer : List Env) (P : Program) (w : World) (H : Hp) (s : Shared) (Q : VK) (E : XK) (r : Result) (s' : Shared) : Prop :=
  match r with
  | .ok (.ret u) => CE outer P w H s Q u s'
  | .ok _ => False
  | .error e => CX outer H s E e s'
structure FnOk (P : Program) (w : World) (K : PySem.W.Frag) (mg : Str → Option Value) (base : Heap) (CX : CXT) (k : Nat) (f : Addr) (fd : FuncData) (ps : List Str) (sp : Sp) : Prop where
  len : ∀ vs H Q E, sp vs H Q E → vs.length = ps.length
  run : ∀ (A : Around) (outer : List Env) (s : Shared) (H : Hp) (args : Args) (us : List Value) (vs : List V) (Q : VK) (E : XK), Room k A → Env0 P w K mg base A outer s H → BindsTo s fd args (ps.zip us) → Vals vs us → sp vs H Q E →
    codeAny (model P w) A (.call (.ref f) args) (CR CX outer P w H s Q E) s

section
variable {X : Cx} {pins : List (Addr × Obj)} {σ : St} {H : Hp} {s s' : Shared}
/-- from a body: what a callee wants -/
theorem Inv.env0 (I : Inv X pins σ H s) : Env0 X.prog X.w X.K X.mg X.base X.A X.stack s H :=
  ⟨I.ok.frames, I.ok.mod, I.bs, Nat.le_trans I.ok.bsz I.sz, I.stack, I.stkFree, I.hok, I.bare⟩
/-- behind a call -/
theorem Inv.after {Q : VK} {u : Value} (I : Inv X pins σ H s) (h : CE X.stack X.prog X.w H s Q u s') : EP X pins σ Q u s' := by
  obtain ⟨v, H', os, bare, un, hok, r, q⟩ := h
  obtain ⟨hh, g, d, t, os'⟩ := s'
  obtain rfl : os' = s.os := os
  exact ⟨v, H', I.call (h' := hh) (g' := g) (d' := d) (t' := t) (ch := []) un hok bare (fun b z => absurd z (by simp)), r, q⟩
end

/-! ### calls -/
/-- f(..): the written arguments, then the defaults dvs; E: what is wanted of an exception -/
def tCall (sp : Sp) (dvs : List V) (E : XK) (t : TA) : TE := fun σ H Q => t σ H fun vs H1 => sp (vs ++ dvs) H1 Q E

/-- how the parameters are bound: us the positional arguments, kw the keywords' values by name, ds the defaults that fill up -/
def Binds (K : PySem.W.Frag) (fd : FuncData) (ps : List Str) (ds : List Value) : Prop :=
  ∀ (s : Shared) (us : List Value), K.In s.heap → (us ++ ds).length = ps.length → BindsTo s fd ⟨us, []⟩ (ps.zip (us ++ ds))
/-- every parameter is given -/
theorem Binds.all {K : PySem.W.Frag} {fd : FuncData} {ps : List Str} (h : ∀ us : List Value, us.length = ps.length → bindArgs fd ⟨us, []⟩ = pure (ps.zip us)) : Binds K fd ps [] := fun s us _ hl => by
  rw [List.append_nil] at hl ⊢
  exact .of_eq (h us hl)

/-- an exception of a callee reaches what this body wants of exceptions -/
def Passes (CX : CXT) (X : Cx) (E : XK) : Prop := ∀ (pins : List (Addr × Obj)) (σ : St) (H : Hp) (s : Shared) (e : Value) (s' : Shared), Inv X pins σ H s → CX X.stack H s E e s' → X.xe e s'

section
variable {X : Cx} {CX : CXT} {k : Nat} {f C : Addr} {fd : FuncData} {ps : List Str} {sp : Sp} {dvs : List V} {ds : List Value} {E : XK} {x m : Str} {p pos apos : Pos} {e o : Expr} {es : List Expr} {ta : TE} {t : TA}

/-- the callee runs -/
theorem run_fn {pins : List (Addr × Obj)} {σ : St} {H : Hp} {s : Shared} {Q : VK} {us : List Value} {vs : List V} (F : FnOk X.prog X.w X.K X.mg X.base CX k f fd ps sp) (hr : Room k X.A) (hb : Binds X.K fd ps ds) (hd : Vals dvs ds) (hx : Passes CX X E)
    (I : Inv X pins σ H s) (r : Vals vs us) (h : sp (vs ++ dvs) H Q E) : wpAny (model X.prog X.w) X.A (call (.ref f) us) (EP X pins σ Q) X.xe s := by
  have r2 : Vals (vs ++ dvs) (us ++ ds) := r.append hd
  have hl : (us ++ ds).length = ps.length := by rw [← r2.length]; exact F.len _ _ _ _ h
  refine wpAny_call (codeAny_mono (F.run X.A X.stack s H ⟨us, []⟩ (us ++ ds) (vs ++ dvs) Q E hr I.env0 (hb s us I.kIn hl) r2 h) fun r s' hq => ?_)
  cases r with
  | error e => exact hx pins σ H s e s' I hq
  | ok fl =>
    cases fl with
    | ret u => exact I.after hq
    | next => exact False.elim hq
    | brk => exact False.elim hq
    | cont => exact False.elim hq

theorem pe_call (F : FnOk X.prog X.w X.K X.mg X.base CX k f fd ps sp) (hr : Room k X.A) (hg : Gl X x) (hm : X.mg x = some (.ref f)) (hk : PySem.W.keepIn X.K (.ref f) = true) (hb : Binds X.K fd ps ds) (hd : Vals dvs ds) (hx : Passes CX X E)
    (ha : PA X (e :: es) t) (hdb : (x == ("__debug__" : Str)) = false := by decide) (he : starEach (e :: es) X.env = (false, eval e X.env) :: starEach es X.env := by rfl) (hpl : (backTo pos (starEach es X.env)).any (·.1) = false := by rfl) :
    PE X (.Call (.Name x p) (e :: es) [] pos) (tCall sp dvs E t) := by
  intro pins s σ H Q I h
  refine wpAny_Call_Name_kw (ld_glob I hg hm ?_ hdb)
  refine PySem.W.callWith_K (h₀ := X.base) I.ok.mod.kin hk (thn (ha pos pins s σ H _ I h) fun us s1 ⟨vs, H1, I1, r, q⟩ => ⟨I1.kIn, ?_⟩) he hpl
  exact run_fn F hr hb hd hx I1 r q
theorem pe_call0 (F : FnOk X.prog X.w X.K X.mg X.base CX k f fd ps sp) (hr : Room k X.A) (hg : Gl X x) (hm : X.mg x = some (.ref f)) (hk : PySem.W.keepIn X.K (.ref f) = true) (hb : Binds X.K fd ps ds) (hd : Vals dvs ds) (hx : Passes CX X E)
    (hdb : (x == ("__debug__" : Str)) = false := by decide) : PE X (.Call (.Name x p) [] [] pos) (tCall sp dvs E tNil) := by
  intro pins s σ H Q I h
  refine wpAny_Call_Name_kw (ld_glob I hg hm ?_ hdb)
  exact PySem.W.callWith_K0 I.kIn hk (run_fn (us := []) F hr hb hd hx I .nil h)

end

/-! ### keywords -/
section
variable {X : Cx} {CX : CXT} {k : Nat} {f C : Addr} {fd : FuncData} {ps ks : List Str} {sp : Sp} {E : XK} {x m : Str} {p pos apos kpos : Pos} {e o : Expr} {es : List Expr} {kws : List Keyword} {te ta : TE} {t tk : TA} {nm : Option Str}

variable {g : List Value → List Value → List Value} {gV : List V → List V → List V}
end

/-! ### a def's body keeps its promise -/
/-- names: the parameters first -/
structure FnScope (N P : List Str) (sc : Scope) : Prop where
  kind : sc.kind = .function
  co : sc.isCoroutine = false
  gen : sc.isGenerator = false
  nd : N.Nodup
  pre : N.take P.length = P
  par : ∀ x ∈ P, sc.names.lookup x = some .local ∨ sc.names.lookup x = some .cell
  nofree : ∀ y ∈ sc.names, y.2 ≠ .free

theorem bindL_out {kindOf : Str → Option NameKind} {x : Str} : ∀ {binds : List (Str × Value)} {m : Str → Option Value}, (∀ v, (x, v) ∉ binds) → bindL kindOf binds m x = m x
  | [], _, _ => rfl
  | (n, v) :: r, m, h => by
    unfold bindL
    rw [bindL_out fun w hw => h w (List.mem_cons_of_mem _ hw)]
    split
    · have : x ≠ n := by rintro rfl; exact h v List.mem_cons_self
      simp [this]
    · rfl
theorem bindC_out {kindOf : Str → Option NameKind} {x : Str} : ∀ {binds : List (Str × Value)} {m : Str → Option Value}, (∀ v, (x, v) ∉ binds) → bindC kindOf binds m x = m x
  | [], _, _ => rfl
  | (n, v) :: r, m, h => by
    unfold bindC
    rw [bindC_out fun w hw => h w (List.mem_cons_of_mem _ hw)]
    split
    · rfl
    · have : x ≠ n := by rintro rfl; exact h v List.mem_cons_self
      simp [this]
theorem bindL_get {kindOf : Str → Option NameKind} {x : Str} {v : Value} : ∀ {P : List Str} {vs : List Value} {i : Nat} {m : Str → Option Value}, P.Nodup → P[i]? = some x → vs[i]? = some v → kindOf x = some .local →
    bindL kindOf (P.zip vs) m x = some v
  | [], _, _, _, _, h, _, _ => by simp at h
  | _ :: _, [], _, _, _, _, h, _ => by simp at h
  | p :: P, w :: vs, 0, m, nd, h1, h2, hk => by
    simp at h1 h2; subst h1; subst h2
    show bindL kindOf ((p, w) :: P.zip vs) m p = _
    unfold bindL
    rw [bindL_out fun v hv => (List.nodup_cons.mp nd).1 (List.of_mem_zip hv).1, if_pos hk]
    simp
  | p :: P, w :: vs, i + 1, m, nd, h1, h2, hk => by
    show bindL kindOf ((p, w) :: P.zip vs) m x = _
    unfold bindL
    exact bindL_get (i := i) (List.nodup_cons.mp nd).2 (by simpa using h1) (by simpa using h2) hk
theorem bindC_get {kindOf : Str → Option NameKind} {x : Str} {v : Value} : ∀ {P : List Str} {vs : List Value} {i : Nat} {m : Str → Option Value}, P.Nodup → P[i]? = some x → vs[i]? = some v → kindOf x ≠ some .local →
    bindC kindOf (P.zip vs) m x = some v
  | [], _, _, _, _, h, _, _ => by simp at h
  | _ :: _, [], _, _, _, _, h, _ => by simp at h
  | p :: P, w :: vs, 0, m, nd, h1, h2, hk => by
    simp at h1 h2; subst h1; subst h2
    show bindC kindOf ((p, w) :: P.zip vs) m p = _
    unfold bindC
    rw [bindC_out fun v hv => (List.nodup_cons.mp nd).1 (List.of_mem_zip hv).1, if_neg hk]
    simp
  | p :: P, w :: vs, i + 1, m, nd, h1, h2, hk => by
    show bindC kindOf ((p, w) :: P.zip vs) m x = _
    unfold bindC
    exact bindC_get (i := i) (List.nodup_cons.mp nd).2 (by simpa using h1) (by simpa using h2) hk

/-- the names' values at the entry -/
def start (N : List Str) (vs : List V) : St := vs.map some ++ List.replicate (N.length - vs.length) none

/-- the context of a def's body, at its entry; an exception leaves the frame, then lies as CX says -/
def cxOf (CX : CXT) (P : Program) (w : World) (K : PySem.W.Frag) (mg : Str → Option Value) (base : Heap) (N : List Str) (qual : Str) (scope : Scope) (f : Addr) (cd : Value) (A : Around) (outer : List Env) (s : Shared) (H : Hp) (E : XK) : Cx where
  prog := P
  w := w
  K := K
  mg := mg
  base := base
  A := A.deeper (envOfC qual scope s.heap.objs.size f cd)
  N := N
  s₀ := s
  H₀ := H
  env := envOfC qual scope s.heap.objs.size f cd
  outer := outer
  stack := envOfC qual scope s.heap.objs.size f cd :: outer
  ex := []
  calm := true
  fn := fun _ => true
  pn := []
  xe := fun e s' => wpAny (model P w) (A.deeper (envOfC qual scope s.heap.objs.size f cd)) (leaving (envOfC qual scope s.heap.objs.size f cd) e) (fun _ s'' => CX outer H s E e s'') (fun e' s'' => CX outer H s E e' s'') s'

theorem cell_has {sc : Scope} {n : Nat} {x : Str} (h : sc.names.lookup x = some .cell) : ∃ c, (cellsFrom n sc.names []).lookup x = some c := by
  have q := PySem.W.cellsFrom_some sc.names n [] (.inl h)
  exact Option.isSome_iff_exists.mp q

theorem inv_start {CX : CXT} {P : Program} {w : World} {K : PySem.W.Frag} {mg : Str → Option Value} {base : Heap} {N ps : List Str} {qual : Str} {scope : Scope} {f : Addr} {cd : Value} {A : Around} {outer : List Env} {s s1 : Shared} {H : Hp} {E : XK} {us : List Value} {vs : List V}
    (S : FnScope N ps scope) (hd : A.handled = none) (e0 : Env0 P w K mg base A outer s H) (hl : vs.length = ps.length) (r : Vals vs us)
    (x : InCallC s s.heap.objs.size (bindL (envOfC qual scope s.heap.objs.size f cd).kindOf (ps.zip us) fun _ => none) (cellsFrom (s.heap.objs.size + 1) scope.names []) (bindC (envOfC qual scope s.heap.objs.size f cd).kindOf (ps.zip us) fun _ => none) s1) :
    Inv (cxOf CX P w K mg base N qual scope f cd A outer s H E) [] (start N vs) H s1 := by
  have hpl : ps.length ≤ N.length := by have := congrArg List.length S.pre; rw [List.length_take] at this; omega
  obtain ⟨h1, tk, rfl, hk⟩ := x.done
  have noA : ∀ b : Addr, b ∉ (cxOf CX P w K mg base N qual scope f cd A outer s H E).ex := fun b z => absurd (show b ∈ ([] : List Addr) from z) (by simp)
  refine ⟨⟨e0.mod, S.kind, rfl, rfl, Nat.le_refl _, fun y z c h1 h2 => ?_, fun y hy => ?_, fun y c _ h => ?_, fun _ => hd, Around.frames_deeper e0.frames, .inr ⟨rfl, rfl⟩, fun b z => absurd z (noA b), e0.bs, e0.bsz, fun b _ _ => noA b, fun b z => absurd z (noA b), e0.funs, e0.frf⟩,
    rfl, e0.bare, Un.kept hk, ⟨_, x.toInCall.ns, fun i y v h1 h2 h3 => ?_⟩, fun y c h => ⟨_, x.cell y c h⟩, e0.hok.fresh (Nat.le_refl _), fun y c h => ?_, fun p hp => absurd (show p ∈ ([] : List (Addr × Obj)) from hp) (by simp), e0.hok.kept hk, ?_⟩
  · exact name_of_addr x.apart (PySem.mem_of_lookup h1) (PySem.mem_of_lookup h2)
  · have hy : scope.names.lookup y = some .cell ∨ scope.names.lookup y = some .free := hy
    rcases hy with hy | hy
    · exact cell_has hy
    · exact absurd rfl (S.nofree _ (PySem.mem_of_lookup hy))
  · exact Nat.le_of_lt (x.above y c (PySem.mem_of_lookup h))
  · have hi : i < vs.length := by
      unfold start at h2
      by_cases hi : i < vs.length
      · exact hi
      · rw [List.getElem?_append_right (by simpa using hi)] at h2
        rw [List.getElem?_replicate] at h2
        split at h2 <;> cases h2
    have ha : vs[i]? = some v := by
      unfold start at h2
      rw [List.getElem?_append_left (by simpa using hi), List.getElem?_map] at h2
      cases e : vs[i]? with
      | none => rw [e] at h2; cases h2
      | some a => rw [e] at h2; cases h2; rfl
    obtain ⟨u, hu, rv⟩ := r.get ha
    have hp : ps[i]? = some y := by
      rw [← S.pre, List.getElem?_take_of_lt (by omega)]; exact h1
    have ndP : ps.Nodup := by rw [← S.pre]; exact S.nd.sublist (List.take_sublist _ _)
    refine ⟨u, rv, ?_⟩
    rcases S.par y (List.mem_of_getElem? hp) with k | k
    · exact .inl ⟨k, bindL_get ndP hp hu k⟩
    · obtain ⟨c, e⟩ := cell_has (n := s.heap.objs.size + 1) k
      refine .inr ⟨.inl k, c, e, ?_⟩
      have q := x.cell y c e
      rw [bindC_get ndP hp hu (by show scope.names.lookup y ≠ _; rw [k]; decide)] at q
      exact q
  · exact e0.hok.fresh (Nat.le_of_lt (x.above y c (PySem.mem_of_lookup h)))
  · unfold start
    show _ = N.length
    rw [List.length_append, List.length_map, List.length_replicate]
    omega

/-- THE RULE: a def (or a method) of the text, by its body. The body's reading t is chosen for each entry; it is run at the parameters' values -/
theorem fn_of {CX : CXT} {P : Program} {w : World} {K : PySem.W.Frag} {mg : Str → Option Value} {base : Heap} {k : Nat} {f : Addr} {name qual : Str} {params : Arguments} {body : List Stmt} {scope : Scope} {dV kV doc pm cdv ct oc : Value} {an od : Option Addr}
    {osl : Array (Option Value)} {N ps : List Str} {sp : Sp} (lk : K.lookup f = some ⟨oc, od, .func (PySem.W.fnOf name qual params body scope dV kV doc pm an cdv ct), osl⟩) (hcd : PySem.W.codeIn K cdv qual = true) (S : FnScope N ps scope)
    (len : ∀ vs H Q E, sp vs H Q E → vs.length = ps.length)
    (hbody : ∀ (A : Around) (outer : List Env) (s : Shared) (H : Hp) (vs : List V) (Q : VK) (E : XK), Room k (A.deeper (envOfC qual scope s.heap.objs.size f cdv)) → sp vs H Q E →
      ∃ t, PSs (cxOf CX P w K mg base N qual scope f cdv A outer s H E) body t ∧ t { nx := fun _ H' => Q .non H', rt := Q } (start N vs) H) :
    FnOk P w K mg base CX (k + 1) f (PySem.W.fnOf name qual params body scope dV kV doc pm an cdv ct) ps sp := by
  refine ⟨len, fun A outer s H args us vs Q E hr e0 hb r hsp => ?_⟩
  have hl := len _ _ _ _ hsp
  have KX : K.In s.heap := e0.mod.kin.keeps fun b o e => (e0.bs b o e).1
  have lim : s.heap.NoLimit := e0.mod.nolimit.keeps fun b o e => (e0.bs b o e).1
  have hkind : ∀ y ∈ ps.zip us, scope.names.lookup y.1 = some .local ∨ (scope.names.lookup y.1 = some .cell ∧ ((cellsFrom (s.heap.objs.size + 1) scope.names []).lookup y.1).isSome = true) := fun ⟨n, v⟩ hy => by
    rcases S.par n (List.of_mem_zip hy).1 with q | q
    · exact .inl q
    · exact .inr ⟨q, PySem.W.cellsFrom_some _ _ _ (.inl q)⟩
  refine codeAny_call_function hr.depth (KX _ _ lk) rfl S.co S.gen rfl (PySem.W.codeRec_of KX hcd) (hb _ _ _ _ ?_)
  refine wpAny_newFunctionEnv_cells S.kind hkind fun env he s1 x => ?_
  subst he
  refine ⟨lim.keeps x.toInCall.keep, codeAny_func ?_⟩
  obtain ⟨t, ht, hq⟩ := hbody A outer s H vs Q E (hr.deeper _) hsp
  have I : Inv (cxOf CX P w K mg base N qual scope f cdv A outer s H E) [] (start N vs) H s1 := inv_start S hr.hd e0 hl r x
  refine wpAny_mono (ht [] s1 (start N vs) H _ I hq) (fun fl s' hs => ?_) fun e s' hs => hs
  have fin : ∀ {σ' : St} {H' : Hp} {v : V} {u : Value}, Inv (cxOf CX P w K mg base N qual scope f cdv A outer s H E) [] σ' H' s' → RelV v u → Q v H' → CE outer P w H s Q u s' :=
    fun {σ' H' v u} J rv q => ⟨v, H', J.os, J.bare, J.base, J.hok, rv, q⟩
  cases fl with
  | ret u =>
    obtain ⟨v, σ', H', J, rv, q⟩ := hs
    exact fin J rv q
  | next =>
    obtain ⟨σ', H', J, q⟩ := hs
    exact fin (v := V.non) (u := Value.none) J rfl q
  | brk =>
    obtain ⟨_, _, _, q⟩ := hs
    exact False.elim q
  | cont =>
    obtain ⟨_, _, _, q⟩ := hs
    exact False.elim q
end L2

namespace L2
open PySem PySem.Spec PyProof.Rows
section
variable {X : Cx} {x : Str} {p pos : Pos} {e : Expr} {es : List Expr} {t : TA} {id T : String} {r : List V → Hp → VK → Prop}

def tCB (r : List V → Hp → VK → Prop) (t : TA) : TE := fun σ H Q => t σ H fun vs H1 => r vs H1 Q
/-- f(e, ..), f a built-in function -/
theorem pe_callB (hc : CallR X (.builtin id) r) (hg : Gl X x) (hm : X.mg x = none) (hv : bootBuiltins x = some (.builtin id)) (ha : PA X (e :: es) t) (hn : x ≠ "__name__" := by decide) (hdb : (x == ("__debug__" : Str)) = false := by decide)
    (he : starEach (e :: es) X.env = (false, eval e X.env) :: starEach es X.env := by rfl) (hpl : (backTo pos (starEach es X.env)).any (·.1) = false := by rfl) : PE X (.Call (.Name x p) (e :: es) [] pos) (tCB r t) := by
  intro pins s σ H Q I h
  refine wpAny_Call_Name_kw (ld_blt I hg hm hv ?_ hn hdb)
  exact PyProof.Rows.callWith_builtin1 (thn (ha pos pins s σ H _ I h) fun us s1 ⟨vs, H1, I1, r1, q1⟩ => hc pins s1 σ H1 vs us Q I1 r1 q1) he hpl
/-- T(e, ..), T a built-in type -/
theorem pe_callTy (hc : CallR X (.type T) r) (hg : Gl X x) (hm : X.mg x = none) (hv : bootBuiltins x = some (.type T)) (ha : PA X (e :: es) t) (hn : x ≠ "__name__" := by decide) (hdb : (x == ("__debug__" : Str)) = false := by decide)
    (he : starEach (e :: es) X.env = (false, eval e X.env) :: starEach es X.env := by rfl) (hpl : (backTo pos (starEach es X.env)).any (·.1) = false := by rfl) : PE X (.Call (.Name x p) (e :: es) [] pos) (tCB r t) := by
  intro pins s σ H Q I h
  refine wpAny_Call_Name_kw (ld_blt I hg hm hv ?_ hn hdb)
  exact PyProof.Rows.callWith_type1 (thn (ha pos pins s σ H _ I h) fun us s1 ⟨vs, H1, I1, r1, q1⟩ => hc pins s1 σ H1 vs us Q I1 r1 q1) he hpl
end
end L2

namespace HT
open PySem PyProof.Rows

/-- t < u of tuples of ints -/
def lexLt : List Int → List Int → Bool
  | [], [] => false
  | [], _ :: _ => true
  | _ :: _, [] => false
  | x :: xs, y :: ys => if x = y then lexLt xs ys else decide (x < y)
theorem lexLt_cons (x y : Int) (xs ys : List Int) : lexLt (x :: xs) (y :: ys) = if x = y then lexLt xs ys else decide (x < y) := rfl

theorem eqAt_int (A : Around) (s : Shared) (a : Int) (t : Tok) (c : Int) (u : Tok) : ∃ e, SeqAt.EqAt A s (.int a t) (.int c u) e ∧ (e = true ↔ a = c) :=
  ⟨(a == c), SeqAt.EqAt.int_int a t c u, by simp⟩
theorem rcLt_int (A : Around) (s : Shared) (a : Int) (t : Tok) (c : Int) (u : Tok) (prog : Program) (w : World) (E : Value → Shared → Prop) (Q : Value → Shared → Prop) (h : Q (.bool (decide (a < c))) s) :
    wpAny (model prog w) A (richCompare .Lt (.int a t) (.int c u)) Q E s :=
  (PyProof.Rows.lt_int h : wpAny (model prog w) A (compareOp .Lt (.int a t) (.int c u)) Q E s)

section
open PySem.SeqAt
open PySem.AutoSeq1 (wpAny_loadPart')
open PySem.MeetsSeq PySem.MeetsSeq2 PySem.MeetsSeq3

end

section
variable {prog : Program} {w : World} {A : Around} {E : Value → Shared → Prop} {s : Shared}

/-! ### t[a:b], not the whole -/
/-- a slice's bound as a place among n (d where it is left out) -/
def sIx (n d : Nat) : Option Int → Nat
  | none => d
  | some v => if v < 0 then (v + (n : Int)).toNat else min v.toNat n

end
end HT

namespace L2
open PySem PySem.Spec PyProof.Rows

/-! ### the parts of a slice -/
abbrev TO := St → Hp → (Option Int → Hp → Prop) → Prop
/-- a slice's part (left out, or an int) -/
def PO (X : Cx) (e : Option Expr) (t : TO) : Prop :=
  ∀ (pins : List (Addr × Obj)) (s : Shared) (σ : St) (H : Hp) (Q : Option Int → Hp → Prop), Inv X pins σ H s → t σ H Q →
    wpAny (model X.prog X.w) X.A (evalPart e X.env) (fun u s' => ∃ o H', Inv X pins σ H' s' ∧ IsPart u o ∧ Q o H') X.xe s
def tNoPart : TO := fun _ H Q => Q none H
def tPart (t : TE) : TO := fun σ H Q => t σ H fun x H1 => ∃ i, x = .int i ∧ Q (some i) H1

theorem intsAre_of {ns : List Int} : ∀ {us : List Value}, Vals (ns.map V.int) us → IntsAre us ns := by
  induction ns with
  | nil => intro us r; rw [List.map_nil] at r; cases r; exact .nil
  | cons n ns ih =>
    intro us r
    rw [List.map_cons] at r
    cases r with
    | cons r1 r2 =>
      obtain ⟨t, e⟩ := r1
      subst e
      exact .cons n t (ih r2)

section
variable {X : Cx} {e : Expr} {te : TE} {lo hi : Option Expr} {tl th : TO} {pos p2 : Pos}

theorem po_none : PO X none tNoPart := by
  intro pins s σ H Q I h
  rw [evalPart_none]
  exact wpAny_pure ⟨none, H, I, .none, h⟩
theorem po_some (h : PE X e te) : PO X (some e) (tPart te) := by
  intro pins s σ H Q I hw
  rw [evalPart_some]
  refine thn (h pins s σ H _ I hw) fun u s1 ⟨x, H1, I1, r1, q1⟩ => ?_
  obtain ⟨i, rfl, q⟩ := q1
  obtain ⟨t, rfl⟩ := r1
  exact ⟨some i, H1, I1, .int i t, q⟩

/-- what a slice of a value is, by values: the slice object stands at sl -/
def SlR (X : Cx) (r : V → Option Int → Option Int → Hp → VK → Prop) : Prop :=
  ∀ (pins : List (Addr × Obj)) (s : Shared) (σ : St) (H : Hp) (x : V) (v vl vu : Value) (lo hi : Option Int) (sl : Addr) (Q : VK), Inv X pins σ H s → RelV x v → s.heap.IsSliceOf sl vl vu .none → IsPart vl lo → IsPart vu hi → r x lo hi H Q →
    ∃ T id, typeLookup (.type T) "__getitem__" = pure (some (.builtin id)) ∧ s.TypeIs v T ∧ wpAny (model X.prog X.w) X.A (getItem v (.ref sl)) (EP X pins σ Q) X.xe s
def tSl (r : V → Option Int → Option Int → Hp → VK → Prop) (te : TE) (tl th : TO) : TE := fun σ H Q => te σ H fun x H1 => tl σ H1 fun l H2 => th σ H2 fun u H3 => r x l u H3 Q
/-- a[lo:hi], any a -/
theorem pe_slice {r : V → Option Int → Option Int → Hp → VK → Prop} (hr : SlR X r) (he : PE X e te) (hl : PO X lo tl) (hu : PO X hi th) : PE X (.Subscript e (.Slice lo hi none p2) pos) (tSl r te tl th) := by
  intro pins s σ H Q I h
  refine Subscript_ (thn (he pins s σ H _ I h) fun v s1 ⟨x, H1, I1, r1, q1⟩ => ?_)
  refine wpAny_Slice (thn (hl pins s1 σ H1 _ I1 q1) fun vl s2 ⟨l, H2, I2, pl, q2⟩ => thn (hu pins s2 σ H2 _ I2 q2) fun vu s3 ⟨u, H3, I3, pu, q3⟩ => ?_)
  rw [evalPart_none]
  refine wpAny_pure ?_
  have I4 : Inv X pins σ H3 { s3 with heap := s3.heap.push { cls := .type "slice", data := .fields #[vl, vu, .none] } } := I3.kept (t' := s3.toks) fun b ob q => Heap.get?_push_of_some _ q
  obtain ⟨T, id, hT, ht, hg⟩ := hr pins { s3 with heap := s3.heap.push { cls := .type "slice", data := .fields #[vl, vu, .none] } } σ H3 x v vl vu l u s3.heap.objs.size Q I4 r1 (Heap.IsSliceOf.new ..) pl pu q3
  show wpAny (model X.prog X.w) X.A (subscriptTail e (.Slice lo hi none p2) v (.ref s3.heap.objs.size)) (EP X pins σ Q) X.xe { s3 with heap := s3.heap.push { cls := .type "slice", data := .fields #[vl, vu, .none] } }
  exact tail_any (ops := [.ref s3.heap.objs.size, v]) ht hT hg (by with_unfolding_all rfl)

/-- the items of xs[lo:hi] -/
def cutV (xs : List V) (lo hi : Option Int) : List V := (xs.drop (HT.sIx xs.length 0 lo)).take (HT.sIx xs.length xs.length hi - HT.sIx xs.length 0 lo)
theorem cutV_length (xs : List V) (lo hi : Option Int) : (cutV xs lo hi).length ≤ xs.length := by
  unfold cutV
  rw [List.length_take, List.length_drop]
  omega

/-! ### t < u, t + u -/
end
end L2

namespace L2
open PySem PySem.Spec PyProof.Rows

/-! ### places -/
/-- the place that an index of any sign means -/
def ixN (n : Nat) (i : Int) : Option Nat := if 0 ≤ i then (if i < n then some i.toNat else none) else if -(n : Int) ≤ i then some (i + n).toNat else none
def atI {α : Type} (xs : List α) (i : Int) : Option α := (ixN xs.length i).bind fun j => xs[j]?
theorem ixN_seq {n : Nat} {i : Int} {j : Nat} (h : ixN n i = some j) : seqIndex? i n = some j ∧ j < n ∧ -(n : Int) ≤ i ∧ i < n := by
  unfold ixN at h
  by_cases h0 : 0 ≤ i
  · rw [if_pos h0] at h
    by_cases h1 : i < n
    · rw [if_pos h1] at h
      have e : i.toNat = j := Option.some.inj h
      exact ⟨by rw [seqIndex_of h0 h1, e], by omega, by omega, h1⟩
    · rw [if_neg h1] at h; cases h
  · rw [if_neg h0] at h
    by_cases h1 : -(n : Int) ≤ i
    · rw [if_pos h1] at h
      have e : (i + n).toNat = j := Option.some.inj h
      exact ⟨by rw [seqIndex_neg (by omega) h1, e], by omega, h1, by omega⟩
    · rw [if_neg h1] at h; cases h
theorem atI_get {α : Type} {xs : List α} {i : Int} {v : α} (h : atI xs i = some v) : ∃ j, seqIndex? i xs.length = some j ∧ xs[j]? = some v ∧ j < xs.length ∧ -(xs.length : Int) ≤ i ∧ i < xs.length := by
  unfold atI at h
  cases e : ixN xs.length i with
  | none => rw [e] at h; cases h
  | some j =>
    rw [e] at h
    obtain ⟨h1, h2, h3, h4⟩ := ixN_seq e
    exact ⟨j, h1, h, h2, h3, h4⟩
theorem atI_nat {α : Type} {xs : List α} {j : Nat} {v : α} (h : xs[j]? = some v) : atI xs (j : Int) = some v := by
  have hj : j < xs.length := (List.getElem?_eq_some_iff.mp h).1
  have e : ixN xs.length (j : Int) = some j := by
    unfold ixN
    rw [if_pos (by omega), if_pos (by omega)]; simp
  unfold atI; rw [e]; exact h

/-! ### what may be subscripted -/
/-- what stands as an index of a plain subscript -/
def PlainIx (b : Expr) : Prop := ∀ o i, subscripted b false o i = operate [o, i] (getItem o i)
/-- a subscript by values -/
def IxR (X : Cx) (r : R2) : Prop :=
  ∀ (value slice : Expr) (pins : List (Addr × Obj)) (s : Shared) (σ : St) (H : Hp) (x y : V) (v u : Value) (Q : VK), Inv X pins σ H s → RelV x v → RelV y u → r x y H Q →
    subscripted slice false v u = operate [v, u] (getItem v u) → wpAny (model X.prog X.w) X.A (subscriptTail value slice v u) (EP X pins σ Q) X.xe s
/-- a call of a builtin's method by values: the receiver, the arguments -/
def MtR (X : Cx) (id : String) (r : V → List V → Hp → VK → Prop) : Prop :=
  ∀ (pins : List (Addr × Obj)) (s : Shared) (σ : St) (H : Hp) (x : V) (xs : List V) (v : Value) (us : List Value) (Q : VK), Inv X pins σ H s → RelV x v → Vals xs us → r x xs H Q →
    wpAny (model X.prog X.w) X.A (call (.builtin id) (v :: us)) (EP X pins σ Q) X.xe s
section
variable {X : Cx} {a b : Expr} {ta tb : TE} {pos : Pos}
/-- a[b] -/
theorem pe_ix {r : R2} (hr : IxR X r) (ha : PE X a ta) (hb : PE X b tb) (hs : PlainIx b) : PE X (.Subscript a b pos) (tOp r ta tb) := by
  intro pins s σ H Q I h
  exact Subscript_ (binT ha hb I h fun v u s2 x y H2 I2 rx ry q => hr a b pins s2 σ H2 x y v u Q I2 rx ry q (hs _ _))

def rIxL (K : PySem.W.Frag) : R2 := fun x y H Q => ∃ p xs i v, x = .ref p ∧ y = .int i ∧ SqL K H p xs ∧ atI xs i = some v ∧ Q v H
def rIxT (K : PySem.W.Frag) : R2 := fun x y H Q => ∃ p xs i v, x = .ref p ∧ y = .int i ∧ SqT K H p xs ∧ atI xs i = some v ∧ Q v H
def rIxS : R2 := fun x y H Q => ∃ z i c, x = .str z ∧ y = .int i ∧ z.length ≤ sizeLine ∧ atI z.cps.toList i = some c ∧ Q (.str ⟨#[c]⟩) H
theorem ix_list : IxR X (rIxL X.K) := by
  intro value slice pins s σ H x y v u Q I rx ry h hs
  obtain ⟨p, xs, i, z, rfl, rfl, hq, he, q⟩ := h
  cases rx
  obtain ⟨t, rfl⟩ := ry
  obtain ⟨its, r, pl, hz⟩ := I.list hq
  obtain ⟨j, h1, h2, h3, h4, h5⟩ := atI_get he
  obtain ⟨w, ew, rw'⟩ := r.get h2
  have hl := r.length
  have hn := line63
  have fin : EP X pins σ Q w s := ⟨z, H, I, rw', q⟩
  by_cases h0 : 0 ≤ i
  · have hj : i.toNat = j := by
      rw [seqIndex_of h0 h5] at h1
      exact Option.some.inj h1
    exact item_listR pl.isList h0 (by omega) (by rw [hj]; simpa using ew) fin hs
  · have hj : (i + (its.toArray.size : Int)).toNat = j := by
      rw [seqIndex_neg (by omega) h4] at h1
      rw [List.size_toArray, ← hl]
      exact Option.some.inj h1
    exact subscriptTail_builtinR (x := w) pl.isList.typeIs slot_list_getitem.lookup
      (wpAny_getItem_list_neg (Q := fun r s' => r = w ∧ EP X pins σ Q r s') pl.isList (by omega) (by rw [List.size_toArray] <;> omega) (by omega) (by rw [hj]; simpa using ew) ⟨rfl, fin⟩) hs
theorem ix_tup : IxR X (rIxT X.K) := by
  intro value slice pins s σ H x y v u Q I rx ry h hs
  obtain ⟨p, xs, i, z, rfl, rfl, hq, he, q⟩ := h
  cases rx
  obtain ⟨t, rfl⟩ := ry
  obtain ⟨its, r, pl, hz⟩ := I.tuple hq
  obtain ⟨j, h1, h2, h3, h4, h5⟩ := atI_get he
  obtain ⟨w, ew, rw'⟩ := r.get h2
  have hl := r.length
  have hn := line63
  have fin : EP X pins σ Q w s := ⟨z, H, I, rw', q⟩
  exact subscriptTail_builtinR (x := w) pl.typeIs slot_tuple_getitem.lookup
    (getItem_tuple (j := j) (Q := fun r s' => r = w ∧ EP X pins σ Q r s') pl (by omega) (by omega) (by rw [List.size_toArray, ← hl]; exact h1) (by simpa using ew) ⟨rfl, fin⟩) hs
theorem ix_str : IxR X rIxS := by
  intro value slice pins s σ H x y v u Q I rx ry h hs
  obtain ⟨z, i, c, rfl, rfl, hz, he, q⟩ := h
  obtain ⟨t, rfl⟩ := rx
  obtain ⟨t', rfl⟩ := ry
  obtain ⟨j, h1, h2, h3, h4, h5⟩ := atI_get he
  have hl : z.cps.toList.length = z.length := by simp [Str.length]
  rw [hl] at h1 h4 h5
  have hn := line63
  exact tail_any (typeIs_str s z t) slot_str_getitem.lookup (getItem_str (c := c) (by
    have e1 : decide (i < -(2 ^ 63 : Int)) = false := decide_eq_false (by omega)
    have e2 : decide (i ≥ 2 ^ 63) = false := decide_eq_false (by omega)
    rw [e1, e2, Bool.or_false]) (by rw [h1]; simpa using h2) ⟨.str ⟨#[c]⟩, H, I.tok _, ⟨_, rfl⟩, q⟩) hs

/-! ### xs[i] = v, any sign -/

/-! ### slices -/
theorem slice_bounds (lo hi : Option Int) (n : Nat) : (sliceBounds lo hi none n).1 = ((HT.sIx n 0 lo : Nat) : Int) ∧ (sliceBounds lo hi none n).2.1 = ((HT.sIx n n hi : Nat) : Int) ∧ (sliceBounds lo hi none n).2.2 = 1 := by
  refine ⟨?_, ?_, rfl⟩
  · cases lo with
    | none => simp [sliceBounds, HT.sIx]
    | some i =>
      simp only [sliceBounds, HT.sIx, Option.getD_none, show (1 : Int) > 0 by decide, if_true]
      by_cases h : i < 0
      · simp only [h, if_true] <;> omega
      · simp only [h, if_false] <;> omega
  · cases hi with
    | none => simp [sliceBounds, HT.sIx]
    | some i =>
      simp only [sliceBounds, HT.sIx, Option.getD_none, show (1 : Int) > 0 by decide, if_true]
      by_cases h : i < 0
      · simp only [h, if_true] <;> omega
      · simp only [h, if_false] <;> omega
theorem slicePick_cut (its : List Value) (lo hi : Option Int) : slicePick its.toArray lo hi none = ((its.drop (HT.sIx its.length 0 lo)).take (HT.sIx its.length its.length hi - HT.sIx its.length 0 lo)).toArray := by
  obtain ⟨h1, h2, h3⟩ := slice_bounds lo hi its.toArray.size
  unfold slicePick
  rw [h1, h2, h3]
  simp only [sliceRange_one, pick_run, List.size_toArray] <;> rfl
/-- xs[lo:hi] of a list: a new list -/
def rSlL (K : PySem.W.Frag) : V → Option Int → Option Int → Hp → VK → Prop := fun x lo hi H Q => ∃ a xs, x = .ref a ∧ SqL K H a xs ∧ ∀ p, H p = none → Q (.ref p) (upd H p (.lst (cutV xs lo hi)))
theorem sl_list : SlR X (rSlL X.K) := by
  intro pins s σ H x v vl vu lo hi sl Q I rx hs pl pu h
  obtain ⟨a, xs, rfl, hx, q⟩ := h
  cases rx
  obtain ⟨its, r, ht, hz⟩ := I.list hx
  have hlen := r.length
  refine ⟨"list", _, slot_list_getitem.lookup, ht.isList.typeIs, ?_⟩
  refine wpAny_getItem_list_slice ht.isList hs pl pu .none (by simp) ?_ (by rw [List.size_toArray] <;> omega)
  rw [slicePick_cut, ← hlen]
  refine ⟨.ref s.heap.objs.size, _, I.laid (t' := s.toks) (o := .lst (cutV xs lo hi)) (fun b ob q => Heap.get?_push_of_some _ q) (Nat.le_refl _) ?_, rfl, q _ (I.hok.fresh (Nat.le_refl _))⟩
  exact ⟨Nat.le_trans (cutV_length xs lo hi) hz, _, 0, (r.drop (HT.sIx xs.length 0 lo)).take (HT.sIx xs.length xs.length hi - HT.sIx xs.length 0 lo), Heap.get?_push_size _ rfl⟩

/-! ### in, not in: flat items -/
def flatV : V → Bool
  | .non => true
  | .bl _ => true
  | .int _ => true
  | .str _ => true
  | _ => false
/-- == of flat values -/
def eqV : V → V → Bool
  | .non, .non => true
  | .bl a, .bl b => a == b
  | .bl a, .int b => (if a then 1 else 0) == b
  | .int a, .bl b => a == (if b then 1 else 0)
  | .int a, .int b => a == b
  | .str a, .str b => a == b
  | _, _ => false
theorem eqAt_V {A : Around} {s : Shared} {y x : V} {u v : Value} (ry : RelV y u) (rx : RelV x v) (fy : flatV y = true) (fx : flatV x = true) : SeqAt.EqAt A s u v (eqV y x) := by
  cases y with
  | non =>
    cases ry
    cases x with
    | non => cases rx; exact SeqAt.EqAt.same _
    | bl b => cases rx; exact SeqAt.EqAt.none_bool b
    | int b => obtain ⟨t, rfl⟩ := rx; exact SeqAt.EqAt.none_int b t
    | str b => obtain ⟨t, rfl⟩ := rx; exact SeqAt.EqAt.none_str b t
    | _ => exact absurd (show false = true from fx) Bool.false_ne_true
  | bl a =>
    cases ry
    cases x with
    | non => cases rx; exact SeqAt.EqAt.bool_none a
    | bl b => cases rx; exact SeqAt.EqAt.bool_bool a b
    | int b => obtain ⟨t, rfl⟩ := rx; exact SeqAt.EqAt.bool_int a b t
    | str b => obtain ⟨t, rfl⟩ := rx; exact SeqAt.EqAt.bool_str a b t
    | _ => exact absurd (show false = true from fx) Bool.false_ne_true
  | int a =>
    obtain ⟨t', rfl⟩ := ry
    cases x with
    | non => cases rx; exact SeqAt.EqAt.int_none a t'
    | bl b => cases rx; exact SeqAt.EqAt.int_bool a t' b
    | int b => obtain ⟨t, rfl⟩ := rx; exact SeqAt.EqAt.int_int a t' b t
    | str b => obtain ⟨t, rfl⟩ := rx; exact SeqAt.EqAt.int_str a t' b t
    | _ => exact absurd (show false = true from fx) Bool.false_ne_true
  | str a =>
    obtain ⟨t', rfl⟩ := ry
    cases x with
    | non => cases rx; exact SeqAt.EqAt.str_none a t'
    | bl b => cases rx; exact SeqAt.EqAt.str_bool a t' b
    | int b => obtain ⟨t, rfl⟩ := rx; exact SeqAt.EqAt.str_int a t' b t
    | str b => obtain ⟨t, rfl⟩ := rx; exact SeqAt.EqAt.str_str a t' b t
    | _ => exact absurd (show false = true from fx) Bool.false_ne_true
  | _ => exact absurd (show false = true from fy) Bool.false_ne_true

/-! ### len, list(x), tuple(x) of any list or tuple that is read -/
theorem call_list_of : CallR X (.type "list") (fun xs H Q => ∃ p ys, xs = [.ref p] ∧ (SqL X.K H p ys ∨ SqT X.K H p ys) ∧ ∀ l, H l = none → Q (.ref l) (upd H l (.lst ys))) := by
  intro pins s σ H xs us Q I r h
  obtain ⟨p, ys, rfl, hq, q⟩ := h
  obtain ⟨u, rfl, rx⟩ := vals1 r
  cases rx
  have fin : ∀ (its : List Value), Vals ys its → ys.length ≤ sizeLine → ∀ (h' : Heap) (c' : Nat), (∀ b o', s.heap.get? b = some o' → h'.get? b = some o') →
      h'.get? s.heap.objs.size = some { cls := .type "list", dict := none, data := .seq its.toArray c', slots := #[] } → EP X pins σ Q (.ref s.heap.objs.size) { s with heap := h' } := fun its r' hz h' c' kp e =>
    ⟨.ref s.heap.objs.size, _, I.laid (t' := s.toks) kp (Nat.le_refl _) (show ObjOk X.prog X.w _ h' _ (.lst ys) from ⟨hz, its, c', r', e⟩), rfl, q _ (I.hok.fresh (Nat.le_refl _))⟩
  rcases hq with hq | hq
  · obtain ⟨its, r', pl, hz⟩ := I.list hq
    have hlen := r'.length
    obtain ⟨o, ho, hc, n, hd⟩ := pl.isList
    exact call_list_seq p (.inl rfl) ho hc hd (fun h' c' kp e => fin its r' hz h' c' kp e) (by simp only [List.size_toArray] <;> omega)
  · obtain ⟨its, r', pl, hz⟩ := I.tuple hq
    have hlen := r'.length
    obtain ⟨o, ho, hc, n, hd⟩ := pl
    exact call_list_seq p (.inr rfl) ho hc hd (fun h' c' kp e => fin its r' hz h' c' kp e) (by simp only [List.size_toArray] <;> omega)

/-! ### the call of a builtin's method: o.m(..) -/
/-- the value is of that builtin type -/
def tyV (K : PySem.W.Frag) (T : String) (x : V) (H : Hp) : Prop := match x with
  | .str _ => T = "str"
  | .int _ => T = "int"
  | .ref p => (T = "list" ∧ ∃ xs, SqL K H p xs) ∨ (T = "tuple" ∧ ∃ o, K.lookup p = some o ∧ o.cls = .type "tuple" ∧ o.dict = none) ∨
      (T = "dict" ∧ ((∃ kvs, H p = some (.dK kvs)) ∨ ∃ kvs, H p = some (.dT kvs))) ∨ (T = "set" ∧ ∃ S n, H p = some (.set S n))
  | _ => False
theorem tyV_is {pins : List (Addr × Obj)} {σ : St} {H : Hp} {s : Shared} {T : String} {x : V} {v : Value} (I : Inv X pins σ H s) (r : RelV x v) (ty : tyV X.K T x H) :
    s.TypeIs v T ∧ ∀ a, v = .ref a → ∃ ob, s.heap.get? a = some ob ∧ ob.dict = none := by
  cases x with
  | str z =>
    obtain ⟨t, rfl⟩ := r
    cases (show T = "str" from ty)
    exact ⟨typeIs_str s z t, fun _ e => nomatch e⟩
  | int i =>
    obtain ⟨t, rfl⟩ := r
    cases (show T = "int" from ty)
    exact ⟨typeIs_int s i t, fun _ e => nomatch e⟩
  | ref p =>
    cases r
    rcases ty with ⟨rfl, xs, hq⟩ | ⟨rfl, o, hk, hc, hd⟩ | ⟨rfl, hk⟩ | ⟨rfl, S, n, hk⟩
    · obtain ⟨its, _, pl, _⟩ := I.list hq
      refine ⟨pl.isList.typeIs, fun a e => ?_⟩
      cases e
      obtain ⟨o, n, e, c, hd, _⟩ := pl
      exact ⟨o, e, hd⟩
    · refine ⟨⟨o, I.kIn p o hk, hc⟩, fun a e => ?_⟩
      cases e
      exact ⟨o, I.kIn _ o hk, hd⟩
    · have z : ∃ o, s.heap.get? p = some o ∧ o.ExactDict := by
        rcases hk with ⟨kvs, hk⟩ | ⟨kvs, hk⟩
        · obtain ⟨_, _, _, _, o, _, _, e, ex, _⟩ := I.hok p _ hk
          exact ⟨o, e, ex⟩
        · obtain ⟨_, _, _, _, o, _, _, e, ex, _⟩ := I.hok p _ hk
          exact ⟨o, e, ex⟩
      obtain ⟨o, e, ex⟩ := z
      refine ⟨⟨o, e, ex.1⟩, fun a e2 => ?_⟩
      cases e2
      exact ⟨o, e, ex.2.1⟩
    · obtain ⟨o, _, _, _, e, ex, _⟩ := I.hok p _ hk
      refine ⟨⟨o, e, ex.1⟩, fun a e2 => ?_⟩
      cases e2
      exact ⟨o, e, ex.2.1⟩
  | _ => exact False.elim ty
def tBM (K : PySem.W.Frag) (T : String) (r : V → List V → Hp → VK → Prop) (to : TE) (t : TA) : TE := fun σ H Q => to σ H fun x H1 => tyV K T x H1 ∧ t σ H1 fun xs H2 => r x xs H2 Q
variable {o e : Expr} {es : List Expr} {to : TE} {t : TA} {name : Str} {apos cpos : Pos} {T id : String} {r : V → List V → Hp → VK → Prop}
theorem pe_bm (pa : PlainAttrs T) (slot : Slot T name id) (hty : typeOf (.builtin id) = pure (.type "method_descriptor")) (hm : MtR X id r) (ho : PE X o to) (ha : PA X (e :: es) t)
    (hbase : attributeBase o name X.env (eval o X.env) = eval o X.env := by rfl)
    (hfew : ((backTo cpos (starEach (e :: es) X.env)).all (fun x => !x.1) && (backToKw cpos (keywordEach [] X.env)).all (fun x => x.1.isSome)
      && decide ((e :: es).length + ([] : List Keyword).length + (if ([] : List Keyword).isEmpty then 0 else 1) < 30)) = true := by rfl)
    (hline : (apos.endLine == cpos.line) = true := by rfl) (hs : starEach (e :: es) X.env = (false, eval e X.env) :: starEach es X.env := by rfl) (hplain : (backTo cpos (starEach es X.env)).any (·.1) = false := by rfl) :
    PE X (.Call (.Attribute o name apos) (e :: es) [] cpos) (tBM X.K T r to t) := by
  intro pins s σ H Q I h
  refine wpAny_Call_method_late hbase hfew hline rfl (thn (ho pins s σ H _ I h) fun v s1 ⟨x, H1, I1, r1, ty, q1⟩ => ?_)
  obtain ⟨h1, h2⟩ := tyV_is I1 r1 ty
  refine ⟨T, id, pa, slot, hty, h1, h2, ?_⟩
  have hA := ha cpos pins s1 σ H1 _ I1 q1
  rw [hs] at hA ⊢
  refine Calls.callWith_builtin (by show (false || (backTo cpos (starEach es X.env)).any (·.1)) = false; rw [hplain] <;> rfl) (Calls.evalArgs_plain ?_)
  exact thn hA fun us s2 ⟨vs, H2, I2, r2, q2⟩ => hm pins s2 σ H2 x vs v us Q I2 r1 r2 q2
/- xs.append(e), list.index on a module's tuple .. are MtR facts of 06m -/
end
end L2

namespace L2
open PySem PySem.Spec PyProof.Rows

/-! ### lists of values -/
theorem Vals.rep {xs : List V} {us : List Value} (h : Vals xs us) : ∀ k : Nat, Vals (List.replicate k xs).flatten (List.replicate k us).flatten
  | 0 => .nil
  | k + 1 => by
    rw [List.replicate_succ, List.replicate_succ, List.flatten_cons, List.flatten_cons]
    exact Vals.append h (Vals.rep h k)
theorem foldl_rep (its : List Value) : ∀ (k : Nat) (acc : List Value),
    List.foldl (fun x1 x2 => x1 ++ x2) acc.toArray (List.replicate k its.toArray) = (acc ++ (List.replicate k its).flatten).toArray
  | 0, acc => by simp
  | k + 1, acc => by
    have e : acc.toArray ++ its.toArray = (acc ++ its).toArray := by simp
    have e2 : (acc ++ its) ++ (List.replicate k its).flatten = acc ++ (List.replicate (k + 1) its).flatten := by
      rw [List.replicate_succ, List.flatten_cons, List.append_assoc]
    rw [← e2, ← foldl_rep its k (acc ++ its), ← e, List.replicate_succ, List.foldl_cons]

section
variable {X : Cx} {pins : List (Addr × Obj)} {σ : St} {H : Hp} {s : Shared} {l b : Addr} {xs ys zs : List V}

/-! ### the two steps: a tracked list is rewritten, a new list is laid -/
theorem Inv.lnew {its : List Value} {t' : Nat} (I : Inv X pins σ H s) (hv : Vals ys its) (hz : ys.length ≤ sizeLine) :
    Inv X pins σ (upd H s.heap.objs.size (.lst ys)) { s with heap := s.heap.push { cls := .type "list", data := .seq its.toArray }, toks := t' } :=
  I.laid (fun _ _ q => Heap.get?_push_of_some _ q) (Nat.le_refl _) ⟨hz, its, 0, hv, Heap.get?_push_size _ rfl⟩
theorem Inv.fresh (I : Inv X pins σ H s) : H s.heap.objs.size = none := I.hok.fresh (Nat.le_refl _)
theorem Inv.lstM (I : Inv X pins σ H s) (hH : H l = some (.lst xs)) : xs.length ≤ sizeLine ∧ ∃ (its : List Value) (n : Nat), Vals xs its ∧ xs.length = its.length ∧ s.heap.get? l = some { cls := .type "list", data := .seq its.toArray n } := by
  obtain ⟨z, its, n, r, e⟩ := I.hok l _ hH
  exact ⟨z, its, n, r, r.length, e⟩

theorem notLongL {n : Nat} (h : n ≤ sizeLine) : Builtin.List.listTooLong n = false := by
  unfold Builtin.List.listTooLong
  exact decide_eq_false (by omega)
end

section
variable {X : Cx}

/-! ### methods -/

/-! ### list + list, list += list, list * int -/
/-- a list times an int (a negative one is nothing) -/
def rRep : R2 := fun x y H Q => ∃ l k xs, x = .ref l ∧ y = .int k ∧ H l = some (.lst xs) ∧ -(2 ^ 63) ≤ k ∧ k < 2 ^ 63 ∧ xs.length * k.toNat ≤ sizeLine ∧
  ∀ p, H p = none → Q (.ref p) (upd H p (.lst (List.replicate k.toNat xs).flatten))
theorem len_rep {α : Type} (xs : List α) (k : Nat) : (List.replicate k xs).flatten.length = k * xs.length := by
  induction k with
  | zero => simp
  | succ k ih => rw [List.replicate_succ, List.flatten_cons, List.length_append, ih, Nat.succ_mul, Nat.add_comm]
theorem op_rep : OpR X (binaryOp .Mult) rRep := by
  intro pins s σ H x y v u Q I rx ry h
  obtain ⟨l, k, xs, rfl, rfl, hH, h1, h2, hz, q⟩ := h
  cases rx
  obtain ⟨t, rfl⟩ := ry
  obtain ⟨z, its, n, r, hl, e⟩ := I.lstM hH
  have hlen : its.toArray.size * k.toNat ≤ sizeLine := by rw [List.size_toArray, ← hl]; exact hz
  have hcap : ¬ its.toArray.size * k.toNat > (2 ^ 63 - 1) / 8 := by
    have : (sizeLine : Nat) ≤ (2 ^ 63 - 1) / 8 := by decide
    omega
  have hfit : ¬ (!Builtin.List.listFitsIndex k) = true := by
    rw [fitsIndex_both h1 h2]
    exact Bool.false_ne_true
  have hlong : ¬ Builtin.List.listTooLong (its.toArray.size * k.toNat) = true := by
    rw [notLongL hlen]
    exact Bool.false_ne_true
  have hnew : List.foldl (fun x1 x2 => x1 ++ x2) #[] (List.replicate (if its.toArray.isEmpty = true then 0 else k.toNat) its.toArray) = (List.replicate k.toNat its).flatten.toArray := by
    have f0 : ∀ m : Nat, List.foldl (fun x1 x2 => x1 ++ x2) #[] (List.replicate m its.toArray) = (List.replicate m its).flatten.toArray := fun m => by
      have := foldl_rep its m []
      rw [List.nil_append] at this
      exact this
    rw [f0]
    cases its with
    | nil => simp
    | cons a r' => rw [if_neg (by simp)]
  refine wpAny_binaryOp_repeat_ref (T := "list") (U := "int") (by decide) ⟨_, e, rfl⟩ (fun s' => typeIs_int s' k t) noFill_list_mul F.fills_int_mul F.slot_int_rmul repeat_list F.slot_int_index.lookup
    (call_meets F.slot_int_rmul (typeIs_int s k t) F.entry_int_rmul (F.args_int_rmul_2 _ _) (int___rmul___int_list k t l its.toArray n)
      ⟨e, rfl, ⟨_, e, rfl⟩, call_meets F.slot_list_mul ⟨_, e, rfl⟩ F.entry_list_mul (F.args_list_mul_2 _ _) (AutoListH.list___mul___list_int_3 l its.toArray n k t hfit hcap hlong) ⟨e, ?_⟩⟩)
  rw [hnew]
  exact ⟨.ref _, _, I.lnew (t' := s.toks) (r.rep k.toNat) (by rw [len_rep, Nat.mul_comm]; exact hz), rfl, q _ I.fresh⟩

/-! ### del xs[i] -/
end

/-! ### xs[a:b] = ys -/
section
variable {prog : Program} {w : World} {A : Around} {E : Value → Shared → Prop} {s : Shared}
end

section
variable {X : Cx}
end
end L2

namespace L2
open PySem PySem.Spec PyProof.Rows

/-! ### lists of pairs as tables -/
section
variable {κ : Type} [DecidableEq κ]
def valV (kvs : List (κ × V)) (k : κ) : Option V := (kvs.find? fun kv => decide (kv.1 = k)).map (·.2)
/-- in its place, or at the end -/
def putK (kvs : List (κ × V)) (k : κ) (v : V) : List (κ × V) :=
  if (kvs.any fun kv => decide (kv.1 = k)) = true then kvs.map (fun kv => if kv.1 = k then (kv.1, v) else kv) else kvs ++ [(k, v)]

theorem valV_pos {p : κ × V} {r : List (κ × V)} {k : κ} (e : p.1 = k) : valV (p :: r) k = some p.2 := by simp [valV, List.find?_cons, e]
theorem valV_neg {p : κ × V} {r : List (κ × V)} {k : κ} (e : ¬ p.1 = k) : valV (p :: r) k = valV r k := by simp [valV, List.find?_cons, e]
theorem valV_any (k : κ) : ∀ kvs : List (κ × V), (kvs.any fun kv => decide (kv.1 = k)) = (valV kvs k).isSome
  | [] => rfl
  | p :: r => by
    rw [List.any_cons]
    by_cases e : p.1 = k
    · simp only [valV_pos e, decide_eq_true e, Bool.true_or, Option.isSome_some]
    · rw [valV_neg e, decide_eq_false e, Bool.false_or]; exact valV_any k r
theorem length_putK (kvs : List (κ × V)) (k : κ) (v : V) : (putK kvs k v).length ≤ kvs.length + 1 := by
  unfold putK
  split
  · rw [List.length_map]; omega
  · rw [List.length_append, List.length_cons, List.length_nil]; omega
theorem putK_new {kvs : List (κ × V)} {k : κ} (v : V) (h : valV kvs k = none) : putK kvs k v = kvs ++ [(k, v)] := by
  unfold putK
  rw [valV_any, h]
  exact if_neg (by decide)

theorem RelO.isSome_eq {o : Option V} {u : Option Value} (r : RelO o u) : o.isSome = u.isSome := by
  cases o with
  | none => cases u with
    | none => rfl
    | some _ => exact (show False from r).elim
  | some _ => cases u with
    | none => exact (show False from r).elim
    | some _ => rfl

/-- raw tables of the same keys -/
theorem KV.val {kvs : List (κ × V)} {vs : List (κ × Value)} (r : KV kvs vs) (k : κ) : RelO (valV kvs k) (valueAt vs k) := by
  unfold KV at r
  induction r with
  | nil => exact True.intro
  | @cons p q ps qs h t ih =>
    obtain ⟨h1, h2⟩ := h
    by_cases e : p.1 = k
    · have e' : q.1 = k := h1.symm.trans e
      have b : valueAt (q :: qs) k = some q.2 := by simp [valueAt, List.find?_cons, e']
      rw [valV_pos e, b]; exact h2
    · have e' : ¬ q.1 = k := fun z => e (h1.trans z)
      have b : valueAt (q :: qs) k = valueAt qs k := by simp [valueAt, List.find?_cons, e']
      rw [valV_neg e, b]; exact ih
theorem KV.any {kvs : List (κ × V)} {vs : List (κ × Value)} (r : KV kvs vs) (k : κ) : (kvs.any fun kv => decide (kv.1 = k)) = vs.any fun kv => decide (kv.1 = k) := by
  unfold KV at r
  induction r with
  | nil => rfl
  | cons h t ih => rw [List.any_cons, List.any_cons, ih, h.1]
theorem KV.repl {kvs : List (κ × V)} {vs : List (κ × Value)} (r : KV kvs vs) (k : κ) {y : V} {u : Value} (ry : RelV y u) :
    KV (kvs.map fun kv => if kv.1 = k then (kv.1, y) else kv) (vs.map fun kv => if kv.1 = k then (kv.1, u) else kv) := by
  unfold KV at r ⊢
  induction r with
  | nil => exact .nil
  | @cons p q ps qs h t ih =>
    rw [List.map_cons, List.map_cons]
    refine .cons ?_ ih
    obtain ⟨h1, h2⟩ := h
    by_cases e : p.1 = k
    · rw [if_pos e, if_pos (h1.symm.trans e)]; exact ⟨h1, ry⟩
    · rw [if_neg e, if_neg (fun z => e (h1.trans z))]; exact ⟨h1, h2⟩
theorem KV.put {kvs : List (κ × V)} {vs : List (κ × Value)} (r : KV kvs vs) (k : κ) {y : V} {u : Value} (ry : RelV y u) : KV (putK kvs k y) (stored vs k u) := by
  unfold putK stored
  rw [r.any k]
  by_cases e : (vs.any fun kv => decide (kv.1 = k)) = true
  · rw [if_pos e, if_pos e]; exact r.repl k ry
  · rw [if_neg e, if_neg e]; exact Paired.snoc r ⟨rfl, ry⟩
theorem KV.length {kvs : List (κ × V)} {vs : List (κ × Value)} (r : KV kvs vs) : kvs.length = vs.length := Paired.length r
end

/-! ### a tracked dict, its keys ints and texts or tuples of these -/
theorem kV_is {P : Program} {w : World} {k : Key} {u : Value} (r : RelV (kV k) u) : (mixKind P w).is k u = true := by
  cases k with
  | inl i => obtain ⟨t, e⟩ := (show ∃ t, u = Value.int i t from r); subst e; exact mixKind_int P w i t
  | inr x => obtain ⟨t, e⟩ := (show ∃ t, u = Value.str x t from r); subst e; exact mixKind_str P w x t
theorem items_are {P : Program} {w : World} : ∀ {ks : List Key} {us : List Value}, Vals (ks.map kV) us → ItemsAre (mixKind P w) ks us
  | [], _, r => by rw [List.map_nil] at r; cases r; exact .nil
  | k :: ks, _, r => by
    rw [List.map_cons] at r
    cases r with
    | cons h t => exact .cons (kV_is h) (items_are t)

/-- raw entries of a dict with tuple keys -/
abbrev KT (H : Hp) : List (List Key × V) → List (List Key × Addr × Value) → Prop := Paired fun p q => p.1 = q.1 ∧ H q.2.1 = some (.tup (p.1.map kV)) ∧ RelV p.2 q.2.2
theorem KT.val {H : Hp} {kvs : List (List Key × V)} {xs : List (List Key × Addr × Value)} (r : KT H kvs xs) (k : List Key) : RelO (valV kvs k) ((atKey xs k).map (·.2)) := by
  induction r with
  | nil => exact True.intro
  | @cons p q ps qs h t ih =>
    obtain ⟨h1, _, h2⟩ := h
    by_cases e : p.1 = k
    · have e' : q.1 = k := h1.symm.trans e
      have b : atKey (q :: qs) k = some q.2 := by simp [atKey, List.find?_cons, e']
      rw [valV_pos e, b]; exact h2
    · have e' : ¬ q.1 = k := fun z => e (h1.trans z)
      have b : atKey (q :: qs) k = atKey qs k := by simp [atKey, List.find?_cons, e']
      rw [valV_neg e, b]; exact ih
theorem KT.repl {H : Hp} {kvs : List (List Key × V)} {xs : List (List Key × Addr × Value)} (r : KT H kvs xs) (k : List Key) {y : V} {u : Value} (ry : RelV y u) :
    KT H (kvs.map fun kv => if kv.1 = k then (kv.1, y) else kv) (xs.map (putAt k u)) := by
  induction r with
  | nil => exact .nil
  | @cons p q ps qs h t ih =>
    rw [List.map_cons, List.map_cons]
    refine .cons ?_ ih
    obtain ⟨h1, h2, h3⟩ := h
    unfold putAt
    by_cases e : p.1 = k
    · rw [if_pos e, if_pos (h1.symm.trans e)]; exact ⟨h1, h2, ry⟩
    · rw [if_neg e, if_neg (fun z => e (h1.trans z))]; exact ⟨h1, h2, h3⟩
theorem KT.put {H : Hp} {kvs : List (List Key × V)} {xs : List (List Key × Addr × Value)} (r : KT H kvs xs) (k : List Key) {b : Addr} {y : V} {u : Value} (hb : H b = some (.tup (k.map kV))) (ry : RelV y u) :
    KT H (putK kvs k y) (storedH xs k b u) := by
  have e : (kvs.any fun kv => decide (kv.1 = k)) = (atKey xs k).isSome := by
    rw [valV_any, (r.val k).isSome_eq, Option.isSome_map]
  unfold putK storedH
  rw [e]
  by_cases q : (atKey xs k).isSome = true
  · rw [if_pos q, if_pos q]; exact r.repl k ry
  · rw [if_neg q, if_neg q]; exact Paired.snoc r ⟨rfl, hb, ry⟩
theorem KT.keeps {H H' : Hp} {kvs : List (List Key × V)} {xs : List (List Key × Addr × Value)} (r : KT H kvs xs) (ht : ∀ b ys, H b = some (.tup ys) → H' b = some (.tup ys)) : KT H' kvs xs :=
  Paired.mapP r fun _ _ z => ⟨z.1, ht _ _ z.2.1, z.2.2⟩

section
variable {P : Program} {w : World} {H : Hp} {h : Heap} {a : Addr}
theorem rd_of {u : HO} (ok : HOk P w H h) (e : Rd H a u) : ObjOk P w H h a u := e.ok ok
theorem dk_rd {kvs : List (Key × V)} (ok : HOk P w H h) (e : Rd H a (.dK kvs)) : kvs.length ≤ sizeLine ∧ (a == sysModules) = false ∧ ∃ vs, KV kvs vs ∧ h.DictOf (mixKind P w) a vs :=
  show ObjOk P w H h a (.dK kvs) from rd_of ok e
theorem dk_of {kvs : List (Key × V)} (ok : HOk P w H h) (e : H a = some (.dK kvs)) : kvs.length ≤ sizeLine ∧ (a == sysModules) = false ∧ ∃ vs, KV kvs vs ∧ h.DictOf (mixKind P w) a vs := dk_rd ok (.inl e)
/-- a tracked tuple of ints and texts is a key -/
theorem key_of {ks : List Key} (ok : HOk P w H h) (e : H a = some (.tup (ks.map kV))) : (tupleKind (mixKind P w)).is h ks a := by
  obtain ⟨_, its, r, o, h1, h2, n, h3⟩ := (show ObjOk P w H h a (.tup (ks.map kV)) from ok a _ e)
  exact ⟨o, its.toArray, n, h1, h2, h3, by simpa using items_are r⟩
theorem dt_rd {kvs : List (List Key × V)} (ok : HOk P w H h) (e : Rd H a (.dT kvs)) : kvs.length ≤ sizeLine ∧ (a == sysModules) = false ∧
    ∃ xs, KT H kvs xs ∧ h.DictOfH (tupleKind (mixKind P w)) a xs := by
  obtain ⟨z, y, xs, r, o, es, ep, h1, h2, h3, h4, h5⟩ := (show ObjOk P w H h a (.dT kvs) from rd_of ok e)
  refine ⟨z, y, xs, r, o, es, ep, h1, h2, h3, h4, fun x hx => ?_, h5⟩
  have all : ∀ {l : List (List Key × V)} {m : List (List Key × Addr × Value)}, KT H l m → ∀ x ∈ m, (tupleKind (mixKind P w)).is h x.1 x.2.1 := by
    intro l m q
    induction q with
    | nil => intro x hx; exact nomatch hx
    | @cons p q ps qs hq t ih =>
      intro x hx
      rcases List.mem_cons.mp hx with e | hx
      · subst e
        exact key_of ok (by rw [← hq.1]; exact hq.2.1)
      · exact ih x hx
  exact all r x hx
theorem dt_of {kvs : List (List Key × V)} (ok : HOk P w H h) (e : H a = some (.dT kvs)) : kvs.length ≤ sizeLine ∧ (a == sysModules) = false ∧
    ∃ xs, KT H kvs xs ∧ h.DictOfH (tupleKind (mixKind P w)) a xs := dt_rd ok (.inl e)
end

/-- what the dict at a holds at the key y -/
def DGet (H : Hp) (a : Addr) (y : V) (r : Option V) : Prop :=
  (∃ kvs k, Rd H a (.dK kvs) ∧ y = kV k ∧ r = valV kvs k) ∨ ∃ kvs k b, Rd H a (.dT kvs) ∧ y = .ref b ∧ H b = some (.tup (k.map kV)) ∧ r = valV kvs k
/-- the heap behind a[y] = v -/
def DPut (H : Hp) (a : Addr) (y v : V) (H' : Hp) : Prop :=
  (∃ kvs k, H a = some (.dK kvs) ∧ y = kV k ∧ kvs.length < sizeLine ∧ H' = upd H a (.dK (putK kvs k v))) ∨
  ∃ kvs k b, H a = some (.dT kvs) ∧ y = .ref b ∧ H b = some (.tup (k.map kV)) ∧ kvs.length < sizeLine ∧ H' = upd H a (.dT (putK kvs k v))

section
variable {X : Cx} {pins : List (Addr × Obj)} {σ : St} {H : Hp} {s : Shared} {a : Addr} {y v : V} {u r : Value} {o : Option V} {A : Around} {E : Value → Shared → Prop}

theorem Inv.big (I : Inv X pins σ H s) : sysModules < s.heap.objs.size := by
  have h : mainGlobals < s.heap.objs.size := (I.mod.glob.keeps I.bk).lt
  exact Nat.lt_trans (by decide) h

/-- d[y], there -/
theorem d_getItem {Q : Value → Shared → Prop} (hu : A.units + 1 < cLine) (I : Inv X pins σ H s) (g : DGet H a y (some v)) (ry : RelV y u) (h : ∀ w' s', Inv X pins σ H s' → RelV v w' → Q w' s') :
    wpAny (model X.prog X.w) A (getItem (.ref a) u) Q E s := by
  rcases g with ⟨kvs, k, e, ey, l⟩ | ⟨kvs, k, b, e, ey, eb, l⟩
  · subst ey
    obtain ⟨z, hd, vs, rel, dd⟩ := dk_rd I.hok e
    obtain ⟨w', hw, rw'⟩ := RelO.some_of (v := v) (o := valueAt vs k) (by rw [l]; exact rel.val k)
    exact wpAny_getItem_of (kV_is ry) dd.mapOf hw (h w' _ (I.tok _) rw')
  · subst ey
    cases (show u = Value.ref b from ry)
    obtain ⟨z, hd, xs, rel, dd⟩ := dt_rd I.hok e
    obtain ⟨w', hw, rw'⟩ := RelO.some_of (v := v) (o := (atKey xs k).map (·.2)) (by rw [l]; exact rel.val k)
    obtain ⟨p, hp, hp2⟩ := Option.map_eq_some_iff.mp hw
    refine wpAny_getItem_heap (tupleKind_room_in1 hu) (key_of I.hok eb) dd hp ?_
    rw [hp2]
    exact h w' _ (I.tok _) rw'
/-- a dict's object is replaced -/
theorem d_write {h' : Heap} {t' : Nat} {ob : HO} (I : Inv X pins σ H s) (mu : Mut (H a)) (hs : Heap.SameBut a s.heap h') (he : ∃ q, h'.get? a = some q) (new : ObjOk X.prog X.w (upd H a ob) h' a ob) :
    Inv X pins σ (upd H a ob) { s with heap := h', toks := t' } :=
  I.write (x := a) (e := a) mu (.inl rfl) (fun b q hb z => (hs.2 b hb).trans z) he new
theorem dk_new {P : Program} {w : World} {H' : Hp} {h' : Heap} {kvs : List (Key × V)} {vs : List (Key × Value)} (z : kvs.length ≤ sizeLine) (hd : (a == sysModules) = false) (rel : KV kvs vs) (dd : h'.DictOf (mixKind P w) a vs) :
    ObjOk P w H' h' a (.dK kvs) := ⟨z, hd, vs, rel, dd⟩
/-- d[y] = v -/
theorem d_setItem {H' : Hp} {Q : Unit → Shared → Prop} (hu : A.units + 1 < cLine) (I : Inv X pins σ H s) (g : DPut H a y v H') (ry : RelV y u) (rv : RelV v r) (h : ∀ s', Inv X pins σ H' s' → Q () s') :
    wpAny (model X.prog X.w) A (setItem (.ref a) u r) Q E s := by
  rcases g with ⟨kvs, k, e, ey, l, eH⟩ | ⟨kvs, k, b, e, ey, eb, l, eH⟩
  · subst ey eH
    obtain ⟨z, hd, vs, rel, dd⟩ := dk_of I.hok e
    have hz : vs.length ≤ sizeLine := by rw [← rel.length]; exact z
    have hl : (putK kvs k v).length ≤ sizeLine := by have := length_putK kvs k v; omega
    refine wpAny_setItem_pairs (hsz := hz) (kV_is ry) dd fun h' dd' hs => h _ ?_
    have he : ∃ q, h'.get? a = some q := let ⟨q, _, _, hq, _⟩ := dd'; ⟨q, hq⟩
    exact d_write I (by rw [e]; exact True.intro) hs he (dk_new hl hd (rel.put k rv) dd')
  · subst ey eH
    cases (show u = Value.ref b from ry)
    obtain ⟨z, hd, xs, rel, dd⟩ := dt_of I.hok e
    have hz : xs.length ≤ sizeLine := by rw [← Paired.length rel]; exact z
    have hl : (putK kvs k v).length ≤ sizeLine := by have := length_putK kvs k v; omega
    refine wpAny_setItem_heap (hsz := hz) (tupleKind_room_in1 hu) (key_of I.hok eb) dd fun h' dd' hs => h _ ?_
    obtain ⟨q, es, ep, hq, h2, h3, h4, _, h5⟩ := dd'
    refine d_write I (by rw [e]; exact True.intro) hs ⟨q, hq⟩ ⟨hl, hd, _, (rel.put k eb rv).keeps fun c ys ec => ?_, q, es, ep, hq, h2, h3, h4, h5⟩
    rw [upd_ne (ne_of ec e (fun z => nomatch z))]
    exact ec
end

section
variable {X : Cx} {pins : List (Addr × Obj)} {σ : St} {H : Hp} {s : Shared} {a : Addr} {kvs : List (Key × V)} {k : Key} {u : Value} {A : Around} {E : Value → Shared → Prop}
end

/-! ### readings and rules -/
/-- the element of a subscription, not a slice -/
def NoSl (i : Expr) : Prop := ∀ ov iv, subscripted i false ov iv = operate [ov, iv] (getItem ov iv)
theorem subD_of {prog : Program} {w : World} {A : Around} {E : Value → Shared → Prop} {s : Shared} {env : Env} {value slice : Expr} {pos : Pos} {T id : String} {Q : Value → Shared → Prop}
    (hl : typeLookup (.type T) "__getitem__" = pure (some (.builtin id))) (hs : NoSl slice)
    (h : wpAny (model prog w) A (eval value env) (fun o s₁ => wpAny (model prog w) A (eval slice env) (fun i s₂ => s₂.TypeIs o T ∧ wpAny (model prog w) A (getItem o i) Q E s₂) E s₁) E s) :
    wpAny (model prog w) A (eval (.Subscript value slice pos) env) Q E s := by
  refine Subscript_ (wpAny_mono h (fun o s₁ h₁ => wpAny_mono h₁ (fun i s₂ h₂ => ?_) fun _ _ x => x) fun _ _ x => x)
  obtain ⟨hT, h₂⟩ := h₂
  unfold subscriptTail
  refine wpAny_bind ?_
  rw [getitemInPython_of_ne hT.not_modules]
  refine wpAny_bind (wpAny_specialOf hT hl ?_)
  have fin : wpAny (model prog w) A (subscripted slice false o i) (fun r s₃ => wpAny (model prog w) A (letTemporaryGo value o r >>= fun _ => pure r) Q E s₃) E s₂ := by
    rw [hs o i]
    exact wpAny_operating (wpAny_mono h₂ (fun r s₃ h₃ => wpAny_bind (wpAny_letTemporaryGo (wpAny_pure h₃))) fun _ _ x => x)
  first
    | exact wpAny_pure (wpAny_bind fin)
    | exact wpAny_bind (wpAny_pure (wpAny_bind fin))
    | exact wpAny_bind fin

theorem dict_typeIs {X : Cx} {pins : List (Addr × Obj)} {σ : St} {H : Hp} {s : Shared} {a : Addr} {y : V} {o : Option V} (I : Inv X pins σ H s) (g : DGet H a y o) : s.TypeIs (.ref a) "dict" := by
  rcases g with ⟨kvs, k, e, _, _⟩ | ⟨kvs, k, b, e, _, _, _⟩
  · obtain ⟨_, _, vs, _, dd⟩ := dk_rd I.hok e
    exact dd.typeIs
  · obtain ⟨_, _, xs, _, dd⟩ := dt_rd I.hok e
    exact dd.typeIs

/-- d[y] -/
def tDGet (td ty : TE) : TE := fun σ H Q => td σ H fun x H1 => ty σ H1 fun y H2 => ∃ a v, x = .ref a ∧ DGet H2 a y (some v) ∧ Q v H2
/-- d[y] = v -/
def sDPut (td ty tv : TE) : TS := fun D σ H => tv σ H fun v H1 => td σ H1 fun x H2 => ty σ H2 fun y H3 => ∃ a H4, x = .ref a ∧ DPut H3 a y v H4 ∧ D.nx σ H4

section
variable {X : Cx} {o i e value : Expr} {pos pos' tpos : Pos} {td ty tv : TE}
theorem pe_dget (hu : X.A.units + 1 < cLine) (ho : PE X o td) (hi : PE X i ty) (hs : NoSl i) : PE X (.Subscript o i pos) (tDGet td ty) := by
  intro pins s σ H Q I h
  refine subD_of PySem.F.slot_dict_getitem.lookup hs (thn (ho pins s σ H _ I h) fun u s1 ⟨x, H1, I1, rx, q1⟩ => thn (hi pins s1 σ H1 _ I1 q1) fun iv s2 ⟨y, H2, I2, ry, a, v, ex, g, q2⟩ => ?_)
  subst ex
  obtain rfl : u = Value.ref a := rx
  exact ⟨dict_typeIs I2 g, d_getItem hu I2 g ry fun w' s3 I3 rw' => ⟨v, H2, I3, rw', q2⟩⟩
theorem ps_dput (hu : X.A.units + 1 < cLine) (ho : PE X o td) (hi : PE X i ty) (hv : PE X value tv) (hs : swapsWith value (some (.Subscript o i pos')) pos.line X.env = pure false) :
    PS X (.Assign [.Subscript o i pos'] value pos) (sDPut td ty tv) := by
  intro pins s σ H D I h
  refine wpAny_Assign_Subscript (thn (hv pins s σ H _ I h) fun r s1 ⟨v, H1, I1, rv, q1⟩ => thn (ho pins s1 σ H1 _ I1 q1) fun u s2 ⟨x, H2, I2, rx, q2⟩ => thn (hi pins s2 σ H2 _ I2 q2) fun iv s3 ⟨y, H3, I3, ry, a, H4, ex, g, q3⟩ => ?_) hs
  subst ex
  obtain rfl : u = Value.ref a := rx
  exact d_setItem hu I3 g ry rv fun s4 I4 => ⟨σ, H4, I4, q3⟩
end

/-! ### displays -/
theorem dk_empty {P : Program} {w : World} {H : Hp} (h : Heap) (hb : sysModules < h.objs.size) : ObjOk P w H (h.push { cls := .type "dict", data := .dict #[] }) h.objs.size (.dK []) :=
  ⟨Nat.zero_le _, beq_eq_false_iff_ne.mpr (Ne.symm (Nat.ne_of_lt hb)), [], .nil, Heap.DictOf.new h⟩
/-- {}, to be a dict of the kind that is wanted -/
def tDNewK : TE := fun _ H Q => ∀ p, H p = none → Q (.ref p) (upd H p (.dK []))
section
variable {X : Cx} {pos : Pos}
theorem pe_dnewK : PE X (.Dict [] [] pos) tDNewK := fun pins s σ H Q I h =>
  wpAny_Dict_empty ⟨.ref s.heap.objs.size, _, I.laid (a := s.heap.objs.size) (o := .dK []) (t' := s.toks) (fun _ _ q => Heap.get?_push_of_some _ q) (Nat.le_refl _) (dk_empty s.heap I.big), rfl, h _ (I.hok.fresh (Nat.le_refl _))⟩
end

/-! ### methods -/

section
variable {X : Cx} {pins : List (Addr × Obj)} {σ : St} {H : Hp} {s : Shared} {a : Addr} {y d : V} {u r : Value} {o : Option V} {A : Around} {E : Value → Shared → Prop}
end

section
variable {X : Cx} {o e f : Expr} {apos cpos : Pos} {td ty tx : TE}
end

/-! ### dict(d): a copy -/
section
variable {X : Cx} {pins : List (Addr × Obj)} {σ : St} {H : Hp} {s : Shared} {a : Addr} {kvs : List (Key × V)} {A : Around} {E : Value → Shared → Prop}
end

section
variable {X : Cx} {pins : List (Addr × Obj)} {σ : St} {H : Hp} {s : Shared} {a : Addr} {y : V} {u : Value} {A : Around} {E : Value → Shared → Prop}
end
end L2

namespace Att
open PySem PySem.W PySem.Calls PyProof.Rows

/-! ### the script -/
theorem ints_of_wellAll {P : Params} {h : Heap} : ∀ (ns : List Int) (vs : List Value), WellAll P h vs (ns.map WData.int) → IntsAre vs ns := by
  intro ns
  induction ns with
  | nil =>
    intro vs w
    rw [List.map_nil] at w
    cases w
    exact .nil
  | cons n ns ih =>
    intro vs w
    rw [List.map_cons] at w
    cases w with
    | cons a b =>
      cases a
      exact .cons _ _ (ih _ b)

theorem script_of {l : OpenLaw} {n : Nat} (hn : l.most = some n) {P : Params} {h : Heap} {args : List WData} {vals : List Value}
    (hpre : l.row.toRowW.claim.pre args = true) (hwl : WellAll P h vals args) :
    ∃ a vs ns, vals = [Value.ref a] ∧ args = [WData.list (ns.map WData.int)] ∧ h.get? a = some { cls := .type "list", data := .seq vs.toArray } ∧ IntsAre vs ns ∧ ns.length ≤ n := by
  have hsh : WShape.hasAll [] args [.list .int] = true := (pre_splitW hpre).1
  have hc : l.pre.holds [] { args := args } = true := (pre_splitW hpre).2
  obtain ⟨d, r, rfl, h1, h2⟩ := hasAllW_cons hsh
  obtain rfl := hasAllW_nil h2
  obtain ⟨xs, rfl, h3⟩ := hasW_list h1
  obtain ⟨ns, rfl⟩ := items_int h3
  have hlen : ns.length ≤ n := by
    unfold OpenLaw.pre at hc
    have h4 : (WTm.not (.lt (.lit (.int (n : Int))) (.len (.arg 0)))).holds [] { args := [.list (ns.map .int)] } = true := by
      have h4 := (holds_andW hc).1
      rw [hn] at h4
      exact h4
    have h5 := condW_of h4 (w_not (w_lt w_lit (w_len_list (w_arg rfl))))
    rw [List.length_map] at h5
    refine Nat.le_of_not_lt fun q => ?_
    have q' : (n : Int) < ((ns.length : Nat) : Int) := by omega
    first
      | (rw [decide_eq_true q'] at h5; exact absurd h5 (by decide))
      | (simp at h5; omega)
  cases hwl with
  | cons w1 w2 =>
    cases w2
    cases w1 with
    | list ho hall => exact ⟨_, _, ns, rfl, rfl, ho, ints_of_wellAll ns _ hall, hlen⟩

theorem post_true (l : OpenLaw) (args : List WData) : l.row.toRowW.claim.post args (.bool true) args = true :=
  postW_of (r := l.row.toRowW) (X := (true == true))
    (show WShape.has [] (.bool true) .bool = true by first | rfl | decide | simp [WShape.has, WShape.arms, WShape.armsAll])
    (show (WTm.eq .res (.lit (.bool true))).value [] { args := args, res := some (.bool true), after := args } = some (.bool (true == true)) from w_eq_bool (w_res rfl) w_lit) rfl

/-! ### the attachment: holds_open's last premise (the goal 'hc' behind k_head) from a wpAny of the law's body -/

/-- the same from a codeAny of the CALL (for a layer whose function contracts speak of calls) -/
theorem attach_call {l : OpenLaw} {n : Nat} {q : Program} {loose : List Str} {XP : (Str → Option Value) → Heap → Prop} {YP : World → Heap → Prop} {d : DefRec}
    (hn : l.most = some n) (hdf : d.params.defaults = [])
    (call : ∀ (w : World) (s₀ s₁ : Shared) (mg mb : Str → Option Value) (fa : Addr) (o : Obj) (pm cd doc : Value) (a : Addr) (vs : List Value) (ns : List Int),
      Ground q loose [] XP w s₀ mg mb s₁.heap → YP w s₁.heap →
      s₁.heap.get? fa = some o → o.data = .func (docDef d.name d.params d.body d.scope pm cd doc) → s₁.heap.CodeRec cd d.name → mg d.name = some (.ref fa) →
      s₁.heap.get? a = some { cls := .type "list", data := .seq vs.toArray } → IntsAre vs ns → ns.length ≤ n → s₁.gens = #[] →
      codeAny (model l.prog w) callerA (.call (.ref fa) ⟨[.ref a], []⟩) (fun r s' => r = .ok (.ret (.bool true)) ∧ OldK s₁.heap s'.heap ∧ s'.os = s₁.os ∧ AllBare s'.gens) s₁) :
    WalkO q loose XP YP l.row.toRowW d [] (fun f vs => PySem.call f vs) := by
  intro w s₀ s₁ mg mb G Y fa o pm cd doc dV kV ho hd hcd hD hmg hg args vals as hpre hlay hrd hwl hlo
  obtain rfl : dV = .none := Dflts.none hD hdf
  obtain rfl : kV = .none := Dflts.noKw hD
  obtain ⟨a, vs, ns, rfl, rfl, hobj, hints, hlen⟩ := script_of hn hpre hwl
  refine enter_call (codeAny_mono (call w s₀ s₁ mg mb fa o pm cd doc a vs ns G Y ho (fd_plain hd) hcd hmg hobj hints hlen hg) fun r s' hq => ?_)
  obtain ⟨rfl, h2, h3, h4⟩ := hq
  exact ⟨.inl ⟨.bool true, .bool true, [], rfl, fun _ => rfl, .bool true, post_true l _, fun _ => ⟨List.Pairwise.nil, fun _ hm => (nomatch hm)⟩⟩, h2, h3, h4⟩

/-! ### rules over ANY heap (no ledger) from facts about the written part K: the library's own take a ledger (News) for what they write -/
section
variable {prog : Program} {w : World} {A : Around} {E : Value → Shared → Prop} {s : Shared} {K : Frag}

/-! the whole heap as the ledger: makes every rule that writes through a ledger a rule over any heap -/

end
end Att

namespace L2
open PySem PySem.Spec PyProof.Rows

theorem vals_ints : ∀ {vs : List Value} {ns : List Int}, IntsAre vs ns → Vals (ns.map V.int) vs
  | _, _, .nil => .nil
  | _, _, .cons n t h => .cons ⟨t, rfl⟩ (vals_ints h)

/-- nothing is tracked but the script, known to the object (or it is an object of the module) -/
def Only (H : Hp) : Prop := ∀ b, H b = none ∨ ∃ o xs, H b = some (.frz o (.lst xs))

/-- THE HEAD: the law's promise, at the heap behind the top. F, the promise of the law's def, may use that base is part of the heap (so K.In base, base.Ns mainGlobals mg stand in Mod) -/
theorem law_call {P : Program} {w : World} {K : PySem.W.Frag} {mg mb : Str → Option Value} {CX : CXT} {k : Nat} {fa a : Addr} {fd : FuncData} {x : Str} {sp : Sp} {s₁ : Shared} {vs : List Value} {ns : List Int}
    (KX : K.In s₁.heap) (hns : s₁.heap.Ns mainGlobals mg) (hb : s₁.heap.Ns builtinsNs mb) (hbb : ∀ x : Str, x ≠ "__name__" → mb x = bootBuiltins x) (hlim : s₁.heap.NoLimit) (hg : s₁.gens = #[])
    (ha : s₁.heap.get? a = some { cls := .type "list", data := .seq vs.toArray }) (hi : IntsAre vs ns) (hl : ns.length ≤ sizeLine) (hr : Room k callerA)
    (F : ∀ base : Heap, K.In base → base.Ns mainGlobals mg → FnOk P w K mg base CX k fa fd [x] sp) (hbind : ∀ (s : Shared) (u : Value), BindsTo s fd ⟨[u], []⟩ [(x, u)])
    (hsp : ∀ H : Hp, Only H → SqL K H a (ns.map V.int) → sp [.ref a] H (fun v _ => v = .bl true) fun _ _ _ => False)
    (hCX : ∀ H e s', CX [] H s₁ (fun _ _ _ => False) e s' → False) :
    codeAny (model P w) callerA (.call (.ref fa) ⟨[.ref a], []⟩) (fun r s' => r = .ok (.ret (.bool true)) ∧ OldK s₁.heap s'.heap ∧ s'.os = s₁.os ∧ AllBare s'.gens) s₁ := by
  have rv := vals_ints hi
  have lenV := hi.length
  -- from an abstract heap in which nothing but the script may be tracked
  have core : ∀ H : Hp, Only H → SqL K H a (ns.map V.int) → HOk P w H s₁.heap → (∀ b, H b ≠ none → b = a) → (H a ≠ none → K.lookup a = none) →
      codeAny (model P w) callerA (.call (.ref fa) ⟨[.ref a], []⟩) (fun r s' => r = .ok (.ret (.bool true)) ∧ OldK s₁.heap s'.heap ∧ s'.os = s₁.os ∧ AllBare s'.gens) s₁ := by
    intro H hO hS hok hA hK
    have base_of : ∀ {b : Addr} {o : Obj}, s₁.heap.get? b = some o → H b = none → (hidT s₁.heap H).get? b = some o := fun e n => hidT_get e n
    have noA : ∀ {b : Addr} {o : Obj} {es : Array DictEntry} {ep : Nat}, s₁.heap.get? b = some o → o.data = .dict es ep → H b = none := fun {b o es ep} e d => by
      cases q : H b with
      | none => rfl
      | some u =>
        have e' : b = a := hA b (by rw [q]; simp)
        subst e'
        rw [ha] at e; cases e
        have d' : Data.seq vs.toArray _ = Data.dict es ep := d
        cases d'
    have nsK : ∀ {b : Addr} {m : Str → Option Value}, s₁.heap.Ns b m → (hidT s₁.heap H).Ns b m := fun {b m} ⟨o, es, ep, e, d, r⟩ => ⟨o, es, ep, base_of e (noA e d), d, r⟩
    have hKb : K.In (hidT s₁.heap H) := fun b o e => base_of (KX b o e) (by
      cases q : H b with
      | none => rfl
      | some u =>
        have e' : b = a := hA b (by rw [q]; simp)
        subst e'
        rw [hK (by rw [q]; simp)] at e; cases e)
    have hM : Mod K mg (hidT s₁.heap H) := ⟨hKb, nsK hns, ⟨mb, nsK hb, hbb⟩, let ⟨mc, h1, h2⟩ := hlim; ⟨mc, nsK h1, h2⟩⟩
    have e0 : Env0 P w K mg (hidT s₁.heap H) callerA [] s₁ H := ⟨rfl, hM, fun b o e => of_hidT e, Nat.le_of_eq (hidT_size _ _), trivial, fun b hb => absurd (show b ∈ ([] : List Addr) from hb) (by simp), hok, .of_eq hg⟩
    refine codeAny_mono ((F _ hKb (nsK hns)).run callerA [] s₁ H ⟨[.ref a], []⟩ [.ref a] [.ref a] _ _ hr e0 (hbind s₁ (.ref a)) (.cons rfl .nil) (hsp H hO hS)) fun r s' h => ?_
    cases r with
    | error e => exact (hCX H e s' h).elim
    | ok fl =>
      cases fl with
      | next => exact False.elim h
      | brk => exact False.elim h
      | cont => exact False.elim h
      | ret u =>
        obtain ⟨v, H', os, bare, un, hok', r', q⟩ := h
        have q' : v = .bl true := q
        subst q'
        obtain rfl : u = Value.bool true := r'
        refine ⟨rfl, OldK.of_keep fun b o e => ?_, os, bare⟩
        cases q : H b with
        | none => exact un.keep b o e q (by intro z; exact absurd (show b ∈ ([] : List Addr) from z) (by simp)) (by simp)
        | some u =>
          rcases hO b with z | ⟨ob, xs, z⟩
          · rw [q] at z; cases z
          · have z2 := un.frzs b ob _ z
            obtain ⟨e1, _⟩ := hok b _ z
            obtain ⟨e2, _⟩ := hok' b _ z2
            rw [e] at e1; cases e1
            exact e2
  cases hk : K.lookup a with
  | some o =>
    -- the script is one of the module's own objects
    have e := KX a o hk
    rw [ha] at e
    cases e
    refine core (fun _ => none) (fun _ => .inl rfl) (.inr ⟨_, vs.toArray, _, hk, rfl, rfl, rfl, by rw [List.size_toArray, lenV]; exact hl, by simpa using rv⟩) (fun b u z => by have z' : (none : Option HO) = some u := z; cases z') (fun b z => absurd rfl z) fun z => absurd rfl z
  | none =>
    refine core (fun b => if b = a then some (.frz { cls := .type "list", data := .seq vs.toArray } (.lst (ns.map V.int))) else none) (fun b => ?_) (.inl (.inr ⟨{ cls := .type "list", data := .seq vs.toArray }, if_pos rfl⟩)) (fun b u z => ?_) (fun b z => ?_) fun _ => hk
    · by_cases hb : b = a
      · exact .inr ⟨_, _, if_pos hb⟩
      · exact .inl (if_neg hb)
    · by_cases hb : b = a
      · have z' := (if_pos hb).symm.trans z
        cases z'
        subst hb
        exact ⟨ha, by rw [List.length_map]; exact hl, vs, _, rv, ha⟩
      · have z' := (if_neg hb).symm.trans z
        cases z'
    · by_cases hb : b = a
      · exact hb
      · exact absurd (if_neg hb) z
end L2

namespace L2
open PySem PySem.Spec PyProof.Rows

/-- the goal that k_head leaves (case hc), from the law's promise. F gives the function object fd (K's own) once, then the promise over every base -/
theorem walk_of {l : PySem.W.OpenLaw} {n k : Nat} {q : Program} {loose : List Str} {XP : (Str → Option Value) → Heap → Prop} {YP : World → Heap → Prop} {d : DefRec} {K : Params → PySem.W.Frag} {CX : World → CXT} {sp : World → Sp} {x : Str}
    (hn : l.most = some n) (hn2 : n ≤ sizeLine) (hdf : d.params.defaults = []) (hr : Room k callerA)
    (hY : ∀ (w : World) (h : Heap), YP w h → (K w.params).In h)
    (F : ∀ (w : World) (mg : Str → Option Value) (fa : Addr) (h : Heap), (K w.params).In h → h.Ns mainGlobals mg → mg d.name = some (.ref fa) →
      ∃ fd : FuncData, (∀ (s : Shared) (u : Value), BindsTo s fd ⟨[u], []⟩ [(x, u)]) ∧
        ∀ base : Heap, (K w.params).In base → base.Ns mainGlobals mg → FnOk l.prog w (K w.params) mg base (CX w) k fa fd [x] (sp w))
    (hsp : ∀ (w : World) (H : Hp) (a : Addr) (ns : List Int), ns.length ≤ n → Only H → SqL (K w.params) H a (ns.map V.int) → sp w [.ref a] H (fun v _ => v = .bl true) fun _ _ _ => False)
    (hCX : ∀ (w : World) (H : Hp) (s : Shared) (e : Value) (s' : Shared), CX w [] H s (fun _ _ _ => False) e s' → False) :
    PySem.W.WalkO q loose XP YP l.row.toRowW d [] (fun f vs => PySem.call f vs) := by
  refine Att.attach_call hn hdf fun w s₀ s₁ mg mb fa o pm cd doc a vs ns G Y ho hd hcd hmg hobj hints hlen hg => ?_
  have KX := hY w _ Y
  obtain ⟨fd, hb, hF⟩ := F w mg fa _ KX G.T.g hmg
  exact law_call KX G.T.g G.T.b G.T.builtins G.T.nolimit hg hobj hints (Nat.le_trans hlen hn2) hr hF hb (fun H hO hS => hsp w H a ns hlen hO hS) fun H e s' => hCX w H s₁ e s'
end L2

/- THE LAST THEOREM (shape; LID, My.* are yours):
   My.Adr: a structure of the addresses that your layer names (classes, functions); My.Txt K t: a structure (Prop) of the equations over K;
   My.txt_mk : {K} {implicit addresses ..} (e1 : nsIn K mainGlobals "law" = some (some (.ref f))) (e2 : K.lookup f = some ⟨oc, od, .func (fnOf "law" "law" params body scope dV kV doc pm an cdv ct), sl⟩) (e3 : codeIn K cdv "law" = true) .. : ∃ t, My.Txt K t

set_option maxRecDepth 100000 in
set_option maxHeartbeats 0 in
theorem PySem.Challenge.cw_LID_holds : PySem.Challenge.rw_LID.Holds := by
  w_on; o_law; k_head; (case hw => w_witness2)
  k_fill
  refine L2.walk_of (l := PySem.Challenge.rw_LID) (n := 63) (k := 40) (x := "script") (CX := fun w => ..) (sp := fun _ => My.sp_law) rfl (by decide) rfl ⟨rfl, by decide, by decide⟩ (fun w h Y => PySem.W.kIn_of Y) ?F ?S ?C
  case F =>
    intro w mg fa h KX G hmg
    have T : ∃ t, My.Txt (L2.KOf KX) t := by
      dsimp only [L2.KOf]                          -- K must stand as «<heap const> w.params» for k_is
      refine' My.txt_mk ?e1 ?e2 ?e3 ..
      (case e1 => PySem.W.k_is)                    -- in the order: a name -> its address -> its object -> its parts
      (case e2 => PySem.W.k_is)
      ..
    obtain ⟨t, T⟩ := T
    have e0 := hmg.symm.trans (PySem.W.mg_of KX G T.law)
    cases e0                                       -- fa is the law's own address
    exact ⟨_, fun s u => .of_eq rfl, fun base kb nb => My.law_fn T kb nb⟩     -- if «.of_eq rfl» comes too early: refine' ⟨_, ?b, fun base kb nb => My.law_fn T kb nb⟩; exact fun s u => .of_eq rfl
  case S => exact fun w H a ns hl hO hS => ..
  case C => exact ..
(the tactic k_is has no namespace: write k_is) -/

/-! SHORT WORDS over the layer: a def of the text, its body, what a loop and a test want. -/
namespace L2
open PySem PySem.Spec PyProof.Rows

/-! ### the text by places -/
def defArgs (s : Stmt) : Arguments := match s with
  | .FunctionDef _ a _ _ _ _ _ _ _ _ => a
  | _ => { posonlyargs := [], args := [], vararg := none, kwonlyargs := [], kw_defaults := [], kwarg := none, defaults := [] }
def defBody (s : Stmt) : List Stmt := match s with
  | .FunctionDef _ _ b _ _ _ _ _ _ _ => b
  | _ => []
def defScope (s : Stmt) : Scope := match s with
  | .FunctionDef _ _ _ _ _ _ sc _ _ _ => sc
  | _ => { kind := .function, names := [], isGenerator := false, isCoroutine := false }

/-! ### no exception leaves a def -/
abbrev CX0 : CXT := fun _ _ _ _ _ _ => False
abbrev E0 : XK := fun _ _ _ => False
theorem pass0 {X : Cx} : Passes CX0 X E0 := fun _ _ _ _ _ _ _ h => h.elim

/-! ### a def (or method) of the text as it stands behind the top -/
structure Fun (K : PySem.W.Frag) (x qual : Str) (st : Stmt) (f : Addr) (fd : FuncData) : Prop where
  ex : ∃ (oc : Value) (od : Option Addr) (kV doc pm : Value) (an : Option Addr) (cdv ct : Value) (osl : Array (Option Value)),
    fd = PySem.W.fnOf x qual (defArgs st) (defBody st) (defScope st) .none kV doc pm an cdv ct ∧ K.lookup f = some ⟨oc, od, .func fd, osl⟩ ∧ PySem.W.codeIn K cdv qual = true
  kp : PySem.W.keepIn K (.ref f) = true
section
variable {P : Program} {w : World} {K : PySem.W.Frag} {mg : Str → Option Value} {base : Heap}
/-- THE RULE for a def: its body as a term of rules, and the reading of that term -/
theorem Fun.ok {x qual : Str} {st : Stmt} {f : Addr} {fd : FuncData} {N ps : List Str} {k : Nat} {sp : Sp} (F : Fun K x qual st f fd) (S : FnScope N ps (defScope st)) (len : ∀ vs H Q E, sp vs H Q E → vs.length = ps.length)
    (hbody : ∀ (cdv : Value) (A : Around) (outer : List Env) (s : Shared) (H : Hp) (vs : List V) (Q : VK) (E : XK), Room k (A.deeper (envOfC qual (defScope st) s.heap.objs.size f cdv)) → sp vs H Q E →
      ∃ t, PSs (cxOf CX0 P w K mg base N qual (defScope st) f cdv A outer s H E).nox (defBody st) t ∧ t { nx := fun _ H' => Q .non H', rt := Q } (start N vs) H) : FnOk P w K mg base CX0 (k + 1) f fd ps sp := by
  obtain ⟨oc, od, kV, doc, pm, an, cdv, ct, osl, rfl, lk, hcd⟩ := F.ex
  refine fn_of lk hcd S len fun A outer s H vs Q E hr hsp => ?_
  obtain ⟨t, h, q⟩ := hbody cdv A outer s H vs Q E hr hsp
  exact ⟨t, h.nox, q⟩
/-- how its arguments bind (no defaults): h is «fun _ _ _ _ _ _ us hl => match us, hl with | [_, _], _ => rfl», one _ a parameter -/
theorem Fun.binds {x qual : Str} {st : Stmt} {f : Addr} {fd : FuncData} {ps : List Str} (F : Fun K x qual st f fd)
    (h : ∀ (kV doc pm : Value) (an : Option Addr) (cdv ct : Value) (us : List Value), us.length = ps.length → bindArgs (PySem.W.fnOf x qual (defArgs st) (defBody st) (defScope st) .none kV doc pm an cdv ct) ⟨us, []⟩ = pure (ps.zip us)) : Binds K fd ps [] := by
  obtain ⟨oc, od, kV, doc, pm, an, cdv, ct, osl, rfl, lk, hcd⟩ := F.ex
  exact .all (h kV doc pm an cdv ct)
theorem fun_mk {x qual : Str} {st : Stmt} {f : Addr} {oc : Value} {od an : Option Addr} {osl : Array (Option Value)} {kV doc pm cdv ct : Value} (l : K.lookup f = some ⟨oc, od, .func (PySem.W.fnOf x qual (defArgs st) (defBody st) (defScope st) .none kV doc pm an cdv ct), osl⟩)
    (c : PySem.W.codeIn K cdv qual = true) (k : PySem.W.keepIn K (.ref f) = true) : Fun K x qual st f (PySem.W.fnOf x qual (defArgs st) (defBody st) (defScope st) .none kV doc pm an cdv ct) := ⟨⟨oc, od, kV, doc, pm, an, cdv, ct, osl, rfl, l, c⟩, k⟩
end

/-! ### expressions in short: the name that stands in the i-th slot -/
section
variable {X : Cx}
theorem pv (i : Nat) {x : Str} {pos : Pos} (hN : X.N[i]? = some x := by rfl) (hv : Vis X.env.scope x := by first | exact Or.inl rfl | exact Or.inr (Or.inl rfl) | exact Or.inr (Or.inr rfl)) (hd : (x == ("__debug__" : Str)) = false := by decide)
    (hcd : (x == ("__classdict__" : Str)) = false := by decide) : PE X (.Name x pos) (tVar i) := pe_var hN hv hd hcd
end

/-! ### tests -/
theorem iteF {A B : Prop} (h : B) : if false = true then A else B := by
  rw [if_neg Bool.false_ne_true]
  exact h
theorem iteT {A B : Prop} (h : A) : if true = true then A else B := by
  rw [if_pos rfl]
  exact h
theorem ite2 {c A B : Prop} [Decidable c] (h1 : c → A) (h2 : ¬ c → B) : if c then A else B := by
  by_cases h : c
  · rw [if_pos h]
    exact h1 h
  · rw [if_neg h]
    exact h2 h
theorem iteNS {c A B : Prop} [Decidable c] (hc : c) (h : B) : if (!decide c) = true then A else B := by
  rw [decide_eq_true hc]
  exact iteF h

/-! ### heaps -/
/-- all that was tracked is as it was -/
def Same (H H' : Hp) : Prop := ∀ b o, H b = some o → H' b = some o
theorem Same.refl (H : Hp) : Same H H := fun _ _ h => h
theorem Same.trans {H H1 H2 : Hp} (a : Same H H1) (b : Same H1 H2) : Same H H2 := fun c o h => b c o (a c o h)
theorem Same.seq {K : PySem.W.Frag} {H H' : Hp} {a : Addr} {xs : List V} (e : Same H H') (h : SqL K H a xs) : SqL K H' a xs := by
  rcases h with (h | ⟨o, h⟩) | h
  · exact .inl (.inl (e _ _ h))
  · exact .inl (.inr ⟨o, e _ _ h⟩)
  · exact .inr h

/-! ### a dict's pairs: keys that differ -/
section
variable {κ : Type} [DecidableEq κ]
end
end L2

set_option Elab.async false
set_option linter.all false
set_option maxHeartbeats 4000000
namespace LmSort
open PySem PySem.W PyProof.Rows

/-! ## the sort's tree of questions, answered by a strict order -/
def run {α : Type} (lt : Nat → Nat → Bool) : KasT α → α
  | .ret a => a
  | .ask i j k => run lt (k (lt i j))
theorem run_bind {α β : Type} (lt : Nat → Nat → Bool) (f : α → KasT β) : ∀ t : KasT α, run lt (t.bind f) = run lt (f (run lt t))
  | .ret _ => rfl
  | .ask i j k => by
    show run lt ((k (lt i j)).bind f) = _
    exact run_bind lt f (k (lt i j))
/-- each question lies below n, each leaf is of L -/
def AskIn {α : Type} (n : Nat) (L : α → Prop) : KasT α → Prop
  | .ret a => L a
  | .ask i j k => i < n ∧ j < n ∧ ∀ b, AskIn n L (k b)
theorem AskIn.bind {α β : Type} {n : Nat} {L : α → Prop} {L' : β → Prop} {f : α → KasT β} : ∀ {t : KasT α}, AskIn n L t → (∀ a, L a → AskIn n L' (f a)) → AskIn n L' (t.bind f)
  | .ret _, h, hf => hf _ h
  | .ask _ _ _, h, hf => ⟨h.1, h.2.1, fun b => AskIn.bind (h.2.2 b) hf⟩
/-- the questions asked of the machine, where each is answered by lt and P stays -/
theorem wp_of_run {α : Type} {cmp : Nat → Nat → (Bool → Shared → Prop) → Shared → Prop} {lt : Nat → Nat → Bool} {n : Nat} {L : α → Prop} {P : Shared → Prop}
    (hc : ∀ i j C s, i < n → j < n → P s → (∀ s', P s' → C (lt i j) s') → cmp i j C s) : ∀ (t : KasT α) (Q : α → Shared → Prop) (s : Shared), AskIn n L t → P s → (∀ s', P s' → Q (run lt t) s') → t.kasWp cmp Q s
  | .ret _, _, s, _, p, h => h s p
  | .ask i j k, Q, s, a, p, h => hc i j _ s a.1 a.2.1 p fun s' p' => wp_of_run hc (k (lt i j)) Q s' (a.2.2 _) p' h

/-- a strict order of the places below n -/
structure Ord (n : Nat) (lt : Nat → Nat → Bool) : Prop where
  irr : ∀ i, lt i i = false
  tr : ∀ i j k, i < n → j < n → k < n → lt i j = true → lt j k = true → lt i k = true
  tot : ∀ i j, i < n → j < n → i ≠ j → lt i j = false → lt j i = true
/-- an order of the places -/
structure Pm (n : Nat) (p : Array Nat) : Prop where
  size : p.size = n
  perm : p.toList.Perm (List.range n)
section
variable {n : Nat} {lt : Nat → Nat → Bool} {p : Array Nat}
theorem Pm.blw (P : Pm n p) (h0 : 0 < n) (k : Nat) : p.getD k 0 < n := by
  by_cases h : k < p.size
  · have e : p.getD k 0 = p[k] := by simp [Array.getD, h]
    rw [e]
    exact List.mem_range.mp (P.perm.mem_iff.mp (by simp))
  · have e : p.getD k 0 = 0 := by simp [Array.getD, h]
    omega
theorem Pm.ne (P : Pm n p) {i j : Nat} (hi : i < n) (hj : j < n) (h : i ≠ j) : p.getD i 0 ≠ p.getD j 0 := by
  have hi' : i < p.size := by rw [P.size]; exact hi
  have hj' : j < p.size := by rw [P.size]; exact hj
  have nd : p.toList.Nodup := P.perm.nodup_iff.mpr List.nodup_range
  have ei : p.getD i 0 = p.toList[i]'(by simpa using hi') := by simp [Array.getD, hi']
  have ej : p.getD j 0 = p.toList[j]'(by simpa using hj') := by simp [Array.getD, hj']
  rw [ei, ej]
  intro e
  exact h ((List.getElem_inj nd).mp e)
theorem Pm.of (P : Pm n p) {q : Array Nat} (h : q.Perm p) : Pm n q := ⟨by rw [h.size_eq]; exact P.size, (Array.perm_iff_toList_perm.mp h).trans P.perm⟩
theorem getD_of {p q : Array Nat} {i j : Nat} (h : p[i]? = q[j]?) : p.getD i 0 = q.getD j 0 := by
  rw [Array.getD_eq_getD_getElem?, Array.getD_eq_getD_getElem?, h]

/-- sorted up to k; falling up to k -/
def Up (lt : Nat → Nat → Bool) (p : Array Nat) (k : Nat) : Prop := ∀ a b, a < b → b < k → lt (p.getD a 0) (p.getD b 0) = true
def Down (lt : Nat → Nat → Bool) (p : Array Nat) (k : Nat) : Prop := ∀ a b, a < b → b < k → lt (p.getD b 0) (p.getD a 0) = true

theorem up_succ (O : Ord n lt) (P : Pm n p) {k : Nat} (hk : 1 ≤ k) (hkn : k < n) (u : Up lt p k) (h : lt (p.getD k 0) (p.getD (k - 1) 0) = false) : Up lt p (k + 1) := by
  have h0 : 0 < n := by omega
  have h1 : lt (p.getD (k - 1) 0) (p.getD k 0) = true := O.tot _ _ (P.blw h0 _) (P.blw h0 _) (P.ne hkn (by omega) (by omega)) h
  intro a b hab hb
  by_cases hbk : b < k
  · exact u a b hab hbk
  · have e : b = k := by omega
    subst e
    by_cases ha : a = b - 1
    · rw [ha]; exact h1
    · exact O.tr _ _ _ (P.blw h0 _) (P.blw h0 _) (P.blw h0 _) (u a (b - 1) (by omega) (by omega)) h1
theorem down_succ (O : Ord n lt) (P : Pm n p) {k : Nat} (hk : 1 ≤ k) (hkn : k < n) (u : Down lt p k) (h : lt (p.getD k 0) (p.getD (k - 1) 0) = true) : Down lt p (k + 1) := by
  have h0 : 0 < n := by omega
  intro a b hab hb
  by_cases hbk : b < k
  · exact u a b hab hbk
  · have e : b = k := by omega
    subst e
    by_cases ha : a = b - 1
    · rw [ha]; exact h
    · exact O.tr _ _ _ (P.blw h0 _) (P.blw h0 _) (P.blw h0 _) h (u a (b - 1) (by omega) (by omega))

theorem asc_in (P : Pm n p) (h0 : 0 < n) : ∀ f k, AskIn n (fun _ => True) (kas_asc p f k)
  | 0, _ => True.intro
  | f + 1, k => ⟨P.blw h0 _, P.blw h0 _, fun b => by
    (try dsimp only)
    split
    · exact True.intro
    · exact asc_in P h0 f (k + 1)⟩
theorem asc_run (O : Ord n lt) (P : Pm n p) : ∀ f k, 1 ≤ k → k + f ≤ n → Up lt p k → Up lt p (run lt (kas_asc p f k)) ∧ k ≤ run lt (kas_asc p f k) ∧ run lt (kas_asc p f k) ≤ k + f ∧
    (run lt (kas_asc p f k) < k + f → lt (p.getD (run lt (kas_asc p f k)) 0) (p.getD (run lt (kas_asc p f k) - 1) 0) = true)
  | 0, k, _, _, u => ⟨u, Nat.le_refl _, Nat.le_refl _, fun h => absurd h (Nat.lt_irrefl _)⟩
  | f + 1, k, hk, hn, u => by
    have e : run lt (kas_asc p (f + 1) k) = run lt (if lt (p.getD k 0) (p.getD (k - 1) 0) = true then .ret k else kas_asc p f (k + 1)) := rfl
    rw [e]
    by_cases h : lt (p.getD k 0) (p.getD (k - 1) 0) = true
    · rw [if_pos h]
      exact ⟨u, Nat.le_refl _, by show k ≤ k + (f + 1); omega, fun _ => h⟩
    · rw [if_neg h]
      obtain ⟨a1, a2, a3, a4⟩ := asc_run O P f (k + 1) (by omega) (by omega) (up_succ O P hk (by omega) u (by simpa using h))
      exact ⟨a1, by omega, by omega, fun z => a4 (by omega)⟩
theorem desc_in (h0 : 0 < n) : ∀ f p k q, Pm n p → AskIn n (fun r => Pm n r.1) (kas_desc f p k q)
  | 0, _, _, _, P => P
  | f + 1, p, k, q, P => ⟨P.blw h0 _, P.blw h0 _, fun b => by
    (try dsimp only)
    split
    · split
      · exact desc_in h0 f _ _ _ (P.of (mirror_perm _ _ _ _))
      · exact desc_in h0 f _ _ _ P
    · exact ⟨P.blw h0 _, P.blw h0 _, fun b => by
        (try dsimp only)
        split
        · exact P
        · exact desc_in h0 f _ _ _ P⟩⟩
theorem desc_run (O : Ord n lt) (P : Pm n p) : ∀ f k, 1 ≤ k → k + f ≤ n → Down lt p k → ∃ m, run lt (kas_desc f p k 0) = (p, m, 0) ∧ k ≤ m ∧ m ≤ k + f ∧ Down lt p m
  | 0, k, _, _, u => ⟨k, rfl, Nat.le_refl _, Nat.le_refl _, u⟩
  | f + 1, k, hk, hn, u => by
    have h0 : 0 < n := by omega
    have e : run lt (kas_desc (f + 1) p k 0) = run lt (if lt (p.getD k 0) (p.getD (k - 1) 0) = true then (if 0 > 0 then kas_desc f (kas_rev p (k - (0 + 1)) k) (k + 1) 0 else kas_desc f p (k + 1) 0)
      else .ask (p.getD (k - 1) 0) (p.getD k 0) fun d => if d = true then .ret (p, k, 0) else kas_desc f p (k + 1) (0 + 1)) := rfl
    rw [e]
    by_cases h : lt (p.getD k 0) (p.getD (k - 1) 0) = true
    · rw [if_pos h, if_neg (by omega)]
      obtain ⟨m, a1, a2, a3, a4⟩ := desc_run O P f (k + 1) (by omega) (by omega) (down_succ O P hk (by omega) u h)
      exact ⟨m, a1, by omega, by omega, a4⟩
    · rw [if_neg h]
      have h1 : lt (p.getD (k - 1) 0) (p.getD k 0) = true := O.tot _ _ (P.blw h0 _) (P.blw h0 _) (P.ne (by omega) (by omega) (by omega)) (by simpa using h)
      refine ⟨k, ?_, Nat.le_refl _, by omega, u⟩
      show run lt (if lt (p.getD (k - 1) 0) (p.getD k 0) = true then .ret (p, k, 0) else kas_desc f p (k + 1) (0 + 1)) = _
      rw [if_pos h1]
      all_goals rfl
theorem rev_up (P : Pm n p) {k : Nat} (hk : k ≤ n) (d : Down lt p k) : Up lt (kas_rev p 0 k) k := by
  intro a b hab hb
  have hs : k ≤ p.size := by rw [P.size]; exact hk
  have e : ∀ c, c < k → (kas_rev p 0 k).getD c 0 = p.getD (k - 1 - c) 0 := fun c hc => getD_of (by
    have z := getElem?_mirror_all (xs := p) (i := 0) (j := k) hs c
    rw [if_pos ⟨Nat.zero_le _, hc⟩] at z
    show (mirror p 0 k ((k - 0) / 2))[c]? = _
    rw [z]
    congr 1
    omega)
  rw [e a (by omega), e b hb]
  exact d _ _ (by omega) (by omega)
theorem count_in (P : Pm n p) (h0 : 0 < n) (m : Nat) : AskIn n (fun r => Pm n r.2) (kas_count m p) := by
  have tail : ∀ k q, Pm n q → AskIn n (fun r => Pm n r.2) (kas_tail3 k m q) := fun k q Q => AskIn.bind (asc_in (Q.of (mirror_perm _ _ _ _)) h0 _ _) fun _ _ => Q.of (mirror_perm _ _ _ _)
  have dpart : ∀ k q, Pm n q → AskIn n (fun r => Pm n r.2) (kas_descPart k m q) := fun k q Q => AskIn.bind (desc_in h0 _ _ _ _ Q) fun a ha => by
    (try dsimp only)
    split
    · exact tail _ _ (ha.of (mirror_perm _ _ _ _))
    · exact tail _ _ ha
  refine AskIn.bind (asc_in P h0 _ _) fun a _ => ?_
  (try dsimp only)
  split
  · exact P
  · split
    · refine ⟨P.blw h0 _, P.blw h0 _, fun b => ?_⟩
      (try dsimp only)
      split
      · exact P
      · exact dpart _ _ (P.of (mirror_perm _ _ _ _))
    · exact dpart _ _ P
theorem count_run (O : Ord n lt) (P : Pm n p) (h2 : 2 ≤ n) : ∃ m q, run lt (kas_count n p) = (m, q) ∧ 1 ≤ m ∧ m ≤ n ∧ Pm n q ∧ Up lt q m := by
  have h0 : 0 < n := by omega
  obtain ⟨a1, a2, a3, a4⟩ := asc_run O P (n - 1) 1 (Nat.le_refl _) (by omega) (fun a b h1 h2 => by omega)
  unfold kas_count
  rw [run_bind]
  generalize run lt (kas_asc p (n - 1) 1) = r at a1 a2 a3 a4
  (try dsimp only)
  by_cases hr : (r == n) = true
  · rw [if_pos hr]
    exact ⟨r, p, rfl, a2, by omega, P, a1⟩
  · rw [if_neg hr]
    have hrn : r ≠ n := by simpa using hr
    by_cases h1 : r > 1
    · rw [if_pos h1]
      refine ⟨r, p, ?_, a2, by omega, P, a1⟩
      show run lt (if lt (p.getD 0 0) (p.getD (r - 1) 0) = true then .ret (r, p) else _) = _
      rw [if_pos (a1 0 (r - 1) (by omega) (by omega))]
      all_goals rfl
    · rw [if_neg h1]
      have e1 : r = 1 := by omega
      subst e1
      have d2 : Down lt p 2 := fun a b hab hb => by
        have ea : a = 0 := by omega
        have eb : b = 1 := by omega
        subst ea eb
        exact a4 (by omega)
      obtain ⟨m, b1, b2, b3, b4⟩ := desc_run O P (n - (1 + 1)) 2 (by omega) (by omega) d2
      unfold kas_descPart
      rw [run_bind, b1]
      (try dsimp only)
      rw [if_neg (by omega)]
      unfold kas_tail3
      rw [run_bind]
      have P' : Pm n (kas_rev p 0 m) := P.of (mirror_perm _ _ _ _)
      obtain ⟨c1, c2, c3, _⟩ := asc_run O P' (n - m) m (by omega) (by omega) (rev_up P (by omega) b4)
      exact ⟨_, _, rfl, by omega, by omega, P', c1⟩

theorem place_in (P : Pm n p) (h0 : 0 < n) : ∀ f k l r, AskIn n (fun _ => True) (kas_place p k f l r)
  | 0, _, _, _ => True.intro
  | f + 1, k, l, r => by
    show AskIn n (fun _ => True) (if l ≥ r then _ else _)
    split
    · exact True.intro
    · refine ⟨P.blw h0 _, P.blw h0 _, fun b => ?_⟩
      (try dsimp only)
      split
      · exact place_in P h0 f k _ _
      · exact place_in P h0 f k _ _
theorem place_run (O : Ord n lt) (P : Pm n p) {k : Nat} (hk : k < n) (u : Up lt p k) : ∀ f l r, r - l ≤ f → l ≤ r → r ≤ k → (∀ j, j < l → lt (p.getD k 0) (p.getD j 0) = false) → (∀ j, r ≤ j → j < k → lt (p.getD k 0) (p.getD j 0) = true) →
    ∃ m, run lt (kas_place p k f l r) = m ∧ m ≤ k ∧ (∀ j, j < m → lt (p.getD k 0) (p.getD j 0) = false) ∧ (∀ j, m ≤ j → j < k → lt (p.getD k 0) (p.getD j 0) = true)
  | 0, l, r, hf, hlr, hrk, h1, h2 => by
    have e : l = r := by omega
    subst e
    exact ⟨l, rfl, hrk, h1, h2⟩
  | f + 1, l, r, hf, hlr, hrk, h1, h2 => by
    have h0 : 0 < n := by omega
    have e : run lt (kas_place p k (f + 1) l r) = run lt (if l ≥ r then .ret l else .ask (p.getD k 0) (p.getD ((l + r) / 2) 0) fun c => if c = true then kas_place p k f l ((l + r) / 2) else kas_place p k f ((l + r) / 2 + 1) r) := rfl
    rw [e]
    by_cases h : l ≥ r
    · rw [if_pos h]
      have e : l = r := by omega
      subst e
      exact ⟨l, rfl, hrk, h1, h2⟩
    · rw [if_neg h]
      have hm1 : l ≤ (l + r) / 2 := by omega
      have hm2 : (l + r) / 2 < r := by omega
      show ∃ m, run lt (if lt (p.getD k 0) (p.getD ((l + r) / 2) 0) = true then kas_place p k f l ((l + r) / 2) else kas_place p k f ((l + r) / 2 + 1) r) = m ∧ _
      by_cases c : lt (p.getD k 0) (p.getD ((l + r) / 2) 0) = true
      · rw [if_pos c]
        refine place_run O P hk u f l _ (by omega) hm1 (by omega) h1 fun j hj hjk => ?_
        by_cases ej : j = (l + r) / 2
        · rw [ej]; exact c
        · exact O.tr _ _ _ (P.blw h0 _) (P.blw h0 _) (P.blw h0 _) c (u _ _ (by omega) hjk)
      · rw [if_neg c]
        have c' : lt (p.getD k 0) (p.getD ((l + r) / 2) 0) = false := by simpa using c
        refine place_run O P hk u f _ r (by omega) (by omega) hrk (fun j hj => ?_) h2
        by_cases ej : j = (l + r) / 2
        · rw [ej]; exact c'
        · cases q : lt (p.getD k 0) (p.getD j 0) with
          | false => rfl
          | true =>
            have z := O.tr _ _ _ (P.blw h0 _) (P.blw h0 _) (P.blw h0 _) q (u j ((l + r) / 2) (by omega) (by omega))
            rw [z] at c'
            cases c'
theorem bin_in (h0 : 0 < n) : ∀ f p k, Pm n p → AskIn n (Pm n) (kas_bin f p k)
  | 0, _, _, P => P
  | f + 1, p, k, P => AskIn.bind (place_in P h0 _ _ _ _) fun l _ => bin_in h0 f _ _ (P.of (bubble_perm _ _ _))
theorem bubble_up (O : Ord n lt) (P : Pm n p) {k m : Nat} (hk : k < n) (hm : m ≤ k) (u : Up lt p k) (h1 : ∀ j, j < m → lt (p.getD k 0) (p.getD j 0) = false) (h2 : ∀ j, m ≤ j → j < k → lt (p.getD k 0) (p.getD j 0) = true) :
    Up lt (bubble p k (k - m)) (k + 1) := by
  have h0 : 0 < n := by omega
  have hs : k < p.size := by rw [P.size]; exact hk
  have at' : ∀ c, (bubble p k (k - m)).getD c 0 = if c = m then p.getD k 0 else if m < c ∧ c ≤ k then p.getD (c - 1) 0 else p.getD c 0 := fun c => by
    have z := getElem?_bubble hs (k - m) (by omega) c
    rw [show k - (k - m) = m by omega] at z
    by_cases hc : c = m
    · rw [if_pos hc] at z ⊢
      exact getD_of z
    · rw [if_neg hc] at z ⊢
      by_cases hd : m < c ∧ c ≤ k
      · rw [if_pos hd] at z ⊢
        exact getD_of z
      · rw [if_neg hd] at z ⊢
        exact getD_of z
  intro a b hab hb
  rw [at' a, at' b]
  by_cases ha : a = m
  · rw [if_pos ha, if_neg (by omega), if_pos (by omega)]
    exact h2 (b - 1) (by omega) (by omega)
  · rw [if_neg ha]
    by_cases hbm : b = m
    · rw [if_pos hbm, if_neg (by omega)]
      exact O.tot _ _ (P.blw h0 _) (P.blw h0 _) (P.ne hk (by omega) (by omega)) (h1 a (by omega))
    · rw [if_neg hbm]
      by_cases ham : m < a
      · rw [if_pos (by omega), if_pos (by omega)]
        exact u _ _ (by omega) (by omega)
      · rw [if_neg (by omega)]
        by_cases hbm2 : m < b
        · rw [if_pos (by omega)]
          by_cases e : a = b - 1
          · omega
          · exact u _ _ (by omega) (by omega)
        · rw [if_neg (by omega)]
          exact u _ _ hab (by omega)
theorem bin_run (O : Ord n lt) : ∀ f p k, Pm n p → k + f = n → Up lt p k → Pm n (run lt (kas_bin f p k)) ∧ Up lt (run lt (kas_bin f p k)) n
  | 0, p, k, P, e, u => by
    have e' : k = n := by omega
    subst e'
    exact ⟨P, u⟩
  | f + 1, p, k, P, e, u => by
    obtain ⟨m, a1, a2, a3, a4⟩ := place_run O P (by omega) u k 0 k (by omega) (Nat.zero_le _) (Nat.le_refl _) (fun j hj => by omega) (fun j h1 h2 => by omega)
    show Pm n (run lt ((kas_place p k k 0 k).bind fun l => kas_bin f (bubble p k (k - l)) (k + 1))) ∧ Up lt (run lt ((kas_place p k k 0 k).bind fun l => kas_bin f (bubble p k (k - l)) (k + 1))) n
    rw [run_bind, a1]
    exact bin_run O f _ (k + 1) (P.of (bubble_perm _ _ _)) (by omega) (bubble_up O P (by omega) a2 u a3 a4)
theorem pm_range : Pm n (List.toArray (List.range n)) := ⟨by simp, by simp⟩
theorem sort_in (h2 : 2 ≤ n) : AskIn n (Pm n) (kas_sort n) := by
  have h0 : 0 < n := by omega
  refine AskIn.bind (count_in pm_range h0 n) fun a ha => ?_
  (try dsimp only)
  split
  · exact bin_in h0 _ _ _ ha
  · exact ha
/-- the answer: a perm of the places, rising by lt -/
theorem sort_run (O : Ord n lt) (h2 : 2 ≤ n) : Pm n (run lt (kas_sort n)) ∧ Up lt (run lt (kas_sort n)) n := by
  obtain ⟨m, q, a1, a2, a3, a4, a5⟩ := count_run O (pm_range (n := n)) h2
  unfold kas_sort
  rw [run_bind, a1]
  (try dsimp only)
  by_cases h : m < n
  · rw [if_pos h]
    have e : max m 1 = m := by omega
    rw [e]
    exact bin_run O _ _ _ a4 (by omega) a5
  · rw [if_neg h]
    have e : m = n := by omega
    subst e
    exact ⟨a4, a5⟩
end
end LmSort

set_option Elab.async false
set_option linter.all false
set_option maxRecDepth 100000
set_option maxHeartbeats 4000000
namespace LmMg
open PySem PySem.W PyProof.Rows LmSort

abbrev ltP : Keyed → Keyed → StateT SortSt Sem (Option Bool) := sortPriv% PySem.Builtin.lt
abbrev elemP : Array Keyed → Nat → StateT SortSt Sem Keyed := sortPriv% PySem.Builtin.elem
def gallopP : Bool → Keyed → Array Keyed → Nat → Nat → Nat → StateT SortSt Sem (Option Nat) := sortPriv% PySem.Builtin.gallop
def mergeLoP : Array Keyed → Array Keyed → StateT SortSt Sem (Array Keyed) := sortPriv% PySem.Builtin.mergeLo
def mergeHiP : Array Keyed → Array Keyed → StateT SortSt Sem (Array Keyed) := sortPriv% PySem.Builtin.mergeHi

/-! ## rows of places -/
def L (item : Nat → Keyed) (l : List Nat) : Array Keyed := (l.map item).toArray
section
variable {item : Nat → Keyed} {l m : List Nat}
theorem L_push (x : Nat) : (L item l).push (item x) = L item (l ++ [x]) := by simp [L]
theorem L_app : L item l ++ L item m = L item (l ++ m) := by simp [L]
theorem L_ext (i j : Nat) : (L item l).extract i j = L item ((l.drop i).take (j - i)) := by simp [L]
theorem L_size : (L item l).size = l.length := by simp [L]
theorem L_get (i : Nat) : (L item l)[i]? = l[i]?.map item := by simp [L]
theorem L_rev : (L item l).reverse = L item l.reverse := by simp [L]
theorem L_one (x : Nat) : #[item x] = L item [x] := by simp [L]
theorem L_extAll (i : Nat) : (L item l).extract i = L item (l.drop i) := by rw [L_ext, L_size, List.take_of_length_le (by simp)]
end

/-! ## what is merged -/
structure MI (R : Nat → Nat → Prop) (tot out a b : List Nat) : Prop where
  perm : (out ++ (a ++ b)).Perm tot
  so : out.Pairwise R
  sa : a.Pairwise R
  sb : b.Pairwise R
  ra : ∀ x ∈ out, ∀ y ∈ a, R x y
  rb : ∀ x ∈ out, ∀ y ∈ b, R x y
section
variable {R : Nat → Nat → Prop} {tot out a b x : List Nat}
theorem MI.flip (h : MI R tot out a b) : MI R tot out b a :=
  ⟨(List.Perm.append_left _ List.perm_append_comm).trans h.perm, h.so, h.sb, h.sa, h.rb, h.ra⟩
theorem MI.tA (h : MI R tot out (x ++ a) b) (hx : ∀ u ∈ x, ∀ v ∈ b, R u v) : MI R tot (out ++ x) a b := by
  obtain ⟨p, so, sa, sb, ra, rb⟩ := h
  have sa' := List.pairwise_append.mp sa
  refine ⟨by simpa [List.append_assoc] using p, List.pairwise_append.mpr ⟨so, sa'.1, fun u hu v hv => ra u hu v (by simp [hv])⟩, sa'.2.1, sb, fun u hu v hv => ?_, fun u hu v hv => ?_⟩
  · rcases List.mem_append.mp hu with q | q
    · exact ra u q v (by simp [hv])
    · exact sa'.2.2 u q v hv
  · rcases List.mem_append.mp hu with q | q
    · exact rb u q v hv
    · exact hx u q v hv
theorem MI.tB (h : MI R tot out a (x ++ b)) (hx : ∀ u ∈ x, ∀ v ∈ a, R u v) : MI R tot (out ++ x) a b := (h.flip.tA hx).flip
theorem MI.endA (h : MI R tot out a []) : (out ++ a).Perm tot ∧ (out ++ a).Pairwise R :=
  ⟨by simpa using h.perm, List.pairwise_append.mpr ⟨h.so, h.sa, h.ra⟩⟩
theorem MI.endB (h : MI R tot out [] b) : (out ++ b).Perm tot ∧ (out ++ b).Pairwise R := h.flip.endA
/-- the heads are held against each other -/
theorem MI.hA {u v : Nat} (tr : ∀ i j k, R i j → R j k → R i k) (h : MI R tot out (u :: a) (v :: b)) (c : R u v) : MI R tot (out ++ [u]) a (v :: b) := by
  refine MI.tA (x := [u]) h fun i hi j hj => ?_
  have e : i = u := by simpa using hi
  subst e
  rcases List.mem_cons.mp hj with q | q
  · exact q ▸ c
  · exact tr _ _ _ c ((List.pairwise_cons.mp h.sb).1 j q)
theorem MI.hB {u v : Nat} (tr : ∀ i j k, R i j → R j k → R i k) (h : MI R tot out (u :: a) (v :: b)) (c : R v u) : MI R tot (out ++ [v]) (u :: a) b := (h.flip.hA tr c).flip
/-- a part that lies below the other's head -/
theorem MI.pA {v : Nat} (tr : ∀ i j k, R i j → R j k → R i k) (h : MI R tot out (x ++ a) (v :: b)) (c : ∀ u ∈ x, R u v) : MI R tot (out ++ x) a (v :: b) := by
  refine MI.tA h fun i hi j hj => ?_
  rcases List.mem_cons.mp hj with q | q
  · exact q ▸ c i hi
  · exact tr _ _ _ (c i hi) ((List.pairwise_cons.mp h.sb).1 j q)
theorem MI.pB {u : Nat} (tr : ∀ i j k, R i j → R j k → R i k) (h : MI R tot out (u :: a) (x ++ b)) (c : ∀ v ∈ x, R v u) : MI R tot (out ++ x) (u :: a) b := (h.flip.pA tr c).flip
theorem MI.len (h : MI R tot out a b) : out.length + a.length + b.length = tot.length := by
  have := h.perm.length_eq
  simp only [List.length_append] at this
  omega
end

/-! ## questions -/
def Ans (prog : Program) (w : World) (A : Around) (s : Shared) (κ : SortKind) (item : Nat → Keyed) (n : Nat) (lt : Nat → Nat → Bool) : Prop :=
  ∀ i j, i < n → j < n → ∀ C : Bool → Shared → Prop, C (lt i j) s → wpAny (model prog w) A (keyLt' κ (item i).1 (item j).1) C (fun _ _ => False) s
section
variable {prog : Program} {w : World} {A : Around} {E : Value → Shared → Prop} {s : Shared} {κ : SortKind} {item : Nat → Keyed} {n : Nat} {lt : Nat → Nat → Bool}
theorem lt_i (hA : Ans prog w A s κ item n lt) {i j : Nat} (hi : i < n) (hj : j < n) {st : SortSt} (hk : kindOf st = κ) {Q : Option Bool → SortSt → Prop} (h : Q (some (lt i j)) st) :
    wpS (model prog w) A E s (ltP (item i) (item j)) Q st := by
  show wpS _ _ _ _ (lt' (item i) (item j)) Q st
  rw [lt'_eq]
  refine wpS_bind (wpS_get ?_)
  rw [hk]
  refine wpS_bind (wpS_lift (wpAny_attempt (wpAny_mono (hA i j hi hj (fun b s' => b = lt i j ∧ s' = s) ⟨rfl, rfl⟩) (fun b s' q => ?_) fun _ _ z => z.elim)))
  obtain ⟨rfl, rfl⟩ := q
  exact ⟨rfl, wpS_pure h⟩
theorem elem_i {l : List Nat} {i x : Nat} (hx : l[i]? = some x) {st : SortSt} {Q : Keyed → SortSt → Prop} (h : Q (item x) st) : wpS (model prog w) A E s (elemP (L item l) i) Q st := by
  show wpS _ _ _ _ (elem' (L item l) i) Q st
  rw [elem'_eq, L_get, hx]
  exact wpS_pure h

def Bey (lt : Nat → Nat → Bool) (left : Bool) (key x : Nat) : Bool := if left = true then lt x key else !lt key x
theorem beyond_i (hA : Ans prog w A s κ item n lt) {left : Bool} {key x i : Nat} {l : List Nat} (hk : key < n) (hx : l[i]? = some x) (hxn : x < n) {st : SortSt} (hs : kindOf st = κ) {Q : Option Bool → SortSt → Prop} (h : Q (some (Bey lt left key x)) st) :
    wpS (model prog w) A E s (elemP (L item l) i >>= fun x => if left = true then ltP x (item key) else (ltP (item key) x >>= fun r => pure (Option.map (fun c => !c) r))) Q st := by
  refine wpS_bind (elem_i hx ?_)
  cases left
  · rw [if_neg (by simp)]
    refine wpS_bind (lt_i hA hk hxn hs (wpS_pure ?_))
    simpa [Bey] using h
  · rw [if_pos rfl]
    refine lt_i hA hxn hk hs ?_
    simpa [Bey] using h

theorem gallop_i (hA : Ans prog w A s κ item n lt) {left : Bool} {key : Nat} {l : List Nat} {base m hint : Nat} (hk : key < n) (hl : ∀ x ∈ l, x < n) (hb : base + m ≤ l.length) (hh : hint < m)
    (mono : ∀ i j, i ≤ j → j < m → Bey lt left key (l.getD (base + j) 0) = true → Bey lt left key (l.getD (base + i) 0) = true) {st : SortSt} (hs : kindOf st = κ) {Q : Option Nat → SortSt → Prop}
    (h : ∀ k, k ≤ m → (∀ i, i < k → Bey lt left key (l.getD (base + i) 0) = true) → (∀ i, k ≤ i → i < m → Bey lt left key (l.getD (base + i) 0) = false) → Q (some k) st) :
    wpS (model prog w) A E s (gallopP left (item key) (L item l) base m hint) Q st := by
  have get : ∀ i, i < m → l[base + i]? = some (l.getD (base + i) 0) := fun i hi => by
    have : base + i < l.length := by omega
    simp [List.getD_eq_getElem?_getD, List.getElem?_eq_getElem this]
  have blw : ∀ i, i < m → l.getD (base + i) 0 < n := fun i hi => hl _ (List.mem_of_getElem? (get i hi))
  generalize hF : (fun i => Bey lt left key (l.getD (base + i) 0)) = F
  have hFe : ∀ i, Bey lt left key (l.getD (base + i) 0) = F i := fun i => by rw [← hF]
  simp only [hFe] at mono h
  have anti : ∀ i j, i ≤ j → j < m → F i = false → F j = false := fun i j hij hj e => by
    cases q : F j with
    | false => rfl
    | true => rw [mono i j hij hj q] at e; exact e
  refine wpS_bind (beyond_i hA hk (get hint hh) (blw hint hh) hs ?_)
  rw [hFe]
  dsimp only
  cases hr : F hint with
  | true =>
    rw [if_pos rfl]
    refine wpS_bind (wpS_mono (wpS_forRange (I := fun x c st' => st' = st ∧ ∃ la of, c = (none, la, of) ∧ la < of ∧ la < m - hint ∧ x < of ∧ F (hint + la) = true)
      (Q := fun c st' => st' = st ∧ ∃ la of, c = (none, la, of) ∧ la < of ∧ la < m - hint ∧ F (hint + la) = true ∧ (m - hint ≤ of ∨ F (hint + of) = false)) ?stepA ?finA ⟨rfl, 0, 1, rfl, by omega, by omega, by omega, hr⟩) ?postA)
    case finA =>
      rintro c st' ⟨rfl, la, of, rfl, h1, h2, h3, h4⟩
      exact ⟨rfl, la, of, rfl, h1, h2, h4, .inl (by omega)⟩
    case stepA =>
      rintro x c st' _ hx ⟨rfl, la, of, rfl, h1, h2, h3, h4⟩
      dsimp only
      by_cases hge : of ≥ m - hint
      · rw [if_pos hge]
        exact wpS_pure ⟨rfl, la, of, rfl, h1, h2, h4, .inl hge⟩
      · rw [if_neg hge]
        refine wpS_bind (beyond_i hA hk (get (hint + of) (by omega)) (blw (hint + of) (by omega)) hs ?_)
        rw [hFe]
        dsimp only
        cases hm : F (hint + of) with
        | false => exact wpS_pure ⟨rfl, la, of, rfl, h1, h2, h4, .inr hm⟩
        | true => exact wpS_pure ⟨rfl, of, 2 * of + 1, rfl, by omega, by omega, by omega, hm⟩
    case postA =>
      rintro c st' ⟨rfl, la, of, rfl, h1, h2, h4, h5⟩
      dsimp only
      refine wpS_bind (wpS_mono (wpS_forRange (I := fun x c st'' => st'' = st' ∧ ∃ lo hi, c = (none, lo, hi) ∧ lo ≤ hi ∧ hi ≤ m ∧ hi - lo ≤ m - x ∧ (∀ i, i < lo → F i = true) ∧ (∀ i, hi ≤ i → i < m → F i = false))
        (Q := fun c st'' => st'' = st' ∧ ∃ lo hi, c = (none, lo, hi) ∧ hi ≤ m ∧ (∀ i, i < hi → F i = true) ∧ (∀ i, hi ≤ i → i < m → F i = false)) ?stepB ?finB ⟨rfl, hint + la + 1, hint + min of (m - hint), rfl, by omega, by omega, by omega, fun i hi => mono i _ (by omega) (by omega) h4, ?zB⟩) ?postB)
      case zB =>
        intro i g1 g2
        rcases h5 with h5 | h5
        · omega
        · exact anti _ i (by omega) g2 h5
      case finB =>
        rintro c st'' ⟨rfl, lo, hi, rfl, g1, g2, g3, g4, g5⟩
        have : lo = hi := by omega
        subst this
        exact ⟨rfl, lo, lo, rfl, g2, g4, g5⟩
      case stepB =>
        rintro x c st'' _ hx ⟨rfl, lo, hi, rfl, g1, g2, g3, g4, g5⟩
        dsimp only
        by_cases hge : lo ≥ hi
        · rw [if_pos hge]
          have : lo = hi := by omega
          subst this
          exact wpS_pure ⟨rfl, lo, lo, rfl, g2, g4, g5⟩
        · rw [if_neg hge]
          refine wpS_bind (beyond_i hA hk (get (lo + (hi - lo) / 2) (by omega)) (blw (lo + (hi - lo) / 2) (by omega)) hs ?_)
          rw [hFe]
          dsimp only
          cases hm : F (lo + (hi - lo) / 2) with
          | true => exact wpS_pure ⟨rfl, lo + (hi - lo) / 2 + 1, hi, rfl, by omega, g2, by omega, fun i hi => mono i _ (by omega) (by omega) hm, g5⟩
          | false => exact wpS_pure ⟨rfl, lo, lo + (hi - lo) / 2, rfl, by omega, by omega, by omega, g4, fun i k1 k2 => anti _ i k1 k2 hm⟩
      case postB =>
        rintro c st'' ⟨rfl, lo, hi, rfl, g2, g4, g5⟩
        exact wpS_pure (h hi g2 g4 g5)
  | false =>
    rw [if_neg (by simp)]
    refine wpS_bind (wpS_mono (wpS_forRange (I := fun x c st' => st' = st ∧ ∃ la of, c = (none, la, of) ∧ la < of ∧ la < hint + 1 ∧ x < of ∧ F (hint - la) = false)
      (Q := fun c st' => st' = st ∧ ∃ la of, c = (none, la, of) ∧ la < of ∧ la < hint + 1 ∧ F (hint - la) = false ∧ (hint + 1 ≤ of ∨ F (hint - of) = true)) ?stepC ?finC ⟨rfl, 0, 1, rfl, by omega, by omega, by omega, hr⟩) ?postC)
    case finC =>
      rintro c st' ⟨rfl, la, of, rfl, h1, h2, h3, h4⟩
      exact ⟨rfl, la, of, rfl, h1, h2, h4, .inl (by omega)⟩
    case stepC =>
      rintro x c st' _ hx ⟨rfl, la, of, rfl, h1, h2, h3, h4⟩
      dsimp only
      by_cases hge : of ≥ hint + 1
      · rw [if_pos hge]
        exact wpS_pure ⟨rfl, la, of, rfl, h1, h2, h4, .inl hge⟩
      · rw [if_neg hge]
        refine wpS_bind (beyond_i hA hk (get (hint - of) (by omega)) (blw (hint - of) (by omega)) hs ?_)
        rw [hFe]
        dsimp only
        cases hm : F (hint - of) with
        | true => exact wpS_pure ⟨rfl, la, of, rfl, h1, h2, h4, .inr hm⟩
        | false => exact wpS_pure ⟨rfl, of, 2 * of + 1, rfl, by omega, by omega, by omega, hm⟩
    case postC =>
      rintro c st' ⟨rfl, la, of, rfl, h1, h2, h4, h5⟩
      dsimp only
      refine wpS_bind (wpS_mono (wpS_forRange (I := fun x c st'' => st'' = st' ∧ ∃ lo hi, c = (none, lo, hi) ∧ lo ≤ hi ∧ hi ≤ m ∧ hi - lo ≤ m - x ∧ (∀ i, i < lo → F i = true) ∧ (∀ i, hi ≤ i → i < m → F i = false))
        (Q := fun c st'' => st'' = st' ∧ ∃ lo hi, c = (none, lo, hi) ∧ hi ≤ m ∧ (∀ i, i < hi → F i = true) ∧ (∀ i, hi ≤ i → i < m → F i = false)) ?stepD ?finD ⟨rfl, hint + 1 - min of (hint + 1), hint - la, rfl, by omega, by omega, by omega, ?zD, fun i g1 g2 => anti _ i g1 g2 h4⟩) ?postD)
      case zD =>
        intro i hi
        rcases h5 with h5 | h5
        · omega
        · exact mono i _ (by omega) (by omega) h5
      case finD =>
        rintro c st'' ⟨rfl, lo, hi, rfl, g1, g2, g3, g4, g5⟩
        have : lo = hi := by omega
        subst this
        exact ⟨rfl, lo, lo, rfl, g2, g4, g5⟩
      case stepD =>
        rintro x c st'' _ hx ⟨rfl, lo, hi, rfl, g1, g2, g3, g4, g5⟩
        dsimp only
        by_cases hge : lo ≥ hi
        · rw [if_pos hge]
          have : lo = hi := by omega
          subst this
          exact wpS_pure ⟨rfl, lo, lo, rfl, g2, g4, g5⟩
        · rw [if_neg hge]
          refine wpS_bind (beyond_i hA hk (get (lo + (hi - lo) / 2) (by omega)) (blw (lo + (hi - lo) / 2) (by omega)) hs ?_)
          rw [hFe]
          dsimp only
          cases hm : F (lo + (hi - lo) / 2) with
          | true => exact wpS_pure ⟨rfl, lo + (hi - lo) / 2 + 1, hi, rfl, by omega, g2, by omega, fun i hi => mono i _ (by omega) (by omega) hm, g5⟩
          | false => exact wpS_pure ⟨rfl, lo, lo + (hi - lo) / 2, rfl, by omega, by omega, by omega, g4, fun i k1 k2 => anti _ i k1 k2 hm⟩
      case postD =>
        rintro c st'' ⟨rfl, lo, hi, rfl, g2, g4, g5⟩
        exact wpS_pure (h hi g2 g4 g5)
end
end LmMg

set_option Elab.async false
set_option linter.all false
set_option maxRecDepth 100000
set_option maxHeartbeats 4000000
namespace LmMg
open PySem PySem.W PyProof.Rows LmSort

/-- the order among the places below n -/
def Rl (n : Nat) (lt : Nat → Nat → Bool) (i j : Nat) : Prop := i < n ∧ j < n ∧ lt i j = true
theorem Rl.tr {n : Nat} {lt : Nat → Nat → Bool} (O : Ord n lt) (i j k : Nat) (h1 : Rl n lt i j) (h2 : Rl n lt j k) : Rl n lt i k := ⟨h1.1, h2.2.1, O.tr i j k h1.1 h1.2.1 h2.2.1 h1.2.2 h2.2.2⟩
theorem Rl.of {n : Nat} {lt : Nat → Nat → Bool} (O : Ord n lt) {i j : Nat} (hi : i < n) (hj : j < n) (ne : i ≠ j) (h : lt i j = false) : Rl n lt j i := ⟨hj, hi, O.tot i j hi hj ne h⟩
theorem Rl.not {n : Nat} {lt : Nat → Nat → Bool} (O : Ord n lt) {i j : Nat} (h : Rl n lt i j) : lt j i = false := by
  cases q : lt j i with
  | false => rfl
  | true =>
    have := O.tr i j i h.1 h.2.1 h.1 h.2.2 q
    rw [O.irr] at this
    exact this.symm

def SG (st st' : SortSt) : Prop := kindOf st' = kindOf st ∧ arrOf st' = arrOf st ∧ pendingOf st' = pendingOf st ∧ failedOf st' = failedOf st
theorem SG.rfl {st : SortSt} : SG st st := ⟨Eq.refl _, Eq.refl _, Eq.refl _, Eq.refl _⟩
theorem getD_at {l : List Nat} {i : Nat} (h : i < l.length) : l[i]? = some (l.getD i 0) := by
  simp [List.getD_eq_getElem?_getD, List.getElem?_eq_getElem h]
theorem drop_at {l : List Nat} {i : Nat} (h : i < l.length) : l.drop i = l.getD i 0 :: l.drop (i + 1) := by
  rw [List.drop_eq_getElem_cons h]
  simp [List.getD_eq_getElem?_getD, List.getElem?_eq_getElem h]
theorem take_at {l : List Nat} {i : Nat} (h : i < l.length) : (l.take (i + 1)).reverse = l.getD i 0 :: (l.take i).reverse := by
  rw [List.take_succ, getD_at h]
  simp
theorem getD_mem {l : List Nat} {i : Nat} (h : i < l.length) : l.getD i 0 ∈ l := List.mem_of_getElem? (getD_at h)
theorem pw_getD {R : Nat → Nat → Prop} {l : List Nat} (h : l.Pairwise R) {i j : Nat} (hij : i < j) (hj : j < l.length) : R (l.getD i 0) (l.getD j 0) := by
  have := List.pairwise_iff_getElem.mp h i j (by omega) hj hij
  simpa [List.getD_eq_getElem?_getD, List.getElem?_eq_getElem hj, List.getElem?_eq_getElem (show i < l.length by omega)] using this
theorem seg_mem {l : List Nat} {b k x : Nat} (h : x ∈ (l.drop b).take k) : ∃ i, i < k ∧ b + i < l.length ∧ x = l.getD (b + i) 0 := by
  obtain ⟨i, hi⟩ := List.getElem?_of_mem h
  have hk : i < k := by
    by_cases c : i < k
    · exact c
    · rw [List.getElem?_take, if_neg c] at hi; cases hi
  rw [List.getElem?_take_of_lt hk, List.getElem?_drop] at hi
  refine ⟨i, hk, ?_, ?_⟩
  · by_cases c : b + i < l.length
    · exact c
    · rw [List.getElem?_eq_none (by omega)] at hi; cases hi
  · rw [List.getD_eq_getElem?_getD, hi]; rfl
theorem seg_mem2 {l : List Nat} {b m k x : Nat} (h : x ∈ ((l.drop b).take m).drop k) : ∃ i, k ≤ i ∧ i < m ∧ b + i < l.length ∧ x = l.getD (b + i) 0 := by
  rw [List.drop_take, List.drop_drop] at h
  obtain ⟨i, h1, h2, h3⟩ := seg_mem h
  exact ⟨k + i, by omega, by omega, by omega, by rw [h3, Nat.add_assoc]⟩
section
variable {prog : Program} {w : World} {A : Around} {E : Value → Shared → Prop} {s : Shared} {κ : SortKind} {item : Nat → Keyed} {n : Nat} {lt : Nat → Nat → Bool}
/-- gallop in a rising part of a row: what lies ahead of the place is less, what lies behind it more -/
theorem gal0 (hA : Ans prog w A s κ item n lt) (O : Ord n lt) {left : Bool} {key : Nat} {l : List Nat} {base m hint : Nat} (hk : key < n) (sl : ∀ i j, i < j → j < m → Rl n lt (l.getD (base + i) 0) (l.getD (base + j) 0)) (hl : ∀ x ∈ l, x < n) (hb : base + m ≤ l.length) (hh : hint < m) (hne : ∀ i, i < m → l.getD (base + i) 0 ≠ key)
    {st : SortSt} (hs : kindOf st = κ) {Q : Option Nat → SortSt → Prop} (h : ∀ k, k ≤ m → (∀ x ∈ (l.drop base).take k, Rl n lt x key) → (∀ x ∈ ((l.drop base).take m).drop k, Rl n lt key x) → Q (some k) st) :
    wpS (model prog w) A E s (gallopP left (item key) (L item l) base m hint) Q st := by
  have B1 : ∀ i, i < m → (Bey lt left key (l.getD (base + i) 0) = true ↔ Rl n lt (l.getD (base + i) 0) key) := by
    intro i hi
    have hm := getD_mem (l := l) (i := base + i) (by omega)
    cases left with
    | true => exact ⟨fun e => ⟨hl _ hm, hk, by simpa [Bey] using e⟩, fun e => by simpa [Bey] using e.2.2⟩
    | false => exact ⟨fun e => Rl.of O hk (hl _ hm) (hne _ hi).symm (by simpa [Bey] using e), fun e => by simpa [Bey] using Rl.not O e⟩
  have B2 : ∀ i, i < m → Bey lt left key (l.getD (base + i) 0) = false → Rl n lt key (l.getD (base + i) 0) := by
    intro i hi
    have hm := getD_mem (l := l) (i := base + i) (by omega)
    cases left with
    | true => exact fun e => Rl.of O (hl _ hm) hk (hne _ hi) (by simpa [Bey] using e)
    | false => exact fun e => ⟨hk, hl _ hm, by simpa [Bey] using e⟩
  refine gallop_i hA hk hl hb hh (fun i j hij hj e => ?_) hs fun k hk1 hk2 hk3 => h k hk1 (fun x hx => ?_) fun x hx => ?_
  · rw [B1 i (by omega)]
    rw [B1 j hj] at e
    rcases Nat.lt_or_ge i j with q | q
    · exact Rl.tr O _ _ _ (sl i j q hj) e
    · rwa [show i = j by omega]
  · obtain ⟨i, h1, h2, rfl⟩ := seg_mem hx
    exact (B1 i (by omega)).mp (hk2 i h1)
  · obtain ⟨i, h1, h2, h3, rfl⟩ := seg_mem2 hx
    exact B2 i h2 (hk3 i h1 h2)
theorem gal (hA : Ans prog w A s κ item n lt) (O : Ord n lt) {left : Bool} {key : Nat} {l : List Nat} {base m hint : Nat} (hk : key < n) (sl : l.Pairwise (Rl n lt)) (hl : ∀ x ∈ l, x < n) (hb : base + m ≤ l.length) (hh : hint < m) (hne : ∀ x ∈ l, x ≠ key)
    {st : SortSt} (hs : kindOf st = κ) {Q : Option Nat → SortSt → Prop} (h : ∀ k, k ≤ m → (∀ x ∈ (l.drop base).take k, Rl n lt x key) → (∀ x ∈ ((l.drop base).take m).drop k, Rl n lt key x) → Q (some k) st) :
    wpS (model prog w) A E s (gallopP left (item key) (L item l) base m hint) Q st :=
  gal0 hA O hk (fun i j hij hj => pw_getD sl (by omega) (by omega)) hl hb hh (fun i hi => hne _ (getD_mem (by omega))) hs h

theorem wpS_ite {M : Model} {α : Type} {c : Prop} [Decidable c] {x y : StateT SortSt Sem α} {Q : α → SortSt → Prop} {st : SortSt} (h1 : c → wpS M A E s x Q st) (h2 : ¬ c → wpS M A E s y Q st) : wpS M A E s (if c then x else y) Q st := by
  by_cases h : c
  · rw [if_pos h]; exact h1 h
  · rw [if_neg h]; exact h2 h
abbrev setGP : Nat → StateT SortSt Sem Unit := sortPriv% PySem.Builtin.setMinGallop
theorem setG {g : Nat} {st st' : SortSt} (hG : SG st st') {Q : Unit → SortSt → Prop} (h : ∀ st2, SG st st2 → Q () st2) : wpS (model prog w) A E s (setGP g) Q st' :=
  wpS_modify (h _ hG)

theorem mergeLo_i (hA : Ans prog w A s κ item n lt) (O : Ord n lt) {a b : List Nat} (hn : ∀ x ∈ a ++ b, x < n) (nd : (a ++ b).Nodup) (sa : a.Pairwise (Rl n lt)) (sb : b.Pairwise (Rl n lt)) (la : 0 < a.length) (lb : 0 < b.length)
    (h0 : ∀ y ∈ a, Rl n lt (b.getD 0 0) y) (hl : ∀ x ∈ b, Rl n lt x (a.getD (a.length - 1) 0)) {st : SortSt} (hs : kindOf st = κ) {Q : Array Keyed → SortSt → Prop}
    (h : ∀ z st', SG st st' → z.Perm (a ++ b) → z.Pairwise (Rl n lt) → Q (L item z) st') : wpS (model prog w) A E s (mergeLoP (L item a) (L item b)) Q st := by
  have tr := Rl.tr O
  have han : ∀ x ∈ a, x < n := fun x hx => hn x (by simp [hx])
  have hbn : ∀ x ∈ b, x < n := fun x hx => hn x (by simp [hx])
  have dne : ∀ x ∈ a, ∀ y ∈ b, x ≠ y := (List.nodup_append.mp nd).2.2
  have dn : ∀ o ia ib, MI (Rl n lt) (a ++ b) o (a.drop ia) (b.drop ib) → (ia = a.length ∨ ib = b.length) →
      ∃ z, L item o ++ (L item a).extract ia a.length ++ (L item b).extract ib b.length = L item z ∧ z.Perm (a ++ b) ∧ z.Pairwise (Rl n lt) := by
    intro o ia ib M c
    have ea := L_extAll (item := item) (l := a) ia
    have eb := L_extAll (item := item) (l := b) ib
    rw [L_size] at ea eb
    refine ⟨o ++ a.drop ia ++ b.drop ib, by rw [ea, eb, L_app, L_app], ?_⟩
    rcases c with rfl | rfl
    · rw [List.drop_length, List.append_nil]
      rw [List.drop_length] at M
      exact M.endB
    · rw [List.drop_length, List.append_nil]
      rw [List.drop_length] at M
      exact M.endA
  have lst : ∀ o ia ib, MI (Rl n lt) (a ++ b) o (a.drop ia) (b.drop ib) → ia + 1 = a.length →
      ∃ z, L item o ++ (L item b).extract ib b.length ++ (L item a).extract ia a.length = L item z ∧ z.Perm (a ++ b) ∧ z.Pairwise (Rl n lt) := by
    intro o ia ib M c
    have ea := L_extAll (item := item) (l := a) ia
    have eb := L_extAll (item := item) (l := b) ib
    rw [L_size] at ea eb
    refine ⟨o ++ b.drop ib ++ a.drop ia, by rw [ea, eb, L_app, L_app], ?_⟩
    have M' : MI (Rl n lt) (a ++ b) o (a.drop ia) (b.drop ib ++ []) := by rw [List.append_nil]; exact M
    refine (M'.tB fun u hu v hv => ?_).endA
    rw [drop_at (by omega), show ia = a.length - 1 by omega, List.drop_of_length_le (by omega)] at hv
    have e : v = a.getD (a.length - 1) 0 := by simpa using hv
    rw [e]
    exact hl u (List.mem_of_mem_drop hu)
  refine wpS_bind (wpS_lift (wpAny_rule ⟨rfl, ?_⟩))
  refine wpS_bind (elem_i (getD_at lb) ?_)
  simp only [L_size, L_one]
  have M0 : MI (Rl n lt) (a ++ b) [b.getD 0 0] (a.drop 0) (b.drop 1) := by
    have q : MI (Rl n lt) (a ++ b) [] (a.drop 0) ([b.getD 0 0] ++ b.drop 1) := by
      rw [← show b.drop 0 = [b.getD 0 0] ++ b.drop 1 from drop_at lb]
      exact ⟨by simp, by simp, by simpa using sa, by simpa using sb, by simp, by simp⟩
    exact q.tB fun u hu v hv => by
      have e : u = b.getD 0 0 := by simpa using hu
      rw [e]
      exact h0 v (by simpa using hv)
  by_cases c1 : 1 = b.length
  · rw [if_pos (by simpa using c1)]
    obtain ⟨z, e, hz1, hz2⟩ := dn _ 0 1 M0 (.inr c1)
    rw [e]
    exact wpS_pure (h z st .rfl hz1 hz2)
  rw [if_neg (by simpa using c1)]
  by_cases c2 : 0 + 1 = a.length
  · rw [if_pos (by simpa using c2)]
    obtain ⟨z, e, hz1, hz2⟩ := lst _ 0 1 M0 c2
    rw [e]
    exact wpS_pure (h z st .rfl hz1 hz2)
  rw [if_neg (by simpa using c2)]
  refine wpS_bind (wpS_get ?_)
  refine wpS_bind (wpS_mono (wpS_forRange
    (I := fun x c st' => SG st st' ∧ ∃ o ia ib g, c = (none, L item o, ia, ib, g) ∧ MI (Rl n lt) (a ++ b) o (a.drop ia) (b.drop ib) ∧ ia + 1 < a.length ∧ ib < b.length ∧ x < o.length)
    (Q := fun c st' => SG st st' ∧ ∃ z rest, c = (some (L item z), rest) ∧ z.Perm (a ++ b) ∧ z.Pairwise (Rl n lt)) ?stepO ?finO ⟨.rfl, [b.getD 0 0], 0, 1, _, rfl, M0, by omega, by omega, by simp⟩) ?postO)
  case postO =>
    rintro c st' ⟨hG, z, rest, rfl, hz1, hz2⟩
    exact wpS_pure (h z st' hG hz1 hz2)
  case finO =>
    rintro c st' ⟨hG, o, ia, ib, g, rfl, M, h1, h2, h3⟩
    have := M.len
    simp only [List.length_append, List.length_drop] at this
    omega
  case stepO =>
    rintro x c st' _ hx ⟨hG, o, ia, ib, g, rfl, M, h1, h2, h3⟩
    dsimp only
    refine wpS_bind (wpS_mono (wpS_forRange
      (I := fun y c st'' => SG st st'' ∧ ∃ o' ia ib ac bc, c = (none, L item o', ia, ib, ac, bc) ∧ MI (Rl n lt) (a ++ b) o' (a.drop ia) (b.drop ib) ∧ ia + 1 < a.length ∧ ib < b.length ∧ o.length + y ≤ o'.length)
      (Q := fun c st'' => SG st st'' ∧ ((∃ z rest, c = (some (L item z), rest) ∧ z.Perm (a ++ b) ∧ z.Pairwise (Rl n lt)) ∨
        ∃ o' ia ib ac bc, c = (none, L item o', ia, ib, ac, bc) ∧ MI (Rl n lt) (a ++ b) o' (a.drop ia) (b.drop ib) ∧ ia + 1 < a.length ∧ ib < b.length ∧ o.length + 1 ≤ o'.length)) ?step1 ?fin1 ⟨hG, o, ia, ib, 0, 0, rfl, M, h1, h2, by omega⟩) ?post1)
    case fin1 =>
      rintro c st'' ⟨hG', o', ia, ib, ac, bc, rfl, M', k1, k2, k3⟩
      exact ⟨hG', .inr ⟨o', ia, ib, ac, bc, rfl, M', k1, k2, by omega⟩⟩
    case step1 =>
      rintro y c st'' _ hy ⟨hG', o', ia, ib, ac, bc, rfl, M', k1, k2, k3⟩
      have hk' : kindOf st'' = κ := hG'.1.trans hs
      dsimp only
      have ma := getD_mem (l := a) (i := ia) (by omega)
      have mb := getD_mem (l := b) (i := ib) k2
      refine wpS_bind (elem_i (getD_at k2) (wpS_bind (elem_i (getD_at (show ia < a.length by omega)) (wpS_bind (lt_i hA (hbn _ mb) (han _ ma) hk' ?_)))))
      dsimp only
      rw [drop_at (show ia < a.length by omega), drop_at k2] at M'
      cases hw : lt (b.getD ib 0) (a.getD ia 0) with
      | true =>
        have M2 := M'.hB tr ⟨hbn _ mb, han _ ma, hw⟩
        rw [← drop_at (show ia < a.length by omega)] at M2
        rw [if_pos rfl]
        refine wpS_bind (elem_i (getD_at k2) ?_)
        rw [L_push]
        by_cases d1 : ib + 1 = b.length
        · rw [if_pos (by simpa using d1)]
          obtain ⟨z, e, hz1, hz2⟩ := dn _ ia (ib + 1) M2 (.inr d1)
          rw [e]
          exact wpS_pure ⟨hG', .inl ⟨z, _, rfl, hz1, hz2⟩⟩
        · rw [if_neg (by simpa using d1)]
          split
          · exact wpS_pure ⟨hG', .inr ⟨_, ia, ib + 1, _, _, rfl, M2, k1, by omega, by simp; omega⟩⟩
          · exact wpS_pure ⟨hG', _, ia, ib + 1, _, _, rfl, M2, k1, by omega, by simp; omega⟩
      | false =>
        have M2 := M'.hA tr (Rl.of O (hbn _ mb) (han _ ma) (dne _ ma _ mb).symm hw)
        rw [← drop_at k2] at M2
        rw [if_neg (by simp)]
        refine wpS_bind (elem_i (getD_at (show ia < a.length by omega)) ?_)
        rw [L_push]
        by_cases d1 : ia + 1 + 1 = a.length
        · rw [if_pos (by simpa using d1)]
          obtain ⟨z, e, hz1, hz2⟩ := lst _ (ia + 1) ib M2 d1
          rw [e]
          exact wpS_pure ⟨hG', .inl ⟨z, _, rfl, hz1, hz2⟩⟩
        · rw [if_neg (by simpa using d1)]
          split
          · exact wpS_pure ⟨hG', .inr ⟨_, ia + 1, ib, _, _, rfl, M2, by omega, k2, by simp; omega⟩⟩
          · exact wpS_pure ⟨hG', _, ia + 1, ib, _, _, rfl, M2, by omega, k2, by simp; omega⟩
    case post1 =>
      rintro c st'' ⟨hG', ⟨z, rest, rfl, hz1, hz2⟩ | ⟨o', ia, ib, ac, bc, rfl, M', k1, k2, k3⟩⟩
      · exact wpS_pure ⟨hG', z, _, rfl, hz1, hz2⟩
      dsimp only
      refine wpS_bind (wpS_lift (wpAny_rule ⟨rfl, ?_⟩))
      refine wpS_bind (wpS_mono (wpS_forRange
        (I := fun y c st'' => SG st st'' ∧ ∃ o' ia ib g ac bc, c = (none, L item o', ia, ib, g, ac, bc) ∧ MI (Rl n lt) (a ++ b) o' (a.drop ia) (b.drop ib) ∧ ia + 1 < a.length ∧ ib < b.length ∧ o.length + 1 ≤ o'.length)
        (Q := fun c st'' => SG st st'' ∧ ((∃ z rest, c = (some (L item z), rest) ∧ z.Perm (a ++ b) ∧ z.Pairwise (Rl n lt)) ∨
          ∃ o' ia ib g ac bc, c = (none, L item o', ia, ib, g, ac, bc) ∧ MI (Rl n lt) (a ++ b) o' (a.drop ia) (b.drop ib) ∧ ia + 1 < a.length ∧ ib < b.length ∧ o.length + 1 ≤ o'.length)) ?step2 ?fin2 ⟨hG', o', ia, ib, _, ac, bc, rfl, M', k1, k2, k3⟩) ?post2)
      case fin2 =>
        rintro c st'' ⟨hG', o', ia, ib, g, ac, bc, rfl, M', k1, k2, k3⟩
        exact ⟨hG', .inr ⟨o', ia, ib, g, ac, bc, rfl, M', k1, k2, k3⟩⟩
      case post2 =>
        rintro c st'' ⟨hG', ⟨z, rest, rfl, hz1, hz2⟩ | ⟨o', ia, ib, g, ac, bc, rfl, M', k1, k2, k3⟩⟩
        · exact wpS_pure ⟨hG', z, _, rfl, hz1, hz2⟩
        dsimp only
        exact wpS_bind (wpS_modify (wpS_pure ⟨hG', o', ia, ib, _, rfl, M', k1, k2, by omega⟩))
      case step2 =>
        rintro y c st'' _ hy ⟨hG', o', ia, ib, g, ac, bc, rfl, M', k1, k2, k3⟩
        dsimp only
        have ma0 : ia < a.length := by omega
        have mb := getD_mem (l := b) (i := ib) k2
        refine wpS_ite (fun _ => ?_) (fun _ => ?_)
        all_goals
          refine wpS_bind (setG hG' fun st3 hG3 => ?_)
          have hk3 : kindOf st3 = κ := hG3.1.trans hs
          refine wpS_bind (elem_i (getD_at k2) (wpS_bind (gal hA O (hbn _ mb) sa han (base := ia) (m := a.length - ia) (by omega) (by omega) (fun x hx => dne x hx _ mb) hk3 fun k q1 q2 q3 => ?_)))
          dsimp only
          rw [List.take_of_length_le (by simp), List.drop_drop] at q3
          have Mk : MI (Rl n lt) (a ++ b) (o' ++ (a.drop ia).take k) (a.drop (ia + k)) (b.drop ib) := by
            have M1 := M'
            rw [← List.take_append_drop k (a.drop ia), List.drop_drop, drop_at k2] at M1
            rw [drop_at k2]
            exact M1.pA tr q2
          have q4 : ia + k < a.length → Rl n lt (b.getD ib 0) (a.getD (ia + k) 0) := fun hlt => q3 _ (by rw [drop_at hlt]; exact .head _)
          refine wpS_ite (fun k0 => ?_) (fun k0 => ?_)
          · rw [L_ext, Nat.add_sub_cancel_left, L_app]
            refine wpS_ite (fun d => ?_) (fun d => ?_)
            · obtain ⟨z, e, hz1, hz2⟩ := lst _ (ia + k) ib Mk (by simpa using d)
              rw [e]
              exact wpS_pure ⟨hG3, .inl ⟨z, _, rfl, hz1, hz2⟩⟩
            refine wpS_ite (fun d2 => ?_) (fun d2 => ?_)
            · obtain ⟨z, e, hz1, hz2⟩ := dn _ (ia + k) ib Mk (.inl (by simpa using d2))
              rw [e]
              exact wpS_pure ⟨hG3, .inl ⟨z, _, rfl, hz1, hz2⟩⟩
            have d' : ia + k + 1 ≠ a.length := by simpa using d
            have d2' : ia + k ≠ a.length := by simpa using d2
            have hi2 : ia + k + 1 < a.length := by omega
            have ho2 : o.length + 1 ≤ (o' ++ (a.drop ia).take k).length := by simp; omega
            have hR := q4 (by omega)
            clear q4 q3 q2 q1 d d2 d' d2' k0 M' k3 k1 ma0
            generalize o' ++ (a.drop ia).take k = o2 at *
            generalize ia + k = ia2 at *
            refine wpS_bind (elem_i (getD_at k2) ?_)
            rw [L_push]
            have Mb : MI (Rl n lt) (a ++ b) (o2 ++ [b.getD ib 0]) (a.drop ia2) (b.drop (ib + 1)) := by
              rw [drop_at (show ia2 < a.length by omega), drop_at k2] at Mk
              rw [drop_at (show ia2 < a.length by omega)]
              exact Mk.hB tr hR
            refine wpS_ite (fun d => ?_) (fun d => ?_)
            · obtain ⟨z, e, hz1, hz2⟩ := dn _ ia2 (ib + 1) Mb (.inr (by simpa using d))
              rw [e]
              exact wpS_pure ⟨hG3, .inl ⟨z, _, rfl, hz1, hz2⟩⟩
            have d' : ib + 1 ≠ b.length := by simpa using d
            have ma := getD_mem (l := a) (i := ia2) (by omega)
            refine wpS_bind (elem_i (getD_at (show ia2 < a.length by omega)) (wpS_bind (gal hA O (han _ ma) sb hbn (base := ib + 1) (m := b.length - (ib + 1)) (by omega) (by omega) (fun x hx => (dne _ ma x hx).symm) hk3 fun k q1 q2 q3 => ?_)))
            dsimp only
            rw [List.take_of_length_le (by simp), List.drop_drop] at q3
            have Mc : MI (Rl n lt) (a ++ b) (o2 ++ [b.getD ib 0] ++ (b.drop (ib + 1)).take k) (a.drop ia2) (b.drop (ib + 1 + k)) := by
              have M1 := Mb
              rw [← List.take_append_drop k (b.drop (ib + 1)), List.drop_drop, drop_at (show ia2 < a.length by omega)] at M1
              rw [drop_at (show ia2 < a.length by omega)]
              exact M1.pB tr q2
            have q4 : ib + 1 + k < b.length → Rl n lt (a.getD ia2 0) (b.getD (ib + 1 + k) 0) := fun hlt => q3 _ (by rw [drop_at hlt]; exact .head _)
            have ho3 : o.length + 1 ≤ (o2 ++ [b.getD ib 0] ++ (b.drop (ib + 1)).take k).length := by simp; omega
            refine wpS_ite (fun k0 => ?_) (fun k0 => ?_)
            · rw [L_ext, Nat.add_sub_cancel_left, L_app]
              refine wpS_ite (fun e1 => ?_) (fun e1 => ?_)
              · obtain ⟨z, e, hz1, hz2⟩ := dn _ ia2 (ib + 1 + k) Mc (.inr (by simpa using e1))
                rw [e]
                exact wpS_pure ⟨hG3, .inl ⟨z, _, rfl, hz1, hz2⟩⟩
              have e1' : ib + 1 + k ≠ b.length := by simpa using e1
              have e2 : ib + 1 + k < b.length := by omega
              have hS := q4 e2
              generalize o2 ++ [b.getD ib 0] ++ (b.drop (ib + 1)).take k = o3 at *
              generalize ib + 1 + k = ib3 at *
              refine wpS_bind (elem_i (getD_at (show ia2 < a.length by omega)) ?_)
              rw [L_push]
              have Md : MI (Rl n lt) (a ++ b) (o3 ++ [a.getD ia2 0]) (a.drop (ia2 + 1)) (b.drop ib3) := by
                rw [drop_at (show ia2 < a.length by omega), drop_at e2] at Mc
                rw [drop_at e2]
                exact Mc.hA tr hS
              refine wpS_ite (fun d => ?_) (fun d => ?_)
              · obtain ⟨z, e, hz1, hz2⟩ := lst _ (ia2 + 1) ib3 Md (by simpa using d)
                rw [e]
                exact wpS_pure ⟨hG3, .inl ⟨z, _, rfl, hz1, hz2⟩⟩
              have d3 : ia2 + 1 + 1 ≠ a.length := by simpa using d
              refine wpS_ite (fun _ => ?_) (fun _ => ?_)
              · exact wpS_pure ⟨hG3, .inr ⟨_, _, _, _, _, _, rfl, Md, by omega, e2, by simp; omega⟩⟩
              · exact wpS_pure ⟨hG3, _, _, _, _, _, _, rfl, Md, by omega, e2, by simp; omega⟩
            · have k0' : k = 0 := by omega
              subst k0'
              rw [Nat.add_zero, List.take_zero, List.append_nil] at Mc
              rw [Nat.add_zero] at q4
              have e2 : ib + 1 < b.length := by omega
              have hS := q4 e2
              refine wpS_bind (elem_i (getD_at (show ia2 < a.length by omega)) ?_)
              rw [L_push]
              have Md : MI (Rl n lt) (a ++ b) (o2 ++ [b.getD ib 0] ++ [a.getD ia2 0]) (a.drop (ia2 + 1)) (b.drop (ib + 1)) := by
                rw [drop_at (show ia2 < a.length by omega), drop_at e2] at Mc
                rw [drop_at e2]
                exact Mc.hA tr hS
              refine wpS_ite (fun d => ?_) (fun d => ?_)
              · obtain ⟨z, e, hz1, hz2⟩ := lst _ (ia2 + 1) (ib + 1) Md (by simpa using d)
                rw [e]
                exact wpS_pure ⟨hG3, .inl ⟨z, _, rfl, hz1, hz2⟩⟩
              have d3 : ia2 + 1 + 1 ≠ a.length := by simpa using d
              refine wpS_ite (fun _ => ?_) (fun _ => ?_)
              · exact wpS_pure ⟨hG3, .inr ⟨_, _, _, _, _, _, rfl, Md, by omega, e2, by simp; omega⟩⟩
              · exact wpS_pure ⟨hG3, _, _, _, _, _, _, rfl, Md, by omega, e2, by simp; omega⟩
          · have k0' : k = 0 := by omega
            subst k0'
            rw [Nat.add_zero, List.take_zero, List.append_nil] at Mk
            rw [Nat.add_zero] at q4
            have hR := q4 (by omega)
            have ho2 := k3
            clear q4 q3 q2 q1 k0 M' k3
            refine wpS_bind (elem_i (getD_at k2) ?_)
            rw [L_push]
            have Mb : MI (Rl n lt) (a ++ b) (o' ++ [b.getD ib 0]) (a.drop ia) (b.drop (ib + 1)) := by
              rw [drop_at (show ia < a.length by omega), drop_at k2] at Mk
              rw [drop_at (show ia < a.length by omega)]
              exact Mk.hB tr hR
            refine wpS_ite (fun d => ?_) (fun d => ?_)
            · obtain ⟨z, e, hz1, hz2⟩ := dn _ ia (ib + 1) Mb (.inr (by simpa using d))
              rw [e]
              exact wpS_pure ⟨hG3, .inl ⟨z, _, rfl, hz1, hz2⟩⟩
            have d' : ib + 1 ≠ b.length := by simpa using d
            have ma := getD_mem (l := a) (i := ia) (by omega)
            refine wpS_bind (elem_i (getD_at (show ia < a.length by omega)) (wpS_bind (gal hA O (han _ ma) sb hbn (base := ib + 1) (m := b.length - (ib + 1)) (by omega) (by omega) (fun x hx => (dne _ ma x hx).symm) hk3 fun k q1 q2 q3 => ?_)))
            dsimp only
            rw [List.take_of_length_le (by simp), List.drop_drop] at q3
            have Mc : MI (Rl n lt) (a ++ b) (o' ++ [b.getD ib 0] ++ (b.drop (ib + 1)).take k) (a.drop ia) (b.drop (ib + 1 + k)) := by
              have M1 := Mb
              rw [← List.take_append_drop k (b.drop (ib + 1)), List.drop_drop, drop_at (show ia < a.length by omega)] at M1
              rw [drop_at (show ia < a.length by omega)]
              exact M1.pB tr q2
            have q4 : ib + 1 + k < b.length → Rl n lt (a.getD ia 0) (b.getD (ib + 1 + k) 0) := fun hlt => q3 _ (by rw [drop_at hlt]; exact .head _)
            have ho3 : o.length + 1 ≤ (o' ++ [b.getD ib 0] ++ (b.drop (ib + 1)).take k).length := by simp; omega
            refine wpS_ite (fun k0 => ?_) (fun k0 => ?_)
            · rw [L_ext, Nat.add_sub_cancel_left, L_app]
              refine wpS_ite (fun e1 => ?_) (fun e1 => ?_)
              · obtain ⟨z, e, hz1, hz2⟩ := dn _ ia (ib + 1 + k) Mc (.inr (by simpa using e1))
                rw [e]
                exact wpS_pure ⟨hG3, .inl ⟨z, _, rfl, hz1, hz2⟩⟩
              have e1' : ib + 1 + k ≠ b.length := by simpa using e1
              have e2 : ib + 1 + k < b.length := by omega
              have hS := q4 e2
              generalize o' ++ [b.getD ib 0] ++ (b.drop (ib + 1)).take k = o3 at *
              generalize ib + 1 + k = ib3 at *
              refine wpS_bind (elem_i (getD_at (show ia < a.length by omega)) ?_)
              rw [L_push]
              have Md : MI (Rl n lt) (a ++ b) (o3 ++ [a.getD ia 0]) (a.drop (ia + 1)) (b.drop ib3) := by
                rw [drop_at (show ia < a.length by omega), drop_at e2] at Mc
                rw [drop_at e2]
                exact Mc.hA tr hS
              refine wpS_ite (fun d => ?_) (fun d => ?_)
              · obtain ⟨z, e, hz1, hz2⟩ := lst _ (ia + 1) ib3 Md (by simpa using d)
                rw [e]
                exact wpS_pure ⟨hG3, .inl ⟨z, _, rfl, hz1, hz2⟩⟩
              have d3 : ia + 1 + 1 ≠ a.length := by simpa using d
              refine wpS_ite (fun _ => ?_) (fun _ => ?_)
              · exact wpS_pure ⟨hG3, .inr ⟨_, _, _, _, _, _, rfl, Md, by omega, e2, by simp; omega⟩⟩
              · exact wpS_pure ⟨hG3, _, _, _, _, _, _, rfl, Md, by omega, e2, by simp; omega⟩
            · have k0' : k = 0 := by omega
              subst k0'
              rw [Nat.add_zero, List.take_zero, List.append_nil] at Mc
              rw [Nat.add_zero] at q4
              have e2 : ib + 1 < b.length := by omega
              have hS := q4 e2
              refine wpS_bind (elem_i (getD_at (show ia < a.length by omega)) ?_)
              rw [L_push]
              have Md : MI (Rl n lt) (a ++ b) (o' ++ [b.getD ib 0] ++ [a.getD ia 0]) (a.drop (ia + 1)) (b.drop (ib + 1)) := by
                rw [drop_at (show ia < a.length by omega), drop_at e2] at Mc
                rw [drop_at e2]
                exact Mc.hA tr hS
              refine wpS_ite (fun d => ?_) (fun d => ?_)
              · obtain ⟨z, e, hz1, hz2⟩ := lst _ (ia + 1) (ib + 1) Md (by simpa using d)
                rw [e]
                exact wpS_pure ⟨hG3, .inl ⟨z, _, rfl, hz1, hz2⟩⟩
              have d3 : ia + 1 + 1 ≠ a.length := by simpa using d
              refine wpS_ite (fun _ => ?_) (fun _ => ?_)
              · exact wpS_pure ⟨hG3, .inr ⟨_, _, _, _, _, _, rfl, Md, by omega, e2, by simp; omega⟩⟩
              · exact wpS_pure ⟨hG3, _, _, _, _, _, _, rfl, Md, by omega, e2, by simp; omega⟩
end
end LmMg

set_option Elab.async false
set_option linter.all false
set_option maxRecDepth 100000
set_option maxHeartbeats 4000000
namespace LmMg
open PySem PySem.W PyProof.Rows LmSort
/-- the order, read backwards -/
def Rb (n : Nat) (lt : Nat → Nat → Bool) (i j : Nat) : Prop := Rl n lt j i
theorem L_fst {item : Nat → Keyed} {l : List Nat} (k : Nat) : (L item l).extract 0 k = L item (l.take k) := by rw [L_ext, List.drop_zero, Nat.sub_zero]
theorem take_split {l : List Nat} {m k : Nat} (h : k ≤ m) : (l.take m).reverse = ((l.take m).drop k).reverse ++ (l.take k).reverse := by
  rw [← List.reverse_append]
  congr 1
  have := (List.take_append_drop k (l.take m)).symm
  rw [List.take_take, Nat.min_eq_left h] at this
  exact this
section
variable {prog : Program} {w : World} {A : Around} {E : Value → Shared → Prop} {s : Shared} {κ : SortKind} {item : Nat → Keyed} {n : Nat} {lt : Nat → Nat → Bool}
theorem mergeHi_i (hA : Ans prog w A s κ item n lt) (O : Ord n lt) {a b : List Nat} (hn : ∀ x ∈ a ++ b, x < n) (nd : (a ++ b).Nodup) (sa : a.Pairwise (Rl n lt)) (sb : b.Pairwise (Rl n lt)) (la : 0 < a.length) (lb : 0 < b.length)
    (h0 : ∀ y ∈ a, Rl n lt (b.getD 0 0) y) (hl : ∀ x ∈ b, Rl n lt x (a.getD (a.length - 1) 0)) {st : SortSt} (hs : kindOf st = κ) {Q : Array Keyed → SortSt → Prop}
    (h : ∀ z st', SG st st' → z.Perm (a ++ b) → z.Pairwise (Rl n lt) → Q (L item z) st') : wpS (model prog w) A E s (mergeHiP (L item a) (L item b)) Q st := by
  have tr : ∀ i j k, Rb n lt i j → Rb n lt j k → Rb n lt i k := fun i j k h1 h2 => Rl.tr O k j i h2 h1
  have han : ∀ x ∈ a, x < n := fun x hx => hn x (by simp [hx])
  have hbn : ∀ x ∈ b, x < n := fun x hx => hn x (by simp [hx])
  have dne : ∀ x ∈ a, ∀ y ∈ b, x ≠ y := (List.nodup_append.mp nd).2.2
  have dn : ∀ o na nb, MI (Rb n lt) (a ++ b) o (a.take na).reverse (b.take nb).reverse → (na = 0 ∨ nb = 0) →
      ∃ z, (L item a).extract 0 na ++ (L item b).extract 0 nb ++ (L item o).reverse = L item z ∧ z.Perm (a ++ b) ∧ z.Pairwise (Rl n lt) := by
    intro o na nb M c
    refine ⟨a.take na ++ b.take nb ++ o.reverse, by rw [L_fst, L_fst, L_rev, L_app, L_app], ?_⟩
    rcases c with rfl | rfl
    · rw [List.take_zero, List.reverse_nil] at M
      have q := M.endB
      have e : a.take 0 ++ b.take nb ++ o.reverse = (o ++ (b.take nb).reverse).reverse := by simp
      rw [e]
      exact ⟨(List.reverse_perm _).trans q.1, List.pairwise_reverse.mpr q.2⟩
    · rw [List.take_zero, List.reverse_nil] at M
      have q := M.endA
      have e : a.take na ++ b.take 0 ++ o.reverse = (o ++ (a.take na).reverse).reverse := by simp
      rw [e]
      exact ⟨(List.reverse_perm _).trans q.1, List.pairwise_reverse.mpr q.2⟩
  have lst : ∀ o na nb, MI (Rb n lt) (a ++ b) o (a.take na).reverse (b.take nb).reverse → nb = 1 →
      ∃ z, (L item b).extract 0 nb ++ (L item a).extract 0 na ++ (L item o).reverse = L item z ∧ z.Perm (a ++ b) ∧ z.Pairwise (Rl n lt) := by
    intro o na nb M c
    subst c
    refine ⟨b.take 1 ++ a.take na ++ o.reverse, by rw [L_fst, L_fst, L_rev, L_app, L_app], ?_⟩
    have M' : MI (Rb n lt) (a ++ b) o ((a.take na).reverse ++ []) (b.take 1).reverse := by rw [List.append_nil]; exact M
    have q := (M'.tA fun u hu v hv => by
      rw [take_at lb] at hv
      have e : v = b.getD 0 0 := by simpa using hv
      rw [e]
      exact h0 u (List.mem_of_mem_take (List.mem_reverse.mp hu))).endB
    have e : b.take 1 ++ a.take na ++ o.reverse = (o ++ (a.take na).reverse ++ (b.take 1).reverse).reverse := by simp
    rw [e]
    exact ⟨(List.reverse_perm _).trans q.1, List.pairwise_reverse.mpr q.2⟩
  refine wpS_bind (wpS_lift (wpAny_rule ⟨rfl, ?_⟩))
  simp only [L_size]
  obtain ⟨p, hp⟩ : ∃ p, a.length = p + 1 := ⟨a.length - 1, by omega⟩
  have hp1 : a.length - 1 = p := by omega
  rw [hp1] at hl
  simp only [hp1]
  refine wpS_bind (elem_i (getD_at (show p < a.length by omega)) ?_)
  simp only [L_one]
  have M0 : MI (Rb n lt) (a ++ b) [a.getD p 0] (a.take p).reverse (b.take b.length).reverse := by
    have q : MI (Rb n lt) (a ++ b) [] ([a.getD p 0] ++ (a.take p).reverse) (b.take b.length).reverse := by
      rw [show [a.getD p 0] ++ (a.take p).reverse = a.reverse by rw [← List.take_of_length_le (l := a) (i := p + 1) (by omega), take_at (by omega), List.take_of_length_le (l := a) (i := p + 1) (by omega)]; rfl, List.take_length]
      exact ⟨by simpa using (List.reverse_perm a).append (List.reverse_perm b), by simp, List.pairwise_reverse.mpr sa, List.pairwise_reverse.mpr sb, by simp, by simp⟩
    exact q.tA fun u hu v hv => by
      have e : u = a.getD p 0 := by simpa using hu
      rw [e]
      exact hl v (by simpa using hv)
  refine wpS_ite (fun c1 => ?_) (fun c1 => ?_)
  · obtain ⟨z, e, hz1, hz2⟩ := dn _ p b.length M0 (.inl (by simpa using c1))
    rw [e]
    exact wpS_pure (h z st .rfl hz1 hz2)
  refine wpS_ite (fun c2 => ?_) (fun c2 => ?_)
  · obtain ⟨z, e, hz1, hz2⟩ := lst _ p b.length M0 (by simpa using c2)
    rw [e]
    exact wpS_pure (h z st .rfl hz1 hz2)
  have c1' : p ≠ 0 := by simpa using c1
  have c2' : b.length ≠ 1 := by simpa using c2
  refine wpS_bind (wpS_get ?_)
  refine wpS_bind (wpS_mono (wpS_forRange
    (I := fun x c st' => SG st st' ∧ ∃ o na nb g, c = (none, na, nb, L item o, g) ∧ MI (Rb n lt) (a ++ b) o (a.take na).reverse (b.take nb).reverse ∧ 0 < na ∧ na ≤ a.length ∧ 1 < nb ∧ nb ≤ b.length ∧ x < o.length)
    (Q := fun c st' => SG st st' ∧ ∃ z rest, c = (some (L item z), rest) ∧ z.Perm (a ++ b) ∧ z.Pairwise (Rl n lt)) ?stepO ?finO ⟨.rfl, [a.getD p 0], p, b.length, _, rfl, M0, by omega, by omega, by omega, by omega, by simp⟩) ?postO)
  case postO =>
    rintro c st' ⟨hG, z, rest, rfl, hz1, hz2⟩
    exact wpS_pure (h z st' hG hz1 hz2)
  case finO =>
    rintro c st' ⟨hG, o, na, nb, g, rfl, M, h1, h1', h2, h2', h3⟩
    have := M.len
    simp only [List.length_append, List.length_reverse, List.length_take] at this
    omega
  case stepO =>
    rintro x c st' _ hx ⟨hG, o, na, nb, g, rfl, M, h1, h1', h2, h2', h3⟩
    dsimp only
    refine wpS_bind (wpS_mono (wpS_forRange
      (I := fun y c st'' => SG st st'' ∧ ∃ o' na nb ac bc, c = (none, na, nb, L item o', ac, bc) ∧ MI (Rb n lt) (a ++ b) o' (a.take na).reverse (b.take nb).reverse ∧ 0 < na ∧ na ≤ a.length ∧ 1 < nb ∧ nb ≤ b.length ∧ o.length + y ≤ o'.length)
      (Q := fun c st'' => SG st st'' ∧ ((∃ z rest, c = (some (L item z), rest) ∧ z.Perm (a ++ b) ∧ z.Pairwise (Rl n lt)) ∨
        ∃ o' na nb ac bc, c = (none, na, nb, L item o', ac, bc) ∧ MI (Rb n lt) (a ++ b) o' (a.take na).reverse (b.take nb).reverse ∧ 0 < na ∧ na ≤ a.length ∧ 1 < nb ∧ nb ≤ b.length ∧ o.length + 1 ≤ o'.length)) ?step1 ?fin1 ⟨hG, o, na, nb, 0, 0, rfl, M, h1, h1', h2, h2', by omega⟩) ?post1)
    case fin1 =>
      rintro c st'' ⟨hG', o', na, nb, ac, bc, rfl, M', k1, k1', k2, k2', k3⟩
      exact ⟨hG', .inr ⟨o', na, nb, ac, bc, rfl, M', k1, k1', k2, k2', by omega⟩⟩
    case step1 =>
      rintro y c st'' _ hy ⟨hG', o', na, nb, ac, bc, rfl, M', k1, k1', k2, k2', k3⟩
      have hk' : kindOf st'' = κ := hG'.1.trans hs
      obtain ⟨i, rfl⟩ : ∃ i, na = i + 1 := ⟨na - 1, by omega⟩
      obtain ⟨j, rfl⟩ : ∃ j, nb = j + 1 := ⟨nb - 1, by omega⟩
      dsimp only
      simp only [Nat.add_sub_cancel]
      have ma := getD_mem (l := a) (i := i) (by omega)
      have mb := getD_mem (l := b) (i := j) (by omega)
      refine wpS_bind (elem_i (getD_at (show j < b.length by omega)) (wpS_bind (elem_i (getD_at (show i < a.length by omega)) (wpS_bind (lt_i hA (hbn _ mb) (han _ ma) hk' ?_)))))
      dsimp only
      rw [take_at (show i < a.length by omega), take_at (show j < b.length by omega)] at M'
      refine wpS_ite (fun hw => ?_) (fun hw => ?_)
      · have M2 := M'.hA tr ⟨hbn _ mb, han _ ma, hw⟩
        rw [← take_at (show j < b.length by omega)] at M2
        refine wpS_bind (elem_i (getD_at (show i < a.length by omega)) ?_)
        rw [L_push]
        refine wpS_ite (fun d1 => ?_) (fun d1 => ?_)
        · obtain ⟨z, e, hz1, hz2⟩ := dn _ i (j + 1) M2 (.inl (by simpa using d1))
          rw [e]
          exact wpS_pure ⟨hG', .inl ⟨z, _, rfl, hz1, hz2⟩⟩
        · have d1' : i ≠ 0 := by simpa using d1
          refine wpS_ite (fun _ => ?_) (fun _ => ?_)
          · exact wpS_pure ⟨hG', .inr ⟨_, _, _, _, _, rfl, M2, by omega, by omega, by omega, by omega, by simp; omega⟩⟩
          · exact wpS_pure ⟨hG', _, _, _, _, _, rfl, M2, by omega, by omega, by omega, by omega, by simp; omega⟩
      · have M2 := M'.hB tr (Rl.of O (hbn _ mb) (han _ ma) (dne _ ma _ mb).symm (by simpa using hw))
        rw [← take_at (show i < a.length by omega)] at M2
        refine wpS_bind (elem_i (getD_at (show j < b.length by omega)) ?_)
        rw [L_push]
        refine wpS_ite (fun d1 => ?_) (fun d1 => ?_)
        · obtain ⟨z, e, hz1, hz2⟩ := lst _ (i + 1) j M2 (by simpa using d1)
          rw [e]
          exact wpS_pure ⟨hG', .inl ⟨z, _, rfl, hz1, hz2⟩⟩
        · have d1' : j ≠ 1 := by simpa using d1
          refine wpS_ite (fun _ => ?_) (fun _ => ?_)
          · exact wpS_pure ⟨hG', .inr ⟨_, _, _, _, _, rfl, M2, by omega, by omega, by omega, by omega, by simp; omega⟩⟩
          · exact wpS_pure ⟨hG', _, _, _, _, _, rfl, M2, by omega, by omega, by omega, by omega, by simp; omega⟩
    case post1 =>
      rintro c st'' ⟨hG', ⟨z, rest, rfl, hz1, hz2⟩ | ⟨o', na, nb, ac, bc, rfl, M', k1, k1', k2, k2', k3⟩⟩
      · exact wpS_pure ⟨hG', z, _, rfl, hz1, hz2⟩
      dsimp only
      refine wpS_bind (wpS_lift (wpAny_rule ⟨rfl, ?_⟩))
      refine wpS_bind (wpS_mono (wpS_forRange
        (I := fun y c st'' => SG st st'' ∧ ∃ o' na nb g ac bc, c = (none, na, nb, L item o', g, ac, bc) ∧ MI (Rb n lt) (a ++ b) o' (a.take na).reverse (b.take nb).reverse ∧ 0 < na ∧ na ≤ a.length ∧ 1 < nb ∧ nb ≤ b.length ∧ o.length + 1 ≤ o'.length)
        (Q := fun c st'' => SG st st'' ∧ ((∃ z rest, c = (some (L item z), rest) ∧ z.Perm (a ++ b) ∧ z.Pairwise (Rl n lt)) ∨
          ∃ o' na nb g ac bc, c = (none, na, nb, L item o', g, ac, bc) ∧ MI (Rb n lt) (a ++ b) o' (a.take na).reverse (b.take nb).reverse ∧ 0 < na ∧ na ≤ a.length ∧ 1 < nb ∧ nb ≤ b.length ∧ o.length + 1 ≤ o'.length)) ?step2 ?fin2 ⟨hG', o', na, nb, _, ac, bc, rfl, M', k1, k1', k2, k2', k3⟩) ?post2)
      case fin2 =>
        rintro c st'' ⟨hG', o', na, nb, g, ac, bc, rfl, M', k1, k1', k2, k2', k3⟩
        exact ⟨hG', .inr ⟨o', na, nb, g, ac, bc, rfl, M', k1, k1', k2, k2', k3⟩⟩
      case post2 =>
        rintro c st'' ⟨hG', ⟨z, rest, rfl, hz1, hz2⟩ | ⟨o', na, nb, g, ac, bc, rfl, M', k1, k1', k2, k2', k3⟩⟩
        · exact wpS_pure ⟨hG', z, _, rfl, hz1, hz2⟩
        dsimp only
        exact wpS_bind (wpS_modify (wpS_pure ⟨hG', o', na, nb, _, rfl, M', k1, k1', k2, k2', by omega⟩))
      case step2 =>
        rintro y c st'' _ hy ⟨hG', o', na, nb, g, ac, bc, rfl, M', k1, k1', k2, k2', k3⟩
        obtain ⟨j, rfl⟩ : ∃ j, nb = j + 1 := ⟨nb - 1, by omega⟩
        dsimp only
        simp only [Nat.add_sub_cancel]
        have mb := getD_mem (l := b) (i := j) (by omega)
        refine wpS_ite (fun _ => ?_) (fun _ => ?_)
        all_goals
          refine wpS_bind (setG hG' fun st3 hG3 => ?_)
          have hk3 : kindOf st3 = κ := hG3.1.trans hs
          refine wpS_bind (elem_i (getD_at (show j < b.length by omega)) (wpS_bind (gal hA O (hbn _ mb) sa han (base := 0) (m := na) (by omega) (by omega) (fun x hx => dne x hx _ mb) hk3 fun k q1 q2 q3 => ?_)))
          dsimp only
          rw [List.drop_zero] at q2 q3
          have Mk : MI (Rb n lt) (a ++ b) (o' ++ ((a.take na).drop k).reverse) (a.take k).reverse (b.take (j + 1)).reverse := by
            have M1 := M'
            rw [take_split q1, take_at (show j < b.length by omega)] at M1
            rw [take_at (show j < b.length by omega)]
            exact M1.pA tr fun u hu => q3 u (List.mem_reverse.mp hu)
          have q4 : ∀ i, k = i + 1 → Rl n lt (a.getD i 0) (b.getD j 0) := fun i e => q2 _ (by rw [e]; exact List.mem_reverse.mp (by rw [take_at (by omega)]; exact .head _))
          refine wpS_ite (fun k0 => ?_) (fun k0 => ?_)
          · rw [L_ext (l := a) k na, ← List.drop_take, L_rev, L_app]
            refine wpS_ite (fun d => ?_) (fun d => ?_)
            · obtain ⟨z, e, hz1, hz2⟩ := dn _ k (j + 1) Mk (.inl (by simpa using d))
              rw [e]
              exact wpS_pure ⟨hG3, .inl ⟨z, _, rfl, hz1, hz2⟩⟩
            have d' : k ≠ 0 := by simpa using d
            have ho2 : o.length + 1 ≤ (o' ++ ((a.take na).drop k).reverse).length := by simp; omega
            generalize o' ++ ((a.take na).drop k).reverse = o2 at *
            obtain ⟨i, rfl⟩ : ∃ i, k = i + 1 := ⟨k - 1, by omega⟩
            have hR := q4 i rfl
            have hi2 : i < a.length := by omega
            simp only [Nat.add_sub_cancel]
            refine wpS_bind (elem_i (getD_at (show j < b.length by omega)) ?_)
            rw [L_push]
            have Mb : MI (Rb n lt) (a ++ b) (o2 ++ [b.getD j 0]) (a.take (i + 1)).reverse (b.take j).reverse := by
              rw [take_at hi2, take_at (show j < b.length by omega)] at Mk
              rw [take_at hi2]
              exact Mk.hB tr hR
            refine wpS_ite (fun d => ?_) (fun d => ?_)
            · obtain ⟨z, e, hz1, hz2⟩ := lst _ (i + 1) j Mb (by simpa using d)
              rw [e]
              exact wpS_pure ⟨hG3, .inl ⟨z, _, rfl, hz1, hz2⟩⟩
            have d2 : j ≠ 1 := by simpa using d
            have ma := getD_mem (l := a) (i := i) hi2
            refine wpS_bind (elem_i (getD_at hi2) (wpS_bind (gal hA O (han _ ma) sb hbn (base := 0) (m := j) (by omega) (by omega) (fun x hx => (dne _ ma x hx).symm) hk3 fun e r1 r2 r3 => ?_)))
            dsimp only
            rw [List.drop_zero] at r2 r3
            have Mc : MI (Rb n lt) (a ++ b) (o2 ++ [b.getD j 0] ++ ((b.take j).drop e).reverse) (a.take (i + 1)).reverse (b.take e).reverse := by
              have M1 := Mb
              rw [take_split (l := b) r1, take_at hi2] at M1
              rw [take_at hi2]
              exact M1.pB tr fun u hu => r3 u (List.mem_reverse.mp hu)
            have r4 : ∀ f, e = f + 1 → Rl n lt (b.getD f 0) (a.getD i 0) := fun f q => r2 _ (by rw [q]; exact List.mem_reverse.mp (by rw [take_at (by omega)]; exact .head _))
            have ho3 : o.length + 1 ≤ (o2 ++ [b.getD j 0] ++ ((b.take j).drop e).reverse).length := by simp; omega
            refine wpS_ite (fun e0 => ?_) (fun e0 => ?_)
            · rw [L_ext (l := b) e j, ← List.drop_take, L_rev, L_app]
              refine wpS_ite (fun d => ?_) (fun d => ?_)
              · obtain ⟨z, ez, hz1, hz2⟩ := lst _ (i + 1) e Mc (by simpa using d)
                rw [ez]
                exact wpS_pure ⟨hG3, .inl ⟨z, _, rfl, hz1, hz2⟩⟩
              refine wpS_ite (fun d3 => ?_) (fun d3 => ?_)
              · obtain ⟨z, ez, hz1, hz2⟩ := dn _ (i + 1) e Mc (.inr (by simpa using d3))
                rw [ez]
                exact wpS_pure ⟨hG3, .inl ⟨z, _, rfl, hz1, hz2⟩⟩
              have d4 : e ≠ 1 := by simpa using d
              have d5 : e ≠ 0 := by simpa using d3
              generalize o2 ++ [b.getD j 0] ++ ((b.take j).drop e).reverse = o3 at *
              obtain ⟨f, rfl⟩ : ∃ f, e = f + 1 := ⟨e - 1, by omega⟩
              refine wpS_bind (elem_i (getD_at hi2) ?_)
              rw [L_push]
              have Md : MI (Rb n lt) (a ++ b) (o3 ++ [a.getD i 0]) (a.take i).reverse (b.take (f + 1)).reverse := by
                rw [take_at hi2, take_at (show f < b.length by omega)] at Mc
                rw [take_at (show f < b.length by omega)]
                exact Mc.hA tr (r4 f rfl)
              refine wpS_ite (fun d => ?_) (fun d => ?_)
              · obtain ⟨z, ez, hz1, hz2⟩ := dn _ i (f + 1) Md (.inl (by simpa using d))
                rw [ez]
                exact wpS_pure ⟨hG3, .inl ⟨z, _, rfl, hz1, hz2⟩⟩
              have d6 : i ≠ 0 := by simpa using d
              refine wpS_ite (fun _ => ?_) (fun _ => ?_)
              · exact wpS_pure ⟨hG3, .inr ⟨_, _, _, _, _, _, rfl, Md, by omega, by omega, by omega, by omega, by simp; omega⟩⟩
              · exact wpS_pure ⟨hG3, _, _, _, _, _, _, rfl, Md, by omega, by omega, by omega, by omega, by simp; omega⟩
            · have e0' : e = j := by omega
              rw [e0', show (b.take j).drop j = [] from List.drop_of_length_le (by simp; omega), List.reverse_nil, List.append_nil] at Mc
              refine wpS_bind (elem_i (getD_at hi2) ?_)
              rw [L_push]
              obtain ⟨f, rfl⟩ : ∃ f, j = f + 1 := ⟨j - 1, by omega⟩
              have Md : MI (Rb n lt) (a ++ b) (o2 ++ [b.getD (f + 1) 0] ++ [a.getD i 0]) (a.take i).reverse (b.take (f + 1)).reverse := by
                rw [take_at hi2, take_at (show f < b.length by omega)] at Mc
                rw [take_at (show f < b.length by omega)]
                exact Mc.hA tr (r4 f e0')
              refine wpS_ite (fun d => ?_) (fun d => ?_)
              · obtain ⟨z, ez, hz1, hz2⟩ := dn _ i (f + 1) Md (.inl (by simpa using d))
                rw [ez]
                exact wpS_pure ⟨hG3, .inl ⟨z, _, rfl, hz1, hz2⟩⟩
              have d6 : i ≠ 0 := by simpa using d
              refine wpS_ite (fun _ => ?_) (fun _ => ?_)
              · exact wpS_pure ⟨hG3, .inr ⟨_, _, _, _, _, _, rfl, Md, by omega, by omega, by omega, by omega, by simp; omega⟩⟩
              · exact wpS_pure ⟨hG3, _, _, _, _, _, _, rfl, Md, by omega, by omega, by omega, by omega, by simp; omega⟩
          · have k0' : k = na := by omega
            rw [k0', show (a.take na).drop na = [] from List.drop_of_length_le (by simp; omega), List.reverse_nil, List.append_nil] at Mk
            obtain ⟨i, rfl⟩ : ∃ i, na = i + 1 := ⟨na - 1, by omega⟩
            have hR := q4 i k0'
            have hi2 : i < a.length := by omega
            have ho2 := k3
            simp only [Nat.add_sub_cancel]
            refine wpS_bind (elem_i (getD_at (show j < b.length by omega)) ?_)
            rw [L_push]
            have Mb : MI (Rb n lt) (a ++ b) (o' ++ [b.getD j 0]) (a.take (i + 1)).reverse (b.take j).reverse := by
              rw [take_at hi2, take_at (show j < b.length by omega)] at Mk
              rw [take_at hi2]
              exact Mk.hB tr hR
            refine wpS_ite (fun d => ?_) (fun d => ?_)
            · obtain ⟨z, e, hz1, hz2⟩ := lst _ (i + 1) j Mb (by simpa using d)
              rw [e]
              exact wpS_pure ⟨hG3, .inl ⟨z, _, rfl, hz1, hz2⟩⟩
            have d2 : j ≠ 1 := by simpa using d
            have ma := getD_mem (l := a) (i := i) hi2
            refine wpS_bind (elem_i (getD_at hi2) (wpS_bind (gal hA O (han _ ma) sb hbn (base := 0) (m := j) (by omega) (by omega) (fun x hx => (dne _ ma x hx).symm) hk3 fun e r1 r2 r3 => ?_)))
            dsimp only
            rw [List.drop_zero] at r2 r3
            have Mc : MI (Rb n lt) (a ++ b) (o' ++ [b.getD j 0] ++ ((b.take j).drop e).reverse) (a.take (i + 1)).reverse (b.take e).reverse := by
              have M1 := Mb
              rw [take_split (l := b) r1, take_at hi2] at M1
              rw [take_at hi2]
              exact M1.pB tr fun u hu => r3 u (List.mem_reverse.mp hu)
            have r4 : ∀ f, e = f + 1 → Rl n lt (b.getD f 0) (a.getD i 0) := fun f q => r2 _ (by rw [q]; exact List.mem_reverse.mp (by rw [take_at (by omega)]; exact .head _))
            have ho3 : o.length + 1 ≤ (o' ++ [b.getD j 0] ++ ((b.take j).drop e).reverse).length := by simp; omega
            refine wpS_ite (fun e0 => ?_) (fun e0 => ?_)
            · rw [L_ext (l := b) e j, ← List.drop_take, L_rev, L_app]
              refine wpS_ite (fun d => ?_) (fun d => ?_)
              · obtain ⟨z, ez, hz1, hz2⟩ := lst _ (i + 1) e Mc (by simpa using d)
                rw [ez]
                exact wpS_pure ⟨hG3, .inl ⟨z, _, rfl, hz1, hz2⟩⟩
              refine wpS_ite (fun d3 => ?_) (fun d3 => ?_)
              · obtain ⟨z, ez, hz1, hz2⟩ := dn _ (i + 1) e Mc (.inr (by simpa using d3))
                rw [ez]
                exact wpS_pure ⟨hG3, .inl ⟨z, _, rfl, hz1, hz2⟩⟩
              have d4 : e ≠ 1 := by simpa using d
              have d5 : e ≠ 0 := by simpa using d3
              generalize o' ++ [b.getD j 0] ++ ((b.take j).drop e).reverse = o3 at *
              obtain ⟨f, rfl⟩ : ∃ f, e = f + 1 := ⟨e - 1, by omega⟩
              refine wpS_bind (elem_i (getD_at hi2) ?_)
              rw [L_push]
              have Md : MI (Rb n lt) (a ++ b) (o3 ++ [a.getD i 0]) (a.take i).reverse (b.take (f + 1)).reverse := by
                rw [take_at hi2, take_at (show f < b.length by omega)] at Mc
                rw [take_at (show f < b.length by omega)]
                exact Mc.hA tr (r4 f rfl)
              refine wpS_ite (fun d => ?_) (fun d => ?_)
              · obtain ⟨z, ez, hz1, hz2⟩ := dn _ i (f + 1) Md (.inl (by simpa using d))
                rw [ez]
                exact wpS_pure ⟨hG3, .inl ⟨z, _, rfl, hz1, hz2⟩⟩
              have d6 : i ≠ 0 := by simpa using d
              refine wpS_ite (fun _ => ?_) (fun _ => ?_)
              · exact wpS_pure ⟨hG3, .inr ⟨_, _, _, _, _, _, rfl, Md, by omega, by omega, by omega, by omega, by simp; omega⟩⟩
              · exact wpS_pure ⟨hG3, _, _, _, _, _, _, rfl, Md, by omega, by omega, by omega, by omega, by simp; omega⟩
            · have e0' : e = j := by omega
              rw [e0', show (b.take j).drop j = [] from List.drop_of_length_le (by simp; omega), List.reverse_nil, List.append_nil] at Mc
              refine wpS_bind (elem_i (getD_at hi2) ?_)
              rw [L_push]
              obtain ⟨f, rfl⟩ : ∃ f, j = f + 1 := ⟨j - 1, by omega⟩
              have Md : MI (Rb n lt) (a ++ b) (o' ++ [b.getD (f + 1) 0] ++ [a.getD i 0]) (a.take i).reverse (b.take (f + 1)).reverse := by
                rw [take_at hi2, take_at (show f < b.length by omega)] at Mc
                rw [take_at (show f < b.length by omega)]
                exact Mc.hA tr (r4 f e0')
              refine wpS_ite (fun d => ?_) (fun d => ?_)
              · obtain ⟨z, ez, hz1, hz2⟩ := dn _ i (f + 1) Md (.inl (by simpa using d))
                rw [ez]
                exact wpS_pure ⟨hG3, .inl ⟨z, _, rfl, hz1, hz2⟩⟩
              have d6 : i ≠ 0 := by simpa using d
              refine wpS_ite (fun _ => ?_) (fun _ => ?_)
              · exact wpS_pure ⟨hG3, .inr ⟨_, _, _, _, _, _, rfl, Md, by omega, by omega, by omega, by omega, by simp; omega⟩⟩
              · exact wpS_pure ⟨hG3, _, _, _, _, _, _, rfl, Md, by omega, by omega, by omega, by omega, by simp; omega⟩
end
end LmMg

set_option Elab.async false
set_option linter.all false
set_option maxRecDepth 100000
set_option maxHeartbeats 4000000
namespace LmMg
open PySem PySem.W PyProof.Rows LmSort
theorem L_set {item : Nat → Keyed} {l : List Nat} (i x : Nat) : (L item l).setIfInBounds i (item x) = L item (l.set i x) := by simp [L, List.map_set]
/-- a row laid over another -/
theorem laid {item : Nat → Keyed} (sa : Nat) : ∀ (z : List Nat) (j : Nat) (l : List Nat), sa + j + z.length ≤ l.length →
    ((z.map item).zipIdx j).foldl (fun (a : Array Keyed) (x : Keyed × Nat) => match x with | (p, j) => a.setIfInBounds (sa + j) p) (L item l) = L item (l.take (sa + j) ++ z ++ l.drop (sa + j + z.length))
  | [], j, l, _ => by simp
  | x :: z, j, l, h => by
    simp only [List.length_cons] at h
    rw [List.map_cons, List.zipIdx_cons, List.foldl_cons]
    show List.foldl _ ((L item l).setIfInBounds (sa + j) (item x)) _ = _
    rw [L_set, laid sa z (j + 1) _ (by rw [List.length_set]; omega)]
    congr 1
    have e1 : (l.set (sa + j) x).take (sa + (j + 1)) = l.take (sa + j) ++ [x] := by
      rw [show sa + (j + 1) = sa + j + 1 by omega, List.take_succ, List.getElem?_set_self (by omega), List.take_set_of_le (Nat.le_refl _)]
      rfl
    have e2 : (l.set (sa + j) x).drop (sa + (j + 1) + z.length) = l.drop (sa + j + (z.length + 1)) := by
      rw [List.drop_set_of_lt (by omega)]
      congr 1
      omega
    rw [e1, e2, List.length_cons]
    simp
theorem wpS_set {M : Model} {A : Around} {E : Value → Shared → Prop} {s : Shared} {st st' : SortSt} {Q : PUnit → SortSt → Prop} (h : Q ⟨⟩ st') : wpS M A E s (set st' : StateT SortSt Sem PUnit) Q st := by
  unfold wpS; rw [StateT.run_set]; exact wpAny_pure ⟨rfl, h⟩
section
variable {prog : Program} {w : World} {A : Around} {E : Value → Shared → Prop} {s : Shared} {κ : SortKind} {item : Nat → Keyed} {n : Nat} {lt : Nat → Nat → Bool}
theorem mergeAt_i (hA : Ans prog w A s κ item n lt) (O : Ord n lt) {r1 r2 : List Nat} (hn : ∀ x ∈ r1 ++ r2, x < n) (nd : (r1 ++ r2).Nodup) (s1 : r1.Pairwise (Rl n lt)) (s2 : r2.Pairwise (Rl n lt)) (l1 : 0 < r1.length) (l2 : 0 < r2.length)
    {p1 p2 g : Nat} {Q : Bool → SortSt → Prop}
    (h : ∀ z g', z.Perm (r1 ++ r2) → z.Pairwise (Rl n lt) → Q true (SortSt.mk' κ (L item z) #[(0, r1.length + r2.length, p1)] g' none)) :
    wpS (model prog w) A E s (mergeAt' 0) Q (SortSt.mk' κ (L item (r1 ++ r2)) #[(0, r1.length, p1), (r1.length, r2.length, p2)] g none) := by
  have tr := Rl.tr O
  have hn1 : ∀ x ∈ r1, x < n := fun x hx => hn x (by simp [hx])
  have hn2 : ∀ x ∈ r2, x < n := fun x hx => hn x (by simp [hx])
  have dne : ∀ x ∈ r1, ∀ y ∈ r2, x ≠ y := (List.nodup_append.mp nd).2.2
  have g1 : ∀ i, i < r1.length → (r1 ++ r2).getD i 0 = r1.getD i 0 := fun i hi => by
    rw [List.getD_eq_getElem?_getD, List.getD_eq_getElem?_getD, List.getElem?_append_left hi]
  have g2 : ∀ i, (r1 ++ r2).getD (r1.length + i) 0 = r2.getD i 0 := fun i => by
    rw [List.getD_eq_getElem?_getD, List.getD_eq_getElem?_getD, List.getElem?_append_right (by omega), Nat.add_sub_cancel_left]
  refine wpS_bind (wpS_get ?_)
  refine wpS_bind (wpS_set ?_)
  have e0 := g2 0
  rw [Nat.add_zero] at e0
  refine wpS_bind (elem_i (l := r1 ++ r2) (getD_at (i := r1.length) (by simp; omega)) ?_)
  rw [e0]
  have m0 := getD_mem (l := r2) (i := 0) l2
  refine wpS_bind (gal0 hA O (l := r1 ++ r2) (base := 0) (m := r1.length) (hn2 _ m0) (fun i j hij hj => ?_) hn (by simp) l1 (fun i hi => ?_) rfl fun k q1 q2 q3 => ?_)
  · rw [Nat.zero_add, Nat.zero_add, g1 i (by omega), g1 j hj]
    exact pw_getD s1 hij hj
  · rw [Nat.zero_add, g1 i hi]
    exact dne _ (getD_mem hi) _ m0
  dsimp only [SortSt.mk']
  rw [List.drop_zero] at q2 q3
  rw [List.take_append_of_le_length q1] at q2
  rw [List.take_append_of_le_length (Nat.le_refl _), List.take_length] at q3
  have ep : ∀ x y z : Nat × Nat × Nat, ((#[x, y] : Array (Nat × Nat × Nat)).setIfInBounds 0 z).eraseIdxIfInBounds (0 + 1) = #[z] := fun x y z => by simp [Array.eraseIdxIfInBounds]
  rw [ep, Nat.zero_add]
  -- the whole rises already
  have whole : (∀ x ∈ r1, ∀ y ∈ r2, Rl n lt x y) → (r1 ++ r2).Pairwise (Rl n lt) := fun q => List.pairwise_append.mpr ⟨s1, s2, q⟩
  have fst : ∀ x, Rl n lt x (r2.getD 0 0) → ∀ y ∈ r2, Rl n lt x y := fun x hx y hy => by
    rw [← List.drop_zero (l := r2), drop_at l2] at hy
    rcases List.mem_cons.mp hy with e | e
    · exact e ▸ hx
    · refine tr _ _ _ hx ?_
      have := s2
      rw [← List.drop_zero (l := r2), drop_at l2] at this
      exact (List.pairwise_cons.mp this).1 y e
  obtain ⟨p, hp⟩ : ∃ p, r1.length = p + 1 := ⟨r1.length - 1, by omega⟩
  have mp := getD_mem (l := r1) (i := p) (by omega)
  have lst : ∀ y, Rl n lt (r1.getD p 0) y → ∀ x ∈ r1, Rl n lt x y := fun y hy x hx => by
    have er : r1.reverse = r1.getD p 0 :: (r1.take p).reverse := by
      rw [← take_at (by omega), List.take_of_length_le (by omega)]
    have hx' : x ∈ r1.reverse := List.mem_reverse.mpr hx
    have s1' := List.pairwise_reverse.mpr s1
    rw [er] at hx' s1'
    rcases List.mem_cons.mp hx' with e | e
    · exact e ▸ hy
    · exact tr _ _ _ ((List.pairwise_cons.mp s1').1 x e) hy
  refine wpS_ite (fun c => ?_) (fun c => ?_)
  · have c' : r1.length - k = 0 := by simpa using c
    refine wpS_pure (h _ g (List.Perm.refl _) (whole fun x hx => fst x (q2 x ?_)))
    rw [List.take_of_length_le (by omega)]
    exact hx
  have c' : r1.length - k ≠ 0 := by simpa using c
  rw [show k + (r1.length - k) - 1 = p by omega]
  have e1 := g1 p (by omega)
  refine wpS_bind (elem_i (l := r1 ++ r2) (getD_at (i := p) (by simp; omega)) ?_)
  rw [e1]
  refine wpS_bind (gal0 hA O (l := r1 ++ r2) (base := r1.length) (m := r2.length) (hn1 _ mp) (fun i j hij hj => ?_) hn (by simp) (by omega) (fun i hi => ?_) rfl fun e r1' r2' r3' => ?_)
  · rw [g2, g2]
    exact pw_getD s2 hij hj
  · rw [g2]
    exact (dne _ mp _ (getD_mem hi)).symm
  rw [List.drop_left' rfl] at r2' r3'
  rw [List.take_length] at r3'
  dsimp only
  refine wpS_ite (fun d => ?_) (fun d => ?_)
  · have d' : e = 0 := by simpa using d
    subst d'
    rw [List.drop_zero] at r3'
    exact wpS_pure (h _ g (List.Perm.refl _) (whole fun x hx y hy => lst y (r3' y hy) x hx))
  have d' : e ≠ 0 := by simpa using d
  have ex : (L item (r1 ++ r2)).extract k r1.length = L item (r1.drop k) := by
    rw [L_ext, List.drop_append_of_le_length q1, List.take_append_of_le_length (by simp), List.take_of_length_le (by simp)]
  have ey : (L item (r1 ++ r2)).extract r1.length (r1.length + e) = L item (r2.take e) := by
    rw [L_ext, List.drop_left' rfl, Nat.add_sub_cancel_left]
  rw [ex, ey]
  have sub1 : ∀ x ∈ r1.drop k, x ∈ r1 := fun x hx => List.mem_of_mem_drop hx
  have sub2 : ∀ x ∈ r2.take e, x ∈ r2 := fun x hx => List.mem_of_mem_take hx
  have hnn : ∀ x ∈ r1.drop k ++ r2.take e, x < n := fun x hx => (List.mem_append.mp hx).elim (fun q => hn1 x (sub1 x q)) fun q => hn2 x (sub2 x q)
  have ndd : (r1.drop k ++ r2.take e).Nodup := (nd.sublist (List.Sublist.append (List.drop_sublist _ _) (List.take_sublist _ _)))
  have ss1 : (r1.drop k).Pairwise (Rl n lt) := s1.sublist (List.drop_sublist _ _)
  have ss2 : (r2.take e).Pairwise (Rl n lt) := s2.sublist (List.take_sublist _ _)
  have hh0 : ∀ y ∈ r1.drop k, Rl n lt ((r2.take e).getD 0 0) y := fun y hy => by
    rw [List.getD_eq_getElem?_getD, List.getElem?_take_of_lt (by omega), ← List.getD_eq_getElem?_getD]
    exact q3 y hy
  have hhl : ∀ x ∈ r2.take e, Rl n lt x ((r1.drop k).getD ((r1.drop k).length - 1) 0) := fun x hx => by
    rw [List.getD_eq_getElem?_getD, List.getElem?_drop, ← List.getD_eq_getElem?_getD, List.length_drop, show k + (r1.length - k - 1) = p by omega]
    exact r2' x hx
  have fin : ∀ (z : List Nat) (st' : SortSt), SG (SortSt.mk' κ (L item (r1 ++ r2)) #[(0, r1.length + r2.length, p1)] g none) st' → z.Perm (r1.drop k ++ r2.take e) → z.Pairwise (Rl n lt) →
      ∃ Z g', SortSt.mk' (kindOf st') ((z.map item).zipIdx.foldl (fun (a : Array Keyed) (x : Keyed × Nat) => match x with | (p, j) => a.setIfInBounds (k + j) p) (arrOf st')) (pendingOf st') (gallopOf st') (failedOf st') =
        SortSt.mk' κ (L item Z) #[(0, r1.length + r2.length, p1)] g' none ∧ Z.Perm (r1 ++ r2) ∧ Z.Pairwise (Rl n lt) := by
    rintro z st' ⟨t1, t2, t3, t4⟩ hz1 hz2
    have zl : z.length = r1.length - k + e := by
      rw [hz1.length_eq, List.length_append, List.length_drop, List.length_take]
      omega
    refine ⟨r1.take k ++ z ++ r2.drop e, gallopOf st', ?_, ?_, ?_⟩
    · rw [t1, t2, t3, t4]
      dsimp only [SortSt.mk', PyProof.Rows.kindOf, arrOf, pendingOf, failedOf]
      congr 1
      have q := laid (item := item) k z 0 (r1 ++ r2) (by rw [List.length_append]; omega)
      rw [Nat.add_zero, zl, List.take_append_of_le_length q1, show k + (r1.length - k + e) = r1.length + e by omega, ← List.drop_drop, List.drop_left' rfl] at q
      exact q
    · have q1 : (r1.take k ++ z ++ r2.drop e).Perm (r1.take k ++ (r1.drop k ++ r2.take e) ++ r2.drop e) := (hz1.append_left _).append_right _
      have q2 : r1.take k ++ (r1.drop k ++ r2.take e) ++ r2.drop e = r1 ++ r2 := by
        rw [← List.append_assoc, List.take_append_drop, List.append_assoc, List.take_append_drop]
      exact q2 ▸ q1
    · have u1 := List.pairwise_append.mp ((List.take_append_drop k r1).symm ▸ s1)
      have u2 := List.pairwise_append.mp ((List.take_append_drop e r2).symm ▸ s2)
      refine List.pairwise_append.mpr ⟨List.pairwise_append.mpr ⟨u1.1, hz2, fun x hx y hy => ?_⟩, u2.2.1, fun x hx y hy => ?_⟩
      · rcases List.mem_append.mp (hz1.mem_iff.mp hy) with v | v
        · exact u1.2.2 x hx y v
        · exact fst x (q2 x hx) y (sub2 y v)
      · have hy2 : y ∈ r2 := List.mem_of_mem_drop hy
        rcases List.mem_append.mp hx with v | v
        · exact fst x (q2 x v) y hy2
        · rcases List.mem_append.mp (hz1.mem_iff.mp v) with v | v
          · exact lst y (r3' y hy) x (sub1 x v)
          · exact u2.2.2 x v y hy
  have tl : ∀ z, (L item z).toList = z.map item := fun z => by simp [L]
  refine wpS_ite (fun _ => ?_) (fun _ => ?_)
  · refine wpS_bind (mergeLo_i hA O hnn ndd ss1 ss2 (by simp; omega) (by simp; omega) hh0 hhl rfl fun z st' hG hz1 hz2 => ?_)
    obtain ⟨Z, g', eZ, hZ1, hZ2⟩ := fin z st' hG hz1 hz2
    refine wpS_bind (wpS_modify (wpS_bind (wpS_get (wpS_pure ?_))))
    rw [tl]
    have := h Z g' hZ1 hZ2
    rw [← eZ] at this
    have f : (failedOf st').isNone = true := by rw [hG.2.2.2]; rfl
    rw [← f] at this
    exact this
  · refine wpS_bind (mergeHi_i hA O hnn ndd ss1 ss2 (by simp; omega) (by simp; omega) hh0 hhl rfl fun z st' hG hz1 hz2 => ?_)
    obtain ⟨Z, g', eZ, hZ1, hZ2⟩ := fin z st' hG hz1 hz2
    refine wpS_bind (wpS_modify (wpS_bind (wpS_get (wpS_pure ?_))))
    rw [tl]
    have := h Z g' hZ1 hZ2
    rw [← eZ] at this
    have f : (failedOf st').isNone = true := by rw [hG.2.2.2]; rfl
    rw [← f] at this
    exact this
end
end LmMg

set_option Elab.async false
set_option linter.all false
set_option maxRecDepth 100000
set_option maxHeartbeats 4000000
namespace LmMg
open PySem PySem.W PyProof.Rows LmSort
abbrev ltAtP : Nat → Nat → StateT SortSt Sem (Option Bool) := sortPriv% PySem.Builtin.ltAt
abbrev revP : Nat → Nat → StateT SortSt Sem Unit := sortPriv% PySem.Builtin.reverseSlice
abbrev downP : Nat → Nat → StateT SortSt Sem Unit := sortPriv% PySem.Builtin.moveDown
/-- the places from lo on rise, k of them -/
def UpS (n : Nat) (lt : Nat → Nat → Bool) (l : List Nat) (lo k : Nat) : Prop := ∀ i j, lo ≤ i → i < j → j < lo + k → Rl n lt (l.getD i 0) (l.getD j 0)
def DnS (n : Nat) (lt : Nat → Nat → Bool) (l : List Nat) (lo k : Nat) : Prop := ∀ i j, lo ≤ i → i < j → j < lo + k → Rl n lt (l.getD j 0) (l.getD i 0)
theorem L_arr {item : Nat → Keyed} {l : List Nat} : L item l = l.toArray.map item := by simp [L]
theorem L_of {item : Nat → Keyed} {p : Array Nat} : p.map item = L item p.toList := by unfold L; rw [← Array.toList_map, Array.toArray_toList]
def mirL (l : List Nat) (i j : Nat) : List Nat := (mirror l.toArray i j ((j - i) / 2)).toList
theorem mirL_perm {l : List Nat} {i j : Nat} : (mirL l i j).Perm l := by
  have := Array.perm_iff_toList_perm.mp (mirror_perm l.toArray i j ((j - i) / 2))
  simpa [mirL] using this
theorem mirL_get {l : List Nat} {i j : Nat} (hj : j ≤ l.length) (k : Nat) : (mirL l i j).getD k 0 = if i ≤ k ∧ k < j then l.getD (i + j - 1 - k) 0 else l.getD k 0 := by
  have e := getElem?_mirror_all (xs := l.toArray) (i := i) (by simpa using hj) k
  rw [List.getD_eq_getElem?_getD, mirL, Array.getElem?_toList, e]
  split <;> simp [List.getD_eq_getElem?_getD]
def bubL (l : List Nat) (src d : Nat) : List Nat := (bubble l.toArray src d).toList
theorem bubL_perm {l : List Nat} {i j : Nat} : (bubL l i j).Perm l := by
  have := Array.perm_iff_toList_perm.mp (bubble_perm l.toArray i j)
  simpa [bubL] using this
theorem bubL_get {l : List Nat} {src d : Nat} (hs : src < l.length) (hd : d ≤ src) (k : Nat) : (bubL l src d).getD k 0 = if k = src - d then l.getD src 0 else if src - d < k ∧ k ≤ src then l.getD (k - 1) 0 else l.getD k 0 := by
  have e := getElem?_bubble (xs := l.toArray) (by simpa using hs) d hd k
  rw [List.getD_eq_getElem?_getD, bubL, Array.getElem?_toList, e]
  split
  · simp [List.getD_eq_getElem?_getD]
  · split <;> simp [List.getD_eq_getElem?_getD]
theorem nd_ne {l : List Nat} (nd : l.Nodup) {i j : Nat} (hi : i < l.length) (hj : j < l.length) (h : i ≠ j) : l.getD i 0 ≠ l.getD j 0 := by
  simp only [List.getD_eq_getElem?_getD, List.getElem?_eq_getElem hi, List.getElem?_eq_getElem hj, Option.getD_some]
  exact fun e => h ((List.getElem_inj nd).mp e)
section
variable {prog : Program} {w : World} {A : Around} {E : Value → Shared → Prop} {s : Shared} {κ : SortKind} {item : Nat → Keyed} {n : Nat} {lt : Nat → Nat → Bool} {pd : Array (Nat × Nat × Nat)} {g : Nat}
def S (κ : SortKind) (item : Nat → Keyed) (pd : Array (Nat × Nat × Nat)) (g : Nat) (l : List Nat) : SortSt := SortSt.mk' κ (L item l) pd g none
theorem ltAt_i (hA : Ans prog w A s κ item n lt) {l : List Nat} (hl : ∀ x ∈ l, x < n) {i j : Nat} (hi : i < l.length) (hj : j < l.length) {Q : Option Bool → SortSt → Prop} (h : Q (some (lt (l.getD i 0) (l.getD j 0))) (S κ item pd g l)) :
    wpS (model prog w) A E s (ltAtP i j) Q (S κ item pd g l) := by
  refine wpS_bind (wpS_get ?_)
  exact wpS_bind (elem_i (l := l) (getD_at hi) (wpS_bind (elem_i (l := l) (getD_at hj) (lt_i hA (hl _ (getD_mem hi)) (hl _ (getD_mem hj)) rfl h))))
theorem rev_i {l : List Nat} {i j : Nat} {Q : Unit → SortSt → Prop} (h : Q () (S κ item pd g (mirL l i j))) : wpS (model prog w) A E s (revP i j) Q (S κ item pd g l) := by
  refine wpS_modify ?_
  have e : mirror (L item l) i j ((j - i) / 2) = L item (mirL l i j) := by
    rw [L_arr, mirL, ← L_of]
    exact kas_swaps_map item (fun k => i + k) (fun k => j - 1 - k) _ _
  show Q () (SortSt.mk' κ (mirror (L item l) i j ((j - i) / 2)) pd g none)
  rw [e]
  exact h
theorem down_i {l : List Nat} {k d : Nat} {Q : Unit → SortSt → Prop} (h : Q () (S κ item pd g (bubL l k (k - d)))) : wpS (model prog w) A E s (downP k d) Q (S κ item pd g l) := by
  refine wpS_modify ?_
  have e : bubble (L item l) k (k - d) = L item (bubL l k (k - d)) := by
    rw [L_arr, bubL, ← L_of]
    exact kas_swaps_map item (fun i => k - i) (fun i => k - i - 1) _ _
  show Q () (SortSt.mk' κ (bubble (L item l) k (k - d)) pd g none)
  rw [e]
  exact h
theorem UpS.succ (O : Ord n lt) {l : List Nat} (hl : ∀ x ∈ l, x < n) (nd : l.Nodup) {lo x : Nat} (h1 : 1 ≤ x) (hx : lo + x < l.length) (u : UpS n lt l lo x) (c : lt (l.getD (lo + x) 0) (l.getD (lo + x - 1) 0) = false) : UpS n lt l lo (x + 1) := by
  have r : Rl n lt (l.getD (lo + x - 1) 0) (l.getD (lo + x) 0) := Rl.of O (hl _ (getD_mem hx)) (hl _ (getD_mem (by omega))) (nd_ne nd hx (by omega) (by omega)) c
  intro i j hi hij hj
  by_cases h : j < lo + x
  · exact u i j hi hij h
  · have e : j = lo + x := by omega
    subst e
    by_cases h' : i = lo + x - 1
    · subst h'; exact r
    · exact Rl.tr O _ _ _ (u i (lo + x - 1) hi (by omega) (by omega)) r
theorem DnS.succ (O : Ord n lt) {l : List Nat} (hl : ∀ x ∈ l, x < n) {lo x : Nat} (h1 : 1 ≤ x) (hx : lo + x < l.length) (u : DnS n lt l lo x) (c : lt (l.getD (lo + x) 0) (l.getD (lo + x - 1) 0) = true) : DnS n lt l lo (x + 1) := by
  have r : Rl n lt (l.getD (lo + x) 0) (l.getD (lo + x - 1) 0) := ⟨hl _ (getD_mem hx), hl _ (getD_mem (by omega)), c⟩
  intro i j hi hij hj
  by_cases h : j < lo + x
  · exact u i j hi hij h
  · have e : j = lo + x := by omega
    subst e
    by_cases h' : i = lo + x - 1
    · subst h'; exact r
    · exact Rl.tr O _ _ _ r (u i (lo + x - 1) hi (by omega) (by omega))

theorem count_i (hA : Ans prog w A s κ item n lt) (O : Ord n lt) {l : List Nat} (hl : ∀ x ∈ l, x < n) (nd : l.Nodup) {lo m : Nat} (hm : lo + m ≤ l.length) (h1 : 1 ≤ m) {Q : Option Nat → SortSt → Prop}
    (h : ∀ k l', 1 ≤ k → k ≤ m → l'.Perm l → (∀ i, i < lo → l'.getD i 0 = l.getD i 0) → UpS n lt l' lo k → Q (some k) (S κ item pd g l')) :
    wpS (model prog w) A E s (countRun' lo m) Q (S κ item pd g l) := by
  refine wpS_bind (wpS_mono (wpS_forRange (I := fun x c st' => st' = S κ item pd g l ∧ c = (none, x) ∧ UpS n lt l lo x)
    (Q := fun c st' => st' = S κ item pd g l ∧ ∃ x, c = (none, x) ∧ 1 ≤ x ∧ x ≤ m ∧ UpS n lt l lo x ∧ (x = m ∨ lt (l.getD (lo + x) 0) (l.getD (lo + x - 1) 0) = true)) ?s1 ?f1 ⟨rfl, rfl, fun i j _ _ _ => by omega⟩) ?p1)
  case f1 =>
    rintro c st' ⟨rfl, rfl, u⟩
    rw [Nat.max_eq_right h1] at u ⊢
    exact ⟨rfl, m, rfl, h1, Nat.le_refl _, u, .inl rfl⟩
  case s1 =>
    rintro x c st' hx1 hx2 ⟨rfl, rfl, u⟩
    dsimp only
    refine wpS_bind (ltAt_i hA hl (by omega) (by omega) ?_)
    dsimp only
    refine wpS_ite (fun c => ?_) (fun c => ?_)
    · exact wpS_pure ⟨rfl, x, rfl, hx1, by omega, u, .inr c⟩
    · exact wpS_pure ⟨rfl, rfl, u.succ O hl nd hx1 (by omega) (by simpa using c)⟩
  case p1 =>
    rintro c st' ⟨rfl, x, rfl, hx1, hx2, u, c⟩
    dsimp only
    refine wpS_ite (fun d => ?_) (fun d => ?_)
    · exact wpS_pure (h x l hx1 hx2 (List.Perm.refl _) (fun _ _ => rfl) u)
    have d' : x ≠ m := by simpa using d
    refine wpS_ite (fun e => ?_) (fun e => ?_)
    · refine wpS_bind (ltAt_i hA hl (by omega) (by omega) ?_)
      rw [(u lo (lo + x - 1) (by omega) (by omega) (by omega)).2.2]
      exact wpS_pure (h x l hx1 hx2 (List.Perm.refl _) (fun _ _ => rfl) u)
    have x1 : x = 1 := by omega
    subst x1
    have c' := c.resolve_left d'
    refine wpS_bind (wpS_lift (wpAny_rule ⟨rfl, ?_⟩))
    refine wpS_bind (wpS_mono (wpS_forRange (I := fun x c st' => st' = S κ item pd g l ∧ c = (none, x, 0) ∧ DnS n lt l lo x)
      (Q := fun c st' => st' = S κ item pd g l ∧ ∃ x, c = (none, x, 0) ∧ 2 ≤ x ∧ x ≤ m ∧ DnS n lt l lo x) ?s2 ?f2 ⟨rfl, rfl, DnS.succ O hl (Nat.le_refl _) (by omega) (fun i j _ _ _ => by omega) c'⟩) ?p2)
    case f2 =>
      rintro c st' ⟨rfl, rfl, v⟩
      rw [Nat.max_eq_right (by omega)] at v ⊢
      exact ⟨rfl, m, rfl, by omega, Nat.le_refl _, v⟩
    case s2 =>
      rintro x c st' hx1 hx2 ⟨rfl, rfl, v⟩
      dsimp only
      refine wpS_bind (ltAt_i hA hl (by omega) (by omega) ?_)
      dsimp only
      refine wpS_ite (fun c => ?_) (fun c => ?_)
      · rw [if_neg (by omega)]
        exact wpS_pure ⟨rfl, rfl, v.succ O hl (by omega) (by omega) c⟩
      · refine wpS_bind (ltAt_i hA hl (by omega) (by omega) ?_)
        rw [(Rl.of O (hl _ (getD_mem (by omega))) (hl _ (getD_mem (by omega))) (nd_ne nd (by omega) (by omega) (by omega)) (by simpa using c)).2.2]
        exact wpS_pure ⟨rfl, x, rfl, hx1, by omega, v⟩
    case p2 =>
      rintro c st' ⟨rfl, x, rfl, hx1, hx2, v⟩
      dsimp only
      rw [if_neg (by omega)]
      refine wpS_bind (rev_i ?_)
      have hp : (mirL l lo (lo + x)).Perm l := mirL_perm
      have hlen : (mirL l lo (lo + x)).length = l.length := hp.length_eq
      have hg := mirL_get (l := l) (i := lo) (j := lo + x) (by omega)
      have hlo : ∀ i, i < lo → (mirL l lo (lo + x)).getD i 0 = l.getD i 0 := fun i hi => by rw [hg, if_neg (by omega)]
      have v' : UpS n lt (mirL l lo (lo + x)) lo x := by
        intro i j hi hij hj
        rw [hg, hg, if_pos (by omega), if_pos (by omega)]
        exact v _ _ (by omega) (by omega) (by omega)
      have hl' : ∀ y ∈ mirL l lo (lo + x), y < n := fun y hy => hl y (hp.mem_iff.mp hy)
      have nd' := hp.nodup_iff.mpr nd
      generalize mirL l lo (lo + x) = l' at *
      refine wpS_bind (wpS_mono (wpS_forRange (I := fun y c st' => st' = S κ item pd g l' ∧ c = (none, y) ∧ UpS n lt l' lo y)
        (Q := fun c st' => st' = S κ item pd g l' ∧ ∃ y, c = (none, y) ∧ 1 ≤ y ∧ y ≤ m ∧ UpS n lt l' lo y) ?s3 ?f3 ⟨rfl, rfl, v'⟩) ?p3)
      case f3 =>
        rintro c st' ⟨rfl, rfl, u⟩
        rw [Nat.max_eq_right hx2] at u ⊢
        exact ⟨rfl, m, rfl, h1, Nat.le_refl _, u⟩
      case s3 =>
        rintro y c st' hy1 hy2 ⟨rfl, rfl, u⟩
        dsimp only
        refine wpS_bind (ltAt_i hA hl' (by omega) (by omega) ?_)
        dsimp only
        refine wpS_ite (fun c => ?_) (fun c => ?_)
        · exact wpS_pure ⟨rfl, y, rfl, by omega, by omega, u⟩
        · exact wpS_pure ⟨rfl, rfl, u.succ O hl' nd' (by omega) (by omega) (by simpa using c)⟩
      case p3 =>
        rintro c st' ⟨rfl, y, rfl, hy1, hy2, u⟩
        exact wpS_pure (h y l' hy1 hy2 hp hlo u)

theorem bin_i (hA : Ans prog w A s κ item n lt) (O : Ord n lt) {l : List Nat} (hl : ∀ x ∈ l, x < n) (nd : l.Nodup) {lo m ok : Nat} (hm : lo + m ≤ l.length) (h1 : 1 ≤ ok) (hok : ok ≤ m) (u : UpS n lt l lo ok) {Q : Bool → SortSt → Prop}
    (h : ∀ l', l'.Perm l → (∀ i, i < lo → l'.getD i 0 = l.getD i 0) → UpS n lt l' lo m → Q true (S κ item pd g l')) :
    wpS (model prog w) A E s (binarySort' lo m ok) Q (S κ item pd g l) := by
  refine wpS_bind (wpS_mono (wpS_forRange (I := fun k c st' => c = (none, ()) ∧ ∃ l', st' = S κ item pd g l' ∧ l'.Perm l ∧ (∀ i, i < lo → l'.getD i 0 = l.getD i 0) ∧ UpS n lt l' lo k)
    (Q := fun c st' => c = (none, ()) ∧ ∃ l', st' = S κ item pd g l' ∧ l'.Perm l ∧ (∀ i, i < lo → l'.getD i 0 = l.getD i 0) ∧ UpS n lt l' lo m) ?s1 ?f1 ⟨rfl, l, rfl, List.Perm.refl _, fun _ _ => rfl, by rw [Nat.max_eq_left h1]; exact u⟩) ?p1)
  case f1 =>
    rintro c st' ⟨rfl, l', rfl, q1, q2, q3⟩
    rw [show max (max ok 1) m = m by omega] at q3
    exact ⟨rfl, l', rfl, q1, q2, q3⟩
  case p1 =>
    rintro c st' ⟨rfl, l', rfl, q1, q2, q3⟩
    exact wpS_pure (h l' q1 q2 q3)
  case s1 =>
    rintro k c st' hk1 hk2 ⟨rfl, l', rfl, q1, q2, q3⟩
    have hlen : l'.length = l.length := q1.length_eq
    have hl' : ∀ y ∈ l', y < n := fun y hy => hl y (q1.mem_iff.mp hy)
    have nd' := q1.nodup_iff.mpr nd
    have hk : lo + k < l'.length := by omega
    refine wpS_bind (wpS_mono (wpS_forRange (I := fun x c st'' => st'' = S κ item pd g l' ∧ ∃ a b, c = (none, a, b) ∧ a ≤ b ∧ b ≤ k ∧ b - a ≤ k - x ∧ (∀ i, i < a → Rl n lt (l'.getD (lo + i) 0) (l'.getD (lo + k) 0)) ∧ (∀ i, b ≤ i → i < k → Rl n lt (l'.getD (lo + k) 0) (l'.getD (lo + i) 0)))
      (Q := fun c st'' => st'' = S κ item pd g l' ∧ ∃ a b, c = (none, a, b) ∧ a ≤ k ∧ (∀ i, i < a → Rl n lt (l'.getD (lo + i) 0) (l'.getD (lo + k) 0)) ∧ (∀ i, a ≤ i → i < k → Rl n lt (l'.getD (lo + k) 0) (l'.getD (lo + i) 0))) ?s2 ?f2 ⟨rfl, 0, k, rfl, by omega, by omega, by omega, fun i hi => by omega, fun i _ _ => by omega⟩) ?p2)
    case f2 =>
      rintro c st'' ⟨rfl, a, b, rfl, a1, a2, a3, a4, a5⟩
      have e : a = b := by omega
      subst e
      exact ⟨rfl, a, a, rfl, a2, a4, a5⟩
    case s2 =>
      rintro x c st'' _ hx ⟨rfl, a, b, rfl, a1, a2, a3, a4, a5⟩
      dsimp only
      refine wpS_ite (fun d => ?_) (fun d => ?_)
      · have e : a = b := by omega
        subst e
        exact wpS_pure ⟨rfl, a, a, rfl, a2, a4, a5⟩
      refine wpS_bind (ltAt_i hA hl' hk (by omega) ?_)
      dsimp only
      refine wpS_ite (fun e => ?_) (fun e => ?_)
      · refine wpS_pure ⟨rfl, a, (a + b) / 2, rfl, by omega, by omega, by omega, a4, fun i b1 b2 => ?_⟩
        have r : Rl n lt (l'.getD (lo + k) 0) (l'.getD (lo + (a + b) / 2) 0) := ⟨hl' _ (getD_mem hk), hl' _ (getD_mem (by omega)), e⟩
        by_cases q : i = (a + b) / 2
        · subst q; exact r
        · exact Rl.tr O _ _ _ r (q3 _ _ (by omega) (by omega) (by omega))
      · refine wpS_pure ⟨rfl, (a + b) / 2 + 1, b, rfl, by omega, by omega, by omega, fun i b1 => ?_, a5⟩
        have r : Rl n lt (l'.getD (lo + (a + b) / 2) 0) (l'.getD (lo + k) 0) := Rl.of O (hl' _ (getD_mem hk)) (hl' _ (getD_mem (by omega))) (nd_ne nd' hk (by omega) (by omega)) (by simpa using e)
        by_cases q : i = (a + b) / 2
        · subst q; exact r
        · exact Rl.tr O _ _ _ (q3 _ _ (by omega) (by omega) (by omega)) r
    case p2 =>
      rintro c st'' ⟨rfl, a, b, rfl, a2, a4, a5⟩
      dsimp only
      refine wpS_bind (down_i (wpS_pure ⟨rfl, _, rfl, bubL_perm.trans q1, fun i hi => ?_, fun i j hi hij hj => ?_⟩))
      · rw [bubL_get hk (by omega), if_neg (by omega), if_neg (by omega)]
        exact q2 i hi
      · rw [bubL_get hk (by omega), bubL_get hk (by omega), show lo + k - (lo + k - (lo + a)) = lo + a by omega]
        have a4' : ∀ y, lo ≤ y → y < lo + a → Rl n lt (l'.getD y 0) (l'.getD (lo + k) 0) := fun y y1 y2 => by
          have := a4 (y - lo) (by omega)
          rwa [show lo + (y - lo) = y by omega] at this
        have a5' : ∀ y, lo + a ≤ y → y < lo + k → Rl n lt (l'.getD (lo + k) 0) (l'.getD y 0) := fun y y1 y2 => by
          have := a5 (y - lo) (by omega) (by omega)
          rwa [show lo + (y - lo) = y by omega] at this
        repeat' split
        all_goals first
          | (exfalso; omega)
          | exact a4' _ (by omega) (by omega)
          | exact a5' _ (by omega) (by omega)
          | exact q3 _ _ (by omega) (by omega) (by omega)
end
end LmMg

set_option Elab.async false
set_option linter.all false
set_option maxRecDepth 100000
set_option maxHeartbeats 4000000
namespace LmMg
open PySem PySem.W PyProof.Rows LmSort
theorem UpS.seg {n : Nat} {lt : Nat → Nat → Bool} {l : List Nat} {lo k : Nat} (u : UpS n lt l lo k) : ((l.drop lo).take k).Pairwise (Rl n lt) := by
  refine List.pairwise_iff_getElem.mpr fun i j hi hj hij => ?_
  have hj' := hj
  simp only [List.length_take, List.length_drop] at hi hj'
  have := u (lo + i) (lo + j) (by omega) (by omega) (by omega)
  simpa [List.getD_eq_getElem?_getD, List.getElem?_eq_getElem (show lo + i < l.length by omega), List.getElem?_eq_getElem (show lo + j < l.length by omega)] using this
section
variable {prog : Program} {w : World} {A : Around} {E : Value → Shared → Prop} {s : Shared} {κ : SortKind} {item : Nat → Keyed} {lt : Nat → Nat → Bool} {g : Nat}
theorem runs64 (hA : Ans prog w A s κ item 64 lt) (O : Ord 64 lt) {l : List Nat} (hp : l.Perm (List.range 64)) {Q : Unit → SortSt → Prop}
    (h : ∀ z st', z.Perm (List.range 64) → z.Pairwise (Rl 64 lt) → arrOf st' = L item z → failedOf st' = none → Q () st') :
    wpS (model prog w) A E s sortRuns' Q (S κ item #[] g l) := by
  have hl : ∀ x ∈ l, x < 64 := fun x hx => List.mem_range.mp (hp.mem_iff.mp hx)
  have nd : l.Nodup := hp.nodup_iff.mpr List.nodup_range
  have len : l.length = 64 := by rw [hp.length_eq, List.length_range]
  refine wpS_bind (wpS_get ?_)
  have sz : (L item l).size = 64 := by rw [L_size, len]
  dsimp only [S, SortSt.mk']
  rw [sz, show (sortPriv% PySem.Builtin.minRun) 64 64 0 = 32 from rfl]
  refine wpS_bind (wpS_mono (wpS_forRange
    (I := fun x c st' => (x = 0 ∧ c = (none, 0) ∧ st' = S κ item #[] g l) ∨
      (x = 1 ∧ ∃ l1 n1, c = (none, n1) ∧ st' = S κ item #[(0, n1, 0)] g l1 ∧ l1.Perm l ∧ 32 ≤ n1 ∧ n1 ≤ 64 ∧ UpS 64 lt l1 0 n1) ∨
      (2 ≤ x ∧ ∃ l2 n1 pw, c = (none, 64) ∧ st' = S κ item #[(0, n1, pw), (n1, 64 - n1, 0)] g l2 ∧ l2.Perm l ∧ 32 ≤ n1 ∧ n1 < 64 ∧ UpS 64 lt l2 0 n1 ∧ UpS 64 lt l2 n1 (64 - n1)))
    (Q := fun c st' => (∃ l1, c = (none, 64) ∧ st' = S κ item #[(0, 64, 0)] g l1 ∧ l1.Perm l ∧ UpS 64 lt l1 0 64) ∨
      (∃ l2 n1 pw, c = (none, 64) ∧ st' = S κ item #[(0, n1, pw), (n1, 64 - n1, 0)] g l2 ∧ l2.Perm l ∧ 32 ≤ n1 ∧ n1 < 64 ∧ UpS 64 lt l2 0 n1 ∧ UpS 64 lt l2 n1 (64 - n1))) ?s1 ?f1 (.inl ⟨rfl, rfl, rfl⟩)) ?p1)
  case f1 =>
    rintro c st' (⟨e, _⟩ | ⟨e, _⟩ | ⟨_, q⟩)
    · simp at e
    · simp at e
    · exact .inr q
  case s1 =>
    rintro x c st' _ hx (⟨rfl, rfl, rfl⟩ | ⟨rfl, l1, n1, rfl, rfl, p1, b1, b2, u⟩ | ⟨x2, l2, n1, pw, rfl, rfl, p1, b1, b2, u1, u2⟩)
    · refine wpS_ite (fun c => by omega) (fun _ => ?_)
      refine wpS_bind (count_i hA O hl nd (lo := 0) (by omega) (by omega) fun k l1 k1 k2 p1 _ u => ?_)
      have hl1 : ∀ y ∈ l1, y < 64 := fun y hy => hl y (p1.mem_iff.mp hy)
      have nd1 := p1.nodup_iff.mpr nd
      have len1 : l1.length = 64 := p1.length_eq.trans len
      refine wpS_ite (fun c => ?_) (fun c => ?_)
      · have c' : k < 32 := c
        refine wpS_bind (wpS_lift (wpAny_rule ⟨rfl, ?_⟩))
        refine wpS_bind (bin_i hA O hl1 nd1 (lo := 0) (m := 32) (by omega) k1 (by omega) u fun l2 p2 _ u2 => ?_)
        refine wpS_bind (wpS_get (wpS_bind (wpS_modify (wpS_pure (.inr (.inl ⟨rfl, l2, 32, rfl, rfl, p2.trans p1, by omega, by omega, u2⟩))))))
      · have c' : ¬ k < 32 := c
        refine wpS_bind (wpS_get (wpS_bind (wpS_modify (wpS_pure (.inr (.inl ⟨rfl, l1, k, ?_, rfl, p1, by omega, by omega, u⟩))))))
        rw [Nat.zero_add]
    · have hl1 : ∀ y ∈ l1, y < 64 := fun y hy => hl y (p1.mem_iff.mp hy)
      have nd1 := p1.nodup_iff.mpr nd
      have len1 : l1.length = 64 := p1.length_eq.trans len
      refine wpS_ite (fun c => ?_) (fun c => ?_)
      · have e : n1 = 64 := by have c' : n1 ≥ 64 := c; omega
        subst e
        exact wpS_pure (.inl ⟨l1, rfl, rfl, p1, u⟩)
      have c' : ¬ n1 ≥ 64 := c
      refine wpS_bind (count_i hA O hl1 nd1 (lo := n1) (m := 64 - n1) (by omega) (by omega) fun k l2 k1 k2 p2 f2 v => ?_)
      have hl2 : ∀ y ∈ l2, y < 64 := fun y hy => hl1 y (p2.mem_iff.mp hy)
      have nd2 := p2.nodup_iff.mpr nd1
      have len2 : l2.length = 64 := p2.length_eq.trans len1
      have keep : ∀ l3 : List Nat, (∀ i, i < n1 → l3.getD i 0 = l1.getD i 0) → UpS 64 lt l3 0 n1 := fun l3 f i j hi hij hj => by
        rw [f i (by omega), f j (by omega)]
        exact u i j hi hij hj
      refine wpS_ite (fun c => ?_) (fun c => ?_)
      · have d : k < 32 := c
        refine wpS_bind (wpS_lift (wpAny_rule ⟨rfl, ?_⟩))
        dsimp only
        rw [show min (64 - n1) 32 = 64 - n1 by omega]
        refine wpS_bind (bin_i hA O hl2 nd2 (lo := n1) (m := 64 - n1) (by omega) k1 k2 v fun l3 p3 f3 v3 => ?_)
        have w3 := keep l3 fun i hi => (f3 i hi).trans (f2 i hi)
        refine wpS_bind (wpS_get ?_)
        refine wpS_bind (wpS_mono (wpS_forRange (I := fun y c st'' => c = (none, ()) ∧ st'' = S κ item #[(0, n1, 0)] g l3) (Q := fun c st'' => c = (none, ()) ∧ st'' = S κ item #[(0, n1, 0)] g l3) ?sT ?fT ⟨rfl, rfl⟩) ?pT)
        case fT => exact fun c st'' q => q
        case sT =>
          rintro y c st'' _ _ ⟨rfl, rfl⟩
          exact wpS_bind (wpS_get (wpS_pure ⟨rfl, rfl⟩))
        case pT =>
          rintro c st'' ⟨rfl, rfl⟩
          refine wpS_bind (wpS_modify (wpS_bind (wpS_modify (wpS_pure (.inr (.inr ⟨by omega, l3, n1, _, ?_, rfl, (p3.trans p2).trans p1, b1, by omega, w3, v3⟩))))))
          rw [show n1 + (64 - n1) = 64 by omega]
      · have d : ¬ k < 32 := c
        have ek : k = 64 - n1 := by omega
        subst ek
        have w3 := keep l2 f2
        have p3 := List.Perm.refl l2
        have v3 := v
        refine wpS_bind (wpS_get ?_)
        refine wpS_bind (wpS_mono (wpS_forRange (I := fun y c st'' => c = (none, ()) ∧ st'' = S κ item #[(0, n1, 0)] g l2) (Q := fun c st'' => c = (none, ()) ∧ st'' = S κ item #[(0, n1, 0)] g l2) ?sT2 ?fT2 ⟨rfl, rfl⟩) ?pT2)
        case fT2 => exact fun c st'' q => q
        case sT2 =>
          rintro y c st'' _ _ ⟨rfl, rfl⟩
          exact wpS_bind (wpS_get (wpS_pure ⟨rfl, rfl⟩))
        case pT2 =>
          rintro c st'' ⟨rfl, rfl⟩
          refine wpS_bind (wpS_modify (wpS_bind (wpS_modify (wpS_pure (.inr (.inr ⟨by omega, l2, n1, _, ?_, rfl, (p3.trans p2).trans p1, b1, by omega, w3, v3⟩))))))
          rw [show n1 + (64 - n1) = 64 by omega]
    · refine wpS_ite (fun c => ?_) (fun c => absurd (Nat.le_refl 64) c)
      exact wpS_pure (.inr ⟨l2, n1, pw, rfl, rfl, p1, b1, b2, u1, u2⟩)
  case p1 =>
    rintro c st' (⟨l1, rfl, rfl, p1, u⟩ | ⟨l2, n1, pw, rfl, rfl, p1, b1, b2, u1, u2⟩)
    · have len1 : l1.length = 64 := p1.length_eq.trans len
      refine wpS_bind (wpS_mono (wpS_forRange (I := fun y c st'' => c = (none, ()) ∧ st'' = S κ item #[(0, 64, 0)] g l1) (Q := fun c st'' => c = (none, ()) ∧ st'' = S κ item #[(0, 64, 0)] g l1) ?sA ?fA ⟨rfl, rfl⟩) ?pA)
      case fA => exact fun c st'' q => q
      case sA =>
        rintro y c st'' _ _ ⟨rfl, rfl⟩
        exact wpS_bind (wpS_get (wpS_ite (fun _ => wpS_pure ⟨rfl, rfl⟩) fun c => absurd (Nat.le_refl 1) c))
      case pA =>
        rintro c st'' ⟨rfl, rfl⟩
        have q := u.seg
        rw [List.drop_zero, List.take_of_length_le (by omega)] at q
        exact wpS_pure (h l1 _ (p1.trans hp) q rfl rfl)
    · have len2 : l2.length = 64 := p1.length_eq.trans len
      have hl2 : ∀ y ∈ l2, y < 64 := fun y hy => hl y (p1.mem_iff.mp hy)
      have nd2 := p1.nodup_iff.mpr nd
      have q1 := u1.seg
      have q2 := u2.seg
      rw [List.drop_zero] at q1
      rw [List.take_of_length_le (by rw [List.length_drop]; omega)] at q2
      have e1 : (l2.take n1).length = n1 := by rw [List.length_take]; omega
      have e2 : (l2.drop n1).length = 64 - n1 := by rw [List.length_drop]; omega
      have ea : l2.take n1 ++ l2.drop n1 = l2 := List.take_append_drop _ _
      rw [← ea] at hl2 nd2 p1
      have est : S κ item #[(0, n1, pw), (n1, 64 - n1, 0)] g l2 = SortSt.mk' κ (L item (l2.take n1 ++ l2.drop n1)) #[(0, (l2.take n1).length, pw), ((l2.take n1).length, (l2.drop n1).length, 0)] g none := by
        rw [e1, e2, ea]; rfl
      rw [est]
      have esum : (l2.take n1).length + (l2.drop n1).length = 64 := by omega
      have l1p : 0 < (l2.take n1).length := by omega
      have l2p : 0 < (l2.drop n1).length := by omega
      clear est ea e1 e2 u1 u2
      generalize l2.take n1 = r1 at *
      generalize l2.drop n1 = r2 at *
      refine wpS_bind (wpS_mono (wpS_forRange (I := fun y c st'' => c = (none, ()) ∧ ((y = 0 ∧ st'' = SortSt.mk' κ (L item (r1 ++ r2)) #[(0, r1.length, pw), (r1.length, r2.length, 0)] g none) ∨
          (1 ≤ y ∧ ∃ z g', st'' = SortSt.mk' κ (L item z) #[(0, r1.length + r2.length, pw)] g' none ∧ z.Perm (r1 ++ r2) ∧ z.Pairwise (Rl 64 lt))))
        (Q := fun c st'' => c = (none, ()) ∧ ∃ z g', st'' = SortSt.mk' κ (L item z) #[(0, r1.length + r2.length, pw)] g' none ∧ z.Perm (r1 ++ r2) ∧ z.Pairwise (Rl 64 lt)) ?sB ?fB ⟨rfl, .inl ⟨rfl, rfl⟩⟩) ?pB)
      case fB =>
        rintro c st'' ⟨rfl, ⟨e, _⟩ | ⟨_, q⟩⟩
        · simp at e
        · exact ⟨rfl, q⟩
      case sB =>
        rintro y c st'' _ _ ⟨rfl, ⟨rfl, rfl⟩ | ⟨_, z, g', rfl, z1, z2⟩⟩
        · refine wpS_bind (wpS_get (wpS_ite (fun c => ?_) fun _ => ?_))
          · exact absurd c (by show ¬ 2 ≤ 1; omega)
          · refine wpS_bind (mergeAt_i hA O hl2 nd2 q1 q2 l1p l2p fun z g' z1 z2 => ?_)
            exact wpS_pure ⟨rfl, .inr ⟨by omega, z, g', rfl, z1, z2⟩⟩
        · exact wpS_bind (wpS_get (wpS_ite (fun _ => wpS_pure ⟨rfl, z, g', rfl, z1, z2⟩) fun c => absurd (Nat.le_refl 1) c))
      case pB =>
        rintro c st'' ⟨rfl, z, g', rfl, z1, z2⟩
        exact wpS_pure (h z _ ((z1.trans p1).trans hp) z2 rfl rfl)
end
end LmMg

set_option Elab.async false
set_option linter.all false
set_option maxRecDepth 100000
set_option maxHeartbeats 4000000
namespace L2
open PySem PySem.Spec PyProof.Rows

/-! ## a list comprehension of one clause -/
abbrev NoE : Value → Shared → Prop := fun _ _ => False

theorem compLoop_any {prog : Program} {w : World} {A : Around} {elt target iter : Expr} {ifs : List Expr} {scope : Scope} {pos : Pos} {it acc : Value} {env : Env} {R : Result → Shared → Prop} {s : Shared} (I : Nat → Shared → Prop)
    (turn : ∀ n s, I n s → wpAny (model prog w) A (pyNext it) (fun r s₁ => match r with
      | none => R (.ok .next) s₁
      | some v => wpAny (model prog w) A (letOwnedTupleGo target it v) (fun _ s₁' => wpAny (model prog w) A (assign target env v) (fun _ s₂ =>
          wpAny (model prog w) A (forIn ifs true fun c r => if r = true then do let ok ← isTrue c env (eval c env); pure (ForInStep.yield ok) else pure (ForInStep.yield r)) (fun ok s₃ =>
            if ok = true then wpAny (model prog w) A (eval elt env) (fun x s₄ =>
              wpAny (model prog w) A (call (.builtin "list.append") [acc, x]) (fun _ s₅ => ∃ m, m < n ∧ I m s₅) NoE s₄) NoE s₃
            else ∃ m, m < n ∧ I m s₃) NoE s₂) NoE s₁') NoE s₁) NoE s)
    (n : Nat) (h : I n s) : codeAny (model prog w) A (.compLoop (.ListComp elt [⟨target, iter, ifs, 0⟩] scope pos) 0 it acc env) R s := by
  refine codeAny_loop rfl I (fun n s hI => ?_) n h
  show wpAny _ A ((compTurn (.ListComp elt [⟨target, iter, ifs, 0⟩] scope pos) 0 it acc env).onRaise (fun x => do noteFrame x env; theTreesLotGoes x)) _ _ s
  refine wpAny_noted ?_
  rw [compTurn_list]
  refine wpAny_bind (wpAny_standAt (wpAny_bind (wpAny_mono (turn n s hI) (fun r s₁ h₁ => ?_) fun _ _ h' => h'.elim)))
  cases r with
  | none => exact wpAny_pure h₁
  | some v =>
    refine wpAny_bind (wpAny_mono h₁ (fun _ s₁' h₁' => ?_) fun _ _ h' => h'.elim)
    refine wpAny_bind (wpAny_mono h₁' (fun _ s₂ h₂ => wpAny_bind (wpAny_mono h₂ (fun ok s₃ h₃ => ?_) fun _ _ h' => h'.elim)) fun _ _ h' => h'.elim)
    cases ok with
    | false => exact wpAny_pure ⟨rfl, h₃⟩
    | true =>
      exact wpAny_bind (wpAny_bind (wpAny_mono h₃ (fun x s₄ h₄ => wpAny_bind (wpAny_mono h₄ (fun _ s₅ h₅ => wpAny_pure (wpAny_pure ⟨rfl, h₅⟩)) fun _ _ h' => h'.elim)) fun _ _ h' => h'.elim))

/-- the block's context -/
def cxC (X : Cx) (N : List Str) (scope : Scope) (cl : List (Str × Addr)) (C : Addr) (ex : List Addr) (s : Shared) (H : Hp) : Cx where
  prog := X.prog
  w := X.w
  K := X.K
  mg := X.mg
  base := X.base
  A := X.A
  N := N
  s₀ := s
  H₀ := H
  env := compEnvC scope cl C X.env
  outer := X.stack
  stack := X.stack
  ex := ex
  fn := fun _ => false
  calm := X.calm
  pn := []
  xe := fun _ _ => False

def AllP {α : Type} (P : α → Prop) : List α → Prop
  | [] => True
  | a :: r => P a ∧ AllP P r
theorem AllP.mem {α : Type} {P : α → Prop} : ∀ {l : List α} {a : α}, AllP P l → a ∈ l → P a
  | _ :: _, _, h, m => by
    rcases List.mem_cons.mp m with e | m
    · exact e ▸ h.1
    · exact AllP.mem h.2 m

/-- a captured name: its slot in the def, a cell on both sides -/
def CapOk (X : Cx) (sc : Scope) (cl : List (Str × Addr)) (p : Str × Nat) : Prop :=
  X.N[p.2]? = some p.1 ∧ (X.env.kindOf p.1 = some .cell ∨ X.env.kindOf p.1 = some .free) ∧ (sc.names.lookup p.1 = some .cell ∨ sc.names.lookup p.1 = some .free) ∧ cl.lookup p.1 = X.env.cells.lookup p.1

structure CompOk (X : Cx) (scope : Scope) (cl : List (Str × Addr)) (own : List Str) (cap : List (Str × Nat)) : Prop where
  clos : closureFor scope X.env = pure cl
  kind : scope.kind = .function
  noCell : ∀ y ∈ scope.names, y.2 ≠ .cell
  names : ∀ y ∈ scope.names, y.2 = .local → scope.names.lookup y.1 = some .local
  sub : AllP (fun p : Str × Addr => X.env.cells.lookup p.1 = some p.2) cl
  has : (relabel scope X.env).names.all (fun p => !(p.2 == .cell || p.2 == .free) || (cl.lookup p.1).isSome) = true
  caps : AllP (CapOk X (relabel scope X.env) cl) cap
theorem CompOk.subL {X : Cx} {scope : Scope} {cl : List (Str × Addr)} {own : List Str} {cap : List (Str × Nat)} (S : CompOk X scope cl own cap) : ∀ x c, cl.lookup x = some c → X.env.cells.lookup x = some c := fun x c e =>
  S.sub.mem (PySem.mem_of_lookup e)
theorem CompOk.hasL {X : Cx} {scope : Scope} {cl : List (Str × Addr)} {own : List Str} {cap : List (Str × Nat)} (S : CompOk X scope cl own cap) :
    ∀ x, ((relabel scope X.env).names.lookup x = some .cell ∨ (relabel scope X.env).names.lookup x = some .free) → ∃ c, cl.lookup x = some c := fun x h => by
  have all := List.all_eq_true.mp S.has
  rcases h with e | e
  · have q := all _ (PySem.mem_of_lookup e)
    exact Option.isSome_iff_exists.mp (by simpa using q)
  · have q := all _ (PySem.mem_of_lookup e)
    exact Option.isSome_iff_exists.mp (by simpa using q)

/-- the names' values at the block's entry -/
def capSt (own : List Str) (cap : List (Str × Nat)) (σ : St) : St := List.replicate own.length none ++ cap.map fun p => (σ[p.2]?).getD none

/-- what the comprehension's own frame is to the def's: not tracked, new -/
structure NewC (X : Cx) (pins : List (Addr × Obj)) (H : Hp) (C : Addr) : Prop where
  h : H C = none
  l : C ≠ X.env.locals
  s : X.s₀.heap.objs.size ≤ C
  c : ∀ x c, X.env.cells.lookup x = some c → c ≠ C
  p : ∀ p ∈ X.pn ++ pins, p.1 ≠ C
theorem NewC.go {X : Cx} {pins : List (Addr × Obj)} {σ : St} {H : Hp} {s : Shared} {C : Addr} {h' : Heap} (n : NewC X pins H C) (I : Inv X pins σ H s) (e : Heap.SameBut C s.heap h') : Inv X pins σ H { s with heap := h' } :=
  I.turned (t' := s.toks) (fun b o hb q => (e.2 b hb).trans q) n.h n.l (.inr n.s) n.c n.p

/-- tests of a clause -/
def PTs (X : Cx) (ifs : List Expr) (t : TT) : Prop :=
  ∀ (pins : List (Addr × Obj)) (s : Shared) (σ : St) (H : Hp) (Q : Bool → Hp → Prop), Inv X pins σ H s → t σ H Q →
    wpAny (model X.prog X.w) X.A (forIn ifs true fun c r => if r = true then do let ok ← isTrue c X.env (eval c X.env); pure (ForInStep.yield ok) else pure (ForInStep.yield r)) (TP X pins σ Q) X.xe s
def tNoTest : TT := fun _ H Q => Q true H
theorem pts_nil {X : Cx} : PTs X [] tNoTest := fun _ _ _ H _ I h => wpAny_tests_nil ⟨H, I, h⟩

/-- an untracked list of ours is tracked from here on -/
theorem Inv.track {X : Cx} {pins : List (Addr × Obj)} {σ : St} {H : Hp} {s : Shared} {D : Addr} {out : List V} {its : List Value} {k : Nat} (I : Inv X pins σ H s) (n : NewC X pins H D) (hl : out.length ≤ sizeLine) (r : Vals out its)
    (e : s.heap.get? D = some { cls := .type "list", data := .seq its.toArray k }) : Inv X pins σ (upd H D (.lst out)) s := by
  have ne : ∀ {b : Addr} {u : HO}, H b = some u → b ≠ D := fun q => ne_of_none q n.h
  refine I.step (h' := s.heap) (g' := s.gens) (d' := s.drawn) (t' := s.toks) (ch := [D]) (fun b hb => ?_) (fun b o _ _ _ q _ => q) (fun b o _ _ _ q _ => ⟨o.slots, q⟩) (fun b o hb q n' => ?_) (fun b o _ q => ⟨o, q⟩)
    (fun b xs q => by rw [upd_ne (ne q)]; exact q) (fun b o u q => by rw [upd_ne (ne q)]; exact q) (fun b ps q => ⟨#[], by rw [upd_ne (ne q), q]; simp⟩) (fun m hm => hm) (fun b u q => ?_) I.bare
  · have z : b = D := by simpa using hb
    subst z
    exact ⟨.inr n.s, n.l, n.c, n.p⟩
  · rw [upd_ne (by simpa using hb)]; exact n'
  · by_cases hb : b = D
    · subst hb; rw [upd_same] at q; cases q; exact ⟨hl, its, k, r, e⟩
    · rw [upd_ne hb] at q
      exact (I.hok b u q).stay (fun _ _ _ z => z) (fun c z => by rw [upd_ne (ne z)]; exact z) fun c xs z => by rw [upd_ne (ne z)]; exact z

/-- the context of the block is in order -/
theorem cxC_ok {X : Cx} {pins : List (Addr × Obj)} {σ : St} {H : Hp} {s s3 : Shared} {scope : Scope} {cl : List (Str × Addr)} {own : List Str} {cap : List (Str × Nat)} {N : List Str} {fp : List Addr} {C D : Addr}
    (S : CompOk X scope cl own cap) (I : Inv X pins σ H s) (I3 : Inv X pins σ H s3) (hD : s.heap.objs.size ≤ D) (hDC : D < C) (hC : s3.heap.objs.size = C) (f2 : ∀ b ∈ fp, FpOk X pins H b) (hfp : ∀ b ∈ fp, b < s.heap.objs.size) :
    (cxC X N scope cl C (fp ++ [D]) s3 H).Ok := by
  have cellLt : ∀ x c, X.env.cells.lookup x = some c → c < s.heap.objs.size := fun x c e => by
    obtain ⟨v, q⟩ := I.cell x c e
    exact q.lt
  refine ⟨I.ok.mod, S.kind, I.ok.glob, I.ok.blt, Nat.le_of_eq hC, fun x y c e1 e2 => I.ok.inj x y c (S.subL _ _ e1) (S.subL _ _ e2), fun x h => S.hasL x h, fun x c e _ => absurd (show false = true from e) Bool.false_ne_true, I.ok.hd, I.ok.frames, .inl rfl, fun b hb => ?_, I3.bs, Nat.le_trans I.ok.bsz I3.sz, fun b o e hb => ?_, fun b hb => ?_, I3.stack, I3.stkFree⟩
  · rcases List.mem_append.mp hb with hb | hb
    · refine ⟨Nat.ne_of_lt (Nat.lt_trans (Nat.lt_of_lt_of_le (hfp b hb) hD) hDC), fun x c e => (f2 b hb).2.2.2.2.1 x c (S.subL _ _ e)⟩
    · have z : b = D := by simpa using hb
      subst z
      exact ⟨Nat.ne_of_lt hDC, fun x c e => Nat.ne_of_lt (Nat.lt_of_lt_of_le (cellLt x c (S.subL _ _ e)) hD)⟩
  · have hlt : b < X.s₀.heap.objs.size := Nat.lt_of_lt_of_le (Heap.lt_size e) I.ok.bsz
    rcases List.mem_append.mp hb with hb | hb
    · rcases (f2 b hb).2.2.2.1 with z | z
      · exact I.ok.noex b o e z
      · exact absurd (Nat.lt_of_lt_of_le hlt z) (Nat.lt_irrefl _)
    · have z : b = D := by simpa using hb
      subst z
      exact absurd (Nat.lt_of_lt_of_le hlt (Nat.le_trans I.sz hD)) (Nat.lt_irrefl _)
  · intro hf
    rcases List.mem_cons.mp (I.stkSub b hf) with z | z
    · rcases List.mem_append.mp hb with hb | hb
      · exact (f2 b hb).2.1 z
      · have y : b = D := by simpa using hb
        exact absurd (Nat.lt_of_lt_of_le I.lt hD) (by rw [← z, y]; exact Nat.lt_irrefl _)
    · rcases List.mem_append.mp hb with hb | hb
      · exact (f2 b hb).2.2.1 z
      · have y : b = D := by simpa using hb
        exact I.nofs hD (y ▸ z)

theorem comp_block {X : Cx} {pins : List (Addr × Obj)} {σ : St} {H : Hp} {s2 : Shared} {elt tg iter : Expr} {ifs : List Expr} {scope : Scope} {pos : Pos} {cl : List (Str × Addr)} {own : List Str} {cap : List (Str × Nat)} {g : Addr → List Addr → Shared → Hp → TG} {ti : Addr → List Addr → Shared → Hp → TT} {te : Addr → List Addr → Shared → Hp → TE}
    {E : Value → Shared → Prop} {RR : Value → Addr → Result → Shared → Prop} {it : Addr} {fp : List Addr} {tn : Nat → Heap → Prop} {J : It} {Fin : List V → Hp → Prop}
    (S : CompOk X scope cl own cap) (hc : X.calm = true)
    (hg : ∀ C ex s H, PG (cxC X (own ++ cap.map (·.1)) scope cl C ex s H) tg (g C ex s H)) (ht : ∀ C ex s H, PTs (cxC X (own ++ cap.map (·.1)) scope cl C ex s H) ifs (ti C ex s H)) (he : ∀ C ex s H, PE (cxC X (own ++ cap.map (·.1)) scope cl C ex s H) elt (te C ex s H))
    (I : Inv X pins σ H s2) (T : Turn X.prog X.w X.K tg J fp it tn) (st : tn 0 s2.heap) (f2 : ∀ b ∈ fp, FpOk X pins H b)
    (all : ∀ C ex s0 H0, ∃ W : Nat → Nat → List V → St → Hp → Prop, (∃ m, W 0 m [] (capSt own cap σ) H) ∧ ∀ i m out σ' H', W i m out σ' H' → (J.stop i H' ∧ Fin out H') ∨ (J.go i H' ∧ ∀ x H2, J.yld i H' x H2 → g C ex s0 H0 x σ' H2 fun σ3 H3 => ti C ex s0 H0 σ3 H3 fun b H4 =>
      if b = true then te C ex s0 H0 σ3 H4 (fun y H5 => out.length < sizeLine ∧ ∃ m', m' < m ∧ W (i + 1) m' (out ++ [y]) σ3 H5) else ∃ m', m' < m ∧ W (i + 1) m' out σ3 H4))
    (hRR : ∀ D C s' He out mm, s'.heap.Ns C mm → Inv X pins σ (upd He D (.lst out)) s' → NewC X pins (upd He D (.lst out)) C → He D = none → Fin out He → RR (.ref D) C (.ok .next) s') :
    wpAny (model X.prog X.w) X.A (newList []) (fun acc s₃ => wpAny (model X.prog X.w) X.A (newFunctionEnv scope X.env.globals cl [] X.env.qual none .none (some X.env)) (fun cenv s₄ =>
      codeAny (model X.prog X.w) X.A (.compStart (.ListComp elt [⟨tg, iter, ifs, 0⟩] scope pos) 0 (.ref it) acc { cenv with scope := relabel scope X.env }) (RR acc cenv.locals) s₄) E s₃) E s2 := by
  refine wpAny_newObj_type (wpAny_newFunctionEnv S.noCell (by intro y hy; simp at hy) (fun h₁ hns₁ hsb₁ => ?_) S.kind)
  dsimp only at hns₁ hsb₁ ⊢
  generalize hH3 : s2.heap.push { cls := .type "list", dict := none, data := .seq ([] : List Value).toArray } = H3 at hns₁ hsb₁ ⊢
  have hC : H3.objs.size = s2.heap.objs.size + 1 := by rw [← hH3, Heap.size_push]
  have keep3 : ∀ b o, s2.heap.get? b = some o → H3.get? b = some o := fun b o e => hH3 ▸ Heap.get?_push_of_some _ e
  have acc3 : H3.get? s2.heap.objs.size = some { cls := .type "list", data := .seq ([] : List Value).toArray 0 } := hH3 ▸ Heap.get?_push_size _ rfl
  have I3 : Inv X pins σ H { s2 with heap := H3 } := I.kept (t' := s2.toks) keep3
  have keep4 : ∀ b o, H3.get? b = some o → h₁.get? b = some o := fun b o e => hsb₁.extBut b o (Nat.ne_of_lt (Heap.lt_size e)) (Heap.get?_push_of_some _ e)
  have hfp : ∀ b ∈ fp, b < s2.heap.objs.size := fun b hb => by
    obtain ⟨o, e, _⟩ := T.obj _ _ st b hb
    exact Heap.lt_size e
  generalize hDe : s2.heap.objs.size = D at hC acc3 ⊢
  have hDC : D < H3.objs.size := by rw [hC]; exact Nat.lt_succ_self _
  have hDle : s2.heap.objs.size ≤ D := Nat.le_of_eq hDe
  have ok : (cxC X (own ++ cap.map (·.1)) scope cl H3.objs.size (fp ++ [D]) { s2 with heap := H3 } H).Ok := cxC_ok S I I3 hDle hDC rfl f2 hfp
  have cellLt : ∀ x c, X.env.cells.lookup x = some c → c < s2.heap.objs.size := fun x c e => by
    obtain ⟨v, q⟩ := I.cell x c e
    exact q.lt
  have newD : ∀ {H' : Hp}, H' D = none → NewC X pins H' D := fun hn => ⟨hn, Nat.ne_of_gt (Nat.lt_of_lt_of_le I.lt hDle), Nat.le_trans I.sz hDle, fun x c e => Nat.ne_of_lt (Nat.lt_of_lt_of_le (cellLt x c e) hDle), fun p hp => Nat.ne_of_lt (Nat.lt_of_lt_of_le (Heap.lt_size (I.pin p hp).1) hDle)⟩
  have newC : ∀ {H' : Hp}, H' H3.objs.size = none → NewC X pins H' H3.objs.size := fun hn =>
    ⟨hn, Nat.ne_of_gt (Nat.lt_trans (Nat.lt_of_lt_of_le I.lt hDle) hDC), Nat.le_trans (Nat.le_trans I.sz hDle) (Nat.le_of_lt hDC), fun x c e => Nat.ne_of_lt (Nat.lt_trans (Nat.lt_of_lt_of_le (cellLt x c e) hDle) hDC), fun p hp => Nat.ne_of_lt (Nat.lt_trans (Nat.lt_of_lt_of_le (Heap.lt_size (I.pin p hp).1) hDle) hDC)⟩
  have hDf : D ∉ fp := fun hb => absurd (Nat.lt_of_lt_of_le (hfp D hb) hDle) (Nat.lt_irrefl _)
  have hHD : H D = none := I.hok.fresh hDle
  obtain ⟨W, ⟨m0, w0⟩, turn⟩ := all H3.objs.size (fp ++ [D]) { s2 with heap := H3 } H
  -- the block's first state
  have I4 : Inv (cxC X (own ++ cap.map (·.1)) scope cl H3.objs.size (fp ++ [D]) { s2 with heap := H3 } H) [] (capSt own cap σ) H { s2 with heap := h₁, toks := s2.toks + ([] : List (Str × Value)).length } := by
    refine ⟨ok, rfl, I.bare, Un.kept keep4, ⟨_, hns₁, fun i x v e1 e2 e3 => ?_⟩, fun x c e => ?_, I3.hok.fresh (Nat.le_refl _), fun x c e => I.freeC x c (S.subL _ _ e), fun p hp => absurd (show p ∈ ([] : List (Addr × Obj)) from hp) (by simp), I3.hok.kept keep4, ?_⟩
    · -- a captured name
      have hi : ¬ i < own.length := fun hi => by
        unfold capSt at e2
        rw [List.getElem?_append_left (by simpa using hi), List.getElem?_replicate] at e2
        split at e2 <;> cases e2
      obtain ⟨j, rfl⟩ : ∃ j, i = own.length + j := ⟨i - own.length, by omega⟩
      have e2' : (cap.map fun p => (σ[p.2]?).getD none)[j]? = some (some v) := by
        unfold capSt at e2
        rw [List.getElem?_append_right (by simp)] at e2
        simpa using e2
      have e1' : (cap.map (·.1))[j]? = some x := by
        have e1 : (own ++ cap.map (·.1))[own.length + j]? = some x := e1
        rw [List.getElem?_append_right (by simp)] at e1
        simpa using e1
      rw [List.getElem?_map] at e1' e2'
      cases hp : cap[j]? with
      | none => rw [hp] at e1'; cases e1'
      | some p =>
        rw [hp] at e1' e2'
        have e1' : p.1 = x := Option.some.inj e1'
        have e2' : (σ[p.2]?).getD none = some v := Option.some.inj e2'
        obtain ⟨c1, c2, c3, c4⟩ := S.caps.mem (List.mem_of_getElem? hp)
        have hs : σ[p.2]? = some (some v) := by
          cases q : σ[p.2]? with
          | none => rw [q] at e2'; cases e2'
          | some z => rw [q] at e2'; exact congrArg some e2'
        have vis : Vis X.env.scope p.1 := c2.elim (fun z => .inr (.inl z)) fun z => .inr (.inr z)
        obtain ⟨m, hn, hl⟩ := I.loc
        obtain ⟨u, r, l⟩ := hl p.2 p.1 v c1 hs vis
        refine ⟨u, r, ?_⟩
        subst e1'
        rcases l with ⟨k, _⟩ | ⟨_, c, ec, z⟩
        · rcases c2 with z | z
          · rw [z] at k; cases k
          · rw [z] at k; cases k
        · obtain ⟨o, ho, hd⟩ := z
          exact .inr ⟨c3, c, c4.trans ec, o, keep4 _ _ (keep3 _ _ ho), hd⟩
    · obtain ⟨v, o, ho, hd⟩ := I.cell x c (S.subL _ _ e)
      exact ⟨v, o, keep4 _ _ (keep3 _ _ ho), hd⟩
    · show (capSt own cap σ).length = (own ++ cap.map (·.1)).length
      unfold capSt
      simp
  have st4 : tn 0 h₁ := T.keep _ _ _ st fun b hb o e => keep4 _ _ (keep3 _ _ e)
  -- FpOk in the block
  have fpC : ∀ {pins' : List (Addr × Obj)} {H' : Hp}, (∀ b ∈ fp, H' b = none) → (∀ p ∈ pins', p.1 ∉ fp) → ∀ b ∈ fp, FpOk (cxC X (own ++ cap.map (·.1)) scope cl H3.objs.size (fp ++ [D]) { s2 with heap := H3 } H) pins' H' b := fun {pins' H'} hn hp b hb =>
    ⟨hn b hb, (ok.exf b (List.mem_append_left _ hb)).1, ok.exfs b (List.mem_append_left _ hb), .inl (List.mem_append_left _ hb), (ok.exf b (List.mem_append_left _ hb)).2, fun p q z => hp p (by have q' : p ∈ ([] : List (Addr × Obj)) ++ pins' := q; simpa using q') (z ▸ hb)⟩
  have loop : ∀ s₃ : Shared, s₃ = { s2 with heap := h₁, toks := s2.toks + ([] : List (Str × Value)).length } →
      codeAny (model X.prog X.w) X.A (.compLoop (.ListComp elt [⟨tg, iter, ifs, 0⟩] scope pos) 0 (.ref it) (.ref D) (compEnvC scope cl H3.objs.size X.env)) (RR (.ref D) H3.objs.size) s₃ := by
    rintro s₃ rfl
    refine compLoop_any (fun n s' => ∃ i out σ' H' its k, Inv (cxC X (own ++ cap.map (·.1)) scope cl H3.objs.size (fp ++ [D]) { s2 with heap := H3 } H) [] σ' H' s' ∧ tn i s'.heap ∧ (∀ b ∈ fp, H' b = none) ∧ H' D = none ∧
      s'.heap.get? D = some { cls := .type "list", data := .seq (its : List Value).toArray k } ∧ Vals out its ∧ out.length ≤ sizeLine ∧ W i n out σ' H') ?_ m0
      ⟨0, [], _, H, [], 0, I4, st4, fun b hb => (f2 b hb).1, hHD, keep4 _ _ acc3, .nil, Nat.zero_le _, w0⟩
    rintro n s5 ⟨i, out, σ5, H5, its, k, I5, st5, fr5, hD5, eD5, rv, hl5, w5⟩
    have pinD : ∀ {σ' : St} {H' : Hp} {s' : Shared}, Inv (cxC X (own ++ cap.map (·.1)) scope cl H3.objs.size (fp ++ [D]) { s2 with heap := H3 } H) [] σ' H' s' → H' D = none → s'.heap.get? D = some { cls := .type "list", data := .seq its.toArray k } →
        Inv (cxC X (own ++ cap.map (·.1)) scope cl H3.objs.size (fp ++ [D]) { s2 with heap := H3 } H) [(D, { cls := .type "list", data := .seq its.toArray k })] σ' H' s' := fun I' hn e => I'.pins_of fun p hp => by
      have z : p = (D, ({ cls := .type "list", data := .seq its.toArray k } : Obj)) := by simpa using hp
      subst z
      exact ⟨e, hn, (ok.exf D (show D ∈ fp ++ [D] by simp)).1, ok.exfs D (show D ∈ fp ++ [D] by simp), fun v z => by
        have z' : Data.seq its.toArray k = Data.cell v := z
        cases z'⟩
    have I5' := pinD I5 hD5 eD5
    have fp5 := fpC (pins' := [(D, ({ cls := .type "list", data := .seq its.toArray k } : Obj))]) fr5 fun p hp => by
      have z : p = (D, ({ cls := .type "list", data := .seq its.toArray k } : Obj)) := by simpa using hp
      subst z; exact hDf
    rcases turn i n out σ5 H5 w5 with ⟨stop, fin⟩ | ⟨go, step⟩
    · refine thn (T.done (cxC X (own ++ cap.map (·.1)) scope cl H3.objs.size (fp ++ [D]) { s2 with heap := H3 } H) rfl rfl rfl hc i _ s5 σ5 H5 NoE I5' fp5 st5 stop) fun r s6 ⟨hr, I6⟩ => ?_
      subst hr
      obtain ⟨eD6, _⟩ := I6.pin (D, _) (List.mem_append_right _ (List.mem_cons_self))
      have I6X : Inv X pins σ H5 s6 := I3.call' (s' := s6) (ch := fp ++ [D]) I6.os I6.base I6.hok I6.bare fun b hb => by
        rcases List.mem_append.mp hb with hb | hb
        · obtain ⟨_, q1, _, q3, q4, q5⟩ := f2 b hb
          exact ⟨q3, q1, q4, q5⟩
        · have z : b = D := by simpa using hb
          subst z
          have nd := newD (H' := H) hHD
          exact ⟨.inr nd.s, nd.l, nd.c, nd.p⟩
      obtain ⟨mm, hmm, _⟩ := I6.loc
      exact hRR D H3.objs.size s6 H5 out mm hmm (I6X.track (newD hD5) hl5 rv eD6) (newC (by rw [upd_ne (Nat.ne_of_gt hDC)]; exact I6.free)) hD5 fin
    · refine thn (T.item (cxC X (own ++ cap.map (·.1)) scope cl H3.objs.size (fp ++ [D]) { s2 with heap := H3 } H) rfl rfl rfl hc i _ s5 σ5 H5 NoE I5' fp5 st5 go) fun r s6 ⟨u, hr, h6⟩ => ?_
      subst hr
      refine thn h6 fun _ s7 ⟨x, H7, I7, r7, y7, st7, fr7⟩ => ?_
      have eD7 := I7.pin (D, _) (List.mem_append_right _ (List.mem_cons_self))
      have fp7 := fpC (pins' := [(D, ({ cls := .type "list", data := .seq its.toArray k } : Obj))]) fr7 fun p hp => by
        have z : p = (D, ({ cls := .type "list", data := .seq its.toArray k } : Obj)) := by simpa using hp
        subst z; exact hDf
      have I7' := I7.pinned fp7 (T.obj _ _ st7)
      refine thn (hg _ _ _ _ _ s7 σ5 H7 x u _ I7' r7 (step x H7 y7)) fun _ s8 ⟨σ8, H8, I8, q8⟩ => ?_
      refine thn (ht _ _ _ _ _ s8 σ8 H8 _ I8 q8) fun b s9 ⟨H9, I9, q9⟩ => ?_
      -- what stays of the iterator and of the list
      have back : ∀ {σ' : St} {H' : Hp} {s' : Shared}, Inv (cxC X (own ++ cap.map (·.1)) scope cl H3.objs.size (fp ++ [D]) { s2 with heap := H3 } H) ([(D, ({ cls := .type "list", data := .seq its.toArray k } : Obj))] ++ pinsAt fp s7.heap) σ' H' s' →
          (∀ b ∈ fp, H' b = none) ∧ (∀ b ∈ fp, ∀ o, s7.heap.get? b = some o → s'.heap.get? b = some o) ∧ H' D = none ∧ s'.heap.get? D = some { cls := .type "list", data := .seq its.toArray k } := fun I' => by
        refine ⟨fun b hb => ?_, fun b hb o e => (I'.pin (b, o) (List.mem_append_right _ (List.mem_append_right _ (mem_pinsAt hb e)))).1, (I'.pin (D, _) (List.mem_append_right _ (List.mem_append_left _ List.mem_cons_self))).2.1, (I'.pin (D, _) (List.mem_append_right _ (List.mem_append_left _ List.mem_cons_self))).1⟩
        obtain ⟨o, e, d⟩ := T.obj _ _ st7 b hb
        exact (I'.pin (b, o) (List.mem_append_right _ (List.mem_append_right _ (mem_pinsAt hb e)))).2.1
      cases b with
      | false =>
        obtain ⟨m', hm, w9⟩ : ∃ m', m' < n ∧ W (i + 1) m' out σ8 H9 := by simpa using q9
        obtain ⟨a1, a2, a3, a4⟩ := back I9
        show ∃ m, m < n ∧ _
        exact ⟨m', hm, i + 1, out, σ8, H9, its, k, I9.pins_of fun p hp => by simp at hp, T.keep _ _ _ st7 a2, a1, a3, a4, rv, hl5, w9⟩
      | true =>
        have q9 : te H3.objs.size (fp ++ [D]) { s2 with heap := H3 } H σ8 H9 (fun y H5 => out.length < sizeLine ∧ ∃ m', m' < n ∧ W (i + 1) m' (out ++ [y]) σ8 H5) := by simpa using q9
        show wpAny _ _ (eval elt _) _ _ s9
        refine thn (he _ _ _ _ _ s9 σ8 H9 _ I9 q9) fun v s10 ⟨y, H10, I10, r10, hl10, m', hm, w10⟩ => ?_
        obtain ⟨a1, a2, a3, a4⟩ := back I10
        have hsz : its.toArray.size ≤ sizeLine := by rw [List.size_toArray, ← rv.length]; exact hl5
        refine wpAny_list_append_plain (hsz := hsz) (l := D) (items := its.toArray) ⟨k, a4⟩ fun h11 ⟨k', e11⟩ s11 => ?_
        have I11 : Inv (cxC X (own ++ cap.map (·.1)) scope cl H3.objs.size (fp ++ [D]) { s2 with heap := H3 } H) [] σ8 H10 { s10 with heap := h11 } :=
          (I10.pins_of (pins' := []) fun p hp => by simp at hp).turned (t' := s10.toks) (fun b o hb e => (s11.2 b hb).trans e) a3 (ok.exf D (show D ∈ fp ++ [D] by simp)).1 (.inl (by show D ∈ fp ++ [D]; simp)) (ok.exf D (show D ∈ fp ++ [D] by simp)).2 (fun p hp => absurd (show p ∈ ([] : List (Addr × Obj)) from hp) (by simp))
        refine ⟨m', hm, i + 1, out ++ [y], σ8, H10, its ++ [v], k', I11, T.keep _ _ _ st7 fun b hb o e => (s11.2 b fun z => hDf (z ▸ hb)).trans (a2 b hb o e), a1, a3, ?_, Vals.append rv (.cons r10 .nil), by rw [List.length_append]; exact hl10, w10⟩
        rw [show (its ++ [v]).toArray = its.toArray.push v by simp]
        exact e11
  exact codeAny_compStart_list (loop _ rfl) (T.self _ 0 _ _ _ st4 (loop _ rfl))

/-- the reading of a comprehension: W: the invariant by the turn, a measure, what is made so far; the four letters name the block's context -/
def tComp (wi : TI) (own : List Str) (cap : List (Str × Nat)) (g : Addr → List Addr → Shared → Hp → TG) (ti : Addr → List Addr → Shared → Hp → TT) (te : Addr → List Addr → Shared → Hp → TE) : TE := fun σ H Q => wi σ H fun J H1 => ∀ C ex s0 H0, ∃ W : Nat → Nat → List V → St → Hp → Prop, (∃ m, W 0 m [] (capSt own cap σ) H1) ∧
  ∀ i m out σ' H', W i m out σ' H' → (J.stop i H' ∧ ∀ p, H' p = none → Q (.ref p) (upd H' p (.lst out))) ∨ (J.go i H' ∧ ∀ x H2, J.yld i H' x H2 → g C ex s0 H0 x σ' H2 fun σ3 H3 => ti C ex s0 H0 σ3 H3 fun b H4 =>
      if b = true then te C ex s0 H0 σ3 H4 (fun y H5 => out.length < sizeLine ∧ ∃ m', m' < m ∧ W (i + 1) m' (out ++ [y]) σ3 H5) else ∃ m', m' < m ∧ W (i + 1) m' out σ3 H4)
theorem pe_comp {X : Cx} {elt tg iter : Expr} {ifs : List Expr} {scope : Scope} {pos : Pos} {cl : List (Str × Addr)} {own : List Str} {cap : List (Str × Nat)} {wi : TI} {g : Addr → List Addr → Shared → Hp → TG} {ti : Addr → List Addr → Shared → Hp → TT} {te : Addr → List Addr → Shared → Hp → TE}
    (S : CompOk X scope cl own cap) (hc : X.calm = true) (hi : PI X tg iter wi)
    (hg : ∀ C ex s H, PG (cxC X (own ++ cap.map (·.1)) scope cl C ex s H) tg (g C ex s H)) (ht : ∀ C ex s H, PTs (cxC X (own ++ cap.map (·.1)) scope cl C ex s H) ifs (ti C ex s H)) (he : ∀ C ex s H, PE (cxC X (own ++ cap.map (·.1)) scope cl C ex s H) elt (te C ex s H))
    (hs : ∀ x, foldedSetIterable iter X.env x = pure x := by intro _; rfl) : PE X (.ListComp elt [⟨tg, iter, ifs, 0⟩] scope pos) (tComp wi own cap g ti te) := by
  intro pins s σ H Q I h
  rw [eval_ListComp]
  refine wpAny_comprehension_free (use := none) rfl hs S.clos S.kind S.names (thn (hi pins s σ H _ I h) fun xv s1 h1 => thn h1 fun itv s2 h2 => ?_)
  obtain ⟨it, fp, tn, J, H2, e, I2, T, st2, f2, all⟩ := h2
  subst e
  refine comp_block (RR := fun acc C => compPost (model X.prog X.w) X.A X.xe none (EP X pins σ Q) acc C) S hc hg ht he I2 T st2 f2 all ?_
  intro D C s' He out mm hmm I' n' hD fin
  exact ⟨mm, hmm, fun h' hs' => ⟨.ref D, _, n'.go I' hs', rfl, fin D hD⟩⟩
/-- name = comprehension, of one line -/
theorem ps_comp {X : Cx} {i : Nat} {x : Str} {elt tg iter : Expr} {ifs : List Expr} {scope : Scope} {pos pos' spos : Pos} {cl : List (Str × Addr)} {own : List Str} {cap : List (Str × Nat)} {wi : TI} {g : Addr → List Addr → Shared → Hp → TG} {ti : Addr → List Addr → Shared → Hp → TT} {te : Addr → List Addr → Shared → Hp → TE}
    (hN : X.N.Nodup) (hx : X.N[i]? = some x) (hk : X.env.scope.names.lookup x = some .local)
    (S : CompOk X scope cl own cap) (hc : X.calm = true) (hi : PI X tg iter wi)
    (hg : ∀ C ex s H, PG (cxC X (own ++ cap.map (·.1)) scope cl C ex s H) tg (g C ex s H)) (ht : ∀ C ex s H, PTs (cxC X (own ++ cap.map (·.1)) scope cl C ex s H) ifs (ti C ex s H)) (he : ∀ C ex s H, PE (cxC X (own ++ cap.map (·.1)) scope cl C ex s H) elt (te C ex s H))
    (hsw : swapsWith (.ListComp elt [⟨tg, iter, ifs, 0⟩] scope pos) (some (.Name x pos')) spos.line X.env = pure true := by rfl)
    (hs : ∀ x, foldedSetIterable iter X.env x = pure x := by intro _; rfl) : PS X (.Assign [.Name x pos'] (.ListComp elt [⟨tg, iter, ifs, 0⟩] scope pos) spos) (tAsg (tComp wi own cap g ti te) (gName i)) := by
  intro pins s σ H D I h
  rw [exec_Assign_Name_used _ _ _ _ hsw]
  refine wpAny_bind (wpAny_standAt (wpAny_bind ?_))
  show wpAny _ X.A (do let _ ← comprehension (.ListComp elt [⟨tg, iter, ifs, 0⟩] scope pos) scope X.env _ (newList []) false (eval iter X.env) (some (assign (.Name x pos') X.env))) _ _ s
  refine wpAny_bind (wpAny_mono (wpAny_comprehension_free (use := some (assign (.Name x pos') X.env)) (Q := fun _ s' => SP X pins D .next s') rfl hs S.clos S.kind S.names
    (thn (hi pins s σ H _ I h) fun xv s1 h1 => thn h1 fun itv s2 h2 => ?_)) (fun _ s' hq => wpAny_pure (wpAny_pure hq)) fun _ _ e => e)
  obtain ⟨it, fp, tn, J, H2, e, I2, T, st2, f2, all⟩ := h2
  subst e
  refine comp_block (RR := fun acc C => compPost (model X.prog X.w) X.A X.xe (some (assign (.Name x pos') X.env)) (fun _ s' => SP X pins D .next s') acc C) S hc hg ht he I2 T st2 f2 all ?_
  intro D' C s' He out mm hmm I' n' hD fin
  show wpAny _ X.A (assign (.Name x pos') X.env (.ref D')) _ _ s'
  refine wpAny_assign_Name (store_ok2 I' hN hx (.inl hk) (v := .ref D') rfl (fun s'' I'' ⟨a, sb, ha⟩ => ?_) (.inr hk))
  have hLC : C ≠ a := by
    rcases ha with z | z
    · rw [z]; exact n'.l
    · exact (n'.c _ _ z).symm
  exact ⟨mm, hmm.sameBut sb hLC, fun h' hs' => ⟨_, _, n'.go I'' hs', fin D' hD⟩⟩
end L2

set_option Elab.async false
set_option linter.all false
set_option maxRecDepth 100000
set_option maxHeartbeats 4000000
namespace LmSet
open PySem PyProof.Rows

/-! ## sets of texts: filled, walked, sorted -/
theorem slot_next : Slot "set_iterator" "__next__" "set_iterator.__next__" :=
  .of (owner := "set_iterator") (n := "__next__") (by rw [typeLookup_type, builtinLookup_eq_fast]; kernel_rfl) (by decide +kernel) (by decide +kernel) (by decide +kernel)
    (by first | exact .inl (by decide +kernel) | exact .inr (by decide +kernel)) (by rw [isSubtype_type]; kernel_rfl)
theorem entry_next : entryFor table "set_iterator.__next__" = some Builtin.«set_iterator.__next__» := entryFor_of_tree (by kernel_rfl)
theorem args_next (a : Value) : argsOk "set_iterator.__next__" ⟨[a], []⟩ := by unfold argsOk; kernel_rfl
theorem entry_iter : entryFor table "set.__iter__" = some Builtin.«frozenset.__iter__» :=
  entryFor_alias (id' := "frozenset.__iter__") (by kernel_rfl) rfl (by decide +kernel) (by kernel_rfl)
theorem set_len : typeLookup (.type "set") "__len__" = pure (some (.builtin "set.__len__")) := by rw [typeLookup_type, builtinLookup_eq_fast]; kernel_rfl

section tables
theorem orStandIn_led (t : SetTable) (n : Nat) : (t.orStandIn n).led = t.led ∧ (t.plain = false → (t.orStandIn n).plain = false) := by
  unfold SetTable.orStandIn
  split
  · exact ⟨rfl, fun q => q⟩
  · exact ⟨rfl, fun _ => rfl⟩
theorem lay_led (t : SetTable) (es : Array (Int × Value)) (h : Int) (x : Value) : (layNew t es h x).2.1.led = t.led ∧ (t.plain = false → (layNew t es h x).2.1.plain = false) := by
  unfold layNew
  split
  · dsimp only
    exact orStandIn_led _ _
  · exact ⟨rfl, fun _ => rfl⟩
theorem laid_led {mask finger moves : Nat} {led plain : Bool} {hs : Array Int} {t : SetTable} {o : Array Nat} (h : SetTable.laid mask finger moves led plain hs = some (t, o)) : t.led = led ∧ t.plain = plain := by
  unfold SetTable.laid at h
  cases q : SetTable.layClean mask hs with
  | none => rw [q] at h; cases h
  | some ow =>
    rw [q] at h
    have h' := Option.some.inj h
    have := congrArg Prod.fst h'
    dsimp only at this
    rw [← this]
    exact ⟨rfl, rfl⟩
theorem relay_led (t : SetTable) (es : Array (Int × Value)) (n : Nat) : (relayAll t es n).2.1.led = t.led ∧ (t.plain = false → (relayAll t es n).2.1.plain = false) := by
  unfold relayAll
  split
  · rename_i t' order e
    have q := laid_led (show SetTable.laid _ _ _ _ _ _ = some (t', order) from e)
    dsimp only
    split
    · exact ⟨q.1, fun z => q.2.trans z⟩
    · exact ⟨rfl, fun _ => rfl⟩
  · exact ⟨rfl, fun _ => rfl⟩
end tables

/-- a set of texts -/
def SSet (prog : Program) (w : World) (h : Heap) (a : Addr) (ss : List Str) : Prop :=
  ∃ o es ep t, h.get? a = some o ∧ o.ExactSet ∧ o.data = .set es ep t ∧ ElemsOf (PySem.strKind prog w) es.toList ∧ es.toList.map (·.2) = es.toList.map (·.2) ∧ StrsAre (es.toList.map (·.2)) ss ∧ ss.Nodup ∧ es.size < scanBound ∧ t.fits es.size = true ∧
    t.led = !(w.params.followText "set-order") ∧ (es.size = 0 ∨ t.plain = false)
theorem strsAre_len : ∀ {vs : List Value} {ss : List Str}, StrsAre vs ss → vs.length = ss.length
  | _, _, .nil => rfl
  | _, _, .cons _ _ r => congrArg (· + 1) (strsAre_len r)
theorem strsAre_append : ∀ {vs us : List Value} {ss ts : List Str}, StrsAre vs ss → StrsAre us ts → StrsAre (vs ++ us) (ss ++ ts)
  | _, _, _, _, .nil, r => r
  | _, _, _, _, .cons y t q, r => .cons y t (strsAre_append q r)
/-- texts of a permuted list -/
theorem strsAre_perm {vs us : List Value} (p : us.Perm vs) : ∀ {ss : List Str}, StrsAre vs ss → ∃ ss', StrsAre us ss' ∧ ss'.Perm ss := by
  induction p with
  | nil => intro ss h; exact ⟨ss, h, .rfl⟩
  | cons x _ ih =>
    intro ss h
    cases h with
    | cons y t r =>
      obtain ⟨s1, a, b⟩ := ih r
      exact ⟨_, .cons y t a, b.cons _⟩
  | swap x y l =>
    intro ss h
    cases h with
    | cons y1 t1 r =>
      cases r with
      | cons y2 t2 r => exact ⟨_, .cons y2 t2 (.cons y1 t1 r), .swap _ _ _⟩
  | trans _ _ ih1 ih2 =>
    intro ss h
    obtain ⟨s1, a1, b1⟩ := ih2 h
    obtain ⟨s2, a2, b2⟩ := ih1 a1
    exact ⟨s2, a2, b2.trans b1⟩
theorem strsAre_mem : ∀ {vs : List Value} {ss : List Str} {x : Str}, StrsAre vs ss → ((∃ v, v ∈ vs ∧ Value.isStrOf x v = true) ↔ x ∈ ss)
  | _, _, x, .nil => by simp
  | _, _, x, .cons (vs := vs) (ys := ys) y t r => by
    have ih := strsAre_mem (x := x) r
    constructor
    · rintro ⟨v, hv, e⟩
      rcases List.mem_cons.mp hv with z | z
      · subst z
        have : y = x := by simpa [Value.isStrOf] using e
        rw [this]; exact List.mem_cons_self
      · exact List.mem_cons_of_mem _ (ih.mp ⟨v, z, e⟩)
    · intro h
      rcases List.mem_cons.mp h with z | z
      · exact ⟨.str y t, List.mem_cons_self, by simp [Value.isStrOf, z]⟩
      · obtain ⟨v, a, b⟩ := ih.mpr z
        exact ⟨v, List.mem_cons_of_mem _ a, b⟩
theorem SSet.mono {prog : Program} {w : World} {h h' : Heap} {a : Addr} {ss : List Str} (S : SSet prog w h a ss) (k : ∀ o, h.get? a = some o → h'.get? a = some o) : SSet prog w h' a ss := by
  obtain ⟨o, es, ep, t, e, r⟩ := S
  exact ⟨o, es, ep, t, k o e, r⟩

section
variable {prog : Program} {w : World} {A : Around} {E : Value → Shared → Prop} {s : Shared}
theorem store_at {h : Heap} {a : Addr} {o : Obj} {es : Array (Int × Value)} {ep : Nat} {t : SetTable} (ho : h.get? a = some o) (hd : o.data = .set es ep t) (es' : Array (Int × Value)) (t' : SetTable) :
    (h.update a (Obj.putSet es' t')).get? a = some { o with data := .set es' (ep + 1) t' } := by
  have := Heap.get?_update_self (Obj.putSet es' t') ho (by rw [putSet_of es' t' hd]; rfl)
  rw [putSet_of es' t' hd] at this; exact this
/-- behind the store of the new entries: the table may be laid anew -/
theorem add_tail {g : Bool → Sem Unit} (hg : ∀ (b : Bool) (s₁ : Shared) (Q' : Unit → Shared → Prop), Q' () s₁ → wpAny (model prog w) A (g b) Q' E s₁)
    {a : Addr} {o : Obj} {es : Array (Int × Value)} {ep : Nat} {t : SetTable} (ho : s.heap.get? a = some o) (hex : o.ExactSet) (hd : o.data = .set es ep t)
    {es1 : Array (Int × Value)} {t2 : SetTable} (hel1 : ElemsOf (PySem.strKind prog w) es1.toList) {ss1 : List Str} (hss : StrsAre (es1.toList.map (·.2)) ss1) (hnd : ss1.Nodup)
    (hb1 : es1.size < scanBound) (hf2 : t2.fits es1.size = true) (hl2 : t2.led = !(w.params.followText "set-order")) (hp2 : t2.plain = false) {wasDummy : Bool} {R : Option Bool → Shared → Prop}
    (h : ∀ h' ss', Heap.SameBut a s.heap h' → SSet prog w h' a ss' → ss'.Perm ss1 → R (some true) { s with heap := h' }) :
    wpAny (model prog w) A (do
        storeSet a es1 t2
        if (!wasDummy && t2.tooFull) = true then do
            g (relayAll t2 es1 (SetTable.grown es1.size)).2.2
            storeSet a (relayAll t2 es1 (SetTable.grown es1.size)).1 (relayAll t2 es1 (SetTable.grown es1.size)).2.1
            pure (some true)
          else pure (some true)) R E s := by
  refine wpAny_bind (wpAny_storeSet_of ho hd ?_ (fits_of_scanBound hb1))
  have ho1 := store_at ho hd es1 t2
  have hsb1 := Heap.SameBut.update s.heap a (Obj.putSet es1 t2)
  split
  · have hp := relayAll_perm t2 es1 (SetTable.grown es1.size)
    have hfr := relayAll_fits t2 es1 (SetTable.grown es1.size)
    have hlr := relay_led t2 es1 (SetTable.grown es1.size)
    generalize hRl : relayAll t2 es1 (SetTable.grown es1.size) = Rl at hp hfr hlr ⊢
    obtain ⟨es2, t3, gave2⟩ := Rl
    dsimp only at hp hfr hlr ⊢
    have hel2 : ElemsOf (PySem.strKind prog w) es2.toList := hel1.perm hp
    obtain ⟨ss2, hss2, hpm⟩ := strsAre_perm (hp.map (·.2)) hss
    have hsz : es2.size = es1.size := by rw [← Array.length_toList, hp.length_eq, Array.length_toList]
    have hb2 : es2.size < scanBound := by rw [hsz]; exact hb1
    refine wpAny_bind (hg _ _ _ ?_)
    refine wpAny_bind (wpAny_storeSet_of ho1 rfl ?_ (fits_of_scanBound hb2))
    have ho2 := store_at ho1 rfl es2 t3
    exact wpAny_pure (h _ ss2 (hsb1.trans (Heap.SameBut.update _ a _)) ⟨_, es2, _, t3, ho2, hex, rfl, hel2, rfl, hss2, hpm.nodup_iff.mpr hnd, hb2, hfr, hlr.1.trans hl2, .inr (hlr.2 hp2)⟩ hpm)
  · exact wpAny_pure (h _ ss1 hsb1 ⟨_, es1, _, t2, ho1, hex, rfl, hel1, rfl, hss, hnd, hb1, hf2, hl2, .inr hp2⟩ .rfl)

theorem add_of {a : Addr} {ss : List Str} {x : Str} {tk : Tok} {Q : Bool → Shared → Prop} (hS : SSet prog w s.heap a ss) (hroom : ss.length + 1 < scanBound)
    (h : ∀ h' ss' b, Heap.SameBut a s.heap h' → SSet prog w h' a ss' → (∀ y, y ∈ ss' ↔ y ∈ ss ∨ y = x) → ss'.length ≤ ss.length + 1 → Q b { s with heap := h' }) :
    wpAny (model prog w) A (setAddHashed a (.str x tk) ((PySem.strKind prog w).hash x)) Q E s := by
  obtain ⟨o, es, ep, t, ho, hex, hd, hel, _, hss, hnd, hb, hf, hled, hpl⟩ := hS
  have hkey : (PySem.strKind prog w).is x (.str x tk) = true := by show Value.isStrOf x (.str x tk) = true; simp [Value.isStrOf]
  have hsc : (Value.str x tk).scannable = true := rfl
  have hlen : es.size = ss.length := by have := strsAre_len hss; simpa using this
  have hmem : ∀ y, (∃ e ∈ es.toList, (PySem.strKind prog w).is y e.2 = true) ↔ y ∈ ss := fun y => by
    rw [← strsAre_mem hss]
    constructor
    · rintro ⟨e, a1, a2⟩; exact ⟨e.2, List.mem_map.mpr ⟨e, a1, rfl⟩, a2⟩
    · rintro ⟨v, a1, a2⟩; obtain ⟨e, a3, a4⟩ := List.mem_map.mp a1; exact ⟨e, a3, by rw [a4]; exact a2⟩
  unfold setAddHashed setAddHashedIn
  refine wpAny_holding (wpAny_bind (wpAny_setState_of ho hd hf ?_))
  dsimp only
  rw [byScan_of hsc hb hel]
  simp only [↓reduceIte]
  unfold setAddByScan
  refine wpAny_bind ?_
  refine wpAny_bind (wpAny_rule ?_)
  refine wpAny_bind (wpAny_setScan_of (knd := PySem.strKind prog w) hkey ho hd hf hel ?_)
  cases hr : List.findIdx? (fun e => (PySem.strKind prog w).is x e.2) es.toList with
  | some j =>
    dsimp only
    obtain ⟨hj, hpj, _⟩ := List.findIdx?_eq_some_iff_getElem.mp hr
    have hx : x ∈ ss := (hmem x).mp ⟨es.toList[j], List.getElem_mem hj, hpj⟩
    refine wpAny_pure (wpAny_pure ?_)
    have e : s = { s with heap := s.heap } := by cases s; rfl
    rw [e]
    exact h s.heap ss false (Heap.SameBut.refl a s.heap) ⟨o, es, ep, t, ho, hex, hd, hel, rfl, hss, hnd, hb, hf, hled, hpl⟩ (fun y => ⟨.inl, fun z => z.elim id fun z => z ▸ hx⟩) (Nat.le_succ _)
  | none =>
    dsimp only
    have hx : x ∉ ss := fun hx => by
      obtain ⟨e, he, hp⟩ := (hmem x).mpr hx
      have := List.findIdx?_eq_none_iff.mp hr e he
      rw [hp] at this; exact Bool.noConfusion this
    have hgw : ∀ (b : Bool) {s₁ : Shared} {Q' : Unit → Shared → Prop}, Q' () s₁ → wpAny (model prog w) A (match b with | true => rule "set.scan.the-table-gave-way" | false => pure ()) Q' E s₁ :=
      fun b s₁ Q' hq => by cases b <;> first | exact wpAny_pure hq | exact wpAny_rule hq
    have hperm := layNew_perm t es ((PySem.strKind prog w).hash x) (.str x tk)
    have hfits := layNew_fits t es ((PySem.strKind prog w).hash x) (.str x tk)
    have hled1 := lay_led t es ((PySem.strKind prog w).hash x) (.str x tk)
    generalize hL : layNew t es ((PySem.strKind prog w).hash x) (.str x tk) = L at hperm hfits hled1 ⊢
    obtain ⟨es1, t1, wasDummy, gave⟩ := L
    dsimp only at hperm hfits hled1 ⊢
    rw [Array.toList_push] at hperm
    have hel1 : ElemsOf (PySem.strKind prog w) es1.toList := (hel.push hkey hsc).perm hperm
    have hssx : StrsAre ((es.toList ++ [((PySem.strKind prog w).hash x, Value.str x tk)]).map (·.2)) (ss ++ [x]) := by
      rw [List.map_append]
      exact strsAre_append hss (.cons x tk .nil)
    obtain ⟨ss1, hss1, hpm1⟩ := strsAre_perm (hperm.map (·.2)) hssx
    have hnd1 : ss1.Nodup := hpm1.nodup_iff.mpr (by
      rw [List.nodup_append]
      exact ⟨hnd, by simp, fun c hc d hd' => by
        have e : d = x := by simpa using hd'
        exact fun z => hx (by rw [← e, ← z]; exact hc)⟩)
    have hb1' : es1.size < scanBound := by rw [← Array.length_toList, hperm.length_eq, List.length_append, Array.length_toList, hlen]; simpa using hroom
    refine wpAny_bind (hgw _ ?_)
    have hend : ∀ h' ss', Heap.SameBut a s.heap h' → SSet prog w h' a ss' → ss'.Perm ss1 → Q true { s with heap := h' } := fun h' ss' hsb hS' hp' =>
      h h' ss' true hsb hS' (fun y => by rw [(hp'.trans hpm1).mem_iff]; simp) (by rw [(hp'.trans hpm1).length_eq]; simp)
    split
    · refine wpAny_bind ?_
      rw [hashByValue_scannable 8 hsc]
      refine wpAny_pure ?_
      refine add_tail ?_ ho hex hd hel1 hss1 hnd1 hb1' ?_ ?_ ?_ ?_
      · intro b s₁ Q' hq; cases b <;> first | exact wpAny_pure hq | exact wpAny_rule hq
      · exact SetTable.fits_plain_off hfits
      · exact hled1.1.trans hled
      · rfl
      · intro h' ss' hsb hS' hp'; dsimp only; exact wpAny_pure (hend h' ss' hsb hS' hp')
    · rename_i hpl1
      refine wpAny_bind (wpAny_pure ?_)
      simp only [↓reduceIte]
      refine add_tail ?_ ho hex hd hel1 hss1 hnd1 hb1' hfits (hled1.1.trans hled) (by simpa using hpl1) ?_
      · intro b s₁ Q' hq; cases b <;> first | exact wpAny_pure hq | exact wpAny_rule hq
      · intro h' ss' hsb hS' hp'; dsimp only; exact wpAny_pure (hend h' ss' hsb hS' hp')
end

section
variable {prog : Program} {w : World} {A : Around} {R : Result → Shared → Prop} {I : Addr} {fp wr : List Addr} {G : Array GenState → Array GenState → Prop} {n : Nat} {P : Nat → Value → Prop} {St : Nat → Shared → Prop}
/-- the loop that fills a set with texts -/
theorem fill_loop (W : WalksS prog w A.in1 I fp wr G n P St) (S : Addr) (hSf : S ∉ fp) (val : Nat → Str) (hval : ∀ i v, P i v → ∃ t, v = .str (val i) t) (hb : n + 1 < scanBound) :
    ∀ (k i : Nat) (s : Shared) (ss : List Str), n - i = k → i ≤ n → St i s → SSet prog w s.heap S ss → ss.length ≤ i → (∀ y, y ∈ ss ↔ ∃ j, j < i ∧ val j = y) →
      (∀ s' ss', Moved (S :: wr) G s s' → SSet prog w s'.heap S ss' → ss'.length ≤ n → (∀ y, y ∈ ss' ↔ ∃ j, j < n ∧ val j = y) → R (.ok (.ret .none)) s') →
      codeAny (model prog w) A (.builtin "set.update.loop" ⟨[.ref S, .ref I], []⟩) R s := by
  have hSw : S ∉ wr := fun h => hSf (W.sub _ h)
  have hsub : ∀ b ∈ wr, b ∈ S :: wr := fun b hb => List.mem_cons_of_mem _ hb
  intro k
  induction k with
  | zero =>
    intro i s ss hk hi hst hS hl hm0 hR
    have hin : i = n := by omega
    subst hin
    refine codeAny_builtin PyProof.Rows.F.entry_set_update_loop ?_
    rw [Around.under_plainId PyProof.Rows.F.plain_set_update_loop _]
    show wpAny _ A.in1 (pyNext (.ref I) >>= _) _ _ s
    refine wpAny_bind (W.done s _ _ hst fun s' hm => ?_)
    show wpAny _ A.in1 (ret Value.none) _ _ s'
    exact wpAny_pure (hR s' ss (hm.mono hsub) (hS.mono fun o e => hm.heap S _ hSw e) hl hm0)
  | succ k ih =>
    intro i s ss hk hi hst hS hl hm0 hR
    have hlt : i < n := by omega
    refine codeAny_builtin PyProof.Rows.F.entry_set_update_loop ?_
    rw [Around.under_plainId PyProof.Rows.F.plain_set_update_loop _]
    show wpAny _ A.in1 (pyNext (.ref I) >>= _) _ _ s
    refine wpAny_bind (W.item i s _ _ hlt hst fun v s' hP hst' hm => ?_)
    obtain ⟨t, rfl⟩ := hval i v hP
    have hS' : SSet prog w s'.heap S ss := hS.mono fun o e => hm.heap S _ hSw e
    show wpAny _ A.in1 (holding [Value.str (val i) t] (setAdd S (.str (val i) t)) >>= _) _ _ s'
    refine wpAny_bind (wpAny_holding ?_)
    unfold setAdd
    refine wpAny_holding ?_
    have hkey : (PySem.strKind prog w).is (val i) (.str (val i) t) = true := by show Value.isStrOf (val i) (.str (val i) t) = true; simp [Value.isStrOf]
    refine wpAny_bind ((PySem.strKind prog w).pyHash (k := val i) hkey ?_)
    refine add_of (s := { s' with toks := s'.toks + 1 }) hS' (by omega) fun h' ss' b hsb hS2 hm2 hl2 => ?_
    refine wpAny_pure ⟨plainId_quiet PyProof.Rows.F.plain_set_update_loop _, ih (i + 1) _ ss' (by omega) hlt (W.frame _ s' _ _ hst' (Nat.le_succ _) fun b hb o e => ?_) hS2 (by omega) (fun y => ?_) fun s'' ss'' hm'' hS'' hl'' hm3 => ?_⟩
    · rw [hsb.2 b (fun h : b = S => hSf (by rw [← h]; exact hb))]; exact e
    · rw [hm2 y, hm0 y]
      constructor
      · rintro (⟨j, a, b⟩ | e)
        · exact ⟨j, by omega, b⟩
        · exact ⟨i, by omega, e.symm⟩
      · rintro ⟨j, a, b⟩
        by_cases hj : j = i
        · exact .inr (by rw [← b, hj])
        · exact .inl ⟨j, by omega, b⟩
    · refine hR s'' ss'' (Moved.trans W.gtrans ((hm.mono hsub).then_heap (Nat.le_succ _) fun b o hb e => ?_) hm'') hS'' hl'' hm3
      rw [hsb.2 b (fun h : b = S => hb (by rw [h]; exact List.mem_cons_self))]; exact e
end

section
variable {prog : Program} {w : World} {A : Around} {E : Value → Shared → Prop} {s : Shared}
theorem new_set (a : Value) {Q₁ : Value → Shared → Prop}
    (h : Q₁ (.ref s.heap.objs.size) { s with heap := s.heap.push { cls := .type "set", dict := none, data := .set #[] 0 (.fresh 0 0 (!(w.params.followText "set-order"))) } }) :
    codeAny (model prog w) A (.call (.builtin "set.__new__") ⟨[.type "set", a], []⟩) (wants Q₁ E) s := by
  refine codeAny_of_tree ?_
  show wpAny _ A.in1 (do checkBuiltinCall "set.__new__" ⟨[.type "set", a], []⟩; again (.builtin "set.__new__" ⟨[.type "set", a], []⟩)) _ _ s
  refine wpAny_bind (wpAny_of_eq (PySem.F.newCall_set_1 a) (wpAny_pure ⟨plainId_quiet PySem.F.plain_set_new _, codeAny_builtin PySem.F.entry_set_new ?_⟩))
  rw [Around.under_plainId PySem.F.plain_set_new _]
  unfold Builtin.«set.__new__» Builtin.Frozenset.newClass
  have hsub := sub_set_self
  obtain ⟨hp, g, d, tk, os⟩ := s
  dsimp only
  wp_walk
  refine wpAny_askSetting (wpAny_pure ?_)
  dsimp only
  simp only [newObj]
  refine wpAny_bind (wpAny_alloc (wpAny_pure ?_))
  exact wpAny_pure h
theorem sset_fresh {h : Heap} {a : Addr} (e : h.get? a = some { cls := .type "set", dict := none, data := .set #[] 0 (.fresh 0 0 (!(w.params.followText "set-order"))) }) : SSet prog w h a [] :=
  ⟨_, #[], 0, _, e, ⟨rfl, rfl, rfl⟩, rfl, fun e he => by simp at he, rfl, .nil, List.nodup_nil, by unfold scanBound; decide, rfl, rfl, .inl rfl⟩

/-- set(v): v is iterated by a walk that yields the texts val 0, .., val (n - 1) -/
theorem call_set_walk {v : Value} {T : String} {n : Nat} {val : Nat → Str} {Q : Value → Shared → Prop}
    (hT : ∀ s' : Shared, (∀ b o, s.heap.get? b = some o → s'.heap.get? b = some o) → s'.TypeIs v T) (hs1 : isSubtype (.type T) (.type "set") = pure false) (hs2 : isSubtype (.type T) (.type "frozenset") = pure false) (hdict : (Value.type T == Value.type "dict") = false)
    (hit : ∀ (s' : Shared) (Q' : Value → Shared → Prop), (∀ b o, s.heap.get? b = some o → s'.heap.get? b = some o) → s.heap.objs.size < s'.heap.objs.size →
      (∀ (o : Obj) (St : Nat → Heap → Prop) (fp : List Addr) (P : Nat → Value → Prop), Walks prog w A.in1.in1.in1 s'.heap.objs.size fp [s'.heap.objs.size] n P St → (∀ i u, P i u → ∃ t, u = .str (val i) t) → s.heap.objs.size ∉ fp → St 0 (s'.heap.push o) → Q' (.ref s'.heap.objs.size) { s' with heap := s'.heap.push o }) →
      wpAny (model prog w) A.in1.in1 (pyIter v) Q' (fun _ _ => False) s') (hb : n + 1 < scanBound)
    (h : ∀ (h' : Heap) (tk : Nat) (ss : List Str), SSet prog w h' s.heap.objs.size ss → ss.length ≤ n → (∀ y, y ∈ ss ↔ ∃ j, j < n ∧ val j = y) →
      (∀ b o, s.heap.get? b = some o → h'.get? b = some o) → Q (.ref s.heap.objs.size) { s with heap := h', toks := tk }) :
    wpAny (model prog w) A (call (.type "set") [v]) Q E s := by
  obtain ⟨c, tl, hmro⟩ := PySem.F.called_set.mro
  have hmade := PySem.F.called_set.made
  have hsub := PySem.F.called_set.sub
  refine wpAny_call (codeAny_of_tree ?_)
  show wpAny _ _ (callAny (.type "set") _) _ _ _
  refine wpAny_pure ⟨Code.quiet_builtin _ (by decide +kernel), codeAny_builtin PySem.F.entry_type_call ?_⟩
  rw [Around.under_plain (weight_type_call_type "set" [v] []) rfl]
  have h1 := PySem.F.called_set.notType
  have h2 := PySem.F.called_set.canCreate
  have hct := PySem.F.typeCall_set_1 v
  repeat (any_goals (first | assumption | wp_step))
  refine codeAny_mono (new_set v (E := E) (Q₁ := fun obj s₁ => obj = .ref s.heap.objs.size ∧ s₁ = { s with heap := s.heap.push { cls := .type "set", dict := none, data := .set #[] 0 (.fresh 0 0 (!(w.params.followText "set-order"))) } }) ⟨rfl, rfl⟩) fun r s₁ hr => ?_
  cases r with
  | error e => exact hr
  | ok fl =>
    cases fl with
    | ret obj =>
      obtain ⟨rfl, rfl⟩ := hr
      have hS : (s.heap.push { cls := .type "set", dict := none, data := .set #[] 0 (.fresh 0 0 (!(w.params.followText "set-order"))) }).get? s.heap.objs.size = some { cls := .type "set", dict := none, data := .set #[] 0 (.fresh 0 0 (!(w.params.followText "set-order"))) } := Heap.get?_push_size _ rfl
      have hTs : Shared.TypeIs { s with heap := s.heap.push { cls := .type "set", dict := none, data := .set #[] 0 (.fresh 0 0 (!(w.params.followText "set-order"))) } } (.ref s.heap.objs.size) "set" := ⟨_, hS, rfl⟩
      have hli := PySem.F.called_set.init.lookup
      have hbi := PySem.F.called_set.init.bind (.ref s.heap.objs.size)
      repeat (any_goals (first | assumption | wp_step))
      refine codeAny_mono (codeAny_call_builtin (R := wants (fun r s₂ => r = .none ∧ ∃ h' tk ss, s₂ = { s with heap := h', toks := tk } ∧ SSet prog w h' s.heap.objs.size ss ∧ ss.length ≤ n ∧ (∀ y, y ∈ ss ↔ ∃ j, j < n ∧ val j = y) ∧
          (∀ b o, s.heap.get? b = some o → h'.get? b = some o)) E) PySem.F.called_set.init.plain PySem.F.entry_set_init (check_set_init_1 hTs ?_)) fun r₂ s₂ hr₂ => ?_
      · have keep : ∀ b o, s.heap.get? b = some o → (s.heap.push { cls := .type "set", dict := none, data := .set #[] 0 (.fresh 0 0 (!(w.params.followText "set-order"))) }).get? b = some o := fun b o e => Heap.get?_push_of_some _ e
        have hTv := hT { s with heap := s.heap.push { cls := .type "set", dict := none, data := .set #[] 0 (.fresh 0 0 (!(w.params.followText "set-order"))) } } keep
        unfold Builtin.«set.__init__» noKeywords Builtin.Frozenset.updateFrom
        generalize hPI : pyIter = PI
        wp_walk
        subst hPI
        refine wpAny_mono (hit _ _ keep (by show s.heap.objs.size < _; rw [Heap.size_push]; exact Nat.lt_succ_self _) fun o St fp P W hval hSf hst => ?_) (fun _ _ q => q) fun _ _ q => q.elim
        refine wpAny_bind (wpAny_runValue ?_)
        refine fill_loop W.toS s.heap.objs.size hSf val hval hb (n - 0) 0 _ [] (by omega) (Nat.zero_le _) hst ?hS0 (Nat.le_refl _) (fun y => ⟨fun z => (nomatch z), fun ⟨j, a, _⟩ => absurd a (Nat.not_lt_zero _)⟩) ?hR
        case hS0 => exact sset_fresh (Heap.get?_push_of_some _ hS)
        case hR =>
          intro s' ss hm hS' hl hm'
          obtain ⟨h', g', d', tk', os'⟩ := s'
          have eg : g' = s.gens := hm.gens
          have ed : d' = s.drawn := hm.drawn
          have eo : os' = s.os := hm.os
          subst eg; subst ed; subst eo
          show wpAny _ _ _ _ _ _
          refine wpAny_pure ?_
          show wpAny _ _ (ret Value.none) _ _ _
          refine wpAny_pure ⟨rfl, h', tk', ss, rfl, hS', hl, hm', fun b o e => ?_⟩
          have hlt := Heap.lt_size e
          refine hm.heap b o (fun hb => ?_) (Heap.get?_push_of_some _ (Heap.get?_push_of_some _ e))
          rcases List.mem_cons.mp hb with z | z
          · exact absurd hlt (by rw [z]; exact Nat.lt_irrefl _)
          · have z' := List.mem_singleton.mp z
            rw [z', Heap.size_push] at hlt
            exact absurd hlt (Nat.not_lt.mpr (Nat.le_succ _))
      · cases r₂ with
        | error e => exact hr₂
        | ok fl₂ =>
          cases fl₂ with
          | ret r =>
            obtain ⟨rfl, h', tk, ss, rfl, hS', hl, hm', hk'⟩ := hr₂
            repeat (any_goals (first | assumption | wp_step))
            exact h _ _ _ hS' hl hm' hk'
          | _ => exact hr₂.elim
    | _ => exact hr.elim
end
end LmSet

set_option Elab.async false
set_option linter.all false
set_option maxRecDepth 100000
set_option maxHeartbeats 4000000
namespace LmSet
open PySem PyProof.Rows

/-! ## a set of texts walked: some order, each once -/
theorem wpAny_choose {M : Model} {A : Around} {E : Value → Shared → Prop} {s : Shared} {src : Source} {n : Nat} {Q : Nat → Shared → Prop} (hn : n ≠ 0) (h : ∀ i, i < n → Q i { s with drawn := s.drawn.bump src }) : wpAny M A (choose src n) Q E s :=
  fun Γ p hΓ => ⟨hn, h _ (Nat.mod_lt _ (Nat.pos_of_ne_zero hn))⟩
theorem drawOrder_of {M : Model} {A : Around} {E : Value → Shared → Prop} {α : Type} : ∀ (n : Nat) (xs : List α) (s : Shared) (Q : List α → Shared → Prop), xs.length ≤ n → (∀ ys d, ys.Perm xs → Q ys { s with drawn := d }) → wpAny M A (drawOrder n xs) Q E s
  | 0, xs, s, Q, hn, h => by
    have e : xs = [] := List.length_eq_zero_iff.mp (by omega)
    subst e
    unfold drawOrder
    exact wpAny_pure (by have := h [] s.drawn .rfl; simpa using this)
  | n + 1, [], s, Q, hn, h => by
    unfold drawOrder
    exact wpAny_pure (by have := h [] s.drawn .rfl; simpa using this)
  | n + 1, x :: xs, s, Q, hn, h => by
    unfold drawOrder
    refine wpAny_bind (wpAny_choose (by simp) fun i hi => ?_)
    have hg : (x :: xs)[i]? = some (x :: xs)[i] := List.getElem?_eq_getElem hi
    rw [hg]
    dsimp only
    refine wpAny_bind (drawOrder_of n ((x :: xs).eraseIdx i) _ _ (by rw [List.length_eraseIdx, if_pos hi]; simp at hn ⊢; omega) fun ys d hp => wpAny_pure ?_)
    refine h _ d ?_
    have e : (x :: xs).Perm ((x :: xs)[i] :: (x :: xs).eraseIdx i) := by
      have q : (x :: xs).eraseIdx i = (x :: xs).take i ++ (x :: xs).drop (i + 1) := List.eraseIdx_eq_take_drop_succ _ _
      have q2 : (x :: xs) = (x :: xs).take i ++ (x :: xs)[i] :: (x :: xs).drop (i + 1) := by
        rw [← List.drop_eq_getElem_cons hi]; exact (List.take_append_drop _ _).symm
      rw [q]
      calc (x :: xs).Perm ((x :: xs).take i ++ (x :: xs)[i] :: (x :: xs).drop (i + 1)) := by rw [← q2]
        List.Perm _ ((x :: xs)[i] :: ((x :: xs).take i ++ (x :: xs).drop (i + 1))) := List.perm_middle
    exact (hp.cons _).trans e.symm
theorem pick_perm {α : Type} (next : Nat → Nat) : ∀ (fuel k : Nat) (left : List α) (out : Array α), left.length ≤ fuel → (pickOrder.go next fuel k left out).toList.Perm (out.toList ++ left)
  | 0, k, left, out, h => by
    have e : left = [] := List.length_eq_zero_iff.mp (by omega)
    subst e
    unfold pickOrder.go
    simp
  | fuel + 1, k, [], out, h => by
    unfold pickOrder.go
    simp
  | fuel + 1, k, x :: xs, out, h => by
    unfold pickOrder.go
    have hi : next k % (x :: xs).length < (x :: xs).length := Nat.mod_lt _ (by simp)
    generalize next k % (x :: xs).length = i at hi
    have hg : (x :: xs)[i]? = some (x :: xs)[i] := List.getElem?_eq_getElem hi
    rw [hg]
    dsimp only
    have ih := pick_perm next fuel (k + 1) ((x :: xs).eraseIdx i) (out.push (x :: xs)[i]) (by rw [List.length_eraseIdx, if_pos hi]; simp at h ⊢; omega)
    refine ih.trans ?_
    rw [Array.toList_push, List.append_assoc]
    refine List.Perm.append_left _ ?_
    have q : (x :: xs).eraseIdx i = (x :: xs).take i ++ (x :: xs).drop (i + 1) := List.eraseIdx_eq_take_drop_succ _ _
    have q2 : (x :: xs) = (x :: xs).take i ++ (x :: xs)[i] :: (x :: xs).drop (i + 1) := by
      rw [← List.drop_eq_getElem_cons hi]; exact (List.take_append_drop _ _).symm
    rw [q]
    calc List.Perm ((x :: xs)[i] :: ((x :: xs).take i ++ (x :: xs).drop (i + 1))) ((x :: xs).take i ++ (x :: xs)[i] :: (x :: xs).drop (i + 1)) := List.perm_middle.symm
      List.Perm _ (x :: xs) := by rw [← q2]
theorem pickOrder_perm {α : Type} (next : Nat → Nat) (xs : Array α) : (pickOrder next xs).toList.Perm xs.toList := by
  have := pick_perm next xs.size 0 xs.toList #[] (by simp)
  unfold pickOrder
  simpa using this

/-- the walk's record: its first field, the place, the set -/
def iterObj (first : Value) (i : Nat) (a : Addr) (n ep : Nat) : Obj := { cls := .type "set_iterator", data := .fields #[first, .int i 0, .ref a, .int n 0, .int ep 0] }

section
variable {prog : Program} {w : World} {A : Around} {E : Value → Shared → Prop} {s : Shared}
theorem si_drawn {it a T : Addr} {i n ep nt : Nat} {ps : List Nat} {es : Array (Int × Value)} {t : SetTable} {oa oT : Obj} {k : Nat} {e : Int × Value} {Q : Option Value → Shared → Prop}
    (ho : s.heap.get? it = some (iterObj (.ref T) i a n ep)) (ha : s.heap.get? a = some oa) (hd : oa.data = .set es ep t) (hf : t.fits es.size = true) (hn : es.size = n)
    (hT : s.heap.get? T = some oT) (hTd : oT.data = .seq (ps.map fun p => Value.int (p : Nat) 0).toArray nt) (hi : ps[i]? = some k) (hk : es[k]? = some e)
    (hQ : ∀ h', h'.get? it = some (iterObj (.ref T) (i + 1) a n ep) → Heap.SameBut it s.heap h' → Q (some e.2) { s with heap := h' }) :
    wpAny (model prog w) A (pyNext (.ref it)) Q E s := by
  have hty : s.TypeIs (.ref it) "set_iterator" := ⟨_, ho, rfl⟩
  unfold pyNext
  refine wpAny_bind (wpAny_attempt (wpAny_callSpecial?_slot (name := Str.ofString "__next__") hty slot_next (wpAny_call_entry slot_next hty entry_next ?_ (args_next _))))
  show wpAny _ _ (fieldsOf (.ref it) >>= _) _ _ s
  refine wpAny_bind (wpAny_fieldsOf ho rfl ?_)
  show wpAny _ _ (setEntries a >>= _) _ _ s
  unfold setEntries
  refine wpAny_bind (wpAny_bind (wpAny_setState_of ha hd hf (wpAny_pure ?_)))
  dsimp only
  rw [if_neg (by rw [hn]; simp)]
  refine wpAny_bind (wpAny_seqItems hT hTd ?_)
  have hp : ((ps.map fun p => Value.int (p : Nat) 0).toArray)[((i : Nat) : Int).toNat]? = some (Value.int (k : Nat) 0) := by simp [hi]
  dsimp only
  rw [hp]
  dsimp only
  unfold setNextDrawn
  refine wpAny_bind (wpAny_bind (wpAny_setState_of ha hd hf ?_))
  dsimp only
  rw [if_neg (by simp), show ((k : Nat) : Int).toNat = k by simp, hk]
  refine wpAny_pure ?_
  refine wpAny_bind (wpAny_setField ho rfl (by simp [iterObj]) (wpAny_pure ⟨e.2, rfl, wpAny_pure (hQ _ ?_ (Heap.SameBut.update ..))⟩))
  rw [Heap.get?_update_self _ ho rfl]
  simp [iterObj, Obj.mapFields, rawInt]
/-- the end of a walk: the exception is made and taken -/
theorem si_stop {it : Addr} {o : Obj} {vs : Array Value} {Q : Option Value → Shared → Prop} (hh : A.handled = none) (ho : s.heap.get? it = some o) (hd : o.data = .fields vs) (hv : 2 < vs.size)
    (hQ : ∀ h', Heap.ExtBut it s.heap h' → Q none { s with heap := h' }) :
    wpAny (model prog w) A.in1 (do setField (.ref it) 2 .none; raiseNew (← newExc (.type "StopIteration") []) : Sem PySem.Fin)
      (fun fin s' => ∃ v, fin = .done (.ret v) ∧ wpAny (model prog w) A (pure (some v)) Q E s') (fun e s' => wpAny (model prog w) A (do if ← isInstance e (.type "StopIteration") then pure none else throw e) Q E s') s := by
  refine wpAny_bind (wpAny_setField ho hd hv ?_)
  show wpAny _ _ (newExc (.type "StopIteration") [] >>= _) _ _ _
  refine wpAny_bind ?_
  simp only [newExc, newTuple]
  refine wpAny_bind (wpAny_newObj_type ?_ (by size_fits))
  refine wpAny_bind (m := firstArgMember _ _) (wpAny_of_eq (a := Value.none) (by first | rfl | (simp only [firstArgMember]; rfl)) ?_)
  refine wpAny_newObj_type ?_ (by size_fits)
  simp only [raiseNew]
  refine wpAny_bind (wpAny_handled ?_)
  first | rw [show A.in1.handled = none from hh] | rw [hh]
  refine wpAny_bind (wpAny_pure (wpAny_throw ?_))
  refine wpAny_bind (wpAny_isInstance (T := "StopIteration") (b := true) ⟨_, Heap.get?_push_size _ rfl, rfl⟩ isSubtype_stop ?_)
  exact wpAny_pure (hQ _ (((Heap.SameBut.update ..).extBut.push _).push _))
theorem si_drawn_end {it a T : Addr} {i n ep nt : Nat} {ps : List Nat} {es : Array (Int × Value)} {t : SetTable} {oa oT : Obj} {Q : Option Value → Shared → Prop} (hh : A.handled = none)
    (ho : s.heap.get? it = some (iterObj (.ref T) i a n ep)) (ha : s.heap.get? a = some oa) (hd : oa.data = .set es ep t) (hf : t.fits es.size = true) (hn : es.size = n)
    (hT : s.heap.get? T = some oT) (hTd : oT.data = .seq (ps.map fun p => Value.int (p : Nat) 0).toArray nt) (hi : ps[i]? = none)
    (hQ : ∀ h', Heap.ExtBut it s.heap h' → Q none { s with heap := h' }) :
    wpAny (model prog w) A (pyNext (.ref it)) Q E s := by
  have hty : s.TypeIs (.ref it) "set_iterator" := ⟨_, ho, rfl⟩
  unfold pyNext
  refine wpAny_bind (wpAny_attempt (wpAny_callSpecial?_slot (name := Str.ofString "__next__") hty slot_next (wpAny_call_entry slot_next hty entry_next ?_ (args_next _))))
  show wpAny _ _ (fieldsOf (.ref it) >>= _) _ _ s
  refine wpAny_bind (wpAny_fieldsOf ho rfl ?_)
  show wpAny _ _ (setEntries a >>= _) _ _ s
  unfold setEntries
  refine wpAny_bind (wpAny_bind (wpAny_setState_of ha hd hf (wpAny_pure ?_)))
  dsimp only
  rw [if_neg (by rw [hn]; simp)]
  refine wpAny_bind (wpAny_seqItems hT hTd ?_)
  have hp : ((ps.map fun p => Value.int (p : Nat) 0).toArray)[((i : Nat) : Int).toNat]? = none := by simpa using hi
  dsimp only
  rw [hp]
  dsimp only
  refine wpAny_bind (wpAny_setField ho rfl (by simp [iterObj]) ?_)
  have ho2 := Heap.get?_update_self (Obj.mapFields (·.setIfInBounds 0 (rawInt 0))) ho rfl
  refine si_stop (s := { s with heap := s.heap.update it (Obj.mapFields (·.setIfInBounds 0 (rawInt 0))) }) hh ho2 rfl (by simp [iterObj]) fun h' he => hQ h' fun b o hb q => he b o hb ((Heap.SameBut.update ..).extBut b o hb q)
/-- a walk whose first field is an int -/
theorem si_slot {it a : Addr} {i n ep : Nat} {slot : Nat} {es : Array (Int × Value)} {t : SetTable} {oa : Obj} {x : Value} {next : Nat} {Q : Option Value → Shared → Prop}
    (ho : s.heap.get? it = some (iterObj (.int slot 0) i a n ep)) (ha : s.heap.get? a = some oa) (hd : oa.data = .set es ep t) (hf : t.fits es.size = true) (hn : es.size = n)
    (hx : ∀ (A' : Around) (E' : Value → Shared → Prop) (Q' : Option (Value × Nat) → Shared → Prop), Q' (some (x, next)) s → wpAny (model prog w) A' (setNext a slot i ep) Q' E' s)
    (hQ : ∀ h', h'.get? it = some (iterObj (.int next 0) (i + 1) a n ep) → Heap.SameBut it s.heap h' → Q (some x) { s with heap := h' }) :
    wpAny (model prog w) A (pyNext (.ref it)) Q E s := by
  have hty : s.TypeIs (.ref it) "set_iterator" := ⟨_, ho, rfl⟩
  unfold pyNext
  refine wpAny_bind (wpAny_attempt (wpAny_callSpecial?_slot (name := Str.ofString "__next__") hty slot_next (wpAny_call_entry slot_next hty entry_next ?_ (args_next _))))
  show wpAny _ _ (fieldsOf (.ref it) >>= _) _ _ s
  refine wpAny_bind (wpAny_fieldsOf ho rfl ?_)
  show wpAny _ _ (setEntries a >>= _) _ _ s
  unfold setEntries
  refine wpAny_bind (wpAny_bind (wpAny_setState_of ha hd hf (wpAny_pure ?_)))
  dsimp only
  rw [if_neg (by rw [hn]; simp)]
  rw [show ((slot : Nat) : Int).toNat = slot by simp, show ((i : Nat) : Int).toNat = i by simp, show ((ep : Nat) : Int).toNat = ep by simp]
  refine wpAny_bind (hx _ _ _ ?_)
  dsimp only
  refine wpAny_bind (wpAny_setField ho rfl (by simp [iterObj]) ?_)
  have ho2 := Heap.get?_update_self (Obj.mapFields (·.setIfInBounds 0 (rawInt next))) ho rfl
  refine wpAny_bind (wpAny_setField ho2 rfl (by simp [iterObj]) (wpAny_pure ⟨x, rfl, wpAny_pure (hQ _ ?_ ((Heap.SameBut.update ..).trans (Heap.SameBut.update ..)))⟩))
  rw [Heap.get?_update_self _ ho2 rfl]
  simp [iterObj, Obj.mapFields, rawInt]
theorem si_slot_end {it a : Addr} {i n ep : Nat} {slot : Nat} {es : Array (Int × Value)} {t : SetTable} {oa : Obj} {Q : Option Value → Shared → Prop} (hh : A.handled = none)
    (ho : s.heap.get? it = some (iterObj (.int slot 0) i a n ep)) (ha : s.heap.get? a = some oa) (hd : oa.data = .set es ep t) (hf : t.fits es.size = true) (hn : es.size = n)
    (hx : ∀ (A' : Around) (E' : Value → Shared → Prop) (Q' : Option (Value × Nat) → Shared → Prop), Q' none s → wpAny (model prog w) A' (setNext a slot i ep) Q' E' s)
    (hQ : ∀ h', Heap.ExtBut it s.heap h' → Q none { s with heap := h' }) :
    wpAny (model prog w) A (pyNext (.ref it)) Q E s := by
  have hty : s.TypeIs (.ref it) "set_iterator" := ⟨_, ho, rfl⟩
  unfold pyNext
  refine wpAny_bind (wpAny_attempt (wpAny_callSpecial?_slot (name := Str.ofString "__next__") hty slot_next (wpAny_call_entry slot_next hty entry_next ?_ (args_next _))))
  show wpAny _ _ (fieldsOf (.ref it) >>= _) _ _ s
  refine wpAny_bind (wpAny_fieldsOf ho rfl ?_)
  show wpAny _ _ (setEntries a >>= _) _ _ s
  unfold setEntries
  refine wpAny_bind (wpAny_bind (wpAny_setState_of ha hd hf (wpAny_pure ?_)))
  dsimp only
  rw [if_neg (by rw [hn]; simp)]
  rw [show ((slot : Nat) : Int).toNat = slot by simp, show ((i : Nat) : Int).toNat = i by simp, show ((ep : Nat) : Int).toNat = ep by simp]
  refine wpAny_bind (hx _ _ _ ?_)
  dsimp only
  exact si_stop hh ho rfl (by simp [iterObj]) hQ

theorem below_one (j k : Nat) : SetTable.below #[j] k = if j < k then 1 else 0 := by
  unfold SetTable.below
  show SetTable.below.go #[j] k 1 0 1 = _
  unfold SetTable.below.go
  simp only [Nat.zero_lt_one, if_true, Nat.zero_add, Nat.reduceDiv]
  have e : (#[j] : Array Nat).getD 0 k = j := rfl
  rw [e]
  unfold SetTable.below.go
  rfl

theorem strsAre_at : ∀ {vs : List Value} {ys : List Str}, StrsAre vs ys → ∀ (k : Nat) (v : Value), vs[k]? = some v → ∃ y t, ys[k]? = some y ∧ v = .str y t
  | _, _, .nil, k, v, h => by simp at h
  | _, _, .cons y t r, 0, v, h => by simp at h; exact ⟨y, t, rfl, h.symm⟩
  | _, _, .cons y t r, k + 1, v, h => by simpa using strsAre_at r k v (by simpa using h)
/-- the texts in the order ps of their places -/
theorem strs_order {es : Array (Int × Value)} {ss : List Str} (h : StrsAre (es.toList.map (·.2)) ss) {ps : List Nat} (hp : ps.Perm (List.range es.size)) :
    ∃ ys : List Str, ys.Perm ss ∧ ys.length = ps.length ∧ ∀ (i k : Nat) (e : Int × Value), ps[i]? = some k → es[k]? = some e → ∃ (y : Str) (t : Tok), ys[i]? = some y ∧ e.2 = Value.str y t := by
  have hlen : es.size = ss.length := by have := strsAre_len h; simpa using this
  refine ⟨ps.map fun k => ss.getD k Str.empty, ?_, by simp, fun i k e hi hk => ?_⟩
  · have e1 : (List.range es.size).map (fun k => ss.getD k Str.empty) = ss := by
      rw [hlen]
      apply List.ext_getElem
      · simp
      · intro i h1 h2
        simp [h2]
    have := hp.map fun k => ss.getD k Str.empty
    rw [e1] at this
    exact this
  · obtain ⟨y, t, a1, a2⟩ := strsAre_at h k e.2 (by rw [List.getElem?_map, Array.getElem?_toList, hk]; rfl)
    refine ⟨y, t, ?_, a2⟩
    rw [List.getElem?_map, hi]
    show some (ss.getD k Str.empty) = some y
    rw [List.getD_eq_getElem?_getD, a1]
    all_goals rfl

theorem slot_self : Slot "set_iterator" "__iter__" "set_iterator.__iter__" :=
  .of (owner := "set_iterator") (n := "__iter__") (by rw [typeLookup_type, builtinLookup_eq_fast]; kernel_rfl) (by decide +kernel) (by decide +kernel) (by decide +kernel)
    (by first | exact .inl (by decide +kernel) | exact .inr (by decide +kernel)) (by rw [isSubtype_type]; kernel_rfl)
theorem args_self (a : Value) : argsOk "set_iterator.__iter__" ⟨[a], []⟩ := by unfold argsOk; kernel_rfl
theorem entry_self : entryFor table "set_iterator.__iter__" = some Builtin.«dict_keyiterator.__iter__» :=
  entryFor_alias (id' := "dict_keyiterator.__iter__") (by kernel_rfl) rfl (by decide +kernel) (by kernel_rfl)
theorem iter_self {it : Addr} {first : Value} {i n ep : Nat} {a : Addr} {Q : Value → Shared → Prop} (ho : s.heap.get? it = some (iterObj first i a n ep)) (h : Q (.ref it) s) : wpAny (model prog w) A (pyIter (.ref it)) Q E s := by
  have hty : s.TypeIs (.ref it) "set_iterator" := ⟨_, ho, rfl⟩
  refine wpAny_pyIter_slot hty slot_self (wpAny_call_entry slot_self hty entry_self ?_ (args_self _))
  show wpAny _ _ (ret (.ref it)) _ _ s
  exact wpAny_pure ⟨_, rfl, "set_iterator", _, hty, slot_next.lookup, h⟩

/-- the order by the text's own setting -/
theorem next_text {a : Addr} {o : Obj} {es : Array (Int × Value)} {ep : Nat} {t : SetTable} {slot i : Nat} {Q : Option (Value × Nat) → Shared → Prop} (ho : s.heap.get? a = some o) (hd : o.data = .set es ep t) (hf : t.fits es.size = true) (hw : w.params.followText "set-order" = true)
    (h : Q (((pickOrder (w.params.setOrder a ep) es)[i]?).map fun e => (e.2, slot)) s) : wpAny (model prog w) A (setNext a slot i ep) Q E s := by
  unfold setNext setsByText
  refine wpAny_bind (wpAny_setState_of ho hd hf ?_)
  refine wpAny_bind (wpAny_bind (wpAny_askSetting (wpAny_pure ?_)))
  show wpAny _ _ (if w.params.followText "set-order" = true then _ else _) _ _ s
  rw [if_pos hw, if_neg (by simp)]
  unfold setWalk setsByText
  refine wpAny_bind (wpAny_bind (wpAny_setState_of ho hd hf ?_))
  refine wpAny_bind (wpAny_bind (wpAny_askSetting (wpAny_pure ?_)))
  show wpAny _ _ (if w.params.followText "set-order" = true then _ else _) _ _ s
  rw [if_pos hw]
  exact wpAny_bind (wpAny_askSetting (wpAny_pure (wpAny_pure h)))
/-- at most one entry, not by the text's setting -/
theorem next_small {a : Addr} {o : Obj} {es : Array (Int × Value)} {ep : Nat} {t : SetTable} {slot i : Nat} {Q : Option (Value × Nat) → Shared → Prop} (ho : s.heap.get? a = some o) (hd : o.data = .set es ep t) (hf : t.fits es.size = true) (hw : w.params.followText "set-order" = false)
    (hled : t.led = true) (h1 : es.size ≤ 1)
    (h : Q (match es[SetTable.below t.place slot]?, t.place[SetTable.below t.place slot]? with
      | some (_, x), some j => some (x, j + 1)
      | _, _ => none) s) : wpAny (model prog w) A (setNext a slot i ep) Q E s := by
  unfold setNext setsByText
  refine wpAny_bind (wpAny_setState_of ho hd hf ?_)
  refine wpAny_bind (wpAny_bind (wpAny_askSetting (wpAny_pure ?_)))
  show wpAny _ _ (if w.params.followText "set-order" = true then _ else _) _ _ s
  rw [if_neg (by rw [hw]; simp)]
  show wpAny _ _ (if (!t.plain && decide (es.size > 1)) = true then _ else _) _ _ s
  rw [if_neg (by simp; intro _; omega)]
  show wpAny _ _ ((if (!t.led && !es.isEmpty) = true then unsupported "set:maker-not-led" else pure ()) >>= _) _ _ s
  rw [if_neg (by rw [hled]; simp)]
  refine wpAny_bind (wpAny_pure ?_)
  exact wpAny_pure h

/-- pyIter of a set of texts: some order of them is walked, each once -/
theorem iter_set {a : Addr} {ss : List Str} {Q : Value → Shared → Prop} (hS : SSet prog w s.heap a ss)
    (h : ∀ (I : Addr) (h' : Heap) (d : Drawn) (fp : List Addr) (ys : List Str) (P : Nat → Value → Prop) (St : Nat → Heap → Prop), s.heap.objs.size ≤ I → (∀ b o, s.heap.get? b = some o → h'.get? b = some o) → I < h'.objs.size → ys.Perm ss →
      (∀ b ∈ fp, b = a ∨ (s.heap.objs.size ≤ b ∧ b < h'.objs.size)) → (∀ A' : Around, A'.handled = none → Walks prog w A' I fp [I] ys.length P St) → (∀ i v, P i v → ∃ y t, ys[i]? = some y ∧ v = .str y t) → St 0 h' → Q (.ref I) { s with heap := h', drawn := d }) :
    wpAny (model prog w) A (pyIter (.ref a)) Q E s := by
  obtain ⟨o, es, ep, t, ho, hex, hd, hel, _, hss, hnd, hb, hf, hled, hpl⟩ := hS
  have hty : s.TypeIs (.ref a) "set" := ⟨o, ho, hex.1⟩
  have hlen : es.size = ss.length := by have := strsAre_len hss; simpa using this
  have halt : a < s.heap.objs.size := Heap.lt_size ho
  refine wpAny_pyIter_slot hty PySem.F.slot_set_iter (wpAny_call_entry PySem.F.slot_set_iter hty entry_iter ?_ (PySem.F.args_set_iter_1 _))
  unfold Builtin.«frozenset.__iter__»
  show wpAny _ _ (Builtin.Frozenset.sizeOf a >>= _) _ _ s
  unfold Builtin.Frozenset.sizeOf setEntries
  refine wpAny_bind (wpAny_bind (wpAny_bind (wpAny_setState_of ho hd hf (wpAny_pure (wpAny_pure ?_)))))
  unfold setDrawn setsByText
  refine wpAny_bind (wpAny_bind (wpAny_setState_of ho hd hf ?_))
  refine wpAny_bind (wpAny_bind (wpAny_askSetting (wpAny_pure ?_)))
  show wpAny _ _ (pure (!(w.params.followText "set-order") && (!t.plain && decide (es.size > 1)))) _ _ s
  refine wpAny_pure ?_
  by_cases hc : (!(w.params.followText "set-order") && (!t.plain && decide (es.size > 1))) = true
  · rw [if_pos hc]
    dsimp only
    refine wpAny_bind (drawOrder_of es.size (List.range es.size) s _ (by simp) fun ps d hp => ?_)
    refine wpAny_bind (wpAny_newTuple ?_ (by rw [List.length_map, hp.length_eq, List.length_range]; exact fits_of_scanBound hb))
    have keep1 : ∀ b ob, s.heap.get? b = some ob → (s.heap.push (seqObj "tuple" (ps.map fun i => rawInt (i : Nat)).toArray 0)).get? b = some ob := fun b ob e => Heap.get?_push_of_some _ e
    refine wpAny_bind (wpAny_setEpoch_of (keep1 _ _ ho) hd hf ?_)
    refine wpAny_bind (wpAny_newObj_type (wpAny_pure ⟨_, rfl, "set_iterator", _, ⟨_, Heap.get?_push_size _ rfl, rfl⟩, slot_next.lookup, ?_⟩))
    obtain ⟨ys, hys, hyl, hyt⟩ := strs_order hss hp
    generalize hH : s.heap.push (seqObj "tuple" (ps.map fun i => rawInt (i : Nat)).toArray 0) = H1 at keep1 ⊢
    have hHs : H1.objs.size = s.heap.objs.size + 1 := by rw [← hH, Heap.size_push]
    have hTo : H1.get? s.heap.objs.size = some (seqObj "tuple" (ps.map fun i => rawInt (i : Nat)).toArray 0) := hH ▸ Heap.get?_push_size _ rfl
    have hpl' : ps.length = es.size := by rw [hp.length_eq]; simp
    refine h H1.objs.size _ d [H1.objs.size, a, s.heap.objs.size] ys (fun i v => ∃ k e, ps[i]? = some k ∧ es[k]? = some e ∧ v = e.2)
      (fun i hh => hh.get? H1.objs.size = some (iterObj (.ref s.heap.objs.size) i a es.size ep) ∧ hh.get? a = some o ∧ hh.get? s.heap.objs.size = some (seqObj "tuple" (ps.map fun i => rawInt (i : Nat)).toArray 0))
      (by rw [hHs]; exact Nat.le_succ _) (fun b ob e => Heap.get?_push_of_some _ (keep1 b ob e)) (by rw [Heap.size_push]; exact Nat.lt_succ_self _) hys (fun b hb => ?_) (fun A' hh' => ?_) (fun i v ⟨k, e, e1, e2, e3⟩ => ?_) ⟨Heap.get?_push_size _ rfl, Heap.get?_push_of_some _ (keep1 _ _ ho), Heap.get?_push_of_some _ hTo⟩
    · simp only [List.mem_cons, List.not_mem_nil, or_false] at hb
      rw [Heap.size_push, hHs]
      rcases hb with z | z | z
      · exact .inr ⟨by rw [z, hHs]; exact Nat.le_succ _, by rw [z, hHs]; exact Nat.lt_succ_self _⟩
      · exact .inl z
      · exact .inr ⟨Nat.le_of_eq z.symm, by rw [z]; exact Nat.lt_succ_of_lt (Nat.lt_succ_self _)⟩
    · have nIa : a ≠ H1.objs.size := by rw [hHs]; exact Nat.ne_of_lt (Nat.lt_succ_of_lt halt)
      have nIT : s.heap.objs.size ≠ H1.objs.size := by rw [hHs]; exact Nat.ne_of_lt (Nat.lt_succ_self _)
      refine ⟨fun b hb => by simp at hb; simp [hb], fun i h1 h2 st k => ⟨k _ (by simp) _ st.1, k _ (by simp) _ st.2.1, k _ (by simp) _ st.2.2⟩, fun i s' Q' E' hi st hQ => ?_, fun s' Q' E' st hQ => ?_, fun i s' Q' E' st hQ => iter_self st.1 hQ⟩
      · have hi' : i < ps.length := by omega
        have hk : ps[i] < es.size := List.mem_range.mp (hp.mem_iff.mp (List.getElem_mem hi'))
        refine si_drawn st.1 st.2.1 hd hf rfl st.2.2 rfl (List.getElem?_eq_getElem hi') (getElem?_pos es ps[i] hk) fun h' e1 sb => ?_
        exact hQ _ h' s'.toks ⟨_, _, List.getElem?_eq_getElem hi', getElem?_pos es ps[i] hk, rfl⟩ ⟨e1, (sb.2 a nIa).trans st.2.1, (sb.2 _ nIT).trans st.2.2⟩ fun b ob hb e => (sb.2 b (by simpa using hb)).trans e
      · refine si_drawn_end hh' st.1 st.2.1 hd hf rfl st.2.2 rfl (by rw [List.getElem?_eq_none_iff]; omega) fun h' eb => ?_
        exact hQ h' s'.toks fun b ob hb e => eb b ob (by simpa using hb) e
    · obtain ⟨y, t', q1, q2⟩ := hyt i k e e1 e2
      exact ⟨y, t', q1, by rw [e3, q2]⟩
  · rw [if_neg hc]
    dsimp only
    refine wpAny_bind (wpAny_pure ?_)
    refine wpAny_bind (wpAny_setEpoch_of ho hd hf ?_)
    refine wpAny_bind (wpAny_newObj_type (wpAny_pure ⟨_, rfl, "set_iterator", _, ⟨_, Heap.get?_push_size _ rfl, rfl⟩, slot_next.lookup, ?_⟩))
    have nIa : a ≠ s.heap.objs.size := Nat.ne_of_lt halt
    have e0 : s = { s with drawn := s.drawn } := by cases s; rfl
    by_cases hw : w.params.followText "set-order" = true
    · -- by the text's setting
      have hpp := pickOrder_perm (w.params.setOrder a ep) es
      obtain ⟨ys, hys, hyp⟩ := strsAre_perm (hpp.map (·.2)) hss
      have hsz : (pickOrder (w.params.setOrder a ep) es).size = ys.length := by have := strsAre_len hys; simpa using this
      have hyl : ys.length = es.size := by rw [hyp.length_eq, hlen]
      refine h s.heap.objs.size _ s.drawn [s.heap.objs.size, a] ys (fun i v => ∃ e, (pickOrder (w.params.setOrder a ep) es)[i]? = some e ∧ v = e.2)
        (fun i hh => ∃ slot : Nat, hh.get? s.heap.objs.size = some (iterObj (.int slot 0) i a es.size ep) ∧ hh.get? a = some o)
        (Nat.le_refl _) (fun b ob e => Heap.get?_push_of_some _ e) (by rw [Heap.size_push]; exact Nat.lt_succ_self _) hyp (fun b hb => ?_) (fun A' hh' => ?_) (fun i v ⟨e, e1, e2⟩ => ?_) ⟨0, Heap.get?_push_size _ rfl, Heap.get?_push_of_some _ ho⟩
      · simp only [List.mem_cons, List.not_mem_nil, or_false] at hb
        rw [Heap.size_push]
        rcases hb with z | z
        · exact .inr ⟨Nat.le_of_eq z.symm, by rw [z]; exact Nat.lt_succ_self _⟩
        · exact .inl z
      · refine ⟨fun b hb => by simp at hb; simp [hb], fun i h1 h2 ⟨sl, st1, st2⟩ k => ⟨sl, k _ (by simp) _ st1, k _ (by simp) _ st2⟩, fun i s' Q' E' hi ⟨sl, st1, st2⟩ hQ => ?_, fun s' Q' E' ⟨sl, st1, st2⟩ hQ => ?_, fun i s' Q' E' ⟨sl, st1, _⟩ hQ => iter_self st1 hQ⟩
        · have hi' : i < (pickOrder (w.params.setOrder a ep) es).size := by rw [hsz]; exact hi
          refine si_slot st1 st2 hd hf rfl (fun A1 E1 Q1 q => next_text st2 hd hf hw (by rw [getElem?_pos _ i hi']; exact q)) fun h' e1 sb => ?_
          exact hQ _ h' s'.toks ⟨_, getElem?_pos _ i hi', rfl⟩ ⟨sl, e1, (sb.2 a nIa).trans st2⟩ fun b ob hb e => (sb.2 b (by simpa using hb)).trans e
        · refine si_slot_end hh' st1 st2 hd hf rfl (fun A1 E1 Q1 q => next_text st2 hd hf hw (by rw [getElem?_neg _ _ (by rw [hsz]; exact Nat.lt_irrefl _)]; exact q)) fun h' eb => ?_
          exact hQ h' s'.toks fun b ob hb e => eb b ob (by simpa using hb) e
      · obtain ⟨y, t', q1, q2⟩ := strsAre_at hys i e.2 (by rw [List.getElem?_map, Array.getElem?_toList, e1]; rfl)
        exact ⟨y, t', q1, by rw [e2, q2]⟩
    · -- one entry at most
      have hw' : w.params.followText "set-order" = false := by simpa using hw
      have hled' : t.led = true := by rw [hled, hw']; rfl
      have h1 : es.size ≤ 1 := by
        rcases hpl with z | z
        · omega
        · rw [hw', z] at hc
          simp at hc
          omega
      have hfit : t.place.size = es.size := by
        simp only [SetTable.fits, Bool.and_eq_true, beq_iff_eq, decide_eq_true_eq] at hf
        exact hf.1
      refine h s.heap.objs.size _ s.drawn [s.heap.objs.size, a] ss (fun i v => ∃ e, es[i]? = some e ∧ v = e.2)
        (fun i hh => ∃ slot : Nat, hh.get? s.heap.objs.size = some (iterObj (.int slot 0) i a es.size ep) ∧ hh.get? a = some o ∧ (i = 0 → slot = 0) ∧ (∀ j, i = 1 → t.place[0]? = some j → slot = j + 1))
        (Nat.le_refl _) (fun b ob e => Heap.get?_push_of_some _ e) (by rw [Heap.size_push]; exact Nat.lt_succ_self _) .rfl (fun b hb => ?_) (fun A' hh' => ?_) (fun i v ⟨e, e1, e2⟩ => ?_) ⟨0, Heap.get?_push_size _ rfl, Heap.get?_push_of_some _ ho, fun _ => rfl, fun j z => by omega⟩
      · simp only [List.mem_cons, List.not_mem_nil, or_false] at hb
        rw [Heap.size_push]
        rcases hb with z | z
        · exact .inr ⟨Nat.le_of_eq z.symm, by rw [z]; exact Nat.lt_succ_self _⟩
        · exact .inl z
      · refine ⟨fun b hb => by simp at hb; simp [hb], fun i h1 h2 ⟨sl, st1, st2, st3⟩ k => ⟨sl, k _ (by simp) _ st1, k _ (by simp) _ st2, st3⟩, fun i s' Q' E' hi ⟨sl, st1, st2, st3, st4⟩ hQ => ?_, fun s' Q' E' ⟨sl, st1, st2, st3, st4⟩ hQ => ?_, fun i s' Q' E' ⟨sl, st1, _⟩ hQ => iter_self st1 hQ⟩
        · have hi0 : i = 0 := by omega
          subst hi0
          have hs1 : es.size = 1 := by omega
          obtain ⟨pj, hpj⟩ : ∃ j, t.place = #[j] := Array.size_eq_one_iff.mp (by omega)
          have hsl : sl = 0 := st3 rfl
          subst hsl
          have he0 : es[0]? = some es[0] := getElem?_pos es 0 (by omega)
          refine si_slot (x := es[0].2) (next := pj + 1) st1 st2 hd hf rfl (fun A1 E1 Q1 q => next_small st2 hd hf hw' hled' h1 ?_) fun h' e1 sb => ?_
          · rw [hpj, below_one, if_neg (Nat.not_lt_zero _), he0]
            exact q
          · exact hQ _ h' s'.toks ⟨_, he0, rfl⟩ ⟨pj + 1, e1, (sb.2 a nIa).trans st2, fun z => by omega, fun j _ z => by rw [hpj] at z; simp at z; omega⟩ fun b ob hb e => (sb.2 b (by simpa using hb)).trans e
        · refine si_slot_end hh' st1 st2 hd hf rfl (fun A1 E1 Q1 q => ?_) fun h' eb => hQ h' s'.toks fun b ob hb e => eb b ob (by simpa using hb) e
          rw [← hlen]
          refine next_small st2 hd hf hw' hled' h1 ?_
          by_cases hs0 : es.size = 0
          · rw [getElem?_neg es _ (by omega)]
            exact q
          · obtain ⟨pj, hpj⟩ : ∃ j, t.place = #[j] := Array.size_eq_one_iff.mp (by omega)
            have hsl : sl = pj + 1 := st4 pj (by omega) (by rw [hpj]; rfl)
            rw [hpj, hsl, below_one, if_pos (Nat.lt_succ_self _), getElem?_neg es _ (by omega)]
            exact q
      · obtain ⟨y, t', q1, q2⟩ := strsAre_at hss i e.2 (by rw [List.getElem?_map, Array.getElem?_toList, e1]; rfl)
        exact ⟨y, t', q1, by rw [e2, q2]⟩
end
end LmSet

set_option Elab.async false
set_option linter.all false
set_option maxRecDepth 100000
set_option maxHeartbeats 4000000
namespace LmSet
open PySem PyProof.Rows

/-! ## sorted of a set of texts, of a text -/
theorem items_strs {P : Nat → Value → Prop} {ys : List Str} (hP : ∀ i v, P i v → ∃ y t, ys[i]? = some y ∧ v = .str y t) {acc : Array Value} (h : ItemsOf P acc ys.length) : StrsAre acc.toList ys := by
  have key : ∀ (vs : List Value) (zs : List Str), vs.length = zs.length → (∀ (i : Nat) (v : Value), vs[i]? = some v → ∃ (y : Str) (t : Tok), zs[i]? = some y ∧ v = Value.str y t) → StrsAre vs zs := by
    intro vs
    induction vs with
    | nil => intro zs hl _; cases zs with
      | nil => exact .nil
      | cons _ _ => simp at hl
    | cons v r ih =>
      intro zs hl hv
      cases zs with
      | nil => simp at hl
      | cons z zr =>
        obtain ⟨y, t, e1, e2⟩ := hv 0 v rfl
        have e1' : z = y := by simpa using e1
        rw [e2, e1']
        exact .cons y t (ih zr (by simpa using hl) fun i u hu => by simpa using hv (i + 1) u (by simpa using hu))
  refine key _ _ (by simpa using h.1) fun i v hv => hP i v (h.2 i v (by simpa using hv))

section
variable {prog : Program} {w : World} {A : Around} {E : Value → Shared → Prop} {s : Shared}
theorem collect_set {a : Addr} {ss : List Str} {Q : List Value → Shared → Prop} (hh : A.handled = none) (hS : SSet prog w s.heap a ss) (hn : ss.length ≤ sizeLine)
    (hQ : ∀ (s' : Shared) (vs : List Value) (ys : List Str), (∀ b o, s.heap.get? b = some o → s'.heap.get? b = some o) → s'.gens = s.gens → s'.os = s.os → StrsAre vs ys → ys.Perm ss → Q vs s') :
    wpAny (model prog w) A (collect (.ref a)) Q E s := by
  have halt : a < s.heap.objs.size := by obtain ⟨o, _, _, _, ho, _⟩ := hS; exact Heap.lt_size ho
  unfold collect
  refine wpAny_bind (wpAny_runValue (codeAny_builtin PySem.F.entry_proto_collect ?_))
  rw [Around.under_plainId PySem.F.plain_proto_collect _]
  show wpAny _ A.in1 (newList [] >>= fun l => again (.builtin "list.__iadd__" ⟨[l, .ref a], []⟩)) _ _ s
  refine wpAny_bind (wpAny_newObj_type ?_)
  refine wpAny_pure ⟨plainId_quiet PySem.F.plain_list_iadd _, codeAny_builtin PySem.F.entry_list_iadd ?_⟩
  rw [Around.under_plainId PySem.F.plain_list_iadd _]
  show wpAny _ A.in1 (Builtin.List.listExtendWith (.ref s.heap.objs.size) (.ref a) (.ref s.heap.objs.size)) _ _ _
  unfold Builtin.List.listExtendWith
  generalize hH : s.heap.push { cls := .type "list", data := .seq ([] : List Value).toArray } = H
  have keep : ∀ b o, s.heap.get? b = some o → H.get? b = some o := fun b o e => hH ▸ Heap.get?_push_of_some _ e
  have hHs : H.objs.size = s.heap.objs.size + 1 := by rw [← hH, Heap.size_push]
  have hSo : H.get? s.heap.objs.size = some { cls := .type "list", data := .seq ([] : List Value).toArray } := hH ▸ Heap.get?_push_size _ rfl
  have hS1 : SSet prog w H a ss := hS.mono fun o e => keep a o e
  have hty : Shared.TypeIs { s with heap := H } (.ref a) "set" := by
    obtain ⟨o, _, _, _, ho, hex, _⟩ := hS1
    exact ⟨o, ho, hex.1⟩
  refine wpAny_bind (wpAny_typeOf hty ?_)
  have h1 : Builtin.List.listSameRef (.ref s.heap.objs.size) (.ref a) = false := by simp [Builtin.List.listSameRef, Nat.ne_of_gt halt]
  have h2 : (Value.type "set" == Value.type "list") = false := by decide
  have h3 : (Value.type "set" == Value.type "tuple") = false := by decide
  simp only [h1, h2, h3, Bool.or_false, Bool.false_eq_true, if_false]
  refine wpAny_bind (iter_set (s := { s with heap := H }) hS1 fun I h' d fp ys P St hI keep' hIlt hys hfp W hP hst => ?_)
  refine wpAny_bind (wpAny_holding ?_)
  have hty2 : Shared.TypeIs { s with heap := h', drawn := d } (.ref a) "set" := by
    obtain ⟨o, ho, hc⟩ := hty
    exact ⟨o, keep' a o ho, hc⟩
  unfold Builtin.List.listLengthHint
  refine wpAny_bind (wpAny_specialOf hty2 set_len ?_)
  wp_delta
  refine wpAny_bind (wpAny_isInstance (T := "set") (b := true) hty2 (by rw [isSubtype_type]; kernel_rfl) ?_)
  show wpAny _ A.in1 (typeOf (Value.ref a) >>= _) _ _ _
  refine wpAny_bind (wpAny_typeOf hty2 ?_)
  refine wpAny_pure ?_
  rw [if_pos (by decide)]
  have hSf : s.heap.objs.size ∉ fp := fun hm => by
    rcases hfp _ hm with z | z
    · exact absurd halt (by rw [← z]; exact Nat.lt_irrefl _)
    · have := z.1
      show False
      have z1 : H.objs.size ≤ s.heap.objs.size := z.1
      rw [hHs] at z1
      exact absurd z1 (Nat.not_succ_le_self _)
  have hyl : ys.length = ss.length := hys.length_eq
  refine wpAny_bind (wpAny_rule ?_)
  have hS₁ := keep' _ _ hSo
  refine wpAny_bind ?_
  show wpAny _ A.in1 (updateSeq s.heap.objs.size (·.push .none) >>= fun _ => updateSeq s.heap.objs.size (·.pop)) _ _ _
  refine wpAny_bind (wpAny_updateSeq hS₁ rfl ?_)
  have hS₂ := Heap.get?_update_self (Obj.mapSeq (·.push Value.none)) hS₁ rfl
  refine wpAny_updateSeq hS₂ rfl ?_
  have hS₃ := Heap.get?_update_self (Obj.mapSeq (·.pop)) hS₂ rfl
  have oth : ∀ b o, b ≠ s.heap.objs.size → h'.get? b = some o → ((h'.update s.heap.objs.size (Obj.mapSeq (·.push Value.none))).update s.heap.objs.size (Obj.mapSeq (·.pop))).get? b = some o :=
    fun b o hb e => (Heap.get?_update_other _ _ (Ne.symm hb)).trans ((Heap.get?_update_other _ _ (Ne.symm hb)).trans e)
  have W0 := W A.in1 (by simp [hh])
  refine wpAny_pure ⟨plainId_quiet PySem.F.plain_extend_loop _, codeAny_extend_loopS W0.toS (by omega) _ hSf _ ys.length 0 _ _ _ rfl (Nat.zero_le _) (W0.frame 0 h' _ hst fun b hb o e => oth b o (fun z => hSf (z ▸ hb)) e) hS₃ (ItemsOf.nil _) fun s' acc' c' hm hS' hacc => ?_⟩
  show wpAny _ A (load s.heap.objs.size >>= _) _ _ s'
  refine wpAny_bind (wpAny_load hS' ?_)
  refine wpAny_pure (hQ s' acc'.toList ys (fun b ob e => hm.heap b ob (fun hb => ?_) (oth b ob (Nat.ne_of_lt (Heap.lt_size e)) (keep' b ob (keep b ob e)))) hm.gens hm.os (items_strs hP hacc) hys)
  have hlt := Heap.lt_size e
  rcases List.mem_cons.mp hb with z | z
  · exact absurd hlt (z ▸ Nat.lt_irrefl _)
  · have z' : b = I := by simpa using z
    have : H.objs.size ≤ I := hI
    rw [z'] at hlt
    rw [hHs] at this
    exact absurd hlt (Nat.not_lt.mpr (Nat.le_trans (Nat.le_succ _) this))

end
end LmSet

set_option Elab.async false
set_option linter.all false
set_option maxRecDepth 100000
set_option maxHeartbeats 4000000
namespace L2
open PySem PySem.Spec PyProof.Rows

section
variable {X : Cx} {a b e : Expr} {ta tb te : TE} {pos p p2 : Pos}
/-- all objects kept, nothing else told -/
theorem Inv.keptS {pins : List (Addr × Obj)} {σ : St} {H : Hp} {s s' : Shared} (I : Inv X pins σ H s) (k : ∀ b o, s.heap.get? b = some o → s'.heap.get? b = some o) (g : s'.gens = s.gens) (o : s'.os = s.os) : Inv X pins σ H s' :=
  I.call' (ch := []) o (Un.kept k) (I.hok.kept k) (by rw [g]; exact I.bare) fun b hb => (nomatch hb)
/-- a new object, above all that stands -/
theorem Inv.newAt {pins : List (Addr × Obj)} {σ : St} {H : Hp} {s : Shared} (I : Inv X pins σ H s) {D : Addr} (h : ∀ b o, s.heap.get? b = some o → b < D) : NewC X pins H D := by
  obtain ⟨m, ⟨oL, es, ep, hoL, _⟩, _⟩ := id I.loc
  have hL := h _ _ hoL
  refine ⟨?_, Nat.ne_of_gt hL, Nat.le_trans I.ok.above (Nat.le_of_lt hL), fun x c e => ?_, fun p hp => Nat.ne_of_lt (h _ _ (I.pin p hp).1)⟩
  · cases q : H D with
    | none => rfl
    | some u =>
      have no : ∀ o, s.heap.get? D ≠ some o := fun o e => absurd (h D o e) (Nat.lt_irrefl _)
      have x := I.hok D u q
      cases u with
      | lst xs => obtain ⟨_, _, _, _, e⟩ := x; exact absurd e (no _)
      | tup xs => obtain ⟨_, _, _, o, e, _⟩ := x; exact absurd e (no _)
      | dK kvs => obtain ⟨_, _, _, _, o, _, _, e, _⟩ := x; exact absurd e (no _)
      | dT kvs => obtain ⟨_, _, _, _, o, _, _, e, _⟩ := x; exact absurd e (no _)
      | set S n => obtain ⟨o, _, _, _, e, _⟩ := x; exact absurd e (no _)
      | ins C dx fs => obtain ⟨_, _, _, e, _⟩ := x; exact absurd e (no _)
      | own y => obtain ⟨_, e⟩ := x; exact absurd e (no _)
      | xd fs => obtain ⟨_, ⟨_, _, _, e, _⟩, _⟩ := x; exact absurd e (no _)
      | rng lo hi => obtain ⟨_, _, _, e⟩ := x; exact absurd e (no _)
      | frz ob u => obtain ⟨e, _⟩ := x; exact absurd e (no _)
      | tbl ps => exact absurd (show s.heap.get? D = some _ from x) (no _)
      | met f y => exact absurd (show s.heap.get? D = some _ from x) (no _)
      | ext φ => obtain ⟨_, ⟨_, e⟩, _⟩ := x; exact absurd e (no _)
  · obtain ⟨v, o, ho, _⟩ := I.cell x c e
    exact Nat.ne_of_lt (h _ _ ho)

/-- isinstance(e, T), T a built-in class -/
theorem call_isinst : CallR X (.builtin "isinstance") (fun xs H Q => ∃ x n t b, xs = [x, .ty n] ∧ TyOf X.K H x t ∧ PySem.W.kitOne X.K t (.type n) = some b ∧ Q (.bl b) H) := by
  intro pins s σ H xs us Q I r h
  obtain ⟨x, n, t, b, rfl, ty, k, q⟩ := h
  obtain ⟨u, w', rfl, r1, r2⟩ := vals2 r
  cases r2
  exact isinst_ok I r1 ty k fun tk => ⟨.bl b, H, I.tok _, rfl, q⟩
theorem pe_isinst {T : Str} {n : String} (hm : X.mg "isinstance" = none) (hmT : X.mg T = none) (hvT : bootBuiltins T = some (.type n)) (he : PE X e te) (hg : Gl X "isinstance" := by rfl) (hgT : Gl X T := by rfl)
    (hn : T ≠ "__name__" := by decide) (hd : (T == ("__debug__" : Str)) = false := by decide) (hs : starEach [e, .Name T p2] X.env = (false, eval e X.env) :: starEach [.Name T p2] X.env := by rfl) :
    PE X (.Call (.Name "isinstance" p) [e, .Name T p2] [] pos) (tCB (fun xs H Q => ∃ x n t b, xs = [x, .ty n] ∧ TyOf X.K H x t ∧ PySem.W.kitOne X.K t (.type n) = some b ∧ Q (.bl b) H) (tCons te (tCons (tC (.ty n)) tNil))) :=
  pe_callB call_isinst hg hm boot_isinstance (pa_cons he (pa_cons (pe_bltn hgT hmT hvT (v := .ty n) rfl hn hd) pa_nil) hs) (he := hs)

/-- s * n -/
theorem op_mul_str : OpR X (binaryOp .Mult) (fun x y H Q => ∃ i k, x = .str i ∧ y = .int k ∧ 0 ≤ k ∧ k < 2 ^ 20 ∧ i.length * k.toNat ≤ sizeLine ∧ Q (.str (Txt.mul i k)) H) := by
  intro pins s σ H x y v u Q I rx ry h
  obtain ⟨i, k, rfl, rfl, h0, h1, hl, q⟩ := h
  obtain ⟨t, rfl⟩ := rx
  obtain ⟨t', rfl⟩ := ry
  have hs : sizeLine = 16777216 := sizeLine_eq
  refine SB.mul ⟨?_, fun hn _ => ?_, fun hn _ => ?_⟩ fun t' k' => ⟨.str _, H, I.tok _, ⟨_, rfl⟩, q⟩
  · simp; omega
  · have hk : 0 < k.toNat := by omega
    have hl2 : i.length ≤ 16777216 := by
      refine Nat.le_trans ?_ (Nat.le_trans hl (Nat.le_of_eq hs))
      exact Nat.le_mul_of_pos_right _ hk
    have : (16777216 : Int) ≤ (2 ^ 63 - 1) / k := by
      rw [Int.le_ediv_iff_mul_le (by omega)]
      omega
    omega
  · unfold Builtin.Str.tooLong
    simp
    omega

/-! ### sets of texts -/
abbrev SetO (X : Cx) (p : Addr) (ss : List Str) : HO := .ext fun h => LmSet.SSet X.prog X.w h p ss
theorem setO_ok {H : Hp} {h : Heap} {p : Addr} {ss : List Str} (S : LmSet.SSet X.prog X.w h p ss) : ObjOk X.prog X.w H h p (SetO X p ss) :=
  ⟨S, let ⟨o, _, _, _, e, _⟩ := S; ⟨o, e⟩, fun h1 h2 q k => q.mono k⟩
theorem vals_strs : ∀ {ss : List Str} {us : List Value}, StrsAre us ss → Vals (ss.map V.str) us
  | _, _, .nil => .nil
  | _, _, .cons y t r => .cons ⟨t, rfl⟩ (vals_strs r)
end
end L2

set_option Elab.async false
set_option linter.all false
set_option maxRecDepth 100000
set_option maxHeartbeats 4000000
namespace LmSort
open PySem PySem.W PyProof.Rows

section
variable {prog : Program} {w : World} {A : Around} {E : Value → Shared → Prop} {s : Shared}

end
end LmSort

set_option Elab.async false
set_option linter.all false
set_option maxRecDepth 100000
set_option maxHeartbeats 4000000
namespace L2
open PySem PySem.Spec PyProof.Rows

/-! ## readings in short -/
/-- a def of the text as a callee -/
structure Fn (K : PySem.W.Frag) (mg : Str → Option Value) (x : Str) (f : Addr) (fd : FuncData) (ps : List Str) : Prop where
  m : mg x = some (.ref f)
  k : PySem.W.keepIn K (.ref f) = true
  b : Binds K fd ps []

/-- the walk of a comprehension over a list that stays -/
def CW (n : Nat) (Pv : Nat → List V → St → Hp → Prop) (i m : Nat) (out : List V) (σ : St) (H : Hp) : Prop := m = n - i ∧ i ≤ n ∧ Pv i out σ H
theorem CW.next {n : Nat} {Pv : Nat → List V → St → Hp → Prop} {i : Nat} {out : List V} {σ : St} {H : Hp} (hi : i < n) (h : Pv (i + 1) out σ H) : ∃ m', m' < n - i ∧ CW n Pv (i + 1) m' out σ H := ⟨n - (i + 1), by omega, rfl, hi, h⟩
theorem comp_list {K : PySem.W.Frag} {a : Addr} {xs : List V} {own : List Str} {cap : List (Str × Nat)} {g : TG} {ti : TT} {te : TE} {σ : St} {H : Hp} {Q : VK} (Pv : Nat → List V → St → Hp → Prop) (h0 : Pv 0 [] (capSt own cap σ) H)
    (hl : ∀ i out σ H, i ≤ xs.length → Pv i out σ H → SqL K H a xs)
    (hs : ∀ i x out σ' H', i < xs.length → xs[i]? = some x → Pv i out σ' H' → g x σ' H' fun σ3 H3 => ti σ3 H3 fun b H4 => if b = true then te σ3 H4 (fun y H5 => out.length < sizeLine ∧ ∃ m', m' < xs.length - i ∧ CW xs.length Pv (i + 1) m' (out ++ [y]) σ3 H5) else ∃ m', m' < xs.length - i ∧ CW xs.length Pv (i + 1) m' out σ3 H4)
    (hd : ∀ out σ' H', Pv xs.length out σ' H' → ∀ p, H' p = none → Q (.ref p) (upd H' p (.lst out))) :
    ∃ W : Nat → Nat → List V → St → Hp → Prop, (∃ m, W 0 m [] (capSt own cap σ) H) ∧
      ∀ i m out σ' H', W i m out σ' H' → ((Itl K a).stop i H' ∧ ∀ p, H' p = none → Q (.ref p) (upd H' p (.lst out))) ∨ ((Itl K a).go i H' ∧ ∀ x H2, (Itl K a).yld i H' x H2 → g x σ' H2 fun σ3 H3 => ti σ3 H3 fun b H4 =>
        if b = true then te σ3 H4 (fun y H5 => out.length < sizeLine ∧ ∃ m', m' < m ∧ W (i + 1) m' (out ++ [y]) σ3 H5) else ∃ m', m' < m ∧ W (i + 1) m' out σ3 H4) := by
  refine ⟨CW xs.length Pv, ⟨xs.length, by simp, Nat.zero_le _, h0⟩, ?_⟩
  rintro i m out σ' H' ⟨rfl, hi, p⟩
  have q := hl i out σ' H' hi p
  by_cases hlt : i < xs.length
  · refine .inr ⟨⟨xs, xs[i], q, by simp [hlt]⟩, fun x H2 y => ?_⟩
    obtain ⟨e, y⟩ := y
    subst e
    exact hs i x out σ' _ hlt (y xs q) p
  · have e : i = xs.length := by omega
    subst e
    exact .inl ⟨⟨xs, q, Nat.le_refl _⟩, hd out σ' H' p⟩

theorem same_new {H : Hp} {p : Addr} (h : H p = none) (o : HO) : Same H (upd H p o) := fun b u q => by rw [upd_ne (ne_of_none q h)]; exact q
theorem small {n : Nat} (h : n ≤ 1000000) : n ≤ sizeLine := by rw [sizeLine_eq]; omega
theorem smallL {n : Nat} (h : n ≤ 1000000) : n < sizeLine := by rw [sizeLine_eq]; omega
end L2

set_option Elab.async false
set_option linter.all false
set_option maxRecDepth 100000
set_option maxHeartbeats 4000000
namespace L2
open PySem PySem.Spec PyProof.Rows PySem.W PySem.SeqAt

/-! ## sorted of pairs (a number, a text) -/
def kltB (a b : Int × Str) : Bool := if a.1 = b.1 then decide (a.2.cps.toList < b.2.cps.toList) else decide (a.1 < b.1)
theorem str_inj {x y : Str} (h : x.cps.toList = y.cps.toList) : x = y := by
  cases x; cases y
  simp only [Str.mk.injEq]
  exact Array.toList_inj.mp h
theorem klt_ord {ks : List (Int × Str)} (nd : (ks.map (·.2)).Nodup) : LmSort.Ord ks.length (fun i j => kltB (ks.getD i (0, Str.empty)) (ks.getD j (0, Str.empty))) := by
  refine ⟨fun i => ?_, fun i j k _ _ _ h1 h2 => ?_, fun i j hi hj hne h => ?_⟩
  · unfold kltB
    rw [if_pos rfl]
    exact decide_eq_false (List.lt_irrefl _)
  · unfold kltB at *
    generalize ks.getD i (0, Str.empty) = a at *
    generalize ks.getD j (0, Str.empty) = b at *
    generalize ks.getD k (0, Str.empty) = c at *
    by_cases e1 : a.1 = b.1
    · rw [if_pos e1] at h1
      by_cases e2 : b.1 = c.1
      · rw [if_pos e2] at h2
        rw [if_pos (e1.trans e2)]
        exact decide_eq_true (List.lt_trans (of_decide_eq_true h1) (of_decide_eq_true h2))
      · rw [if_neg e2] at h2
        have := of_decide_eq_true h2
        rw [if_neg (by omega)]
        exact decide_eq_true (by omega)
    · rw [if_neg e1] at h1
      have h1' := of_decide_eq_true h1
      by_cases e2 : b.1 = c.1
      · rw [if_neg (by omega)]
        exact decide_eq_true (by omega)
      · rw [if_neg e2] at h2
        have := of_decide_eq_true h2
        rw [if_neg (by omega)]
        exact decide_eq_true (by omega)
  · have hij : (ks.getD i (0, Str.empty)).2 ≠ (ks.getD j (0, Str.empty)).2 := by
      have ei : ks.getD i (0, Str.empty) = ks[i] := by simp [hi]
      have ej : ks.getD j (0, Str.empty) = ks[j] := by simp [hj]
      rw [ei, ej]
      intro e
      have e' : (ks.map (·.2))[i]'(by simpa using hi) = (ks.map (·.2))[j]'(by simpa using hj) := by simpa using e
      exact hne ((List.getElem_inj nd).mp e')
    unfold kltB at *
    generalize ks.getD i (0, Str.empty) = a at *
    generalize ks.getD j (0, Str.empty) = b at *
    by_cases e1 : a.1 = b.1
    · rw [if_pos e1] at h
      rw [if_pos e1.symm]
      have h' := of_decide_eq_false h
      refine decide_eq_true ?_
      by_cases z : b.2.cps.toList < a.2.cps.toList
      · exact z
      · exact absurd (str_inj (List.le_antisymm (List.not_lt.mp z) (List.not_lt.mp h'))) hij
    · rw [if_neg e1] at h
      have h' := of_decide_eq_false h
      rw [if_neg (fun z => e1 z.symm)]
      exact decide_eq_true (by omega)

section
variable {X : Cx}
/-- the pair at a value -/
def PairAt (K : PySem.W.Frag) (H : Hp) (v : V) (k : Int × Str) : Prop := ∃ a, v = .ref a ∧ SqT K H a [.int k.1, .str k.2]
theorem pair_lt {prog : Program} {w : World} {A : Around} {s : Shared} {a b : Addr} {x y : Int × Str} {t1 u1 t2 u2 : Tok} {C : Bool → Shared → Prop} (ha : IsTup s.heap a #[.int x.1 t1, .str x.2 u1]) (hb : IsTup s.heap b #[.int y.1 t2, .str y.2 u2]) (h : C (kltB x y) s) :
    wpAny (model prog w) A (keyLt' (tuples' true) (.ref a) (.ref b)) C (fun _ _ => False) s := by
  obtain ⟨oa, hoa, _, na, da⟩ := ha
  obtain ⟨ob, hob, _, nb, db⟩ := hb
  refine kat_lt hoa da hob db ?_
  show KatLex prog w A true (decide (2 < 2)) C [(.int x.1 t1, .int y.1 t2), (.str x.2 u1, .str y.2 u2)] 0 s
  refine kat_cons ?_
  have eqI : SeqAt.EqAt A s (.int x.1 t1) (.int y.1 t2) (eqV (.int x.1) (.int y.1)) := eqAt_V ⟨_, rfl⟩ ⟨_, rfl⟩ rfl rfl
  refine eqI prog w _ _ ?_
  unfold kltB at h
  by_cases e1 : x.1 = y.1
  · rw [if_pos e1] at h
    have : eqV (.int x.1) (.int y.1) = true := by rw [e1]; simp [eqV]
    rw [this]
    refine kat_yes (kat_cons ?_)
    have eqS : SeqAt.EqAt A s (.str x.2 u1) (.str y.2 u2) (eqV (.str x.2) (.str y.2)) := eqAt_V ⟨_, rfl⟩ ⟨_, rfl⟩ rfl rfl
    refine eqS prog w _ _ ?_
    by_cases e2 : x.2 = y.2
    · have : eqV (.str x.2) (.str y.2) = true := by rw [e2]; simp [eqV]
      rw [this]
      rw [e2, decide_eq_false (List.lt_irrefl _)] at h
      exact kat_yes (kat_nil h)
    · have : eqV (.str x.2) (.str y.2) = false := by simp [eqV, e2]
      rw [this]
      exact kat_no (kat_one _ _ (PySem.P.lt_str h))
  · rw [if_neg e1] at h
    have : eqV (.int x.1) (.int y.1) = false := by simp [eqV, e1]
    rw [this]
    exact kat_no (oneLt_int h)

/-! ## lists and tuples -/
/-- xs + ys, xs a list that is read -/
def rCatS (K : PySem.W.Frag) : R2 := fun x y H Q => ∃ l b xs zs, x = .ref l ∧ y = .ref b ∧ SqL K H l xs ∧ SqL K H b zs ∧ xs.length + zs.length ≤ sizeLine ∧ ∀ p, H p = none → Q (.ref p) (upd H p (.lst (xs ++ zs)))
theorem op_catS : OpR X (binaryOp .Add) (rCatS X.K) := by
  intro pins s σ H x y v u Q I rx ry h
  obtain ⟨l, b, xs, zs, rfl, rfl, hH, hB, hz, q⟩ := h
  cases rx
  cases ry
  obtain ⟨its, r, pl, hz1⟩ := I.list hH
  obtain ⟨its2, r2, pl2, hz2⟩ := I.list hB
  have l1 := r.length
  have l2 := r2.length
  obtain ⟨⟨cls, dd, data, sl⟩, ho, hc, n, hd⟩ := id pl.isList
  obtain ⟨⟨cls2, dd2, data2, sl2⟩, ho2, hc2, n2, hd2⟩ := id pl2.isList
  simp only at hc hd hc2 hd2
  subst hc hd hc2 hd2
  have e : its.toArray ++ its2.toArray = (its ++ its2).toArray := by simp
  refine concat_meets ⟨_, ho, rfl⟩ ⟨_, ho2, rfl⟩ noFill_list_add seq_list_add PySem.F.slot_list_add PySem.F.entry_list_add (PySem.F.args_list_add_2 _ _) (list_addW l b its.toArray its2.toArray n n2 dd dd2 sl sl2 (by simp; omega)) ⟨ho, ho2, ?_⟩
  rw [e]
  exact ⟨.ref _, _, I.lnew (t' := s.toks) (r.append r2) (by rw [List.length_append]; omega), rfl, q _ I.fresh⟩

/-! ## data, at any depth -/
mutual
inductive RdD (K : PySem.W.Frag) (H : Hp) : V → PyData → Prop
  | non : RdD K H .non .none
  | bl (b : Bool) : RdD K H (.bl b) (.bool b)
  | int (i : Int) : RdD K H (.int i) (.int i)
  | str (x : Str) : RdD K H (.str x) (.str x)
  | lst {a : Addr} {xs : List V} {ds : List PyData} : SqL K H a xs → RdAll K H xs ds → RdD K H (.ref a) (.list ds)
  | tup {a : Addr} {xs : List V} {ds : List PyData} : SqT K H a xs → RdAll K H xs ds → RdD K H (.ref a) (.tuple ds)
inductive RdAll (K : PySem.W.Frag) (H : Hp) : List V → List PyData → Prop
  | nil : RdAll K H [] []
  | cons {x : V} {xs : List V} {d : PyData} {ds : List PyData} : RdD K H x d → RdAll K H xs ds → RdAll K H (x :: xs) (d :: ds)
end
mutual
theorem RdD.reads {pins : List (Addr × Obj)} {σ : St} {H : Hp} {s : Shared} (I : Inv X pins σ H s) : ∀ {x : V} {d : PyData} {u : Value}, RdD X.K H x d → RelV x u → ∃ as, Reads s.heap u d as
  | _, _, _, .non, r => by cases r; exact ⟨_, .none⟩
  | _, _, _, .bl b, r => by cases r; exact ⟨_, .bool b⟩
  | _, _, _, .int i, r => by obtain ⟨t, rfl⟩ := r; exact ⟨_, .int i t⟩
  | _, _, _, .str x, r => by obtain ⟨t, rfl⟩ := r; exact ⟨_, .str x t⟩
  | _, _, _, .lst sq al, r => by
    cases r
    obtain ⟨its, rv, pl, _⟩ := I.list sq
    obtain ⟨as, ra⟩ := RdAll.reads I al rv
    obtain ⟨o, ho, hc, n, hd⟩ := pl.isList
    exact ⟨_, .list ho hc hd (by simpa using ra)⟩
  | _, _, _, .tup sq al, r => by
    cases r
    obtain ⟨its, rv, ⟨o, ho, hc, n, hd⟩, _⟩ := I.tuple sq
    obtain ⟨as, ra⟩ := RdAll.reads I al rv
    exact ⟨_, .tuple ho hc hd (by simpa using ra)⟩
theorem RdAll.reads {pins : List (Addr × Obj)} {σ : St} {H : Hp} {s : Shared} (I : Inv X pins σ H s) : ∀ {xs : List V} {ds : List PyData} {us : List Value}, RdAll X.K H xs ds → Vals xs us → ∃ as, ReadsAll s.heap us ds as
  | _, _, _, .nil, r => by cases r; exact ⟨_, .nil⟩
  | _, _, _, .cons h1 h2, r => by
    cases r with
    | cons r1 r2 =>
      obtain ⟨as, a⟩ := RdD.reads I h1 r1
      obtain ⟨bs, b⟩ := RdAll.reads I h2 r2
      exact ⟨_, .cons a b⟩
end
def rEqD (K : PySem.W.Frag) : R2 := fun x y H Q => ∃ da db, RdD K H x da ∧ RdD K H y db ∧ shaped da = true ∧ shaped db = true ∧ noMix da db = true ∧ Q (.bl (same da db)) H
def rNeD (K : PySem.W.Frag) : R2 := fun x y H Q => ∃ da db, RdD K H x da ∧ RdD K H y db ∧ shaped da = true ∧ shaped db = true ∧ noMix da db = true ∧ Q (.bl (!same da db)) H
theorem op_eqD (hu : X.A.units + 64 < cLine) : OpR X (compareOp .Eq) (rEqD X.K) := by
  intro pins s σ H x y v u Q I rx ry h
  obtain ⟨da, db, ha, hb, h1, h2, h3, q⟩ := h
  obtain ⟨as, ra⟩ := ha.reads I rx
  obtain ⟨bs, rb⟩ := hb.reads I ry
  exact eq_dataH_same ra rb h1 h2 hu h3 ⟨.bl _, H, I, rfl, q⟩
theorem op_neD (hu : X.A.units + 64 < cLine) : OpR X (compareOp .NotEq) (rNeD X.K) := by
  intro pins s σ H x y v u Q I rx ry h
  obtain ⟨da, db, ha, hb, h1, h2, h3, q⟩ := h
  obtain ⟨as, ra⟩ := ha.reads I rx
  obtain ⟨bs, rb⟩ := hb.reads I ry
  exact ne_dataH_same ra rb h1 h2 hu h3 ⟨.bl _, H, I, rfl, q⟩

/-! ## texts -/
theorem lt1 (a b : Nat) : ([a] < [b]) ↔ a < b := by
  constructor
  · intro z
    cases z with
    | rel q => exact q
    | cons q => cases q
  · exact fun h => List.Lex.rel h
/-- x[lo:hi] -/
theorem sl_str : SlR X (fun x lo hi H Q => ∃ i : Str, x = .str i ∧ i.length ≤ sizeLine ∧ Q (.str (Txt.slice i lo hi)) H) := by
  intro pins s σ H x v vl vu lo hi sl Q I rx hs pl pu h
  obtain ⟨i, rfl, hz, q⟩ := h
  obtain ⟨t, rfl⟩ := rx
  refine ⟨"str", _, PySem.F.slot_str_getitem.lookup, typeIs_str _ _ _, ?_⟩
  obtain ⟨o, ho, hc, hd⟩ := hs
  have fin : ∀ t' k, EP X pins σ Q (.str (Txt.slice i lo hi) t') { s with toks := k } := fun t' k => ⟨.str _, H, I.tok _, ⟨_, rfl⟩, q⟩
  cases pl with
  | none =>
    cases pu with
    | none => exact wpAny_getItem_str_slice (l := none) (u := none) (st := none) ⟨o, ho, hc, hd⟩ rfl (post_val_or_str ⟨Nat.le_trans (Txt.slice_le i _ _) hz, fin⟩)
    | int j uj => exact wpAny_getItem_str_slice (l := none) (u := some (j, uj)) (st := none) ⟨o, ho, hc, hd⟩ rfl (post_val_or_str ⟨Nat.le_trans (Txt.slice_le i _ _) hz, fin⟩)
  | int k uk =>
    cases pu with
    | none => exact wpAny_getItem_str_slice (l := some (k, uk)) (u := none) (st := none) ⟨o, ho, hc, hd⟩ rfl (post_val_or_str ⟨Nat.le_trans (Txt.slice_le i _ _) hz, fin⟩)
    | int j uj => exact wpAny_getItem_str_slice (l := some (k, uk)) (u := some (j, uj)) (st := none) ⟨o, ho, hc, hd⟩ rfl (post_val_or_str ⟨Nat.le_trans (Txt.slice_le i _ _) hz, fin⟩)
end
end L2

set_option Elab.async false
set_option linter.all false
set_option maxRecDepth 100000
set_option maxHeartbeats 4000000
namespace LmSort
open PySem PySem.W PyProof.Rows

section
variable {prog : Program} {w : World} {A : Around} {E : Value → Shared → Prop} {s : Shared}
theorem zip_range (vs : List Value) : vs.toArray.zip vs.toArray = LmMg.L (kas_item (vs.toArray.zip vs.toArray)) (List.range vs.length) := by
  apply Array.ext_getElem?
  intro i
  rw [LmMg.L_get]
  by_cases h : i < vs.length
  · rw [List.getElem?_range h]
    show _ = some (kas_item _ i)
    rw [kat_item rfl]
    simp [h]
  · rw [List.getElem?_eq_none (by simpa using h)]
    simp at h
    simp [h]
/-- the runs of at most 64 things, by questions that change nothing -/
theorem runs_le {vs : List Value} {κ : SortKind} {lt : Nat → Nat → Bool} (h2 : 2 ≤ vs.length) (h64 : vs.length ≤ 64)
    (hc : ∀ i j, i < vs.length → j < vs.length → ∀ C : Bool → Shared → Prop, C (lt i j) s → wpAny (model prog w) A (keyLt' κ (vs.getD i .none) (vs.getD j .none)) C (fun _ _ => False) s)
    (O : Ord vs.length lt) :
    wpAny (model prog w) A ((sortRuns').run (SortSt.mk' κ (vs.toArray.zip vs.toArray) #[] 7 none)) (fun r s' => ∃ p : Array Nat, arrOf r.2 = p.map (kas_item (vs.toArray.zip vs.toArray)) ∧ failedOf r.2 = none ∧ Pm vs.length p ∧ Up lt p vs.length ∧ s' = s) E s := by
  rcases Nat.lt_or_ge vs.length 64 with h | h
  · have wp : (kas_sort vs.length).kasWp (kas_ask prog w A κ vs) (fun p s'' => Pm vs.length p ∧ Up lt p vs.length ∧ s'' = s) s := by
      refine wp_of_run (lt := lt) (n := vs.length) (P := fun s'' => s'' = s) (fun i j C s' hi hj e hC => ?_) _ _ _ (sort_in h2) rfl fun s' e => ?_
      · subst e
        exact hc i j hi hj C (hC _ rfl)
      · obtain ⟨q1, q2⟩ := sort_run O h2
        exact ⟨q1, q2, e⟩
    exact kat_run (Q := fun st' s' => ∃ p : Array Nat, arrOf st' = p.map (kas_item (vs.toArray.zip vs.toArray)) ∧ failedOf st' = none ∧ Pm vs.length p ∧ Up lt p vs.length ∧ s' = s)
      rfl h2 h (fun p' st' s' a1 a2 a3 a4 => ⟨p', a2, a3, a4⟩) wp
  · have e : vs.length = 64 := by omega
    have hA : LmMg.Ans prog w A s κ (kas_item (vs.toArray.zip vs.toArray)) 64 lt := fun i j hi hj C hC => by
      rw [kat_item rfl, kat_item rfl]
      exact hc i j (by omega) (by omega) C hC
    have O' : Ord 64 lt := e ▸ O
    have run := LmMg.runs64 (E := E) (g := 7) hA O' (List.Perm.refl _) (Q := fun _ st' => ∃ p : Array Nat, arrOf st' = p.map (kas_item (vs.toArray.zip vs.toArray)) ∧ failedOf st' = none ∧ Pm vs.length p ∧ Up lt p vs.length)
      fun z st' z1 z2 z3 z4 => ⟨z.toArray, by rw [z3, LmMg.L_arr], z4, ⟨by simpa [e] using z1.length_eq, by simpa [e] using z1⟩, fun a b hab hb => by
        have := LmMg.pw_getD z2 hab (by rw [z1.length_eq, List.length_range, ← e]; exact hb)
        simpa using this.2.2⟩
    unfold LmMg.S at run
    rw [← e, ← zip_range] at run
    exact wpAny_mono run (fun r s' q => by obtain ⟨rfl, p, q1, q2, q3, q4⟩ := q; exact ⟨p, q1, q2, q3, q4, rfl⟩) fun _ _ x => x
/-- list.sort by questions that change nothing -/
theorem list_sort_ask64 {a : Addr} {vs : List Value} {n : Nat} {κ : SortKind} {lt : Nat → Nat → Bool} {P : PySem.Fin → Shared → Prop} (ho : s.heap.get? a = some (seqObj "list" vs.toArray n)) (h64 : vs.length ≤ 64)
    (hk : 2 ≤ vs.length → ∀ s1 : Shared, (∀ b o, b ≠ a → s.heap.get? b = some o → s1.heap.get? b = some o) → wpAny (model prog w) A (keyKind' vs.toArray) (fun κ' s' => κ' = κ ∧ s' = s1) (fun _ _ => False) s1)
    (hc : ∀ s1 : Shared, (∀ b o, b ≠ a → s.heap.get? b = some o → s1.heap.get? b = some o) → ∀ i j, i < vs.length → j < vs.length → ∀ C : Bool → Shared → Prop, C (lt i j) s1 →
      wpAny (model prog w) A (keyLt' κ (vs.getD i .none) (vs.getD j .none)) C (fun _ _ => False) s1)
    (O : Ord vs.length lt)
    (h : ∀ p : Array Nat, Pm vs.length p → Up lt p vs.length → P (.done (.ret .none)) { s with heap := sortedHeap s.heap a vs (List.toArray (p.toList.map fun i => vs.getD i Value.none)) }) :
    wpAny (model prog w) A (Builtin.«list.sort» ⟨[.ref a], []⟩) P E s := by
  rw [list_sort_plain]
  have ha : a < s.heap.objs.size := Heap.lt_size ho
  refine wpAny_bind (listItems_at ho rfl ?_)
  refine wpAny_bind (listUpdate_at ho rfl ?_ (by rw [List.size_toArray, sizeLine_eq]; omega) (Nat.zero_le _))
  obtain ⟨e1, ho1⟩ : ∃ e1, (s.heap.update a (Obj.mapSeq fun _ => #[])).get? a = some (seqObj "list" #[] e1) := ⟨_, get?_update_seq ho (fun _ => #[])⟩
  refine wpAny_bind (seqEpoch_at ho1 rfl ?_)
  refine wpAny_bind (wpAny_newTuple ?_ (by show vs.length ≤ _; rw [sizeLine_eq]; omega))
  refine wpAny_bind (wpAny_newList ?_ (Nat.zero_le _))
  refine wpAny_holding ?_
  have ho6 : (((s.heap.update a (Obj.mapSeq fun _ => #[])).push (seqObj "tuple" vs.toArray 0)).push (seqObj "list" #[] 0)).get? a = some (seqObj "list" #[] e1) := by
    rw [Heap.get?_push_ne _ _ _ (by rw [size_push', Heap.size_update]; exact Nat.ne_of_lt (Nat.lt_succ_of_lt ha)), Heap.get?_push_ne _ _ _ (by rw [Heap.size_update]; exact Nat.ne_of_lt ha)]
    exact ho1
  have keep : ∀ b o, b ≠ a → s.heap.get? b = some o → (((s.heap.update a (Obj.mapSeq fun _ => #[])).push (seqObj "tuple" vs.toArray 0)).push (seqObj "list" #[] 0)).get? b = some o := fun b o hb e =>
    Heap.get?_push_of_some _ (Heap.get?_push_of_some _ ((Heap.get?_update_other _ _ (Ne.symm hb)).trans e))
  show wpAny (model prog w) A _ P E { s with heap := ((s.heap.update a (Obj.mapSeq fun _ => #[])).push (seqObj "tuple" vs.toArray 0)).push (seqObj "list" #[] 0) }
  dsimp only
  by_cases h2 : vs.toArray.size < 2
  · rw [if_pos h2, if_pos h2]
    refine wpAny_bind (wpAny_pure ?_)
    rw [StateT.run_pure]
    refine wpAny_bind (wpAny_pure ?_)
    dsimp only
    refine wpAny_bind (seqEpoch_at ho6 rfl ?_)
    refine wpAny_bind (listUpdate_at ho6 rfl ?_ (hsz2 := by rw [Array.size_map]; show (pairsOf vs).size ≤ _; rw [pairsOf_size, sizeLine_eq]; omega))
    simp only [bne_self_eq_false, Bool.false_eq_true, if_false]
    have hlen : vs.length < 2 := by simpa using h2
    have q := h (List.toArray (List.range vs.length)) pm_range fun a b h1 h3 => by omega
    have e : (vs.toArray.zip vs.toArray).map (·.2) = List.toArray ((List.toArray (List.range vs.length)).toList.map fun i => vs.getD i Value.none) := by
      match vs, hlen with
      | [], _ => simp
      | [v], _ => simp [List.range_succ]
    rw [← e] at q
    exact wpAny_pure q
  · rw [if_neg h2, if_neg h2]
    have h2' : 2 ≤ vs.length := by simpa using h2
    refine wpAny_bind (wpAny_mono (hk h2' { s with heap := ((s.heap.update a (Obj.mapSeq fun _ => #[])).push (seqObj "tuple" vs.toArray 0)).push (seqObj "list" #[] 0) } keep) (fun κ' s0 hκ => ?_) fun _ _ x => x.elim)
    obtain ⟨rfl, rfl⟩ := hκ
    refine wpAny_bind (wpAny_mono (runs_le (lt := lt) (s := { s with heap := ((s.heap.update a (Obj.mapSeq fun _ => #[])).push (seqObj "tuple" vs.toArray 0)).push (seqObj "list" #[] 0) }) h2' h64 (hc _ keep) O) ?_ fun _ _ e => e)
    rintro ⟨⟨⟩, st'⟩ s' ⟨p, har, hf, hp, hu, rfl⟩
    dsimp only
    have hout := kat_snds rfl har
    refine wpAny_bind (seqEpoch_at ho6 rfl ?_)
    rw [hout]
    refine wpAny_bind (listUpdate_at ho6 rfl ?_ (hsz2 := by rw [List.size_toArray, List.length_map, Array.length_toList, hp.size, sizeLine_eq]; omega))
    rw [hf]
    simp only [bne_self_eq_false, Bool.false_eq_true, if_false]
    exact wpAny_pure (h p hp hu)

/-- sorted(l) of a list, by questions that change nothing -/
theorem sorted_ask64 {l : Addr} {vs : List Value} {κ : SortKind} {lt : Nat → Nat → Bool} {Q : Value → Shared → Prop} (hl : s.heap.IsList l vs.toArray) (h64 : vs.length ≤ 64)
    (hk : 2 ≤ vs.length → ∀ s1 : Shared, (∀ b o, s.heap.get? b = some o → s1.heap.get? b = some o) → wpAny (model prog w) A.in1.in1 (keyKind' vs.toArray) (fun κ' s' => κ' = κ ∧ s' = s1) (fun _ _ => False) s1)
    (hc : ∀ s1 : Shared, (∀ b o, s.heap.get? b = some o → s1.heap.get? b = some o) → ∀ i j, i < vs.length → j < vs.length → ∀ C : Bool → Shared → Prop, C (lt i j) s1 →
      wpAny (model prog w) A.in1.in1 (keyLt' κ (vs.getD i .none) (vs.getD j .none)) C (fun _ _ => False) s1)
    (O : Ord vs.length lt)
    (h : ∀ p : Array Nat, Pm vs.length p → Up lt p vs.length → Q (.ref (s.heap.objs.size + 1)) { s with heap := sortedAll s.heap vs (List.toArray (p.toList.map fun i => vs.getD i Value.none)) }) :
    wpAny (model prog w) A (call (.builtin "sorted") [.ref l]) Q E s := by
  refine Calls.call_function_entry kind_sorted plain_sorted entry_sorted (args_sorted1 _) ?_
  unfold Builtin.«sorted»
  refine wpAny_bind (m := checkCount "sorted" 1 1 _) (wpAny_pure ?_)
  refine wpAny_bind (collect_list hl ?_ (by rw [sizeLine_eq]; omega))
  refine wpAny_bind (wpAny_newList ?_ (by rw [sizeLine_eq]; omega))
  have hsz : ((s.heap.push (seqObj "list" #[] 0)).update s.heap.objs.size (Obj.mapSeq (· ++ vs.toArray))).objs.size = s.heap.objs.size + 1 := by
    rw [Heap.size_update, size_push']
  have hoL : (((s.heap.push (seqObj "list" #[] 0)).update s.heap.objs.size (Obj.mapSeq (· ++ vs.toArray))).push (seqObj "list" vs.toArray 0)).get? (s.heap.objs.size + 1) = some (seqObj "list" vs.toArray 0) := by
    rw [← hsz]; exact Heap.get?_push_size _ rfl
  have keep : ∀ b o, s.heap.get? b = some o → (((s.heap.push (seqObj "list" #[] 0)).update s.heap.objs.size (Obj.mapSeq (· ++ vs.toArray))).push (seqObj "list" vs.toArray 0)).get? b = some o := fun b o q => by
    have hlt : b < s.heap.objs.size := Heap.lt_size q
    rw [Heap.get?_push_ne _ _ _ (by rw [hsz]; exact Nat.ne_of_lt (Nat.lt_succ_of_lt hlt)), Heap.get?_update_ne _ _ _ _ (Nat.ne_of_lt hlt), Heap.get?_push_ne _ _ _ (Nat.ne_of_lt hlt)]
    exact q
  show wpAny _ _ _ _ _ { s with heap := ((s.heap.push (seqObj "list" #[] 0)).update s.heap.objs.size (Obj.mapSeq (· ++ vs.toArray))).push (seqObj "list" vs.toArray 0) }
  rw [hsz]
  have up : ∀ s1 : Shared, (∀ b o, b ≠ s.heap.objs.size + 1 → (((s.heap.push (seqObj "list" #[] 0)).update s.heap.objs.size (Obj.mapSeq (· ++ vs.toArray))).push (seqObj "list" vs.toArray 0)).get? b = some o → s1.heap.get? b = some o) →
      ∀ b o, s.heap.get? b = some o → s1.heap.get? b = some o := fun s1 k b o e => k b o (Nat.ne_of_lt (Nat.lt_succ_of_lt (Heap.lt_size e))) (keep b o e)
  refine wpAny_bind (wpAny_holding (wpAny_call_entry slot_list_sort ⟨_, hoL, rfl⟩ entry_list_sort (list_sort_ask64 hoL h64 (fun h2 s1 k => hk h2 s1 (up s1 k)) (fun s1 k i j hi hj C q => hc s1 (up s1 k) i j hi hj C q) O fun p hp hu => ⟨_, rfl, ?_⟩) (args_list_sort _)))
  exact wpAny_pure ⟨_, rfl, h p hp hu⟩
theorem str_ord {ss : List Str} (nd : ss.Nodup) : Ord ss.length (fun i j => decide ((ss.getD i Str.empty).cps.toList < (ss.getD j Str.empty).cps.toList)) := by
  refine ⟨fun i => decide_eq_false (List.lt_irrefl _), fun i j k _ _ _ h1 h2 => decide_eq_true (List.lt_trans (of_decide_eq_true h1) (of_decide_eq_true h2)), fun i j hi hj hne h => ?_⟩
  have h' := of_decide_eq_false h
  refine decide_eq_true ?_
  by_cases z : (ss.getD j Str.empty).cps.toList < (ss.getD i Str.empty).cps.toList
  · exact z
  · have e := L2.str_inj (List.le_antisymm (List.not_lt.mp z) (List.not_lt.mp h'))
    have ei : ss.getD i Str.empty = ss[i] := by simp [hi]
    have ej : ss.getD j Str.empty = ss[j] := by simp [hj]
    rw [ei, ej] at e
    exact absurd ((List.getElem_inj nd).mp e) hne
theorem strs_getD {vs : List Value} {ss : List Str} (h : StrsAre vs ss) {i : Nat} (hi : i < vs.length) : ∃ t, vs.getD i .none = .str (ss.getD i Str.empty) t := by
  obtain ⟨y, t, e1, e2⟩ := LmSet.strsAre_at h i vs[i] (List.getElem?_eq_getElem hi)
  refine ⟨t, ?_⟩
  rw [List.getD_eq_getElem?_getD, List.getD_eq_getElem?_getD, e1, List.getElem?_eq_getElem hi]
  exact e2
theorem strs_of {vs : List Value} {ss : List Str} (h : StrsAre vs ss) : ∀ l : List Nat, (∀ i ∈ l, i < vs.length) → StrsAre (l.map fun i => vs.getD i Value.none) (l.map fun i => ss.getD i Str.empty)
  | [], _ => .nil
  | i :: l, hl => by
    obtain ⟨t, e⟩ := strs_getD h (hl i List.mem_cons_self)
    rw [List.map_cons, List.map_cons, e]
    exact .cons _ t (strs_of h l fun j hj => hl j (List.mem_cons_of_mem _ hj))
theorem map_range_getD (ss : List Str) : (List.range ss.length).map (fun i => ss.getD i Str.empty) = ss := by
  apply List.ext_getElem
  · simp
  · intro i h1 h2
    simp at h1
    simp [h1]
/-- a list of texts just made is sorted: at most 64, no two alike -/
theorem sort_made64 {D : Addr} {vs : List Value} {ss : List Str} {Q : Value → Shared → Prop} (ho : s.heap.get? D = some (seqObj "list" vs.toArray 0)) (hS : StrsAre vs ss) (nd : ss.Nodup) (h64 : vs.length ≤ 64)
    (h : ∀ (h' : Heap) (vs' : List Value) (ss' : List Str) (e : Nat), (∀ b o, b ≠ D → s.heap.get? b = some o → h'.get? b = some o) → h'.get? D = some (seqObj "list" vs'.toArray e) → StrsAre vs' ss' → ss'.Perm ss → sortedS ss' = true → Q .none { s with heap := h' }) :
    wpAny (model prog w) A (call (.builtin "list.sort") [.ref D]) Q E s := by
  have len := LmSet.strsAre_len hS
  refine wpAny_call_entry slot_list_sort ⟨_, ho, rfl⟩ entry_list_sort (list_sort_ask64 (κ := oneType') (lt := fun i j => decide ((ss.getD i Str.empty).cps.toList < (ss.getD j Str.empty).cps.toList)) ho h64 (fun h2 s1 _ => ?_) (fun s1 _ i j hi hj C hC => ?_) (by rw [len]; exact str_ord nd) fun p hp hu => ⟨_, rfl, ?_⟩) (args_list_sort _)
  · have kk : keyKind' vs.toArray = pure oneType' := by
      match vs, h2, hS with
      | v₁ :: v₂ :: rest, _, hS => exact keyKind_strs hS
    rw [kk]
    exact wpAny_pure ⟨rfl, rfl⟩
  · obtain ⟨t, e1⟩ := strs_getD hS hi
    obtain ⟨u, e2⟩ := strs_getD hS hj
    rw [e1, e2]
    exact kas_lt_str hC
  · have hin : ∀ i ∈ p.toList, i < vs.length := fun i hi => List.mem_range.mp (hp.perm.mem_iff.mp hi)
    obtain ⟨e, he⟩ := sortedHeap_at (vs := vs) (out := List.toArray (p.toList.map fun i => vs.getD i Value.none)) ho
    refine h _ (p.toList.map fun i => vs.getD i Value.none) (p.toList.map fun i => ss.getD i Str.empty) e (fun b o hb q => ?_) (by rw [he]) (strs_of hS _ hin) ?_ ?_
    · rw [sortedHeap_old hb (Heap.lt_size q)]
      exact q
    · have := hp.perm.map fun i => ss.getD i Str.empty
      rwa [len, map_range_getD] at this
    · apply sortedS_of_pairwise
      rw [List.pairwise_iff_getElem]
      intro i j hi hj hij
      have li : i < p.size := by simpa using hi
      have lj : j < p.size := by simpa using hj
      have r := of_decide_eq_true (hu i j hij (by rw [← hp.size]; exact lj))
      simp only [Array.getD, li, lj, dif_pos] at r
      rw [List.getElem_map, List.getElem_map, ltCps_eq]
      exact decide_eq_false (List.not_lt.mpr (List.le_of_lt r))
end
end LmSort
namespace LmSet
open PySem PyProof.Rows
section
variable {prog : Program} {w : World} {A : Around} {E : Value → Shared → Prop} {s : Shared}
theorem sorted_set64 {a : Addr} {ss : List Str} {Q : Value → Shared → Prop} (hh : A.handled = none) (hS : SSet prog w s.heap a ss) (h64 : ss.length ≤ 64)
    (h : ∀ (s' : Shared) (D : Addr) (vs : List Value) (ys : List Str) (e : Nat), (∀ b o, s.heap.get? b = some o → s'.heap.get? b = some o) → s'.gens = s.gens → s'.os = s.os → (∀ b o, s.heap.get? b = some o → b < D) → s'.heap.get? D = some (seqObj "list" vs.toArray e) → StrsAre vs ys → ys.Perm ss → sortedS ys = true → Q (.ref D) s') :
    wpAny (model prog w) A (call (.builtin "sorted") [.ref a]) Q E s := by
  have nd : ss.Nodup := by obtain ⟨_, _, _, _, _, _, _, _, _, _, nd, _⟩ := hS; exact nd
  refine Calls.call_function_entry kind_sorted plain_sorted entry_sorted (args_sorted1 _) ?_
  unfold Builtin.«sorted»
  refine wpAny_bind (m := checkCount "sorted" 1 1 _) (wpAny_pure ?_)
  refine wpAny_bind (collect_set (by simp [hh]) hS (by rw [sizeLine_eq]; omega) fun s1 vs ys keep g1 o1 hvs hys => ?_)
  have hvl : vs.length ≤ 64 := by rw [strsAre_len hvs, hys.length_eq]; exact h64
  refine wpAny_bind (wpAny_newList ?_ (by rw [sizeLine_eq]; omega))
  have hsz : ∀ b o, s.heap.get? b = some o → b < s1.heap.objs.size := fun b o q => Heap.lt_size (keep b o q)
  refine wpAny_bind (wpAny_holding (LmSort.sort_made64 (s := { s1 with heap := s1.heap.push (seqObj "list" vs.toArray 0) }) (Heap.get?_push_size _ rfl) hvs (hys.nodup_iff.mpr nd) hvl fun h' vs' ss' e k he q1 q2 q3 => ?_))
  refine wpAny_pure ⟨_, rfl, h _ s1.heap.objs.size vs' ss' e (fun b o q => ?_) g1 o1 hsz he q1 (q2.trans hys) q3⟩
  have q' := keep b o q
  exact k b o (Nat.ne_of_lt (Heap.lt_size q')) (Heap.get?_push_of_some _ q')

end
end LmSet
namespace L2
open PySem PySem.Spec PyProof.Rows PySem.W PySem.SeqAt
section
variable {X : Cx}
/-- sorted(set) -/
theorem call_sorted_set64 (hc : X.calm = true) : CallR X (.builtin "sorted") (fun xs H Q => ∃ p ss, xs = [.ref p] ∧ H p = some (SetO X p ss) ∧ ss.length ≤ 64 ∧ ∀ q ys, H q = none → ys.Perm ss → sortedS ys = true → Q (.ref q) (upd H q (.lst (ys.map V.str)))) := by
  intro pins s σ H xs us Q I r h
  obtain ⟨p, ss, rfl, hp, h64, q⟩ := h
  obtain ⟨u, rfl, ru⟩ := vals1 r
  cases ru
  obtain ⟨hS, _⟩ := I.hok p _ hp
  have hz : sizeLine = 16777216 := sizeLine_eq
  refine LmSet.sorted_set64 (I.ok.hd hc) hS h64 fun s' D vs ys e keep g o hD he hvs hys hso => ?_
  have I' := I.keptS keep g o
  have n := I.newAt hD
  exact ⟨.ref D, _, I'.track n (by rw [List.length_map, hys.length_eq, hz]; omega) (vals_strs hvs) he, rfl, q D ys n.h hys hso⟩
theorem call_sorted_pairs64 : CallR X (.builtin "sorted") (fun xs H Q => ∃ (p : Addr) (vs : List V) (ks : List (Int × Str)), xs = [.ref p] ∧ SqL X.K H p vs ∧ vs.length = ks.length ∧ (∀ (i : Nat) v k, vs[i]? = some v → ks[i]? = some k → PairAt X.K H v k) ∧ (ks.map (·.2)).Nodup ∧ vs.length ≤ 64 ∧
    ∀ (q : Addr) (pm : Array Nat), H q = none → LmSort.Pm vs.length pm → LmSort.Up (fun i j => kltB (ks.getD i (0, Str.empty)) (ks.getD j (0, Str.empty))) pm vs.length → Q (.ref q) (upd H q (.lst (pm.toList.map fun i => vs.getD i .non)))) := by
  intro pins s σ H xs us Q I r h
  obtain ⟨p, vs, ks, rfl, hp, hlen, hk, nd, h64, q⟩ := h
  obtain ⟨u, rfl, ru⟩ := vals1 r
  cases ru
  obtain ⟨its, rv, hl, hz⟩ := I.list hp
  have hil : its.length = vs.length := rv.length.symm
  -- each item is a tuple of the heap
  have item : ∀ i, i < its.length → ∃ a t u, its.getD i .none = .ref a ∧ IsTup s.heap a #[.int (ks.getD i (0, Str.empty)).1 t, .str (ks.getD i (0, Str.empty)).2 u] := fun i hi => by
    have hi2 : i < vs.length := by omega
    have hi3 : i < ks.length := by omega
    obtain ⟨a, ea, sq⟩ := hk i vs[i] ks[i] (List.getElem?_eq_getElem hi2) (List.getElem?_eq_getElem hi3)
    obtain ⟨z, hz', rz⟩ := rv.get (List.getElem?_eq_getElem hi2)
    rw [ea] at rz
    cases rz
    obtain ⟨ts, rt, tt, _⟩ := I.tuple sq
    cases rt with
    | cons r1 r2 =>
      cases r2 with
      | cons r3 r4 =>
        cases r4
        obtain ⟨t1, rfl⟩ := r1
        obtain ⟨t2, rfl⟩ := r3
        refine ⟨a, t1, t2, by rw [List.getD_eq_getElem?_getD, hz']; rfl, ?_⟩
        have e : ks.getD i (0, Str.empty) = ks[i] := by simp [hi3]
        rw [e]
        exact tt
  refine LmSort.sorted_ask64 (κ := tuples' true) (lt := fun i j => kltB (ks.getD i (0, Str.empty)) (ks.getD j (0, Str.empty))) hl.isList (by omega) (fun h2 s1 k => ?_) (fun s1 k i j hi hj C hC => ?_) (by rw [hil, hlen]; exact klt_ord nd) fun pm hpm hup => ?_
  · -- the kind of keys
    have tups : ∀ (l : List Value) (off : Nat), (∀ i, i < l.length → ∃ a t u, l.getD i .none = .ref a ∧ IsTup s1.heap a #[.int (ks.getD (off + i) (0, Str.empty)).1 t, .str (ks.getD (off + i) (0, Str.empty)).2 u]) →
        ∃ fs : List Value, KatTups s1.heap l fs ∧ fs.length = l.length ∧ ∀ v ∈ fs, ∃ n t, v = Value.int n t := by
      intro l
      induction l with
      | nil => intro _ _; exact ⟨[], KatTups.nil, rfl, fun v hv => (nomatch hv)⟩
      | cons v r ih =>
        intro off hh
        obtain ⟨a, t, u, e, o, ho, hc, n, hd⟩ := hh 0 (by simp)
        obtain ⟨fs, h1, h2, h3⟩ := ih (off + 1) fun i hi => by
          have := hh (i + 1) (by simpa using hi)
          rw [show off + (i + 1) = off + 1 + i by omega] at this
          simpa using this
        have e' : v = .ref a := by simpa using e
        subst e'
        exact ⟨_ :: fs, KatTups.cons ho hc hd rfl h1, by simp [h2], fun z hz => (List.mem_cons.mp hz).elim (fun q => ⟨_, _, q⟩) (h3 z)⟩
    obtain ⟨fs, h1, h2', h3⟩ := tups its 0 fun i hi => by
      obtain ⟨a, t, u, e, o, ho, rest⟩ := item i hi
      rw [Nat.zero_add]
      exact ⟨a, t, u, e, o, k a o ho, rest⟩
    exact kat_kind (T := .type "int") h1 (by omega) (fun v hv => by obtain ⟨n, t, rfl⟩ := h3 v hv; exact .now) rfl ⟨rfl, rfl⟩
  · obtain ⟨a, t1, u1, e1, o1, ho1, r1⟩ := item i hi
    obtain ⟨b, t2, u2, e2, o2, ho2, r2⟩ := item j hj
    rw [e1, e2]
    exact pair_lt ⟨o1, k a o1 ho1, r1⟩ ⟨o2, k b o2 ho2, r2⟩ hC
  · obtain ⟨e, he⟩ := sortedAll_at s.heap its (List.toArray (pm.toList.map fun i => its.getD i Value.none))
    have keep : ∀ b o, s.heap.get? b = some o → (sortedAll s.heap its (List.toArray (pm.toList.map fun i => its.getD i Value.none))).get? b = some o := fun b o => sortedAll_old
    have n : NewC X pins H (s.heap.objs.size + 1) := I.newAt fun b o q => Nat.lt_succ_of_lt (Heap.lt_size q)
    have vals : ∀ l : List Nat, (∀ i ∈ l, i < vs.length) → Vals (l.map fun i => vs.getD i .non) (l.map fun i => its.getD i Value.none) := by
      intro l
      induction l with
      | nil => intro _; exact .nil
      | cons i l ih =>
        intro hb
        have hi := hb i List.mem_cons_self
        obtain ⟨z, hz', rz⟩ := rv.get (List.getElem?_eq_getElem hi)
        refine .cons ?_ (ih fun j hj => hb j (List.mem_cons_of_mem _ hj))
        have a1 : vs.getD i .non = vs[i] := by simp [hi]
        have a2 : its.getD i Value.none = z := by rw [List.getD_eq_getElem?_getD, hz']; rfl
        show RelV (vs.getD i .non) (its.getD i Value.none)
        rw [a1, a2]
        exact rz
    rw [hil] at hpm hup
    have hin : ∀ i ∈ pm.toList, i < vs.length := fun i hi => List.mem_range.mp (hpm.perm.mem_iff.mp hi)
    exact ⟨.ref _, _, (I.kept (t' := s.toks) keep).track n (by rw [List.length_map, Array.length_toList, hpm.size]; exact hz) (vals _ hin) he, rfl, q _ pm n.h hpm hup⟩

end
end L2

set_option Elab.async false
set_option linter.all false
set_option maxRecDepth 100000
set_option maxHeartbeats 4000000
namespace LmTxt
open PySem PySem.Spec L2 PyProof.Rows
theorem app_list (x y : Str) : (x ++ y).cps.toList = x.cps.toList ++ y.cps.toList := by
  show (x.cps ++ y.cps).toList = _
  simp
theorem len_list (x : Str) : x.length = x.cps.toList.length := by
  show x.cps.size = x.cps.toList.length
  simp
abbrev one (c : Nat) : Str := ⟨#[c]⟩
end LmTxt
namespace L2
open PySem PySem.Spec PyProof.Rows

/-! ## lists of addresses with what lies there -/
/-- each address holds the tuple of its datum -/
def Tb {α : Type} (f : α → List V) (H : Hp) (zs : List (Addr × α)) : Prop := ∀ z ∈ zs, H z.1 = some (.tup (f z.2))
def refs {α : Type} (zs : List (Addr × α)) : List V := zs.map fun z => V.ref z.1
section
variable {α : Type} {f : α → List V} {H H' : Hp} {zs ws : List (Addr × α)}
theorem refs_len : (refs zs).length = zs.length := by unfold refs; rw [List.length_map]
theorem refs_get {i : Nat} (h : i < zs.length) : (refs zs)[i]? = some (V.ref zs[i].1) := by unfold refs; rw [List.getElem?_map, List.getElem?_eq_getElem h]; rfl
theorem refs_at {i : Nat} {v : V} (h : (refs zs)[i]? = some v) : ∃ hi : i < zs.length, v = V.ref zs[i].1 := by
  have hi : i < zs.length := by have := (List.getElem?_eq_some_iff.mp h).1; rwa [refs_len] at this
  exact ⟨hi, by rw [refs_get hi] at h; exact (Option.some.inj h).symm⟩
theorem refs_app : refs (zs ++ ws) = refs zs ++ refs ws := by unfold refs; rw [List.map_append]
theorem Tb.same (h : Tb f H zs) (e : Same H H') : Tb f H' zs := fun z hz => e _ _ (h z hz)
theorem Tb.at (h : Tb f H zs) {i : Nat} (hi : i < zs.length) : H zs[i].1 = some (.tup (f zs[i].2)) := h _ (List.getElem_mem hi)
theorem Tb.snoc (h : Tb f H zs) {a : Addr} {x : α} (ha : H a = some (.tup (f x))) : Tb f H (zs ++ [(a, x)]) := fun z hz => by
  rcases List.mem_append.mp hz with q | q
  · exact h z q
  · rw [List.mem_singleton.mp q]; exact ha
theorem Tb.nil : Tb f H [] := fun z hz => nomatch hz
/-- a list of the frame is changed, that the tracked part does not know -/
theorem same_upd {H0 : Hp} (e : Same H0 H) {l : Addr} (hl : H0 l = none) (o : HO) : Same H0 (upd H l o) := fun b u q => by
  rw [upd_ne (ne_of_none q hl)]
  exact e b u q
end
end L2
namespace L2
open PySem PySem.Spec PyProof.Rows
/-- a comprehension over a list that stays, put under a name -/
theorem comp_list_set {K : PySem.W.Frag} {a : Addr} {xs : List V} {own : List Str} {cap : List (Str × Nat)} {g : TG} {ti : TT} {te : TE} {σ : L2.St} {H : Hp} {j : Nat} {N : L2.St → Hp → Prop} (Pv : Nat → List V → L2.St → Hp → Prop) (h0 : Pv 0 [] (capSt own cap σ) H)
    (hl : ∀ i out σ H, i ≤ xs.length → Pv i out σ H → SqL K H a xs)
    (hs : ∀ i x out σ' H', i < xs.length → xs[i]? = some x → Pv i out σ' H' → g x σ' H' fun σ3 H3 => ti σ3 H3 fun b H4 => if b = true then te σ3 H4 (fun y H5 => out.length < sizeLine ∧ ∃ m', m' < xs.length - i ∧ CW xs.length Pv (i + 1) m' (out ++ [y]) σ3 H5) else ∃ m', m' < xs.length - i ∧ CW xs.length Pv (i + 1) m' out σ3 H4)
    (hd : ∀ out σ' H', Pv xs.length out σ' H' → ∀ p, H' p = none → gName j (.ref p) σ (upd H' p (.lst out)) N) :
    ∃ W : Nat → Nat → List V → L2.St → Hp → Prop, (∃ m, W 0 m [] (capSt own cap σ) H) ∧
      ∀ i m out σ' H', W i m out σ' H' → ((Itl K a).stop i H' ∧ ∀ p, H' p = none → (fun (x : V) (H1 : Hp) => gName j x σ H1 N) (.ref p) (upd H' p (.lst out))) ∨ ((Itl K a).go i H' ∧ ∀ x H2, (Itl K a).yld i H' x H2 → g x σ' H2 fun σ3 H3 => ti σ3 H3 fun b H4 =>
        if b = true then te σ3 H4 (fun y H5 => out.length < sizeLine ∧ ∃ m', m' < m ∧ W (i + 1) m' (out ++ [y]) σ3 H5) else ∃ m', m' < m ∧ W (i + 1) m' out σ3 H4) :=
  comp_list (Q := fun (x : V) (H1 : Hp) => gName j x σ H1 N) Pv h0 hl hs hd
end L2

set_option Elab.async false
set_option linter.all false
set_option maxRecDepth 100000
set_option maxHeartbeats 4000000
namespace M02
open PySem PySem.Spec L2 PyProof.Rows LmTxt
abbrev G := Int × Str
theorem sorted_up {ks : List G} {pm : Array Nat} (P : LmSort.Pm ks.length pm) (U : LmSort.Up (fun i j => kltB (ks.getD i (0, Str.empty)) (ks.getD j (0, Str.empty))) pm ks.length) : (pm.toList.map fun i => ks.getD i (0, Str.empty)).Pairwise fun a b => kltB a b = true := by
  refine List.pairwise_iff_getElem.mpr fun i j hi hj hij => ?_
  have hi' : i < pm.size := by simpa using hi
  have hj' : j < pm.size := by simpa using hj
  have := U i j hij (by rw [← P.size]; exact hj')
  have ei : pm.getD i 0 = pm[i] := by simp [hi']
  have ej : pm.getD j 0 = pm[j] := by simp [hj']
  rw [ei, ej] at this
  simpa using this
/-! ### the law's side -/
theorem klt_asymm {a b : G} (h : kltB a b = true) : kltB b a = false := by
  unfold kltB at *
  by_cases e : a.1 = b.1
  · rw [if_pos e] at h
    rw [if_pos e.symm]
    exact decide_eq_false fun q => List.lt_irrefl _ (List.lt_trans (of_decide_eq_true h) q)
  · rw [if_neg e] at h
    rw [if_neg (fun q => e q.symm)]
    have := of_decide_eq_true h
    exact decide_eq_false (by omega)
end M02

set_option Elab.async false
set_option linter.all false
set_option maxRecDepth 100000
set_option maxHeartbeats 4000000
namespace L2
open PySem
/-- a statement with more ways out, and what follows it once -/
theorem via {A B : TS} {D : Ends} {σ : L2.St} {H : Hp} (N : L2.St → Hp → Prop) (key : ∀ σ' H', N σ' H' → B D σ' H') (h : ∀ X : L2.St → Hp → Prop, (∀ σ' H', N σ' H' → X σ' H') → A { D with nx := X } σ H) : tSeq A B D σ H := h (B D) key
theorem seq_c {v : V} {i : Nat} {B : TS} {D : Ends} {σ : L2.St} {H : Hp} (h : B D (σ.set i (some v)) H) : tSeq (tAsg (tC v) (gName i)) B D σ H := h
theorem rd_ints {K : PySem.W.Frag} {H : Hp} : ∀ ns : List Int, RdAll K H (ns.map V.int) (ns.map PyData.int)
  | [] => .nil
  | n :: ns => .cons (.int n) (rd_ints ns)
theorem lay_ints : ∀ ns : List Int, PyData.canLayAll0 (ns.map PyData.int) = true
  | [] => by simp [PyData.canLayAll0]
  | n :: ns => by simp [PyData.canLayAll0, PyData.canLay0]; exact lay_ints ns
theorem dep_ints : ∀ ns : List Int, PyData.depthAll (ns.map PyData.int) = 0
  | [] => by simp [PyData.depthAll]
  | n :: ns => by simp [PyData.depthAll, PyData.depth]; exact dep_ints ns
theorem sh_ints (ns : List Int) : SeqAt.shaped (.list (ns.map PyData.int)) = true := by simp [SeqAt.shaped, PyData.canLay0, PyData.depth, lay_ints, dep_ints]
theorem via_next {A B : TS} {D : Ends} {σ : L2.St} {H : Hp} (N : L2.St → Hp → Prop) (key : ∀ σ' H', N σ' H' → B D σ' H') (h : ∀ X : L2.St → Hp → Prop, (∀ σ' H', N σ' H' → X σ' H') → A { D with nx := X } σ H) : tNext { D with nx := tSeq A B D } σ H := h (B D) key
end L2
namespace LmG
open PySem PySem.Spec L2 PyProof.Rows LmTxt M02
/-- a group of the program, of the law, a joint -/
def fP (k : G) : List V := [.int k.1, .str k.2]
def fL (k : G) : List V := [.str k.2, .int k.1]
def fM (p : Str × Str) : List V := [.str p.1, .str p.2]
theorem sh_pair {k : G} (h : PyData.strOk k.2 = true) : SeqAt.shaped (.tuple [.str k.2, .int k.1]) = true := by simp [SeqAt.shaped, PyData.canLay0, PyData.canLayAll0, PyData.depth, PyData.depthAll, h]
end LmG

set_option Elab.async false
set_option linter.all false
set_option maxRecDepth 100000
set_option maxHeartbeats 4000000
namespace L2
open PySem PySem.Spec PyProof.Rows
theorem comp_list_fin {K : PySem.W.Frag} {a : Addr} {xs : List V} {own : List Str} {cap : List (Str × Nat)} {g : TG} {ti : TT} {te : TE} {σ : L2.St} {H : Hp} {Fin : List V → Hp → Prop} (Pv : Nat → List V → L2.St → Hp → Prop) (h0 : Pv 0 [] (capSt own cap σ) H)
    (hl : ∀ i out σ H, i ≤ xs.length → Pv i out σ H → SqL K H a xs)
    (hs : ∀ i x out σ' H', i < xs.length → xs[i]? = some x → Pv i out σ' H' → g x σ' H' fun σ3 H3 => ti σ3 H3 fun b H4 => if b = true then te σ3 H4 (fun y H5 => out.length < sizeLine ∧ ∃ m', m' < xs.length - i ∧ CW xs.length Pv (i + 1) m' (out ++ [y]) σ3 H5) else ∃ m', m' < xs.length - i ∧ CW xs.length Pv (i + 1) m' out σ3 H4)
    (hd : ∀ out σ' H', Pv xs.length out σ' H' → Fin out H') :
    ∃ W : Nat → Nat → List V → L2.St → Hp → Prop, (∃ m, W 0 m [] (capSt own cap σ) H) ∧
      ∀ i m out σ' H', W i m out σ' H' → ((Itl K a).stop i H' ∧ Fin out H') ∨ ((Itl K a).go i H' ∧ ∀ x H2, (Itl K a).yld i H' x H2 → g x σ' H2 fun σ3 H3 => ti σ3 H3 fun b H4 =>
        if b = true then te σ3 H4 (fun y H5 => out.length < sizeLine ∧ ∃ m', m' < m ∧ W (i + 1) m' (out ++ [y]) σ3 H5) else ∃ m', m' < m ∧ W (i + 1) m' out σ3 H4) := by
  refine ⟨CW xs.length Pv, ⟨xs.length, by simp, Nat.zero_le _, h0⟩, ?_⟩
  rintro i m out σ' H' ⟨rfl, hi, p⟩
  have q := hl i out σ' H' hi p
  by_cases hlt : i < xs.length
  · refine .inr ⟨⟨xs, xs[i], q, by simp [hlt]⟩, fun x H2 y => ?_⟩
    obtain ⟨e, y⟩ := y
    subst e
    exact hs i x out σ' _ hlt (y xs q) p
  · have e : i = xs.length := by omega
    subst e
    exact .inl ⟨⟨xs, q, Nat.le_refl _⟩, hd out σ' H' p⟩
/-- .. over a range -/
theorem comp_range_fin {lo : Int} {n : Nat} {own : List Str} {cap : List (Str × Nat)} {g : TG} {ti : TT} {te : TE} {σ : L2.St} {H : Hp} {Fin : List V → Hp → Prop} (Pv : Nat → List V → L2.St → Hp → Prop) (h0 : Pv 0 [] (capSt own cap σ) H)
    (hs : ∀ i out σ' H', i < n → Pv i out σ' H' → g (.int (lo + i)) σ' H' fun σ3 H3 => ti σ3 H3 fun b H4 => if b = true then te σ3 H4 (fun y H5 => out.length < sizeLine ∧ ∃ m', m' < n - i ∧ CW n Pv (i + 1) m' (out ++ [y]) σ3 H5) else ∃ m', m' < n - i ∧ CW n Pv (i + 1) m' out σ3 H4)
    (hd : ∀ out σ' H', Pv n out σ' H' → Fin out H') :
    ∃ W : Nat → Nat → List V → L2.St → Hp → Prop, (∃ m, W 0 m [] (capSt own cap σ) H) ∧
      ∀ i m out σ' H', W i m out σ' H' → ((Itr lo n).stop i H' ∧ Fin out H') ∨ ((Itr lo n).go i H' ∧ ∀ x H2, (Itr lo n).yld i H' x H2 → g x σ' H2 fun σ3 H3 => ti σ3 H3 fun b H4 =>
        if b = true then te σ3 H4 (fun y H5 => out.length < sizeLine ∧ ∃ m', m' < m ∧ W (i + 1) m' (out ++ [y]) σ3 H5) else ∃ m', m' < m ∧ W (i + 1) m' out σ3 H4) := by
  refine ⟨CW n Pv, ⟨n, by simp, Nat.zero_le _, h0⟩, ?_⟩
  rintro i m out σ' H' ⟨rfl, hi, p⟩
  by_cases hlt : i < n
  · refine .inr ⟨hlt, fun x H2 y => ?_⟩
    obtain ⟨e, y⟩ := y
    subst e y
    exact hs i out σ' _ hlt p
  · have e : i = n := by omega
    subst e
    exact .inl ⟨Nat.le_refl _, hd out σ' H' p⟩
end L2

set_option Elab.async false
set_option linter.all false
set_option maxRecDepth 100000
set_option maxHeartbeats 2000000
namespace LmTup
open PySem PyProof.Rows
section
open PySem.SeqAt PySem.MeetsSeq
open PySem.AutoSeq1 (wpAny_loadPart')
/-! ### list.remove where what is equal is known of the heap -/

/-! ### a < b of tuples, by what is known of their items -/
end
section
variable {prog : Program} {w : World} {A : Around} {E : Value → Shared → Prop} {s : Shared}
end

/-! ### min of what is compared by the heap -/
section
variable {prog : Program} {w : World} {A : Around} {R : Result → Shared → Prop} {I : Addr} {fp wr : List Addr} {n : Nat} {P : Nat → Value → Prop} {St : Nat → Heap → Prop} {h0 : Heap}
end
section
variable {prog : Program} {w : World} {A : Around} {E : Value → Shared → Prop} {s : Shared}
end
end LmTup

set_option Elab.async false
set_option linter.all false
set_option maxRecDepth 100000
set_option maxHeartbeats 2000000
namespace L2
open PySem PySem.Spec PyProof.Rows PySem.W PySem.SeqAt LmTxt
/-! ## lists of numbers -/
theorem ints_items : ∀ {ns : List Int} {its : List Value}, Vals (ns.map V.int) its → ∃ ys : List (Int × Tok), its = ys.map (fun p => Value.int p.1 p.2) ∧ ys.map (·.1) = ns
  | [], _, r => by cases r; exact ⟨[], rfl, rfl⟩
  | n :: ns, _, r => by
    cases r with
    | cons r1 r2 =>
      obtain ⟨t, rfl⟩ := r1
      obtain ⟨ys, rfl, e⟩ := ints_items r2
      exact ⟨(n, t) :: ys, rfl, by rw [List.map_cons, e]⟩
theorem num_at {ys : List (Int × Tok)} {i : Nat} (h : i < ys.length) : numAt ys.toArray i = (ys.map (·.1))[i]'(by simpa using h) := by
  unfold numAt
  simp [h]
theorem best_gt (val : Nat → Int) : ∀ m, argBest (fun i j => decide (val i > val j)) m ≤ m ∧ ∀ j, j ≤ m → val j ≤ val (argBest (fun i j => decide (val i > val j)) m)
  | 0 => ⟨Nat.le_refl _, fun j hj => by have : j = 0 := by omega
                                        subst this; exact Int.le_refl _⟩
  | m + 1 => by
    obtain ⟨h1, h2⟩ := best_gt val m
    show (if decide (val (m + 1) > val (argBest (fun i j => decide (val i > val j)) m)) = true then m + 1 else argBest (fun i j => decide (val i > val j)) m) ≤ m + 1 ∧ ∀ j, j ≤ m + 1 → val j ≤ val (if decide (val (m + 1) > val (argBest (fun i j => decide (val i > val j)) m)) = true then m + 1 else argBest (fun i j => decide (val i > val j)) m)
    by_cases c : val (m + 1) > val (argBest (fun i j => decide (val i > val j)) m)
    · rw [if_pos (decide_eq_true c)]
      refine ⟨Nat.le_refl _, fun j hj => ?_⟩
      by_cases q : j = m + 1
      · rw [q]; exact Int.le_refl _
      · have := h2 j (by omega)
        omega
    · rw [if_neg (fun z => c (of_decide_eq_true z))]
      refine ⟨by omega, fun j hj => ?_⟩
      by_cases q : j = m + 1
      · rw [q]; omega
      · exact h2 j (by omega)
theorem best_lt (val : Nat → Int) : ∀ m, argBest (fun i j => decide (val i < val j)) m ≤ m ∧ ∀ j, j ≤ m → val (argBest (fun i j => decide (val i < val j)) m) ≤ val j
  | 0 => ⟨Nat.le_refl _, fun j hj => by have : j = 0 := by omega
                                        subst this; exact Int.le_refl _⟩
  | m + 1 => by
    obtain ⟨h1, h2⟩ := best_lt val m
    show (if decide (val (m + 1) < val (argBest (fun i j => decide (val i < val j)) m)) = true then m + 1 else argBest (fun i j => decide (val i < val j)) m) ≤ m + 1 ∧ ∀ j, j ≤ m + 1 → val (if decide (val (m + 1) < val (argBest (fun i j => decide (val i < val j)) m)) = true then m + 1 else argBest (fun i j => decide (val i < val j)) m) ≤ val j
    by_cases c : val (m + 1) < val (argBest (fun i j => decide (val i < val j)) m)
    · rw [if_pos (decide_eq_true c)]
      refine ⟨Nat.le_refl _, fun j hj => ?_⟩
      by_cases q : j = m + 1
      · rw [q]; exact Int.le_refl _
      · have := h2 j (by omega)
        omega
    · rw [if_neg (fun z => c (of_decide_eq_true z))]
      refine ⟨by omega, fun j hj => ?_⟩
      by_cases q : j = m + 1
      · rw [q]; omega
      · exact h2 j (by omega)
section
variable {X : Cx}
theorem Inv.ints {pins : List (Addr × Obj)} {σ : St} {H : Hp} {s : Shared} {p : Addr} {ns : List Int} (I : Inv X pins σ H s) (h : SqL X.K H p (ns.map V.int)) : ∃ ys : List (Int × Tok), s.heap.IsList p (intItems ys.toArray) ∧ ys.map (·.1) = ns := by
  obtain ⟨its, rv, hl, hz⟩ := I.list h
  obtain ⟨ys, rfl, e⟩ := ints_items rv
  refine ⟨ys, ?_, e⟩
  have := hl.isList
  simpa [intItems] using this
/-- max(xs), min(xs), sum(xs) -/
theorem call_max_ints (hc : X.calm = true) : CallR X (.builtin "max") (fun xs H Q => ∃ (p : Addr) (ns : List Int), xs = [.ref p] ∧ SqL X.K H p (ns.map V.int) ∧ ns ≠ [] ∧ ∀ m, m ∈ ns → (∀ n ∈ ns, n ≤ m) → Q (.int m) H) := by
  intro pins s σ H xs us Q I r h
  obtain ⟨p, ns, rfl, hp, hne, q⟩ := h
  obtain ⟨u, rfl, ru⟩ := vals1 r
  cases ru
  obtain ⟨ys, hl, e⟩ := I.ints hp
  have hyl : 0 < ys.length := by
    rw [← List.length_map (f := (·.1)), e]
    exact List.length_pos_iff.mpr hne
  refine max_intList (I.ok.hd hc) hl (by simpa using hyl) fun v h' tk hv hk => ?_
  obtain ⟨t, rfl⟩ := intItems_at hv
  obtain ⟨b1, b2⟩ := best_gt (numAt ys.toArray) (ys.toArray.size - 1)
  generalize argBest (fun i j => decide (numAt ys.toArray i > numAt ys.toArray j)) (ys.toArray.size - 1) = i at hv b1 b2 ⊢
  have hs : ys.toArray.size = ys.length := by simp
  refine ⟨.int (numAt ys.toArray i), H, I.kept hk, ⟨t, rfl⟩, q _ ?_ fun n hn => ?_⟩
  · rw [num_at (by omega)]
    subst e
    exact List.getElem_mem _
  · subst e
    obtain ⟨j, hj, rfl⟩ := List.getElem_of_mem hn
    have hj' : j < ys.length := by simpa using hj
    rw [← num_at hj']
    exact b2 j (by omega)
theorem call_min_ints (hc : X.calm = true) : CallR X (.builtin "min") (fun xs H Q => ∃ (p : Addr) (ns : List Int), xs = [.ref p] ∧ SqL X.K H p (ns.map V.int) ∧ ns ≠ [] ∧ ∀ m, m ∈ ns → (∀ n ∈ ns, m ≤ n) → Q (.int m) H) := by
  intro pins s σ H xs us Q I r h
  obtain ⟨p, ns, rfl, hp, hne, q⟩ := h
  obtain ⟨u, rfl, ru⟩ := vals1 r
  cases ru
  obtain ⟨ys, hl, e⟩ := I.ints hp
  have hyl : 0 < ys.length := by
    rw [← List.length_map (f := (·.1)), e]
    exact List.length_pos_iff.mpr hne
  refine min_intList (I.ok.hd hc) hl (by simpa using hyl) fun v h' tk hv hk => ?_
  obtain ⟨t, rfl⟩ := intItems_at hv
  obtain ⟨b1, b2⟩ := best_lt (numAt ys.toArray) (ys.toArray.size - 1)
  generalize argBest (fun i j => decide (numAt ys.toArray i < numAt ys.toArray j)) (ys.toArray.size - 1) = i at hv b1 b2 ⊢
  have hs : ys.toArray.size = ys.length := by simp
  refine ⟨.int (numAt ys.toArray i), H, I.kept hk, ⟨t, rfl⟩, q _ ?_ fun n hn => ?_⟩
  · rw [num_at (by omega)]
    subst e
    exact List.getElem_mem _
  · subst e
    obtain ⟨j, hj, rfl⟩ := List.getElem_of_mem hn
    have hj' : j < ys.length := by simpa using hj
    rw [← num_at hj']
    exact b2 j (by omega)
theorem call_sum_ints (hc : X.calm = true) : CallR X (.builtin "sum") (fun xs H Q => ∃ (p : Addr) (ns : List Int), xs = [.ref p] ∧ SqL X.K H p (ns.map V.int) ∧ Q (.int ns.sum) H) := by
  intro pins s σ H xs us Q I r h
  obtain ⟨p, ns, rfl, hp, q⟩ := h
  obtain ⟨u, rfl, ru⟩ := vals1 r
  cases ru
  obtain ⟨ys, hl, e⟩ := I.ints hp
  refine sum_intListG (I.ok.hd hc) hl fun h' tk t' hk => ?_
  refine ⟨.int ns.sum, H, I.kept hk, ?_, q⟩
  rw [preSum_eq, List.take_of_length_le (by simp)]
  show RelV _ (.int (List.map (·.1) ys).sum t')
  rw [e]
  exact ⟨_, rfl⟩
section
variable {o e : Expr} {to : TE} {t : TA} {apos cpos : Pos}
end
end
end L2

set_option Elab.async false
set_option linter.all false
set_option maxRecDepth 100000
set_option maxHeartbeats 4000000
namespace L2
open PySem PySem.Spec PyProof.Rows

/-! ### walking a text -/
/-- the i-th sign as a text -/
abbrev sgn (c : Nat) : V := .str ⟨#[c]⟩
def Its (x : Str) : It := ⟨fun i _ => i < x.cps.size, fun i H v H' => H' = H ∧ ∃ c, x.cps[i]? = some c ∧ v = sgn c, fun i _ => x.cps.size ≤ i⟩
theorem turn_str {P : Program} {w : World} {K : PySem.W.Frag} {tg : Expr} (it : Addr) (x : Str) (t : Tok) (nm : String)
    (hn : ["enumerate", "zip", "dict_itemiterator", "dict_reverseitemiterator", "odict_iterator", "itertools.zip_longest", "itertools.pairwise"].contains nm = false)
    (hW : ∀ A' : Around, A'.handled = none → Walks P w A' it [it] [it] x.cps.size (SignAt x) (fun i h => h.IsStrIter it nm x t i))
    (hS : ∀ (A : Around) (i : Nat) (s : Shared) (Q : Value → Shared → Prop) (E : Value → Shared → Prop), s.heap.IsStrIter it nm x t i → Q (.ref it) s → wpAny (model P w) A (pyIter (.ref it)) Q E s) :
    Turn P w K tg (Its x) [it] it (fun i h => h.IsStrIter it nm x t i ∧ i ≤ x.cps.size) where
  mem := by simp
  obj := fun i h st b hb => by
    have e : b = it := by simpa using hb
    subst e
    obtain ⟨⟨o, e, c, d⟩, _⟩ := st
    exact ⟨o, e, fun v z => by rw [d] at z; cases z⟩
  keep := fun i h h' st k => by
    obtain ⟨⟨o, e, r⟩, l⟩ := st
    exact ⟨⟨o, k it (by simp) o e, r⟩, l⟩
  item := by
    intro X hP hw hK hc i pins s σ H E I hf st hg
    subst hP hw hK
    obtain ⟨f0, f1, f2, f3, f4, f5⟩ := hf it (by simp)
    refine (hW X.A (I.ok.hd hc)).item i s _ _ hg st.1 fun v h' tk hv st' kk => ?_
    obtain ⟨c, u, hx, rfl⟩ := hv
    have I1 : Inv X pins σ H { s with heap := h', toks := tk } := I.turned (fun b o hb e => kk b o (by simpa using hb) e) f0 f1 f3 f4 f5
    obtain ⟨o, e, c', d⟩ := id st'
    exact ⟨_, rfl, go_of (s := { s with heap := h', toks := tk }) e c' d hn ⟨sgn c, H, I1, ⟨u, rfl⟩, ⟨rfl, c, hx, rfl⟩, ⟨st', hg⟩, fun b hb => (hf b hb).1⟩⟩
  done := by
    intro X hP hw hK hc i pins s σ H E I hf st hg
    subst hP hw hK
    obtain ⟨f0, f1, f2, f3, f4, f5⟩ := hf it (by simp)
    have e : i = x.cps.size := Nat.le_antisymm st.2 hg
    subst e
    exact (hW X.A (I.ok.hd hc)).done s _ _ st.1 fun h' tk kk => ⟨rfl, I.turned (fun b o hb e => kk b o (by simpa using hb) e) f0 f1 f3 f4 f5⟩
  self := fun A i s Q E st h => hS A i s Q E st.1 h
section
variable {X : Cx} {tg : Expr}
def iStr (tl : TE) : TI := fun σ H R => tl σ H fun v H1 => ∃ x : Str, v = .str x ∧ R (Its x) H1
theorem pi_str {l : Expr} {tl : TE} (hl : PE X l tl) : PI X tg l (iStr tl) := by
  intro pins s σ H R I h
  refine thn (hl pins s σ H _ I h) fun v s1 ⟨y, H1, I1, r1, q1⟩ => ?_
  obtain ⟨x, rfl, q⟩ := q1
  obtain ⟨t, rfl⟩ := r1
  have fp : ∀ b ∈ [s1.heap.objs.size], FpOk X pins H1 b := fun b hb => by
    have e : b = s1.heap.objs.size := by simpa using hb
    subst e
    exact I1.fpOk (Nat.le_refl _) (I1.hok.fresh (Nat.le_refl _))
  cases ha : x.cps.all (· < 128)
  · refine wpAny_pyIter_wide ha ?_
    exact ⟨s1.heap.objs.size, [s1.heap.objs.size], _, _, H1, rfl, I1.kept (t' := s1.toks) fun b o e => Heap.get?_push_of_some _ e, turn_str _ x t "str_iterator" (by decide) (fun A' hA => Walks.strWide hA _ x t) (fun A i s Q E st h => wpAny_pyIter_striter_wide st h),
      ⟨⟨_, Heap.get?_push_size _ rfl, rfl, rfl⟩, Nat.zero_le _⟩, fp, q⟩
  · refine wpAny_pyIter_ascii ha ?_
    exact ⟨s1.heap.objs.size, [s1.heap.objs.size], _, _, H1, rfl, I1.kept (t' := s1.toks) fun b o e => Heap.get?_push_of_some _ e, turn_str _ x t "str_ascii_iterator" (by decide) (fun A' hA => Walks.strAscii hA _ x t) (fun A i s Q E st h => wpAny_pyIter_striter_ascii st h),
      ⟨⟨_, Heap.get?_push_size _ rfl, rfl, rfl⟩, Nat.zero_le _⟩, fp, q⟩
end
/-- for c in a text -/
theorem for_str {x : Str} {g : TG} {tb : TS} {D : Ends} {σ : St} {H : Hp} (Pv : Nat → St → Hp → Prop) (h0 : Pv 0 σ H)
    (hs : ∀ i c σ H, x.cps[i]? = some c → Pv i σ H → g (sgn c) σ H fun σ2 H2 => tb { D with nx := Pv (i + 1), ct := Pv (i + 1), bk := D.nx } σ2 H2) (hd : ∀ σ H, Pv x.cps.size σ H → D.nx σ H) :
    ∃ W : Nat → Nat → St → Hp → Prop, (∃ m, W 0 m σ H) ∧ ∀ i m σ H, W i m σ H →
      ((Its x).stop i H ∧ D.nx σ H) ∨ ((Its x).go i H ∧ ∃ N : St → Hp → Prop, (∀ σ' H', N σ' H' → ∃ m', m' < m ∧ W (i + 1) m' σ' H') ∧ ∀ v H', (Its x).yld i H v H' → g v σ H' fun σ2 H2 => tb { D with nx := N, ct := N, bk := D.nx } σ2 H2) := by
  refine ⟨fun i m σ H => m = x.cps.size - i ∧ i ≤ x.cps.size ∧ Pv i σ H, ⟨x.cps.size, by simp, Nat.zero_le _, h0⟩, ?_⟩
  rintro i m σ H ⟨rfl, hi, p⟩
  by_cases hlt : i < x.cps.size
  · refine .inr ⟨hlt, Pv (i + 1), fun σ' H' p' => ⟨x.cps.size - (i + 1), by omega, rfl, hlt, p'⟩, fun v H' y => ?_⟩
    obtain ⟨e, c, hc, rfl⟩ := y
    subst e
    exact hs i c σ _ hc p
  · have e : i = x.cps.size := by omega
    subst e
    exact .inl ⟨Nat.le_refl _, hd σ H p⟩
/-- a comprehension over a text -/
theorem comp_str_fin {x : Str} {own : List Str} {cap : List (Str × Nat)} {g : TG} {ti : TT} {te : TE} {σ : L2.St} {H : Hp} {Fin : List V → Hp → Prop} (Pv : Nat → List V → L2.St → Hp → Prop) (h0 : Pv 0 [] (capSt own cap σ) H)
    (hs : ∀ i c out σ' H', i < x.cps.size → x.cps[i]? = some c → Pv i out σ' H' → g (sgn c) σ' H' fun σ3 H3 => ti σ3 H3 fun b H4 => if b = true then te σ3 H4 (fun y H5 => out.length < sizeLine ∧ ∃ m', m' < x.cps.size - i ∧ CW x.cps.size Pv (i + 1) m' (out ++ [y]) σ3 H5) else ∃ m', m' < x.cps.size - i ∧ CW x.cps.size Pv (i + 1) m' out σ3 H4)
    (hd : ∀ out σ' H', Pv x.cps.size out σ' H' → Fin out H') :
    ∃ W : Nat → Nat → List V → L2.St → Hp → Prop, (∃ m, W 0 m [] (capSt own cap σ) H) ∧
      ∀ i m out σ' H', W i m out σ' H' → ((Its x).stop i H' ∧ Fin out H') ∨ ((Its x).go i H' ∧ ∀ v H2, (Its x).yld i H' v H2 → g v σ' H2 fun σ3 H3 => ti σ3 H3 fun b H4 =>
        if b = true then te σ3 H4 (fun y H5 => out.length < sizeLine ∧ ∃ m', m' < m ∧ W (i + 1) m' (out ++ [y]) σ3 H5) else ∃ m', m' < m ∧ W (i + 1) m' out σ3 H4) := by
  refine ⟨CW x.cps.size Pv, ⟨x.cps.size, by simp, Nat.zero_le _, h0⟩, ?_⟩
  rintro i m out σ' H' ⟨rfl, hi, p⟩
  by_cases hlt : i < x.cps.size
  · refine .inr ⟨hlt, fun v H2 y => ?_⟩
    obtain ⟨e, c, hc, rfl⟩ := y
    subst e
    exact hs i c out σ' _ hlt hc p
  · have e : i = x.cps.size := by omega
    subst e
    exact .inl ⟨Nat.le_refl _, hd out σ' H' p⟩
end L2

set_option Elab.async false
set_option linter.all false
set_option maxRecDepth 100000
set_option maxHeartbeats 2000000
namespace L2
open PySem PySem.Spec PyProof.Rows PySem.W PySem.SeqAt LmTxt
theorem sub_list_set : isSubtype (.type "list") (.type "set") = pure false := by rw [isSubtype_type]; kernel_rfl
theorem sub_list_frozenset : isSubtype (.type "list") (.type "frozenset") = pure false := by rw [isSubtype_type]; kernel_rfl
theorem strs_at : ∀ {ts : List Str} {its : List Value} {i : Nat} {v : Value}, Vals (ts.map V.str) its → its[i]? = some v → i < ts.length ∧ ∃ t, v = .str (ts.getD i Str.empty) t
  | [], _, i, v, r, h => by cases r; simp at h
  | y :: ts, _, i, v, r, h => by
    cases r with
    | cons r1 r2 =>
      obtain ⟨t, rfl⟩ := r1
      cases i with
      | zero => exact ⟨by simp, t, by simpa using h.symm⟩
      | succ i =>
        obtain ⟨h1, t', e⟩ := strs_at r2 (by simpa using h)
        exact ⟨by simpa using h1, t', by simpa using e⟩
section
variable {X : Cx}
/-- set(xs) of a list of texts -/
theorem call_set_strs (hc : X.calm = true) : CallR X (.type "set") (fun xs H Q => ∃ (a : Addr) (ts : List Str), xs = [.ref a] ∧ SqL X.K H a (ts.map V.str) ∧ ts.length + 1 < scanBound ∧
    ∀ p ss, H p = none → ss.length ≤ ts.length → ss.Nodup → (∀ y, y ∈ ss ↔ y ∈ ts) → Q (.ref p) (upd H p (SetO X p ss))) := by
  intro pins s σ H xs us Q I r h
  obtain ⟨a, ts, rfl, ha, hb, q⟩ := h
  obtain ⟨u, rfl, ru⟩ := vals1 r
  cases ru
  have hh := I.ok.hd hc
  obtain ⟨its, rv, hl, hz⟩ := I.list ha
  have hil : its.length = ts.length := by rw [← rv.length, List.length_map]
  obtain ⟨o, ho, hcl, nn, hd⟩ := id hl.isList
  have halt := Heap.lt_size ho
  refine LmSet.call_set_walk (T := "list") (n := ts.length) (val := fun j => ts.getD j Str.empty) (fun s' k => ⟨o, k _ _ ho, hcl⟩) sub_list_set sub_list_frozenset (by decide) (fun s' Q' keep hlt hQ => ?_) hb fun h' tk ss hS hl' hm k => ?_
  · have hl2 : s'.heap.IsList a its.toArray := ⟨o, keep _ _ ho, hcl, nn, hd⟩
    have halt' := Heap.lt_size (keep _ _ ho)
    have W := Walks.list (prog := X.prog) (w := X.w) (A := X.A.in1.in1.in1) (by simp [hh]) s'.heap.objs.size a (Nat.ne_of_lt halt') its.toArray
    rw [show its.toArray.size = ts.length by simpa using hil] at W
    refine wpAny_pyIter_list hl2 (hQ _ _ _ _ W (fun i u hu => ?_) (fun z => ?_) ⟨⟨_, Heap.get?_push_size _ rfl, rfl, rfl⟩, hl2.push _⟩)
    · exact (strs_at rv (by simpa using hu)).2
    · have z' : s.heap.objs.size = s'.heap.objs.size ∨ s.heap.objs.size = a := by simpa using z
      rcases z' with z' | z'
      · exact absurd hlt (by rw [← z']; exact Nat.lt_irrefl _)
      · exact absurd halt (by rw [← z']; exact Nat.lt_irrefl _)
  · have hp : H s.heap.objs.size = none := I.hok.fresh (Nat.le_refl _)
    have nd : ss.Nodup := by obtain ⟨_, _, _, _, _, _, _, _, _, _, nd, _⟩ := hS; exact nd
    refine ⟨.ref s.heap.objs.size, _, I.laid k (Nat.le_refl _) (setO_ok hS), rfl, q _ ss hp hl' nd fun y => (hm y).trans ⟨fun ⟨j, hj, e⟩ => ?_, fun hy => ?_⟩⟩
    · rw [← e, show ts.getD j Str.empty = ts[j] by simp [hj]]
      exact List.getElem_mem hj
    · obtain ⟨j, hj, e⟩ := List.getElem_of_mem hy
      exact ⟨j, hj, by rw [← e]; simp [hj]⟩
/-- x.rfind(y), x.ljust(n, c) -/
theorem mt_rfind : MtR X "str.rfind" (fun x vs H Q => ∃ i j, x = .str i ∧ vs = [.str j] ∧ Q (.int (Txt.rfind i j)) H) := by
  intro pins s σ H x xs v us Q I rx rv h
  obtain ⟨i, j, rfl, rfl, q⟩ := h
  obtain ⟨t, rfl⟩ := rx
  obtain ⟨u, rfl, t', rfl⟩ := vals1 rv
  exact SC.rfind ⟨.int _, H, I.tok _, ⟨_, rfl⟩, q⟩
theorem mt_ljust : MtR X "str.ljust" (fun x vs H Q => ∃ (i : Str) (n : Int) (c : Nat), x = .str i ∧ vs = [.int n, .str (one c)] ∧ PadOk n = true ∧ Q (.str (Txt.ljustF i n c)) H) := by
  intro pins s σ H x xs v us Q I rx rv h
  obtain ⟨i, n, c, rfl, rfl, hp, q⟩ := h
  obtain ⟨t, rfl⟩ := rx
  obtain ⟨u, w', rfl, ⟨t1, rfl⟩, ⟨t2, rfl⟩⟩ := vals2 rv
  exact ljust_fill hp rfl fun t' k => ⟨.str _, H, I.tok _, ⟨_, rfl⟩, q⟩
section
variable {o e f : Expr} {to : TE} {t : TA} {apos cpos : Pos}
theorem pe_rfind (ho : PE X o to) (ha : PA X [e] t)
    (hbase : attributeBase o "rfind" X.env (eval o X.env) = eval o X.env := by rfl)
    (hfew : ((backTo cpos (starEach [e] X.env)).all (fun x => !x.1) && (backToKw cpos (keywordEach [] X.env)).all (fun x => x.1.isSome)
      && decide (([e] : List Expr).length + ([] : List Keyword).length + (if ([] : List Keyword).isEmpty then 0 else 1) < 30)) = true := by rfl)
    (hline : (apos.endLine == cpos.line) = true := by rfl) (hs : starEach [e] X.env = (false, eval e X.env) :: starEach [] X.env := by rfl) (hplain : (backTo cpos (starEach [] X.env)).any (·.1) = false := by rfl) :
    PE X (.Call (.Attribute o "rfind" apos) [e] [] cpos) (tBM X.K "str" (fun x vs H Q => ∃ i j, x = .str i ∧ vs = [.str j] ∧ Q (.int (Txt.rfind i j)) H) to t) :=
  pe_bm PySem.F.plainAttrs_str PySem.F.slot_str_rfind PySem.F.type_str_rfind mt_rfind ho ha hbase hfew hline hs hplain
theorem pe_ljust (ho : PE X o to) (ha : PA X [e, f] t)
    (hbase : attributeBase o "ljust" X.env (eval o X.env) = eval o X.env := by rfl)
    (hfew : ((backTo cpos (starEach [e, f] X.env)).all (fun x => !x.1) && (backToKw cpos (keywordEach [] X.env)).all (fun x => x.1.isSome)
      && decide (([e, f] : List Expr).length + ([] : List Keyword).length + (if ([] : List Keyword).isEmpty then 0 else 1) < 30)) = true := by rfl)
    (hline : (apos.endLine == cpos.line) = true := by rfl) (hs : starEach [e, f] X.env = (false, eval e X.env) :: starEach [f] X.env := by rfl) (hplain : (backTo cpos (starEach [f] X.env)).any (·.1) = false := by rfl) :
    PE X (.Call (.Attribute o "ljust" apos) [e, f] [] cpos) (tBM X.K "str" (fun x vs H Q => ∃ (i : Str) (n : Int) (c : Nat), x = .str i ∧ vs = [.int n, .str (one c)] ∧ PadOk n = true ∧ Q (.str (Txt.ljustF i n c)) H) to t) :=
  pe_bm PySem.F.plainAttrs_str PySem.F.slot_str_ljust PySem.F.type_str_ljust mt_ljust ho ha hbase hfew hline hs hplain
end
end
end L2

set_option Elab.async false
set_option linter.all false
set_option maxRecDepth 100000
set_option maxHeartbeats 2000000
namespace M05
open PySem PySem.Spec L2 PyProof.Rows LmTxt M02
def ex (N l : Int) : Nat := 2 ^ (N - l).toNat
def W (N : Int) (ls : List Int) : Nat := (ls.map (ex N)).sum
theorem W_perm {N : Int} {a b : List Int} (h : a.Perm b) : W N a = W N b := (h.map (ex N)).sum_nat
theorem W_cons (N l : Int) (ls : List Int) : W N (l :: ls) = ex N l + W N ls := by unfold W; rw [List.map_cons, List.sum_cons]
theorem W_snoc (N l : Int) (ls : List Int) : W N (ls ++ [l]) = W N ls + ex N l := by unfold W; rw [List.map_append, List.sum_append]; simp
theorem ex_pos (N l : Int) : 0 < ex N l := Nat.pow_pos (by decide)
theorem ex_up {N l : Int} (h : l ≤ N) : ex N (l - 1) = 2 * ex N l := by
  unfold ex
  have : (N - (l - 1)).toNat = (N - l).toNat + 1 := by omega
  rw [this, Nat.pow_succ]
  omega
/-- what lies above d has a factor of twice the one of d -/
theorem W_even {N d : Int} (hd : d ≤ N) : ∀ r : List Int, (∀ l ∈ r, l < d) → ∃ q, W N r = 2 * ex N d * q
  | [], _ => ⟨0, rfl⟩
  | l :: r, h => by
    obtain ⟨q, e⟩ := W_even hd r fun x hx => h x (List.mem_cons_of_mem _ hx)
    have hl := h l List.mem_cons_self
    refine ⟨2 ^ (d - 1 - l).toNat + q, ?_⟩
    rw [W_cons, e, Nat.mul_add]
    congr 1
    unfold ex
    have : (N - l).toNat = (N - d).toNat + 1 + (d - 1 - l).toNat := by omega
    rw [this, Nat.pow_add, Nat.pow_succ]
    congr 1
    omega
theorem W_ge {N : Int} : ∀ {r : List Int} {l : Int}, l ∈ r → ex N l ≤ W N r
  | x :: r, l, h => by
    rw [W_cons]
    rcases List.mem_cons.mp h with q | q
    · rw [q]; omega
    · have := W_ge (N := N) q
      omega
theorem lone {N d : Int} {ls : List Int} (hN : 0 ≤ N) (hd : d ∈ ls) (hmax : ∀ l ∈ ls, l ≤ d) (hdN : d ≤ N) (h2 : 2 ≤ ls.length) (hc : ls.count d = 1) : W N ls ≠ 2 ^ N.toNat := by
  intro hW
  have p := List.perm_cons_erase hd
  rw [W_perm p, W_cons] at hW
  have hr : ∀ l ∈ ls.erase d, l < d := fun l hl => by
    have h1 := hmax l (List.mem_of_mem_erase hl)
    have h3 : l ≠ d := fun e => by
      subst e
      have h4 := List.count_erase_self (a := l) (l := ls)
      have h5 := List.count_pos_iff.mpr hl
      omega
    omega
  obtain ⟨q, e⟩ := W_even hdN _ hr
  by_cases h : 1 ≤ d
  · rw [e] at hW
    have e2 : 2 ^ N.toNat = ex N d * 2 ^ d.toNat := by
      unfold ex
      rw [← Nat.pow_add]
      congr 1
      omega
    rw [e2] at hW
    have e3 : ex N d * (1 + 2 * q) = ex N d * 2 ^ d.toNat := by
      rw [← hW, Nat.mul_add, Nat.mul_one]
      congr 1
      rw [Nat.mul_comm 2 (ex N d), Nat.mul_assoc]
    have e4 := Nat.eq_of_mul_eq_mul_left (ex_pos N d) e3
    have e5 : d.toNat = (d.toNat - 1) + 1 := by omega
    rw [e5, Nat.pow_succ] at e4
    omega
  · have hl : 1 ≤ (ls.erase d).length := by rw [List.length_erase_of_mem hd]; omega
    obtain ⟨x, hx⟩ := List.exists_mem_of_length_pos (by omega : 0 < (ls.erase d).length)
    have h6 := W_ge (N := N) hx
    have h7 := hr x hx
    have h8 : 2 ^ N.toNat ≤ ex N x := Nat.pow_le_pow_right (by decide) (by omega)
    have := ex_pos N d
    omega
/-- the two deepest as one -/
def red (ls : List Int) (d : Int) : List Int := ((ls.erase d).erase d) ++ [d - 1]
theorem red_W {N d : Int} {ls : List Int} (hdN : d ≤ N) (hc : 2 ≤ ls.count d) : W N (red ls d) = W N ls := by
  have h1 : d ∈ ls := List.count_pos_iff.mp (by omega)
  have h2 : d ∈ ls.erase d := List.count_pos_iff.mp (by rw [List.count_erase_self]; omega)
  have p := (List.perm_cons_erase h1).trans ((List.perm_cons_erase h2).cons d)
  rw [W_perm p, W_cons, W_cons]
  unfold red
  rw [W_snoc, ex_up hdN]
  omega
theorem red_len {d : Int} {ls : List Int} (hc : 2 ≤ ls.count d) : (red ls d).length + 1 = ls.length := by
  have h1 : d ∈ ls := List.count_pos_iff.mp (by omega)
  have h2 : d ∈ ls.erase d := List.count_pos_iff.mp (by rw [List.count_erase_self]; omega)
  unfold red
  rw [List.length_append, List.length_erase_of_mem h2, List.length_erase_of_mem h1]
  have h3 := List.length_pos_of_mem h1
  have h4 := List.length_pos_of_mem h2
  rw [List.length_erase_of_mem h1] at h4
  simp
  omega
theorem red_le {N d : Int} {ls : List Int} (h : ∀ l ∈ ls, l ≤ N) (hd : d ≤ N) : ∀ l ∈ red ls d, l ≤ N := fun l hl => by
  rcases List.mem_append.mp hl with q | q
  · exact h l (List.mem_of_mem_erase (List.mem_of_mem_erase q))
  · rw [List.mem_singleton.mp q]; omega
theorem one_W {N x : Int} (hN : 0 ≤ N) (hx : x ≤ N) : W N [x] = 2 ^ N.toNat ↔ x = 0 := by
  have e : W N [x] = ex N x := by unfold W; simp
  rw [e]
  unfold ex
  constructor
  · intro h
    have : (N - x).toNat = N.toNat := by
      rcases Nat.lt_trichotomy (N - x).toNat N.toNat with c | c | c
      · have := Nat.pow_lt_pow_right (a := 2) (by decide) c
        omega
      · exact c
      · have := Nat.pow_lt_pow_right (a := 2) (by decide) c
        omega
    omega
  · intro h
    rw [h, Int.sub_zero]
theorem deep_len {N : Int} (hN : 0 ≤ N) : ∀ (n : Nat) (ls : List Int), ls.length = n + 1 → (∀ l ∈ ls, l ≤ N) → W N ls = 2 ^ N.toNat → ∀ l ∈ ls, l ≤ (n : Int)
  | 0, ls, hl, hm, hW, l, h => by
    match ls, hl with
    | [x], _ =>
      have := (one_W hN (hm x List.mem_cons_self)).mp hW
      rw [List.mem_singleton.mp h]
      omega
  | n + 1, ls, hl, hm, hW, l, h => by
    obtain ⟨d, hd, hmax⟩ : ∃ d ∈ ls, ∀ l ∈ ls, l ≤ d := by
      have : ∀ (ls : List Int), ls ≠ [] → ∃ d ∈ ls, ∀ l ∈ ls, l ≤ d := by
        intro ls
        induction ls with
        | nil => intro h; exact absurd rfl h
        | cons x r ih =>
          intro _
          by_cases e : r = []
          · subst e; exact ⟨x, List.mem_cons_self, fun l hl => by rw [List.mem_singleton.mp hl]; exact Int.le_refl _⟩
          · obtain ⟨d, hd, hm⟩ := ih e
            by_cases c : x ≤ d
            · exact ⟨d, List.mem_cons_of_mem _ hd, fun l hl => (List.mem_cons.mp hl).elim (fun z => z ▸ c) (hm l)⟩
            · exact ⟨x, List.mem_cons_self, fun l hl => (List.mem_cons.mp hl).elim (fun z => by rw [z]; exact Int.le_refl _) (fun z => by have := hm l z; omega)⟩
      exact this ls (List.ne_nil_of_mem h)
    have hc : 2 ≤ ls.count d := by
      have h1 := List.count_pos_iff.mpr hd
      by_cases c : ls.count d = 1
      · exact absurd hW (lone hN hd hmax (hm d hd) (by omega) c)
      · omega
    have h3 := deep_len hN n (red ls d) (by have := red_len hc; omega) (red_le hm (hm d hd)) (by rw [red_W (hm d hd) hc]; exact hW) (d - 1) (List.mem_append.mpr (.inr List.mem_cons_self))
    have := hmax l h
    omega
theorem W_scale {N : Int} (M : Nat) : ∀ ls : List Int, (∀ l ∈ ls, l ≤ N) → W (N + M) ls = 2 ^ M * W N ls
  | [], _ => by unfold W; simp
  | l :: ls, h => by
    rw [W_cons, W_cons, W_scale M ls fun x hx => h x (List.mem_cons_of_mem _ hx), Nat.mul_add]
    congr 1
    unfold ex
    have := h l List.mem_cons_self
    rw [← Nat.pow_add]
    congr 1
    omega
theorem W_any {N N' : Int} {ls : List Int} (h0 : 0 ≤ N) (hle : N ≤ N') (h : ∀ l ∈ ls, l ≤ N) : W N' ls = 2 ^ N'.toNat ↔ W N ls = 2 ^ N.toNat := by
  obtain ⟨M, rfl⟩ : ∃ M : Nat, N' = N + M := ⟨(N' - N).toNat, by omega⟩
  rw [W_scale M ls h]
  have e : 2 ^ (N + M).toNat = 2 ^ M * 2 ^ N.toNat := by rw [← Nat.pow_add]; congr 1; omega
  rw [e]
  exact ⟨fun z => Nat.eq_of_mul_eq_mul_left (Nat.pow_pos (by decide)) z, fun z => by rw [z]⟩
/-! ### books -/
def UpS (ts : List Str) : Prop := ts.Pairwise fun a b => a.cps.toList < b.cps.toList
def sm (n : Nat) (ls : List Int) : Int := (ls.map fun l => (1 * 2 ^ ((n : Int)).toNat : Int) / 2 ^ l.toNat).sum
def Kr (ls : List Int) : Prop := (∀ l ∈ ls, 1 ≤ l) ∧ (∀ l ∈ ls, l < (ls.length : Int)) ∧ sm ls.length ls = 2 ^ ls.length
def Bk (ks : List G) : Prop := UpS (ks.map (·.2)) ∧ ((ks.length < 2 ∧ (ks.map (·.1) = [] ∨ ks.map (·.1) = [1])) ∨ (2 ≤ ks.length ∧ Kr (ks.map (·.1))))
theorem sm_W {n : Nat} : ∀ {ls : List Int}, (∀ l ∈ ls, 1 ≤ l ∧ l ≤ n) → sm n ls = (W n ls : Int)
  | [], _ => rfl
  | l :: ls, h => by
    have ih := sm_W fun x hx => h x (List.mem_cons_of_mem _ hx)
    have hl := h l List.mem_cons_self
    rw [W_cons]
    unfold sm at *
    rw [List.map_cons, List.sum_cons, ih]
    have e : (1 * 2 ^ ((n : Int)).toNat : Int) / 2 ^ l.toNat = ((ex n l : Nat) : Int) := by
      unfold ex
      have e1 : ((n : Int)).toNat = ((n : Int) - l).toNat + l.toNat := by omega
      rw [Int.one_mul, e1, Int.pow_add, Int.mul_ediv_cancel _ (Int.ne_of_gt (Int.pow_pos (by decide)))]
      push_cast
      rfl
    rw [e]
    push_cast
    rfl
/-- by any N at least as deep -/
theorem kr_W {ls : List Int} {N : Int} (hN : 0 ≤ N) (hm : ∀ l ∈ ls, l ≤ N) (h1 : ∀ l ∈ ls, 1 ≤ l) (h2 : 2 ≤ ls.length) : Kr ls ↔ W N ls = 2 ^ N.toNat := by
  have key : (∀ l ∈ ls, l < (ls.length : Int)) → (sm ls.length ls = 2 ^ ls.length ↔ W N ls = 2 ^ N.toNat) := fun hb => by
    rw [sm_W fun l hl => ⟨h1 l hl, by have := hb l hl; omega⟩]
    have e : ((W (ls.length : Int) ls : Nat) : Int) = 2 ^ ls.length ↔ W (ls.length : Int) ls = 2 ^ ((ls.length : Int)).toNat := by
      rw [Int.toNat_natCast]
      constructor
      · intro h; exact_mod_cast h
      · intro h; rw [h]; push_cast; rfl
    rw [e]
    rcases Int.le_total (ls.length : Int) N with c | c
    · exact (W_any (by omega) c fun l hl => by have := hb l hl; omega).symm
    · exact W_any hN c hm
  constructor
  · rintro ⟨_, hb, hs⟩
    exact (key hb).mp hs
  · intro hW
    have hb : ∀ l ∈ ls, l < (ls.length : Int) := fun l hl => by
      have := deep_len hN (ls.length - 1) ls (by omega) hm hW l hl
      omega
    exact ⟨h1, hb, (key hb).mpr hW⟩
end M05

set_option Elab.async false
set_option linter.all false
set_option maxRecDepth 100000
set_option maxHeartbeats 2000000
namespace LmG
open PySem PySem.Spec L2 PyProof.Rows LmTxt M02 M05
/-! ### lists of texts, of numbers: equal or not -/
theorem rd_strs {K : PySem.W.Frag} {H : Hp} : ∀ ts : List Str, RdAll K H (ts.map V.str) (ts.map PyData.str)
  | [] => .nil
  | n :: ns => .cons (.str n) (rd_strs ns)
theorem lay_strs : ∀ ts : List Str, (∀ t ∈ ts, PyData.strOk t = true) → PyData.canLayAll0 (ts.map PyData.str) = true
  | [], _ => by simp [PyData.canLayAll0]
  | n :: ns, h => by
    have h1 := h n List.mem_cons_self
    have h2 := lay_strs ns fun t ht => h t (List.mem_cons_of_mem _ ht)
    simp [PyData.canLayAll0, PyData.canLay0, h1, h2]
theorem dep_strs : ∀ ts : List Str, PyData.depthAll (ts.map PyData.str) = 0
  | [] => by simp [PyData.depthAll]
  | n :: ns => by simp [PyData.depthAll, PyData.depth]; exact dep_strs ns
theorem sh_strs {ts : List Str} (h : ∀ t ∈ ts, PyData.strOk t = true) : SeqAt.shaped (.list (ts.map PyData.str)) = true := by simp [SeqAt.shaped, PyData.canLay0, PyData.depth, lay_strs ts h, dep_strs]
theorem mix_strs : ∀ ts us : List Str, SeqAt.noMixAll (ts.map PyData.str) (us.map PyData.str) = true
  | [], [] => by simp [SeqAt.noMixAll]
  | [], _ :: _ => by simp [SeqAt.noMixAll]
  | _ :: _, [] => by simp [SeqAt.noMixAll]
  | t :: ts, u :: us => by simp [SeqAt.noMixAll, SeqAt.noMix]; exact mix_strs ts us
theorem mix_ints : ∀ ts us : List Int, SeqAt.noMixAll (ts.map PyData.int) (us.map PyData.int) = true
  | [], [] => by simp [SeqAt.noMixAll]
  | [], _ :: _ => by simp [SeqAt.noMixAll]
  | _ :: _, [] => by simp [SeqAt.noMixAll]
  | t :: ts, u :: us => by simp [SeqAt.noMixAll, SeqAt.noMix]; exact mix_ints ts us
theorem same_strs : ∀ ts us : List Str, sameAll (ts.map PyData.str) (us.map PyData.str) = decide (ts = us)
  | [], [] => by simp [sameAll]
  | [], _ :: _ => by simp [sameAll]
  | _ :: _, [] => by simp [sameAll]
  | t :: ts, u :: us => by
    rw [List.map_cons, List.map_cons, sameAll, same_strs ts us, same]
    by_cases h : t = u
    · subst h
      by_cases h2 : ts = us <;> simp [h2]
    · simp [h]
theorem same_ints : ∀ ts us : List Int, sameAll (ts.map PyData.int) (us.map PyData.int) = decide (ts = us)
  | [], [] => by simp [sameAll]
  | [], _ :: _ => by simp [sameAll]
  | _ :: _, [] => by simp [sameAll]
  | t :: ts, u :: us => by
    rw [List.map_cons, List.map_cons, sameAll, same_ints ts us, same]
    by_cases h : t = u
    · subst h
      by_cases h2 : ts = us <;> simp [h2]
    · simp [h]
/-! ### texts that rise -/
theorem up_of : ∀ (ys : List Str) (p : Str), risingS p ys = true → (p :: ys).Nodup → UpS (p :: ys)
  | [], p, _, _ => List.pairwise_singleton _ _
  | c :: cs, p, h, nd => by
    have h' : (!ltCps c.cps.toList p.cps.toList && risingS c cs) = true := h
    rw [Bool.and_eq_true, ltCps_eq] at h'
    have nd' := List.nodup_cons.mp nd
    have ih := up_of cs c h'.2 nd'.2
    have h1 : ¬ c.cps.toList < p.cps.toList := by simpa using h'.1
    have h2 : p ≠ c := fun e => nd'.1 (e ▸ List.mem_cons_self)
    have hpc : p.cps.toList < c.cps.toList := by
      by_cases q : p.cps.toList < c.cps.toList
      · exact q
      · exact absurd (str_inj (List.le_antisymm (List.not_lt.mp h1) (List.not_lt.mp q))) h2
    refine List.pairwise_cons.mpr ⟨fun d hd => ?_, ih⟩
    rcases List.mem_cons.mp hd with e | hd
    · rw [e]; exact hpc
    · exact List.lt_trans hpc ((List.pairwise_cons.mp ih).1 d hd)
theorem up_sorted {ys : List Str} (h : sortedS ys = true) (nd : ys.Nodup) : UpS ys := by
  cases ys with
  | nil => exact List.Pairwise.nil
  | cons p ys => exact up_of ys p h nd
theorem up_eq : ∀ {a b : List Str}, UpS a → UpS b → (∀ y, y ∈ a ↔ y ∈ b) → a = b
  | [], [], _, _, _ => rfl
  | [], y :: b, _, _, h => absurd ((h y).mpr List.mem_cons_self) (by simp)
  | x :: a, [], _, _, h => absurd ((h x).mp List.mem_cons_self) (by simp)
  | x :: a, y :: b, ua, ub, h => by
    have a1 := List.pairwise_cons.mp ua
    have b1 := List.pairwise_cons.mp ub
    have e : x = y := by
      rcases List.mem_cons.mp ((h x).mp List.mem_cons_self) with q | q
      · exact q
      rcases List.mem_cons.mp ((h y).mpr List.mem_cons_self) with q2 | q2
      · exact q2.symm
      exact absurd (List.lt_trans (a1.1 y q2) (b1.1 x q)) (List.lt_irrefl _)
    subst e
    have : a = b := up_eq a1.2 b1.2 fun z => by
      have hz := h z
      have nx : ∀ {l : List Str}, (∀ d ∈ l, x.cps.toList < d.cps.toList) → x ∉ l := fun hl q => List.lt_irrefl _ (hl x q)
      by_cases c : z = x
      · subst c
        exact ⟨fun q => absurd q (nx a1.1), fun q => absurd q (nx b1.1)⟩
      · rw [List.mem_cons, List.mem_cons] at hz
        exact ⟨fun q => (hz.mp (.inr q)).elim (fun w => absurd w c) id, fun q => (hz.mpr (.inr q)).elim (fun w => absurd w c) id⟩
    rw [this]
theorem signs_up {ts ss ys : List Str} (nd : ss.Nodup) (hm : ∀ y, y ∈ ss ↔ y ∈ ts) (p : ys.Perm ss) (so : sortedS ys = true) : ts = ys ↔ UpS ts := by
  have uy := up_sorted so (p.nodup_iff.mpr nd)
  exact ⟨fun e => e ▸ uy, fun ut => up_eq ut uy fun y => ((hm y).symm.trans p.mem_iff.symm)⟩
end LmG

set_option Elab.async false
set_option linter.all false
set_option maxRecDepth 100000
set_option maxHeartbeats 4000000
namespace LmIsi
open PySem PySem.W PySem.Calls PyProof.Rows Builtin Builtin.ObjectAttr Builtin.Getset_descriptor
section
variable {prog : Program} {w : World} {A : Around} {E : Value → Shared → Prop} {K : Frag} {h : Heap} {g : Array GenState} {d : Drawn} {t : Nat} {os : OsState} {x C : Addr}

end
end LmIsi
namespace L2
open PySem PySem.Spec PyProof.Rows

/-! ### exceptions of own classes: how one lies behind a call, how it leaves a frame, how it is caught -/
theorem ObjOk.there {P : Program} {w : World} {H : Hp} {h : Heap} {a : Addr} {o : HO} (x : ObjOk P w H h a o) : ∃ u, h.get? a = some u := by
  cases o with
  | lst xs => obtain ⟨_, _, _, _, e⟩ := x; exact ⟨_, e⟩
  | tup xs => obtain ⟨_, _, _, o, e, _⟩ := x; exact ⟨_, e⟩
  | dK kvs => obtain ⟨_, _, _, _, o, _, _, e, _⟩ := x; exact ⟨_, e⟩
  | dT kvs => obtain ⟨_, _, _, _, o, _, _, e, _⟩ := x; exact ⟨_, e⟩
  | set S n => obtain ⟨o, _, _, _, e, _⟩ := x; exact ⟨_, e⟩
  | ins C dx fs => obtain ⟨_, _, _, e, _⟩ := x; exact ⟨_, e⟩
  | own y => exact x
  | xd fs => obtain ⟨_, ⟨_, _, _, e, _⟩, _⟩ := x; exact ⟨_, e⟩
  | rng lo hi => obtain ⟨_, _, _, e⟩ := x; exact ⟨_, e⟩
  | frz ob u => obtain ⟨e, _⟩ := x; exact ⟨_, e⟩
  | tbl ps => exact ⟨_, x⟩
  | met f y => exact ⟨_, x⟩
  | ext φ => obtain ⟨_, e, _⟩ := x; exact e

/-- what B keeps: every object that is tracked, or was there ahead, but the frames -/
def Cov (B : Heap) (fs : List Addr) (H : Hp) (h0 h : Heap) : Prop := ∀ b o, h.get? b = some o → b ∉ fs → (H b ≠ none ∨ ∃ o0, h0.get? b = some o0) → B.get? b = some o

/-- the exception at ea, of the class at C, behind a call -/
structure Fly (P : Program) (w : World) (outer : List Env) (H : Hp) (s : Shared) (H' : Hp) (ea C : Addr) (s' : Shared) : Prop where
  os : s'.os = s.os
  bare : AllBare s'.gens
  un : Un (frs outer) [] H H' s.heap s'.heap
  hok : HOk P w H' s'.heap
  fly : ∃ (a0 : Value) (B : Heap), Heap.FlyingW B outer ea (.ref C) a0 s'.heap ∧ Cov B (frs outer) H' s.heap s'.heap
  free : H' ea = none
  new : s.heap.get? ea = none
  frf : ∀ b ∈ frs outer, H' b = none

/-- how an own exception lies behind a call -/
def CX1 (P : Program) (w : World) : CXT := fun outer H s E e s' => ∃ (ea C : Addr) (H' : Hp), e = .ref ea ∧ Fly P w outer H s H' ea C s' ∧ E (.ref C) none H'

/-- the flight's marks change, the rest stays -/
theorem Fly.move {P : Program} {w : World} {outer : List Env} {H H' : Hp} {s s' : Shared} {ea C : Addr} {a0 : Value} {B h2 : Heap} (F : Fly P w outer H s H' ea C s')
    (hfr : s'.heap.FunFrames B outer) (cov : Cov B (frs outer) H' s.heap s'.heap) (fl : Heap.FlyingW B outer ea (.ref C) a0 h2) (up : s'.heap.UpToSlots h2) : Fly P w outer H s H' ea C { s' with heap := h2 } := by
  have kp : ∀ b o, s'.heap.get? b = some o → b ∉ frs outer → (H' b ≠ none ∨ ∃ o0, s.heap.get? b = some o0) → h2.get? b = some o := fun b o e h1 h3 => fl.1 b o (cov b o e h1 h3)
  have frm : ∀ b o, b ∈ frs outer → s'.heap.get? b = some o → ∃ sl, h2.get? b = some { o with slots := sl } := fun b o hb e => by
    obtain ⟨_, o', ho', hd⟩ := hfr.mem hb
    rw [e] at ho'; cases ho'
    exact up b o e hd
  refine ⟨F.os, F.bare, ⟨fun b o e n hb hx => ?_, fun b o e n hb hx => ?_, F.un.free, fun b o e hx => ?_, F.un.tups, F.un.frzs, F.un.tbls⟩, fun a u e => ?_, ⟨a0, B, fl, fun b o e hb h3 => ?_⟩, F.free, F.new, F.frf⟩
  · exact kp b o (F.un.keep b o e n hb hx) hb (.inr ⟨o, e⟩)
  · obtain ⟨sl, e1⟩ := F.un.slot b o e n hb hx
    obtain ⟨sl', e2⟩ := frm b _ hb e1
    exact ⟨sl', e2⟩
  · obtain ⟨o1, e1⟩ := F.un.there b o e hx
    by_cases hb : b ∈ frs outer
    · obtain ⟨sl, e2⟩ := frm b o1 hb e1
      exact ⟨_, e2⟩
    · exact ⟨o1, kp b o1 e1 hb (.inr ⟨o, e⟩)⟩
  · refine (F.hok a u e).stay (fun b o hb e1 => ?_) (fun _ q => q) fun _ _ q => q
    have ne : H' b ≠ none := by
      rcases hb with z | z
      · rw [z, e]; exact fun q => nomatch q
      · rw [z]; exact fun q => nomatch q
    exact kp b o e1 (fun z => ne (F.frf b z)) (.inl ne)
  · have h1 : ∃ o1, s'.heap.get? b = some o1 := h3.elim (fun z => by
      cases q : H' b with
      | none => exact absurd q z
      | some u => exact (F.hok b u q).there) (fun ⟨o0, e0⟩ => F.un.there b o0 e0 (by simp))
    obtain ⟨o1, e1⟩ := h1
    have e2 := cov b o1 e1 hb h3
    have e3 : h2.get? b = some o1 := fl.1 b o1 e2
    have e4 : h2.get? b = some o := e
    rw [e4] at e3; cases e3
    exact e2

section
variable {X : Cx} {pins : List (Addr × Obj)} {σ : St} {H : Hp} {s1 : Shared}
/-- out of a frame -/
theorem fly_out {B h2 : Heap} {ea C : Addr} {a0 : Value} (hex : X.ex = []) (hstk : X.stack = X.env :: X.outer) (hf : X.env.frame = some X.env.locals) (I : Inv X pins σ H s1)
    (cov : Cov B (frs X.stack) H X.s₀.heap s1.heap) (fl : Heap.FlyingW B X.outer ea (.ref C) a0 h2) (up : s1.heap.UpToSlots h2) (n1 : H ea = none) (n2 : X.s₀.heap.get? ea = none) :
    Fly X.prog X.w X.outer X.H₀ X.s₀ H ea C { s1 with heap := h2 } := by
  have neL : ∀ b o, X.s₀.heap.get? b = some o → b ≠ X.env.locals := fun b o e => Nat.ne_of_lt (Nat.lt_of_lt_of_le (Heap.lt_size e) I.ok.above)
  have mem : ∀ b, b ≠ X.env.locals → b ∉ X.fs → b ∉ frs X.stack := fun b h1 h2 z => (List.mem_cons.mp (I.stkSub b z)).elim h1 h2
  have nx : ∀ b, b ∉ X.ex := fun b z => by rw [hex] at z; cases z
  have inS : ∀ b, b ∈ frs X.outer → b ∈ frs X.stack := fun b hb => by
    rw [hstk]
    unfold frs
    rw [List.filterMap_cons, hf]
    exact List.mem_cons_of_mem _ hb
  have kp : ∀ b o, s1.heap.get? b = some o → b ∉ frs X.stack → (H b ≠ none ∨ ∃ o0, X.s₀.heap.get? b = some o0) → h2.get? b = some o := fun b o e h1 h3 => fl.1 b o (cov b o e h1 h3)
  have frm : ∀ b o, b ∈ frs X.stack → s1.heap.get? b = some o → ∃ sl, h2.get? b = some { o with slots := sl } := fun b o hb e => by
    obtain ⟨_, o', ho', hd⟩ := I.stack.mem hb
    rw [e] at ho'; cases ho'
    exact up b o e hd
  refine ⟨I.os, I.bare, ⟨fun b o e n hb _ => ?_, fun b o e n hb _ => ?_, fun b o e n _ => I.base.free b o e n (nx b), fun b o e _ => ?_, I.base.tups, I.base.frzs, I.base.tbls⟩, fun a u e => ?_, ⟨a0, B, fl, fun b o e hb h3 => ?_⟩, n1, n2, fun b hb => I.stkFree b (inS b hb)⟩
  · exact kp b o (I.base.keep b o e n hb (nx b)) (mem b (neL b o e) hb) (.inr ⟨o, e⟩)
  · obtain ⟨sl, e1⟩ := I.base.slot b o e n hb (nx b)
    obtain ⟨sl', e2⟩ := frm b _ (inS b hb) e1
    exact ⟨sl', e2⟩
  · obtain ⟨o1, e1⟩ := I.base.there b o e (nx b)
    by_cases hb : b ∈ frs X.stack
    · obtain ⟨sl, e2⟩ := frm b o1 hb e1
      exact ⟨_, e2⟩
    · exact ⟨o1, kp b o1 e1 hb (.inr ⟨o, e⟩)⟩
  · refine (I.hok a u e).stay (fun b o hb e1 => ?_) (fun _ q => q) fun _ _ q => q
    have ne : H b ≠ none := by
      rcases hb with z | z
      · rw [z, e]; exact fun q => nomatch q
      · rw [z]; exact fun q => nomatch q
    exact kp b o e1 (fun z => ne (I.stkFree b z)) (.inl ne)
  · have hL : b ≠ X.env.locals := h3.elim (fun z y => z (by rw [y]; exact I.free)) (fun ⟨o0, e0⟩ => neL b o0 e0)
    have hs := mem b hL hb
    have h1 : ∃ o1, s1.heap.get? b = some o1 := h3.elim (fun z => by
      cases q : H b with
      | none => exact absurd q z
      | some u => exact (I.hok b u q).there) (fun ⟨o0, e0⟩ => I.base.there b o0 e0 (nx b))
    obtain ⟨o1, e1⟩ := h1
    have e2 := cov b o1 e1 hs h3
    have e3 : h2.get? b = some o1 := fl.1 b o1 e2
    have e4 : h2.get? b = some o := e
    rw [e4] at e3; cases e3
    exact e2
end

section
variable {P : Program} {w : World} {K : PySem.W.Frag} {mg : Str → Option Value} {base : Heap} {N : List Str} {qual : Str} {scope : Scope} {f : Addr} {cd : Value} {A : Around} {outer : List Env} {s0 : Shared} {H0 : Hp} {E : XK}
  {pins : List (Addr × Obj)} {σ : St} {H : Hp} {s1 : Shared}
/-- a new exception leaves the def -/
theorem raise_out {h' : Heap} {ea C : Addr} {vs : List Value} (I : Inv (cxOf (CX1 P w) P w K mg base N qual scope f cd A outer s0 H0 E) pins σ H s1) (hm : Heap.MadeExcOf s1.heap h' ea (.ref C) vs) (q : E (.ref C) none H) :
    (cxOf (CX1 P w) P w K mg base N qual scope f cd A outer s0 H0 E).xe (.ref ea) { s1 with heap := h' } := by
  have hin : ∀ env ∈ (cxOf (CX1 P w) P w K mg base N qual scope f cd A outer s0 H0 E).stack, ∀ a, env.frame = some a → a ∈ frs (cxOf (CX1 P w) P w K mg base N qual scope f cd A outer s0 H0 E).stack :=
    fun env he a ha => List.mem_filterMap.mpr ⟨env, he, ha⟩
  show wpAny _ _ (leaving _ _) _ _ _
  refine wpAny_leaves_madeW (s := { s1 with heap := h' }) (base := PySem.W.hideAll s1.heap (frs (cxOf (CX1 P w) P w K mg base N qual scope f cd A outer s0 H0 E).stack)) (h := s1.heap) I.ok.frames rfl (fun b o e => PySem.W.of_hideAll _ e) (PySem.W.funFrames_hide I.stack hin) hm fun h2 t x1 x2 x3 x4 => ?_
  have up : s1.heap.UpToSlots h2 := (Heap.UpToSlots.of_keeps hm.keeps).trans x4
  have n1 : H ea = none := by
    cases z : H ea with
    | none => rfl
    | some u => obtain ⟨o, e⟩ := (I.hok ea u z).there; rw [hm.new] at e; cases e
  have n2 : s0.heap.get? ea = none := by
    cases z : s0.heap.get? ea with
    | none => rfl
    | some o => obtain ⟨o', e⟩ := I.base.there ea o z (fun y => nomatch y); rw [hm.new] at e; cases e
  exact ⟨ea, C, H, rfl, fly_out rfl rfl rfl I (fun b o e hb _ => PySem.W.hideAll_get _ e hb) x1 up n1 n2, q⟩

/-- a callee's exception leaves the def too -/
theorem pass1 : Passes (CX1 P w) (cxOf (CX1 P w) P w K mg base N qual scope f cd A outer s0 H0 E) E := by
  intro pins σ H s e s' I h
  obtain ⟨ea, C, H', rfl, F, q⟩ := h
  obtain ⟨a0, B, fl, cov⟩ := F.fly
  have I' : Inv (cxOf (CX1 P w) P w K mg base N qual scope f cd A outer s0 H0 E) pins σ H' s' := I.call' (ch := []) F.os F.un F.hok F.bare fun b z => nomatch z
  show wpAny _ _ (leaving _ _) _ _ _
  refine wpAny_leaves_onW (base := B) I.ok.frames rfl fl fun h2 x1 x2 => ?_
  refine ⟨ea, C, H', rfl, fly_out rfl rfl rfl I' (fun b o e hb h3 => cov b o e hb (h3.imp_right fun ⟨o0, e0⟩ => I.base.there b o0 e0 fun y => nomatch y)) x1 x2 F.free ?_, q⟩
  cases z : s0.heap.get? ea with
  | none => exact z
  | some o => obtain ⟨o', e⟩ := I.base.there ea o z (fun y => nomatch y); rw [F.new] at e; cases e

/-- it leaves a loop of the def -/
theorem own1 {CX : CXT} : PassesOwn (model (cxOf CX P w K mg base N qual scope f cd A outer s0 H0 E).prog (cxOf CX P w K mg base N qual scope f cd A outer s0 H0 E).w) (cxOf CX P w K mg base N qual scope f cd A outer s0 H0 E).A (cxOf CX P w K mg base N qual scope f cd A outer s0 H0 E).env
    (cxOf CX P w K mg base N qual scope f cd A outer s0 H0 E).xe := PassesOwn.leaving
end

section
variable {P : Program} {w : World} {K : PySem.W.Frag} {mg : Str → Option Value} {base : Heap}
/-- a def that may refuse -/
theorem Fun.okX {CX : CXT} {x qual : Str} {st : Stmt} {f : Addr} {fd : FuncData} {N ps : List Str} {k : Nat} {sp : Sp} (F : Fun K x qual st f fd) (S : FnScope N ps (defScope st)) (len : ∀ vs H Q E, sp vs H Q E → vs.length = ps.length)
    (hbody : ∀ (cdv : Value) (A : Around) (outer : List Env) (s : Shared) (H : Hp) (vs : List V) (Q : VK) (E : XK), Room k (A.deeper (envOfC qual (defScope st) s.heap.objs.size f cdv)) → sp vs H Q E →
      ∃ t, PSs (cxOf CX P w K mg base N qual (defScope st) f cdv A outer s H E) (defBody st) t ∧ t { nx := fun _ H' => Q .non H', rt := Q } (start N vs) H) : FnOk P w K mg base CX (k + 1) f fd ps sp := by
  obtain ⟨oc, od, kV, doc, pm, an, cdv, ct, osl, rfl, lk, hcd⟩ := F.ex
  exact fn_of lk hcd S len fun A outer s H vs Q E hr hsp => hbody cdv A outer s H vs Q E hr hsp
end

/-! ### own classes -/
abbrev bmV : List Value := [.type "ValueError", .type "Exception", .type "BaseException", .type "object"]
/-- an own class of exceptions below ValueError; bm: its line behind itself -/
structure ExC (K : PySem.W.Frag) (C : Addr) (bm : List Value) : Prop where
  obj : ∃ nm q N bs hd sn sub ab col dd k0 k1 k2 k3 k5, K.lookup C = some (excClassObj nm q C N bs bm hd sn sub ab col dd k0 k1 k2 k3 k5 "ValueError.__new__") ∧ PySem.W.nsOkIn K N = true ∧ PySem.W.nsIn K N "__init__" = some none
  tail : PySem.W.tailIn K bmV bm = true
theorem ExC.base {K : PySem.W.Frag} {h : Heap} {C : Addr} {bm : List Value} (c : ExC K C bm) (X : K.In h) : bm.contains (.type "BaseException") = true :=
  (PySem.W.tail_of_in X c.tail).hasType PySem.F.excBase_ValueError.hasBase

theorem exc_mk {K : PySem.W.Frag} {C N : Addr} {bm bs sub : List Value} {nm q : Str} {hd ab : Bool} {sn : List Str} {col : Option Bool} {dd : Option Addr} {k0 k1 k2 k3 k5 : Option Value}
    (l : K.lookup C = some (excClassObj nm q C N bs bm hd sn sub ab col dd k0 k1 k2 k3 k5 "ValueError.__new__")) (e : PySem.W.excIn K C bmV "ValueError.__new__" = true) : ExC K C bm := by
  unfold PySem.W.excIn at e
  rw [l] at e
  simp only [Bool.and_eq_true, beq_iff_eq] at e
  exact ⟨⟨nm, q, N, bs, hd, sn, sub, ab, col, dd, k0, k1, k2, k3, k5, l, e.1.2, e.2⟩, e.1.1.2⟩

section
variable {P : Program} {w : World} {K : PySem.W.Frag} {mg : Str → Option Value} {base : Heap} {N : List Str} {qual : Str} {scope : Scope} {f : Addr} {cd : Value} {A : Around} {outer : List Env} {s0 : Shared} {H0 : Hp} {E : XK}
def tRaise (E : XK) (C : Addr) : TS := fun _ _ H => E (.ref C) none H
/-- raise C('..') -/
theorem ps_raise {C : Addr} {bm : List Value} {x m : Str} {j} {np mp cpos pos : Pos} (c : ExC K C bm) (hm : mg x = some (.ref C)) (hh : A.handled = none)
    (hg : Gl (cxOf (CX1 P w) P w K mg base N qual scope f cd A outer s0 H0 E) x := by rfl) (hdb : (x == ("__debug__" : Str)) = false := by decide) :
    PS (cxOf (CX1 P w) P w K mg base N qual scope f cd A outer s0 H0 E) (.Raise (some (.Call (.Name x np) [.Constant (.str m) j mp] [] cpos)) none pos) (tRaise E C) := by
  intro pins s σ H D I h
  obtain ⟨nm, q, Na, bs, hd, sn, sub, ab, col, dd, k0, k1, k2, k3, k5, lk, hok, hni⟩ := c.obj
  have hA : (cxOf (CX1 P w) P w K mg base N qual scope f cd A outer s0 H0 E).A.handled = none := hh
  have hN : base.Ns Na (base.nsMap Na) := .of_isNs (PySem.W.isNs_of_in I.mod.kin hok)
  have pa : PA (cxOf (CX1 P w) P w K mg base N qual scope f cd A outer s0 H0 E) [.Constant (.str m) j mp] _ := pa_cons pe_str pa_nil
  refine wpAny_Raise_call_subT (C := C) (nm := nm) (q := q) (N := Na) (bs := bs) (bm := bm) (hdct := hd) (sn := sn) (sub := sub) (ab := ab) (col := col) (dd := dd) (k0 := k0) (k1 := k1) (k2 := k2) (k3 := k3) (k5 := k5) (mN := base.nsMap Na)
    PySem.F.excBase_ValueError (c.base I.kIn) hA rfl (PySem.W.nsMap_none_of_in I.mod.kin hok hni) (ld_glob I hg hm ⟨rfl, ?_⟩ hdb)
  refine Calls.evalArgs_plain (thn (pa cpos pins s σ H (fun vs H1 => vs.length = 1 ∧ E (.ref C) none H1) I ⟨rfl, h⟩) fun us s1 ⟨vs, H1, I1, r, l, q⟩ => ?_)
  refine ⟨rfl, ?_, I1.kIn _ _ lk, hN.keeps I1.bk, PySem.W.tail_of_in I1.kIn c.tail, fun h' e hme => raise_out I1 hme q⟩
  show us.length ≤ sizeLine
  rw [← r.length, l]
  decide
end

/-! ### try -/
section
variable {X : Cx} {pins pins' : List (Addr × Obj)} {σ : St} {H : Hp} {s : Shared} {E : Value → Shared → Prop} {ea C : Addr} {oe : Obj}

end

section
variable {X : Cx} {CX : CXT} {k : Nat} {f : Addr} {fd : FuncData} {ps : List Str} {sp : Sp} {EE : St → XK} {x : Str} {p pos : Pos} {e : Expr} {es : List Expr} {t : TA}
end

section
variable {X : Cx} {pins : List (Addr × Obj)} {σ : St} {H : Hp} {s : Shared} {ea C : Addr}
end

section
variable {X : Cx} {Dc : Addr} {bmD : List Value} {x : Str} {b₀ : Stmt} {suite : List Stmt} {np hpos : Pos} {rest : List ExceptHandler} {thr : Addr → List Value → TS} {ts : Addr → Addr → List Value → TS}

end

section
variable {X : Cx} {pins : List (Addr × Obj)} {ea C : Addr} {oe : Obj} {vs : Array Value} {bm : List Value} {e tx : Expr} {te : TE} {v : V} {u : Value} {p pos : Pos}
end
end L2

set_option Elab.async false
set_option linter.all false
set_option maxRecDepth 100000
set_option maxHeartbeats 4000000
namespace LmTxt
open PySem PySem.Spec L2 PyProof.Rows
/-! ### slices of texts, as lists -/
theorem sl_from (x : Str) {k : Nat} (h : k ≤ x.length) : (Txt.slice x (some (k : Int)) none).cps.toList = x.cps.toList.drop k := by
  rw [slice_from_eq (b := (x.length : Int)) (by omega) (by omega) rfl]
  have e : ((x.length : Int) - (k : Int)).toNat = x.length - k := by omega
  rw [e, Int.toNat_natCast]
  show (x.cps.toList.drop k).take (x.length - k) = _
  rw [List.take_of_length_le (by rw [List.length_drop, ← len_list]; exact Nat.le_refl _)]
theorem sl_to (x : Str) {k : Nat} (h : k ≤ x.length) : (Txt.slice x none (some (k : Int))).cps.toList = x.cps.toList.take k := by
  rw [beq_iff_eq.mp (slice_closes_toL (x := x) (j := (k : Int)) (by omega) (by omega))]
  have e : ((k : Int) - 0).toNat = k := by omega
  rw [e]
  rfl
theorem str_ext {x y : Str} (h : x.cps.toList = y.cps.toList) : x = y := by
  obtain ⟨⟨a⟩⟩ := x
  obtain ⟨⟨b⟩⟩ := y
  have e : a = b := h
  rw [e]
end LmTxt

set_option Elab.async false
set_option linter.all false
set_option maxRecDepth 100000
set_option maxHeartbeats 4000000
namespace L2
open PySem PySem.Spec PyProof.Rows
/-! ## a comprehension whose element may raise -/

end L2

set_option Elab.async false
set_option linter.all false
set_option maxRecDepth 100000
set_option maxHeartbeats 2000000
namespace LmMaxD
open PySem
section
variable {prog : Program} {w : World} {A : Around} {E : Value → Shared → Prop} {s : Shared} {R : Result → Shared → Prop} {I : Addr} {fp wr : List Addr} {n : Nat} {P : Nat → Value → Prop} {St : Nat → Heap → Prop} {kw : List (Str × Value)}
end
end LmMaxD
namespace L2
open PySem PySem.Spec PyProof.Rows
end L2

set_option Elab.async false
set_option linter.all false
set_option maxRecDepth 100000
set_option maxHeartbeats 2000000
namespace M06
open PySem PySem.Spec L2 PyProof.Rows LmTxt M02 M05 LmG
/-- the next code of n flashes -/
def cb (c : Str) (n : Int) : Str := if c = Str.empty then Txt.mul (one 46) n else Txt.ljustF (Txt.slice c none (some (Txt.rfind c (one 46))) ++ one 45) n 46
/-- the codes, one by one -/
def run : Str → List Int → List Str
  | _, [] => []
  | c, n :: ns => cb c n :: run (cb c n) ns
def lastC : Str → List Int → Str
  | c, [] => c
  | c, n :: ns => lastC (cb c n) ns
theorem run_snoc : ∀ (c : Str) (ns : List Int) (n : Int), run c (ns ++ [n]) = run c ns ++ [cb (lastC c ns) n]
  | _, [], _ => rfl
  | c, m :: ns, n => by
    show cb c m :: run (cb c m) (ns ++ [n]) = cb c m :: (run (cb c m) ns ++ [cb (lastC (cb c m) ns) n])
    rw [run_snoc (cb c m) ns n]
theorem last_snoc : ∀ (c : Str) (ns : List Int) (n : Int), lastC c (ns ++ [n]) = cb (lastC c ns) n
  | _, [], _ => rfl
  | c, m :: ns, n => last_snoc (cb c m) ns n
theorem run_len : ∀ (c : Str) (ns : List Int), (run c ns).length = ns.length
  | _, [] => rfl
  | c, m :: ns => congrArg (· + 1) (run_len (cb c m) ns)
theorem ljust_len (x : Str) (n : Int) (c : Nat) : (Txt.ljustF x n c).length ≤ max x.length n.toNat := by
  unfold Txt.ljustF
  split
  · omega
  · have : (Builtin.Str.padded x 0 (n.toNat - x.length) c).length = x.length + (n.toNat - x.length) := by
      unfold Builtin.Str.padded
      show (_ : Array Nat).size = _
      simp
      rfl
    rw [this]
    omega
theorem mul_len (c : Nat) {n : Int} (h : 0 ≤ n) : (Txt.mul (one c) n).length ≤ n.toNat := len_mul_one rfl (by omega)
theorem cb_len {c : Str} {n : Int} (h : 0 ≤ n) : (cb c n).length ≤ max (c.length + 1) n.toNat := by
  unfold cb
  split
  · have := mul_len 46 h
    omega
  · have h1 := ljust_len (Txt.slice c none (some (Txt.rfind c (one 46))) ++ one 45) n 46
    have h2 := Txt.slice_le c none (some (Txt.rfind c (one 46)))
    have h3 : (Txt.slice c none (some (Txt.rfind c (one 46))) ++ one 45).length = (Txt.slice c none (some (Txt.rfind c (one 46)))).length + 1 := by
      rw [LmTxt.len_list, app_list, List.length_append, ← LmTxt.len_list]
      rfl
    omega
theorem last_len : ∀ (c : Str) (ns : List Int) (B : Nat), (∀ n ∈ ns, 0 ≤ n ∧ n ≤ B) → (lastC c ns).length ≤ max c.length B + ns.length
  | c, [], B, _ => by show c.length ≤ _; omega
  | c, n :: ns, B, h => by
    have h1 := h n List.mem_cons_self
    have h2 := cb_len (c := c) h1.1
    have h3 := last_len (cb c n) ns B fun m hm => h m (List.mem_cons_of_mem _ hm)
    show (lastC (cb c n) ns).length ≤ max c.length B + (ns.length + 1)
    omega
/-- what sorted gives of pairs -/
theorem sort_refs {ps : List (Addr × G)} {pm : Array Nat} (hP : LmSort.Pm (refs ps).length pm) (hU : LmSort.Up (fun i j => kltB ((ps.map (·.2)).getD i (0, Str.empty)) ((ps.map (·.2)).getD j (0, Str.empty))) pm (refs ps).length) :
    ∃ qs, (pm.toList.map fun i => (refs ps).getD i .non) = refs qs ∧ qs.Perm ps ∧ (qs.map (·.2)).Pairwise fun a b => kltB a b = true := by
  rw [refs_len] at hP hU
  have hP' : LmSort.Pm (ps.map (·.2)).length pm := by rw [List.length_map]; exact hP
  have hin : ∀ i ∈ pm.toList, i < ps.length := fun i hi => List.mem_range.mp (hP.perm.mem_iff.mp hi)
  have e1 : (pm.toList.map fun i => (refs ps).getD i .non) = refs (pm.toList.map fun i => ps.getD i (0, (0, Str.empty))) := by
    unfold refs
    rw [List.map_map]
    refine List.map_congr_left fun i hi => ?_
    have := hin i hi
    simp [this]
  have e2 : (pm.toList.map fun i => ps.getD i (0, (0, Str.empty))).map (·.2) = pm.toList.map fun i => (ps.map (·.2)).getD i (0, Str.empty) := by
    rw [List.map_map]
    refine List.map_congr_left fun i hi => ?_
    have := hin i hi
    simp [this]
  have hp : (pm.toList.map fun i => ps.getD i (0, (0, Str.empty))).Perm ps := by
    have e : (List.range ps.length).map (fun i => ps.getD i (0, (0, Str.empty))) = ps := by
      refine List.ext_getElem (by simp) fun i h1 h2 => ?_
      simp at h1
      simp [h1]
    have := hP.perm.map fun i => ps.getD i (0, (0, Str.empty))
    rw [e] at this
    exact this
  have hup := sorted_up (ks := ps.map (·.2)) hP' (by rw [List.length_map]; exact hU)
  rw [← e2] at hup
  exact ⟨_, e1, hp, hup⟩
/-- the table of codes -/
def tabC (ks : List G) : List (Key × V) := (ks.map fun k => (.inr k.2 : Key)).zip ((run Str.empty (ks.map (·.1))).map V.str)
theorem tabC_len (ks : List G) : (tabC ks).length = ks.length := by unfold tabC; rw [List.length_zip, List.length_map, List.length_map, run_len, List.length_map]; omega
theorem tabC_snoc (ks : List G) (k : G) : tabC (ks ++ [k]) = tabC ks ++ [(.inr k.2, .str (cb (lastC Str.empty (ks.map (·.1))) k.1))] := by
  unfold tabC
  rw [List.map_append, List.map_append, List.map_cons, List.map_nil, List.map_cons, List.map_nil, run_snoc, List.map_append, List.zip_append (by rw [List.length_map, List.length_map, run_len, List.length_map])]
  rfl
theorem tabC_none {ks : List G} {x : Str} (h : x ∉ ks.map (·.2)) : valV (tabC ks) (.inr x) = none := by
  unfold tabC
  generalize (run Str.empty (ks.map (·.1))).map V.str = vs
  induction ks generalizing vs with
  | nil => rfl
  | cons k ks ih =>
    cases vs with
    | nil => rfl
    | cons v vs =>
      rw [List.map_cons, List.zip_cons_cons, valV_neg (fun e => h (by
        rw [List.map_cons, Sum.inr.inj e]; exact List.mem_cons_self))]
      exact ih (fun z => h (List.mem_cons_of_mem _ z)) vs
theorem tabC_some {ks : List G} {x : Str} (h : x ∈ ks.map (·.2)) : ∃ c : Str, valV (tabC ks) (.inr x) = some (.str c) := by
  unfold tabC
  have hl : ((run Str.empty (ks.map (·.1))).map V.str).length = ks.length := by rw [List.length_map, run_len, List.length_map]
  have hv : ∀ v ∈ (run Str.empty (ks.map (·.1))).map V.str, ∃ c : Str, v = .str c := fun v hv => by
    obtain ⟨c, _, rfl⟩ := List.mem_map.mp hv
    exact ⟨c, rfl⟩
  generalize (run Str.empty (ks.map (·.1))).map V.str = vs at hl hv
  induction ks generalizing vs with
  | nil => cases h
  | cons k ks ih =>
    cases vs with
    | nil => simp at hl
    | cons v vs =>
      rw [List.map_cons, List.zip_cons_cons]
      by_cases e : k.2 = x
      · rw [valV_pos (by rw [e])]
        obtain ⟨c, rfl⟩ := hv v List.mem_cons_self
        exact ⟨c, rfl⟩
      · rw [valV_neg (fun z => e (Sum.inr.inj z))]
        refine ih ?_ vs (by simpa using hl) fun u hu => hv u (List.mem_cons_of_mem _ hu)
        rw [List.map_cons] at h
        exact (List.mem_cons.mp h).elim (fun z => absurd z.symm e) id
/-- the code of a sign by the table -/
def codeIn (ks : List G) (x : Str) : Str := match valV (tabC ks) (.inr x) with | some (.str c) => c | _ => Str.empty
theorem codeIn_val {ks : List G} {x : Str} (h : x ∈ ks.map (·.2)) : valV (tabC ks) (.inr x) = some (.str (codeIn ks x)) := by
  obtain ⟨c, e⟩ := tabC_some h
  unfold codeIn
  rw [e]
end M06

namespace M08
/-- v in l flashes -/
def bits : Nat → Nat → List Nat
  | 0, _ => []
  | l + 1, v => bits l (v / 2) ++ [if v % 2 = 1 then 45 else 46]
theorem bits_len : ∀ (l v : Nat), (bits l v).length = l
  | 0, _ => rfl
  | l + 1, v => by rw [bits, List.length_append, bits_len l]; rfl
theorem bits_mem : ∀ (l v : Nat), ∀ c ∈ bits l v, c = 45 ∨ c = 46
  | 0, _, c, h => nomatch h
  | l + 1, v, c, h => by
    rw [bits] at h
    rcases List.mem_append.mp h with h | h
    · exact bits_mem l _ c h
    · rw [List.mem_singleton.mp h]
      by_cases q : v % 2 = 1
      · left; rw [if_pos q]
      · right; rw [if_neg q]
theorem bits_zero : ∀ l : Nat, bits l 0 = List.replicate l 46
  | 0 => rfl
  | l + 1 => by
    rw [bits, Nat.zero_div, bits_zero l, List.replicate_succ']
    rfl
theorem bits_ext (l v : Nat) : ∀ d : Nat, bits (l + d) (v * 2 ^ d) = bits l v ++ List.replicate d 46
  | 0 => by simp
  | d + 1 => by
    have e1 : v * 2 ^ (d + 1) = 2 * (v * 2 ^ d) := by rw [Nat.pow_succ]; rw [Nat.mul_comm 2, Nat.mul_assoc]
    have e2 : (2 * (v * 2 ^ d)) / 2 = v * 2 ^ d := by omega
    have e3 : (2 * (v * 2 ^ d)) % 2 = 0 := by omega
    rw [← Nat.add_assoc, bits, e1, e2, e3, bits_ext l v d, List.replicate_succ', ← List.append_assoc]
    rfl
theorem bits_inc : ∀ (l v : Nat), v + 1 < 2 ^ l → ∃ (a : List Nat) (k : Nat), a.length + 1 + k = l ∧ bits l v = a ++ 46 :: List.replicate k 45 ∧ bits l (v + 1) = a ++ 45 :: List.replicate k 46
  | 0, v, h => by simp at h
  | l + 1, v, h => by
    by_cases q : v % 2 = 1
    · have h2 : v / 2 + 1 < 2 ^ l := by rw [Nat.pow_succ] at h; omega
      obtain ⟨a, k, e1, e2, e3⟩ := bits_inc l (v / 2) h2
      refine ⟨a, k + 1, by omega, ?_, ?_⟩
      · rw [bits, if_pos q, e2, List.append_assoc, List.replicate_succ']
        rfl
      · have q1 : (v + 1) / 2 = v / 2 + 1 := by omega
        have q2 : ¬ ((v + 1) % 2 = 1) := by omega
        rw [bits, if_neg q2, q1, e3, List.append_assoc, List.replicate_succ']
        rfl
    · have q1 : (v + 1) / 2 = v / 2 := by omega
      have q2 : (v + 1) % 2 = 1 := by omega
      refine ⟨bits l (v / 2), 0, by rw [bits_len], ?_, ?_⟩
      · rw [bits, if_neg q]; rfl
      · rw [bits, if_pos q2, q1]; rfl
theorem bits_take (l v : Nat) : ∀ d : Nat, (bits (l + d) v).take l = bits l (v / 2 ^ d)
  | 0 => by
    rw [Nat.pow_zero, Nat.div_one]
    exact List.take_of_length_le (by rw [bits_len]; exact Nat.le_refl _)
  | d + 1 => by
    rw [← Nat.add_assoc, bits, List.take_append_of_le_length (by rw [bits_len]; omega), bits_take l (v / 2) d, Nat.div_div_eq_div_mul, Nat.pow_succ, Nat.mul_comm]
theorem bits_inj : ∀ (l u v : Nat), u < 2 ^ l → v < 2 ^ l → bits l u = bits l v → u = v
  | 0, u, v, h1, h2, _ => by simp at h1 h2; omega
  | l + 1, u, v, h1, h2, h => by
    rw [bits, bits] at h
    have hl : (bits l (u / 2)).length = (bits l (v / 2)).length := by rw [bits_len, bits_len]
    obtain ⟨e1, e2⟩ := List.append_inj h hl
    rw [Nat.pow_succ] at h1 h2
    have e3 := bits_inj l (u / 2) (v / 2) (by omega) (by omega) e1
    have e4 := (List.cons.inj e2).1
    have e5 : u % 2 = v % 2 := by
      by_cases q : u % 2 = 1
      · rw [if_pos q] at e4
        by_cases q' : v % 2 = 1
        · omega
        · rw [if_neg q'] at e4; omega
      · rw [if_neg q] at e4
        by_cases q' : v % 2 = 1
        · rw [if_pos q'] at e4; omega
        · omega
    omega
/-- the next code, as a list -/
structure Nxt (f : List Nat → Nat → List Nat) : Prop where
  nil : ∀ n, f [] n = List.replicate n 46
  inc : ∀ (a : List Nat) (k n : Nat), f (a ++ 46 :: List.replicate k 45) n = (a ++ [45]) ++ List.replicate (n - (a.length + 1)) 46
def runL (f : List Nat → Nat → List Nat) : List Nat → List Nat → List (List Nat)
  | _, [] => []
  | c, n :: ns => f c n :: runL f (f c n) ns
/-- where the parts lie: in units of which there are 2 ^ N -/
def at' (N : Nat) : Nat → List Nat → List (List Nat)
  | _, [] => []
  | p, n :: ns => bits n (p / 2 ^ (N - n)) :: at' N (p + 2 ^ (N - n)) ns
def wt (N : Nat) (ns : List Nat) : Nat := (ns.map fun n => 2 ^ (N - n)).sum
theorem wt_cons (N n : Nat) (ns : List Nat) : wt N (n :: ns) = 2 ^ (N - n) + wt N ns := by unfold wt; rw [List.map_cons, List.sum_cons]
theorem run_at {f : List Nat → Nat → List Nat} (F : Nxt f) (N : Nat) : ∀ (ns : List Nat) (l v : Nat), 1 ≤ l → l ≤ N → (∀ n ∈ ns, l ≤ n ∧ n ≤ N) → ns.Pairwise (· ≤ ·) → v * 2 ^ (N - l) + 2 ^ (N - l) + wt N ns ≤ 2 ^ N →
    runL f (bits l v) ns = at' N (v * 2 ^ (N - l) + 2 ^ (N - l)) ns
  | [], _, _, _, _, _, _, _ => rfl
  | n :: ns, l, v, hl, hN, hn, hp, hw => by
    have h1 := hn n List.mem_cons_self
    rw [wt_cons] at hw
    have hpos : 0 < 2 ^ (N - n) := Nat.pow_pos (by decide)
    have e0 : v * 2 ^ (N - l) + 2 ^ (N - l) = (v + 1) * 2 ^ (N - l) := by rw [Nat.add_mul, Nat.one_mul]
    have e1 : 2 ^ N = 2 ^ l * 2 ^ (N - l) := by rw [← Nat.pow_add]; congr 1; omega
    have hv : v + 1 < 2 ^ l := by
      rw [e0, e1] at hw
      have : (v + 1) * 2 ^ (N - l) < 2 ^ l * 2 ^ (N - l) := by omega
      exact Nat.lt_of_mul_lt_mul_right this
    obtain ⟨a, k, g1, g2, g3⟩ := bits_inc l v hv
    have e2 : f (bits l v) n = bits n ((v + 1) * 2 ^ (n - l)) := by
      have e3 := bits_ext l (v + 1) (n - l)
      rw [show l + (n - l) = n by omega] at e3
      rw [e3, g2, F.inc, g3, List.append_assoc, List.append_assoc]
      congr 1
      rw [show n - (a.length + 1) = k + (n - l) by omega, ← List.replicate_append_replicate]
      rfl
    have e4 : (v + 1) * 2 ^ (n - l) * 2 ^ (N - n) = v * 2 ^ (N - l) + 2 ^ (N - l) := by
      rw [e0, Nat.mul_assoc, ← Nat.pow_add]
      congr 2
      omega
    have e5 : (v * 2 ^ (N - l) + 2 ^ (N - l)) / 2 ^ (N - n) = (v + 1) * 2 ^ (n - l) := by rw [← e4]; exact Nat.mul_div_cancel _ hpos
    show f (bits l v) n :: runL f (f (bits l v) n) ns = bits n ((v * 2 ^ (N - l) + 2 ^ (N - l)) / 2 ^ (N - n)) :: at' N (v * 2 ^ (N - l) + 2 ^ (N - l) + 2 ^ (N - n)) ns
    rw [e5, e2]
    have hp' := List.pairwise_cons.mp hp
    have ih := run_at F N ns n ((v + 1) * 2 ^ (n - l)) (by omega) h1.2 (fun m hm => ⟨hp'.1 m hm, (hn m (List.mem_cons_of_mem _ hm)).2⟩) hp'.2 (by rw [e4]; omega)
    rw [ih, e4]
theorem run_at0 {f : List Nat → Nat → List Nat} (F : Nxt f) (N : Nat) : ∀ (ns : List Nat), (∀ n ∈ ns, 1 ≤ n ∧ n ≤ N) → ns.Pairwise (· ≤ ·) → wt N ns ≤ 2 ^ N → runL f [] ns = at' N 0 ns
  | [], _, _, _ => rfl
  | n :: ns, hn, hp, hw => by
    have h1 := hn n List.mem_cons_self
    have hp' := List.pairwise_cons.mp hp
    rw [wt_cons] at hw
    have ih := run_at F N ns n 0 h1.1 h1.2 (fun m hm => ⟨hp'.1 m hm, (hn m (List.mem_cons_of_mem _ hm)).2⟩) hp'.2 (by omega)
    show f [] n :: runL f (f [] n) ns = bits n (0 / 2 ^ (N - n)) :: at' N (0 + 2 ^ (N - n)) ns
    rw [F.nil, Nat.zero_div, ← bits_zero n, ih, Nat.zero_mul, Nat.zero_add]
theorem at_get (N : Nat) : ∀ (p : Nat) (ns : List Nat) (i : Nat) (h : i < ns.length), (at' N p ns)[i]? = some (bits ns[i] ((p + wt N (ns.take i)) / 2 ^ (N - ns[i])))
  | _, [], _, h => nomatch h
  | p, n :: ns, 0, _ => by simp [at', wt]
  | p, n :: ns, i + 1, h => by
    have ih := at_get N (p + 2 ^ (N - n)) ns i (by simpa using h)
    show (at' N (p + 2 ^ (N - n)) ns)[i]? = _
    rw [ih, List.take_succ_cons, wt_cons, List.getElem_cons_succ, Nat.add_assoc]
theorem wt_app (N : Nat) (a b : List Nat) : wt N (a ++ b) = wt N a + wt N b := by unfold wt; rw [List.map_append, List.sum_append]
/-- what lies above has the factor -/
theorem wt_dvd (N m : Nat) : ∀ ns : List Nat, (∀ n ∈ ns, n ≤ m) → m ≤ N → 2 ^ (N - m) ∣ wt N ns
  | [], _, _ => ⟨0, rfl⟩
  | n :: ns, h, hm => by
    rw [wt_cons]
    refine Nat.dvd_add ?_ (wt_dvd N m ns (fun x hx => h x (List.mem_cons_of_mem _ hx)) hm)
    have := h n List.mem_cons_self
    exact Nat.pow_dvd_pow 2 (by omega)
/-- no code begins another -/
theorem at_free {N : Nat} {ns : List Nat} (hn : ∀ n ∈ ns, 1 ≤ n ∧ n ≤ N) (hp : ns.Pairwise (· ≤ ·)) (hw : wt N ns ≤ 2 ^ N) {i j : Nat} (hij : i < j) (hj : j < ns.length) {c d : List Nat}
    (hc : (at' N 0 ns)[i]? = some c) (hd : (at' N 0 ns)[j]? = some d) : ¬ c <+: d ∧ ¬ d <+: c := by
  have hi : i < ns.length := by omega
  rw [at_get N 0 ns i hi, Nat.zero_add] at hc
  rw [at_get N 0 ns j hj, Nat.zero_add] at hd
  have hc := (Option.some.inj hc).symm
  have hd := (Option.some.inj hd).symm
  have hle : ns[i] ≤ ns[j] := List.pairwise_iff_getElem.mp hp i j hi hj hij
  have hi1 := hn ns[i] (List.getElem_mem hi)
  have hj1 := hn ns[j] (List.getElem_mem hj)
  obtain ⟨q, hq⟩ := wt_dvd N ns[i] (ns.take i) (fun n h => by
    obtain ⟨k, hk, rfl⟩ := List.getElem_of_mem h
    have hk' : k < i := by rw [List.length_take] at hk; omega
    rw [List.getElem_take]
    exact List.pairwise_iff_getElem.mp hp k i (by omega) hi hk') hi1.2
  have hpos : 0 < 2 ^ (N - ns[i]) := Nat.pow_pos (by decide)
  -- the other begins behind it
  have hsplit : ns.take j = ns.take i ++ (ns[i] :: (ns.take j).drop (i + 1)) := by
    have e1 : ns.take j = (ns.take j).take i ++ (ns.take j).drop i := (List.take_append_drop i _).symm
    have e2 : (ns.take j).take i = ns.take i := by rw [List.take_take]; congr 1; omega
    have e3 : (ns.take j).drop i = (ns.take j)[i]'(by rw [List.length_take]; omega) :: (ns.take j).drop (i + 1) := List.drop_eq_getElem_cons (by rw [List.length_take]; omega)
    rw [e2, e3, List.getElem_take] at e1
    exact e1
  have hge : wt N (ns.take i) + 2 ^ (N - ns[i]) ≤ wt N (ns.take j) := by
    rw [hsplit, wt_app, wt_cons]; omega
  have hsum : wt N (ns.take j) + 2 ^ (N - ns[j]) ≤ 2 ^ N := by
    have e : wt N ns = wt N (ns.take j) + wt N (ns.drop j) := by rw [← wt_app, List.take_append_drop]
    rw [List.drop_eq_getElem_cons hj, wt_cons] at e
    omega
  have key : ¬ c <+: d := by
    intro h
    have ht := List.prefix_iff_eq_take.mp h
    rw [hc, bits_len, hd] at ht
    have e1 := bits_take ns[i] (wt N (ns.take j) / 2 ^ (N - ns[j])) (ns[j] - ns[i])
    rw [show ns[i] + (ns[j] - ns[i]) = ns[j] by omega] at e1
    rw [e1, Nat.div_div_eq_div_mul, ← Nat.pow_add, show N - ns[j] + (ns[j] - ns[i]) = N - ns[i] by omega] at ht
    have e2 : 2 ^ N = 2 ^ ns[i] * 2 ^ (N - ns[i]) := by rw [← Nat.pow_add]; congr 1; omega
    have hposj : 0 < 2 ^ (N - ns[j]) := Nat.pow_pos (by decide)
    have b1 : wt N (ns.take i) / 2 ^ (N - ns[i]) < 2 ^ ns[i] := by
      rw [Nat.div_lt_iff_lt_mul hpos, ← e2]; omega
    have b2 : wt N (ns.take j) / 2 ^ (N - ns[i]) < 2 ^ ns[i] := by
      rw [Nat.div_lt_iff_lt_mul hpos, ← e2]; omega
    have e3 := bits_inj _ _ _ b1 b2 ht
    have e4 : wt N (ns.take i) / 2 ^ (N - ns[i]) + 1 ≤ wt N (ns.take j) / 2 ^ (N - ns[i]) := by
      have := Nat.div_le_div_right (c := 2 ^ (N - ns[i])) hge
      rw [Nat.add_div_right _ hpos] at this
      exact this
    omega
  refine ⟨key, fun h => ?_⟩
  have hl := h.length_le
  rw [hc, hd, bits_len, bits_len] at hl
  have : c.length = d.length := by rw [hc, hd, bits_len, bits_len]; omega
  exact key (by rw [h.eq_of_length this.symm]; exact List.prefix_refl _)

section
variable {α : Type} {cs : List (List Nat × α)} {tab : List Nat → Option α} {L : Nat}
end
end M08

set_option maxRecDepth 100000
set_option maxHeartbeats 2000000
namespace LmDict
open PySem PySem.Spec L2 PyProof.Rows
variable {prog : Program} {w : World} {A : Around} {E : Value → Shared → Prop} {s : Shared}
section
variable {K : Type} [DecidableEq K] {knd : KeyKind prog w K} {R : Result → Shared → Prop}
end
end LmDict

set_option Elab.async false
set_option linter.all false
set_option maxRecDepth 100000
set_option maxHeartbeats 2000000
namespace L2
open PySem PySem.Spec PyProof.Rows PySem.W PySem.SeqAt LmTxt
section
variable {X : Cx}
end
end L2

set_option Elab.async false
set_option linter.all false
set_option maxRecDepth 100000
set_option maxHeartbeats 2000000
namespace M08
open PySem PySem.Spec L2 PyProof.Rows LmTxt M02 M05 M06 LmG
/-! ### the codes of a book -/
theorem subAt_one (x : Str) (c i : Nat) : Builtin.Str.subAt x (one c) i = true ↔ x.cps.toList[i]? = some c := by
  unfold Builtin.Str.subAt
  rw [beq_iff_eq]
  have e : (x.cps.extract i (i + (one c).length)).toList = (x.cps.toList.drop i).take 1 := by
    show (x.cps.extract i (i + 1)).toList = _
    simp
  constructor
  · intro h
    rw [h] at e
    have e2 : [c] = (x.cps.toList.drop i).take 1 := e
    cases q : x.cps.toList.drop i with
    | nil => rw [q] at e2; cases e2
    | cons y r =>
      rw [q] at e2
      have e3 : c = y := by simpa using e2
      have := congrArg (·[0]?) q
      simp only [List.getElem?_drop, Nat.add_zero] at this
      rw [this, e3]
      rfl
  · intro h
    apply Array.toList_inj.mp
    rw [e]
    have hlt := (List.getElem?_eq_some_iff.mp h).1
    rw [List.drop_eq_getElem_cons hlt]
    have := (List.getElem?_eq_some_iff.mp h).2
    rw [this]
    rfl
theorem rfind_at (x : Str) (a : List Nat) (k : Nat) (h : x.cps.toList = a ++ 46 :: List.replicate k 45) : Txt.rfind x (one 46) = (a.length : Int) := by
  have hlen : x.length = a.length + 1 + k := by
    show x.cps.size = _
    have := congrArg List.length h
    simp at this
    omega
  have hat : StrLaws.At x (one 46) x.length a.length := by
    refine ⟨by rw [hlen]; show a.length + 1 ≤ _; omega, (subAt_one x 46 a.length).mpr ?_⟩
    rw [h, List.getElem?_append_right (Nat.le_refl _), Nat.sub_self]
    rfl
  unfold Txt.rfind
  rcases StrLaws.last_spec x (one 46) with ⟨_, no⟩ | ⟨i, e, hi, mx⟩
  · exact absurd hat (no _)
  · rw [e]
    have h1 : ¬ i < a.length := fun z => mx _ z hat
    have h2 : ¬ a.length < i := fun z => by
      have := (subAt_one x 46 i).mp hi.2
      rw [h, List.getElem?_append_right (by omega)] at this
      obtain ⟨d, rfl⟩ : ∃ d, i = a.length + 1 + d := ⟨i - (a.length + 1), by omega⟩
      rw [show a.length + 1 + d - a.length = d + 1 by omega, List.getElem?_cons_succ, List.getElem?_replicate] at this
      split at this
      · cases this
      · cases this
    show (i : Int) = _
    omega
theorem rep_fold (c : Nat) : ∀ (m : Nat) (acc : Array Nat), ((List.replicate m #[c]).foldl (· ++ ·) acc).toList = acc.toList ++ List.replicate m c
  | 0, acc => by simp
  | m + 1, acc => by
    rw [List.replicate_succ, List.foldl_cons, rep_fold c m, List.replicate_succ]
    simp
theorem mul_one' (c : Nat) (n : Nat) : (Txt.mul (one c) (n : Int)).cps.toList = List.replicate n c := by
  unfold Txt.mul
  by_cases h0 : (n : Int) < 1
  · rw [if_pos h0]
    have : n = 0 := by omega
    subst this
    rfl
  · rw [if_neg h0]
    by_cases h1 : ((n : Int) == 1 || (one c).length == 0) = true
    · rw [if_pos h1]
      have : n = 1 := by
        have h2 : ((one c).length == 0) = false := rfl
        rw [h2, Bool.or_false] at h1
        have : (n : Int) = 1 := by simpa using h1
        omega
      subst this
      rfl
    · rw [if_neg h1]
      have := rep_fold c n #[]
      simpa using this
theorem ljust_list (x : Str) (n c : Nat) : (Txt.ljustF x (n : Int) c).cps.toList = x.cps.toList ++ List.replicate (n - x.length) c := by
  unfold Txt.ljustF
  by_cases h : (n : Int) ≤ x.length
  · rw [if_pos h]
    have : n - x.length = 0 := by omega
    rw [this]
    simp
  · rw [if_neg h]
    unfold Builtin.Str.padded
    simp
/-- a text of flashes from its list -/
def ofL (l : List Nat) : Str := ⟨l.toArray⟩
theorem ofL_list (x : Str) : ofL x.cps.toList = x := str_ext (by unfold ofL; simp)
def nx (c : List Nat) (n : Nat) : List Nat := (cb (ofL c) (n : Int)).cps.toList
theorem nx_ok : Nxt nx where
  nil := fun n => by
    unfold nx cb
    rw [if_pos (show ofL [] = Str.empty from rfl)]
    exact mul_one' 46 n
  inc := fun a k n => by
    unfold nx cb
    have hl : (ofL (a ++ 46 :: List.replicate k 45)).cps.toList = a ++ 46 :: List.replicate k 45 := by unfold ofL; simp
    have hne : ofL (a ++ 46 :: List.replicate k 45) ≠ Str.empty := fun e => by
      rw [e] at hl
      have : ([] : List Nat) = a ++ 46 :: List.replicate k 45 := hl
      simp at this
    rw [if_neg hne, rfind_at _ a k hl, ljust_list]
    have hs : (Txt.slice (ofL (a ++ 46 :: List.replicate k 45)) none (some (a.length : Int))).cps.toList = a := by
      rw [sl_to _ (by rw [LmTxt.len_list, hl]; simp), hl, List.take_left']
      rfl
    have h2 : (Txt.slice (ofL (a ++ 46 :: List.replicate k 45)) none (some (a.length : Int)) ++ one 45).cps.toList = a ++ [45] := by rw [app_list, hs]
    rw [h2, LmTxt.len_list, h2]
    simp
theorem run_list : ∀ (ls : List Int) (c : Str), (∀ l ∈ ls, 0 ≤ l) → (run c ls).map (·.cps.toList) = runL nx c.cps.toList (ls.map (·.toNat))
  | [], _, _ => rfl
  | l :: ls, c, h => by
    have hl := h l List.mem_cons_self
    have e : cb c l = cb (ofL c.cps.toList) (l.toNat : Int) := by rw [ofL_list, Int.toNat_of_nonneg hl]
    show (cb c l).cps.toList :: (run (cb c l) ls).map _ = nx c.cps.toList l.toNat :: runL nx (nx c.cps.toList l.toNat) (ls.map (·.toNat))
    have e2 : (cb c l).cps.toList = nx c.cps.toList l.toNat := by rw [e]; rfl
    rw [run_list ls (cb c l) fun x hx => h x (List.mem_cons_of_mem _ hx), e2]
/-! ### sorted in one way -/
theorem sort_one {a b : List G} (p : a.Perm b) (ha : a.Pairwise fun a b => kltB a b = true) (hb : b.Pairwise fun a b => kltB a b = true) : a = b :=
  List.Perm.eq_of_pairwise (fun x y _ _ h1 h2 => by rw [klt_asymm h1] at h2; cases h2) ha hb p
open Classical in
/-- the code of a sign in a book -/
noncomputable def cod (ks : List G) : Str → Str := if h : ∃ qs : List G, qs.Perm ks ∧ qs.Pairwise (fun a b => kltB a b = true) then codeIn (choose h) else fun _ => Str.empty
theorem cod_of {ks qs : List G} (p : qs.Perm ks) (u : qs.Pairwise fun a b => kltB a b = true) : codeIn qs = cod ks := by
  have h : ∃ qs : List G, qs.Perm ks ∧ qs.Pairwise (fun a b => kltB a b = true) := ⟨qs, p, u⟩
  unfold cod
  rw [dif_pos h]
  have := Classical.choose_spec h
  rw [sort_one (p.trans this.1.symm) u this.2]
/-! ### values of a table -/
theorem val_zip : ∀ (xs : List Str) (vs : List V), xs.Nodup → xs.length = vs.length → ∀ (i : Nat) (h1 : i < xs.length) (h2 : i < vs.length), valV ((xs.map fun x => (Sum.inr x : Key)).zip vs) (.inr xs[i]) = some vs[i]
  | [], _, _, _, i, h, _ => nomatch h
  | x :: xs, [], _, hl, _, _, _ => by simp at hl
  | x :: xs, v :: vs, nd, hl, 0, _, _ => by
    rw [List.map_cons, List.zip_cons_cons]
    exact valV_pos rfl
  | x :: xs, v :: vs, nd, hl, i + 1, h1, h2 => by
    have nd' := List.nodup_cons.mp nd
    have h1' : i < xs.length := by simpa using h1
    rw [List.map_cons, List.zip_cons_cons]
    have ne : ¬ ((Sum.inr x : Key) = .inr (x :: xs)[i + 1]) := fun e => nd'.1 (by
      have := Sum.inr.inj e
      rw [this]
      exact List.getElem_mem h1')
    rw [valV_neg ne]
    exact val_zip xs vs nd'.2 (by simpa using hl) i h1' (by simpa using h2)
/-! ### what is true of the codes of a book -/
structure Cd (ks : List G) (cd : Str → Str) : Prop where
  len : ∀ k ∈ ks, (cd k.2).cps.toList.length = k.1.toNat
  pos : ∀ k ∈ ks, 1 ≤ k.1 ∧ k.1 ≤ ks.length
  fl : ∀ k ∈ ks, ∀ c ∈ (cd k.2).cps.toList, c = 45 ∨ c = 46
  free : ∀ k ∈ ks, ∀ k' ∈ ks, (cd k.2).cps.toList <+: (cd k'.2).cps.toList → k = k'
  nd : (ks.map (·.2)).Nodup
theorem bk_pos {ks : List G} (h : Bk ks) : ∀ k ∈ ks, 1 ≤ k.1 ∧ k.1 ≤ ks.length := fun k hk => by
  have hm : k.1 ∈ ks.map (·.1) := List.mem_map.mpr ⟨k, hk, rfl⟩
  have hp := List.length_pos_of_mem hk
  rcases h.2 with ⟨_, q | q⟩ | ⟨_, q⟩
  · rw [q] at hm; cases hm
  · rw [q] at hm
    have := List.mem_singleton.mp hm
    omega
  · have h1 := q.1 _ hm
    have h2 := q.2.1 _ hm
    rw [List.length_map] at h2
    omega
theorem up_nd {ts : List Str} (h : UpS ts) : ts.Nodup := h.imp fun {a b} q e => by rw [e] at q; exact List.lt_irrefl _ q
theorem wt_W {N : Nat} : ∀ {ls : List Int}, (∀ l ∈ ls, 1 ≤ l ∧ l ≤ N) → wt N (ls.map (·.toNat)) = W N ls
  | [], _ => rfl
  | l :: ls, h => by
    have hl := h l List.mem_cons_self
    rw [List.map_cons, wt_cons, W_cons, wt_W fun x hx => h x (List.mem_cons_of_mem _ hx)]
    congr 1
    unfold ex
    congr 1
    omega
theorem bk_wt {ks : List G} (h : Bk ks) : wt ks.length ((ks.map (·.1)).map (·.toNat)) ≤ 2 ^ ks.length := by
  have hp : ∀ l ∈ ks.map (·.1), 1 ≤ l ∧ l ≤ (ks.length : Int) := fun l hl => by
    obtain ⟨k, hk, rfl⟩ := List.mem_map.mp hl
    exact bk_pos h k hk
  rcases h.2 with ⟨h2, q | q⟩ | ⟨h2, q⟩
  · rw [q]; exact Nat.zero_le _
  · have hl := congrArg List.length q
    rw [List.length_map] at hl
    rw [q]
    have : ks.length = 1 := hl
    rw [this]
    decide
  · rw [wt_W hp]
    have hl : (ks.map (·.1)).length = ks.length := List.length_map ..
    have := (kr_W (N := (ks.length : Int)) (by omega) (fun l hl => (hp l hl).2) (fun l hl => (hp l hl).1) (by omega)).mp q
    rw [this, Int.toNat_natCast]
    exact Nat.le_refl _
theorem wt_perm {N : Nat} {a b : List Nat} (p : a.Perm b) : wt N a = wt N b := (p.map fun n => 2 ^ (N - n)).sum_nat
theorem klt_le {a b : G} (h : kltB a b = true) : a.1 ≤ b.1 := by
  unfold kltB at h
  by_cases e : a.1 = b.1
  · omega
  · rw [if_neg e] at h
    have := of_decide_eq_true h
    omega
theorem cd_ok {ks qs : List G} (h : Bk ks) (p : qs.Perm ks) (u : qs.Pairwise fun a b => kltB a b = true) : Cd ks (codeIn qs) ∧
    ∀ (i : Nat) (hi : i < qs.length), (codeIn qs qs[i].2).cps.toList = bits qs[i].1.toNat (wt ks.length (((qs.map (·.1)).map (·.toNat)).take i) / 2 ^ (ks.length - qs[i].1.toNat)) := by
  have hpos := bk_pos h
  have hqpos : ∀ k ∈ qs, 1 ≤ k.1 ∧ k.1 ≤ ks.length := fun k hk => hpos k (p.mem_iff.mp hk)
  have hnd : (ks.map (·.2)).Nodup := up_nd h.1
  have hqnd : (qs.map (·.2)).Nodup := (p.map (·.2)).nodup_iff.mpr hnd
  obtain ⟨ns, hns⟩ : ∃ ns, ns = (qs.map (·.1)).map (·.toNat) := ⟨_, rfl⟩
  have hnl : ns.length = qs.length := by rw [hns, List.length_map, List.length_map]
  have hn1 : ∀ n ∈ ns, 1 ≤ n ∧ n ≤ ks.length := fun n hn => by
    rw [hns, List.map_map] at hn
    obtain ⟨k, hk, rfl⟩ := List.mem_map.mp hn
    have := hqpos k hk
    show 1 ≤ k.1.toNat ∧ k.1.toNat ≤ _
    omega
  have hsort : ns.Pairwise (· ≤ ·) := by
    rw [hns, List.map_map]
    refine List.pairwise_map.mpr (u.imp fun {a b} q => ?_)
    have := klt_le q
    show a.1.toNat ≤ b.1.toNat
    omega
  have hw : wt ks.length ns ≤ 2 ^ ks.length := by
    have e : wt ks.length ns = wt ks.length ((ks.map (·.1)).map (·.toNat)) := by rw [hns]; exact wt_perm ((p.map (·.1)).map _)
    rw [e]
    exact bk_wt h
  have hrun : (run Str.empty (qs.map (·.1))).map (·.cps.toList) = at' ks.length 0 ns := by
    rw [run_list _ _ (fun l hl => by
      obtain ⟨k, hk, rfl⟩ := List.mem_map.mp hl
      have := hqpos k hk
      omega), hns]
    exact run_at0 nx_ok ks.length _ (by rw [← hns]; exact hn1) (by rw [← hns]; exact hsort) (by rw [← hns]; exact hw)
  have hrl : (run Str.empty (qs.map (·.1))).length = qs.length := by rw [run_len, List.length_map]
  have hcode : ∀ (i : Nat) (hi : i < qs.length), (at' ks.length 0 ns)[i]? = some (codeIn qs qs[i].2).cps.toList := fun i hi => by
    have hi2 : i < (run Str.empty (qs.map (·.1))).length := by omega
    have e1 : valV (tabC qs) (.inr qs[i].2) = some (.str (run Str.empty (qs.map (·.1)))[i]) := by
      have := val_zip (qs.map (·.2)) ((run Str.empty (qs.map (·.1))).map V.str) hqnd (by rw [List.length_map, List.length_map]; exact hrl.symm) i (by rw [List.length_map]; exact hi) (by rw [List.length_map]; exact hi2)
      rw [List.getElem_map, List.getElem_map, List.map_map] at this
      exact this
    have e2 : codeIn qs qs[i].2 = (run Str.empty (qs.map (·.1)))[i] := by unfold codeIn; rw [e1]
    rw [← hrun, List.getElem?_map, List.getElem?_eq_getElem hi2, e2]
    rfl
  have hget : ∀ (i : Nat) (hi : i < qs.length), (codeIn qs qs[i].2).cps.toList = bits qs[i].1.toNat (wt ks.length (ns.take i) / 2 ^ (ks.length - qs[i].1.toNat)) := fun i hi => by
    have e1 := hcode i hi
    have hi2 : i < ns.length := by omega
    rw [at_get ks.length 0 ns i hi2, Nat.zero_add] at e1
    have e3 : ns[i] = qs[i].1.toNat := by simp [hns]
    rw [e3] at e1
    exact (Option.some.inj e1).symm
  have hidx : ∀ k ∈ ks, ∃ (i : Nat) (hi : i < qs.length), qs[i] = k := fun k hk => by
    obtain ⟨i, hi, e⟩ := List.getElem_of_mem (p.mem_iff.mpr hk)
    exact ⟨i, hi, e⟩
  refine ⟨⟨fun k hk => ?_, hpos, fun k hk c hc => ?_, fun k hk k' hk' hpre => ?_, hnd⟩, fun i hi => by rw [← hns]; exact hget i hi⟩
  · obtain ⟨i, hi, rfl⟩ := hidx k hk
    rw [hget i hi, bits_len]
  · obtain ⟨i, hi, rfl⟩ := hidx k hk
    rw [hget i hi] at hc
    exact bits_mem _ _ c hc
  · obtain ⟨i, hi, rfl⟩ := hidx k hk
    obtain ⟨j, hj, rfl⟩ := hidx k' hk'
    rcases Nat.lt_trichotomy i j with q | q | q
    · exact absurd hpre (at_free hn1 hsort hw q (by omega) (hcode i hi) (hcode j hj)).1
    · subst q; rfl
    · exact absurd hpre (at_free hn1 hsort hw q (by omega) (hcode j hj) (hcode i hi)).2
theorem cod_ok {ks : List G} (h : Bk ks) {qs : List G} (p : qs.Perm ks) (u : qs.Pairwise fun a b => kltB a b = true) : Cd ks (cod ks) := by
  have := (cd_ok h p u).1
  rw [cod_of p u] at this
  exact this
end M08

set_option Elab.async false
set_option linter.all false
set_option maxRecDepth 100000
set_option maxHeartbeats 2000000
namespace M08
open PySem PySem.Spec L2 PyProof.Rows LmTxt M02 M05 M06 LmG
end M08

set_option Elab.async false
set_option linter.all false
set_option maxRecDepth 100000
set_option maxHeartbeats 2000000
namespace LmG
open PySem PySem.Spec L2 PyProof.Rows LmTxt M02
theorem cut_ints (ns : List Int) (lo hi : Option Int) : ∃ ms : List Int, cutV (ns.map V.int) lo hi = ms.map V.int ∧ ms.length ≤ HT.sIx ns.length ns.length hi - HT.sIx ns.length 0 lo ∧ ms.length ≤ ns.length := by
  refine ⟨(ns.drop (HT.sIx ns.length 0 lo)).take (HT.sIx ns.length ns.length hi - HT.sIx ns.length 0 lo), ?_, ?_, ?_⟩
  · unfold cutV
    rw [List.length_map, List.map_take, List.map_drop]
  · rw [List.length_take]
    omega
  · rw [List.length_take, List.length_drop]
    omega
theorem cut_to (xs : List V) {k : Int} (h0 : 0 ≤ k) (h1 : k ≤ xs.length) : cutV xs none (some k) = xs.take k.toNat := by
  unfold cutV
  have e1 : HT.sIx xs.length 0 none = 0 := rfl
  have e2 : HT.sIx xs.length xs.length (some k) = k.toNat := by
    show (if k < 0 then (k + (xs.length : Int)).toNat else min k.toNat xs.length) = k.toNat
    rw [if_neg (by omega)]
    omega
  rw [e1, e2, List.drop_zero, Nat.sub_zero]
theorem cut_from (xs : List V) {k : Int} (h0 : 0 ≤ k) (h1 : k ≤ xs.length) : cutV xs (some k) none = xs.drop k.toNat := by
  unfold cutV
  have e1 : HT.sIx xs.length xs.length none = xs.length := rfl
  have e2 : HT.sIx xs.length 0 (some k) = k.toNat := by
    show (if k < 0 then (k + (xs.length : Int)).toNat else min k.toNat xs.length) = k.toNat
    rw [if_neg (by omega)]
    omega
  rw [e1, e2]
  exact List.take_of_length_le (by rw [List.length_drop]; exact Nat.le_refl _)
end LmG

set_option Elab.async false
set_option linter.all false
set_option maxRecDepth 100000
set_option maxHeartbeats 4000000
namespace K06
open PySem PySem.Spec L2 PyProof.Rows LmTxt M02 LmG M05 M06 M08
def top (i : Nat) : Stmt := PySem.Challenge.pw_lampcode_k06_whole_no_code_begins_anothe.main.body.getD i (.Pass ⟨0, 0, 0, 0⟩)
abbrev sIsBook : Stmt := top 6
abbrev sMake : Stmt := top 7
abbrev sRefuse : Stmt := top 8
abbrev sCodes : Stmt := top 9
abbrev sBehind : Stmt := top 10
abbrev sGrown : Stmt := top 12
abbrev sFlashes : Stmt := top 13
abbrev sMenu : Stmt := top 14
abbrev sLaw : Stmt := top 15
/-- the built-in names that the text leaves as they are -/
structure Txt (mg : Str → Option Value) : Prop where
  isinstance : mg "isinstance" = none
  list : mg "list" = none
  tuple : mg "tuple" = none
  str : mg "str" = none
  len : mg "len" = none
  sorted : mg "sorted" = none
  min : mg "min" = none
  range : mg "range" = none
  set : mg "set" = none
  max : mg "max" = none
  sum : mg "sum" = none
/-- the text's own classes and constants -/
structure Own (K : PySem.W.Frag) (mg : Str → Option Value) (cL cB : Addr) (tS tL : Tok) : Prop where
  gSHORT : mg "SHORT" = some (.str "." tS)
  gLONG : mg "LONG" = some (.str "-" tL)
  g_LampError : mg "LampError" = some (.ref cL)
  g_NoBook : mg "NoBook" = some (.ref cB)
  c_LampError : ExC K cL bmV
  c_NoBook : ExC K cB (.ref cL :: bmV)
theorem two_new {H : Hp} {q r : Addr} {o o' : HO} (hq : H q = none) (hr : upd H q o r = none) : Same H (upd (upd H q o) r o') := (same_new hq o).trans (same_new hr o')
theorem u1 {k : Nat} {A : Around} (r : Room k A) : A.units + 1 < cLine := by have := r.units; omega
section
variable {P : Program} {w : World} {K : PySem.W.Frag} {mg : Str → Option Value} {base : Heap} {cL cB : Addr} {tS tL : Tok}
/-! ### make_a_whole -/
def spMake (K : PySem.W.Frag) : Sp := fun vs H Q _ => ∃ (a : Addr) (ls : List Int), vs = [.ref a] ∧ SqL K H a (ls.map V.int) ∧ ls ≠ [] ∧ ls.length ≤ 64 ∧ (∀ l ∈ ls, 1 ≤ l) ∧
  ∀ (b : Bool) (H' : Hp), Same H H' → (b = true ↔ Kr ls) → Q (.bl b) H'
theorem sc_make : FnScope ["lengths", "whole"] ["lengths"] (defScope sMake) := ⟨rfl, rfl, rfl, by decide +kernel, rfl, by decide +kernel, by decide +kernel⟩
theorem ok_make {f : Addr} {fd : FuncData} (F : Fun K "make_a_whole" "make_a_whole" sMake f fd) (T : Txt mg) : FnOk P w K mg base CX0 1 f fd ["lengths"] (spMake K) := by
  refine F.ok sc_make (fun vs H Q E h => ?_) (fun cdv A outer s H vs Q E hr h => ?_)
  · obtain ⟨a, ls, rfl, _⟩ := h; rfl
  obtain ⟨a, ls, rfl, hS, hne, hl, h1, fin⟩ := h
  refine ⟨_, (pss_cons (ps_if (pt_cmpR op_ge (pe_callB (call_max_ints rfl) rfl T.max boot_max (pa_cons (pv 0) pa_nil)) (pe_callB call_len rfl T.len PySem.boot_len (pa_cons (pv 0) pa_nil)) (nomark _)) (pss_one (ps_ret pe_bl)) pss_nil)
      (pss_cons (ps_set (i := 1) sc_make.nd rfl (Or.inr rfl) (pe_op op_shl pe_int (pe_callB call_len rfl T.len PySem.boot_len (pa_cons (pv 0) pa_nil))))
      (pss_one (ps_ret (pe_cmpR op_eq (pe_callB (call_sum_ints rfl) rfl T.sum boot_sum (pa_cons (pe_comp (own := ["length"]) (cap := [("whole", 1)]) (cl := [("whole", s.heap.objs.size + 1)]) ⟨rfl, rfl, by decide +kernel, by decide +kernel, ⟨rfl, trivial⟩, rfl, ⟨⟨rfl, .inl rfl, .inl rfl, rfl⟩, trivial⟩⟩ rfl (pi_list (pv 0)) (fun _ _ _ _ => (pg_name (i := 0) (by show List.Nodup (["length", "whole"] : List Str); decide +kernel) rfl (Or.inl rfl))) (fun _ _ _ _ => pts_nil) (fun _ _ _ _ => (pe_op op_shr (pv 1) (pv 0)))) pa_nil)) (pv 1) (nomark _)))))), ?_⟩
  refine ⟨_, rfl, a, ls, rfl, hS, hne, fun m hm hmax => ?_⟩
  refine ⟨_, rfl, _, _, rfl, .inl ⟨_, hS, rfl⟩, _, _, rfl, rfl, _, rfl, ?_⟩
  rw [List.length_map]
  refine ite2 (fun c => ?_) (fun c => ?_)
  · refine fin false H (Same.refl _) ⟨(fun z => nomatch z), (fun ⟨_, hb, _⟩ => ?_)⟩
    have h2 := of_decide_eq_true c
    have := hb m hm
    omega
  · have h2 : m < (ls.length : Int) := by
      have : ¬ ((ls.length : Int) ≤ m) := fun z => c (decide_eq_true z)
      omega
    refine ⟨_, rfl, _, _, rfl, .inl ⟨_, hS, rfl⟩, _, _, rfl, rfl, ⟨Int.natCast_nonneg _, by rw [List.length_map]; omega, by decide⟩, ?_⟩
    rw [List.length_map]
    refine ⟨_, rfl, a, rfl, ⟨_, hS⟩, fun C ex s0 H0 => comp_list_fin (K := K) (a := a) (xs := ls.map V.int)
      (fun i out σ H2 => ∃ (u : Option V) (os : List Int), σ = [u, some (.int (1 * 2 ^ ((ls.length : Nat) : Int).toNat))] ∧ out = os.map V.int ∧ Same H H2 ∧ os = (ls.take i).map fun l => (1 * 2 ^ ((ls.length : Nat) : Int).toNat : Int) / 2 ^ l.toNat)
      ⟨none, [], rfl, rfl, Same.refl _, rfl⟩ (fun i out σ H2 _ ⟨_, _, _, _, g, _⟩ => g.seq hS) ?_ ?_⟩
    · rintro i y out σ' H2 hi hy ⟨u, os, rfl, rfl, g2, hos⟩
      have hi' : i < ls.length := by rwa [List.length_map] at hi
      rw [List.getElem?_map, List.getElem?_eq_getElem hi'] at hy
      cases hy
      simp only [gName, tNoTest, ↓reduceIte]
      have hlp := h1 ls[i] (List.getElem_mem hi')
      refine ⟨_, rfl, _, rfl, _, _, rfl, rfl, by omega, smallL ?_, CW.next hi ⟨_, os ++ [(1 * 2 ^ ((ls.length : Nat) : Int).toNat : Int) / 2 ^ ls[i].toNat], rfl, ?_, g2, ?_⟩⟩
      · rw [List.length_map, hos, List.length_map, List.length_take]; omega
      · rw [List.map_append]; rfl
      · rw [hos, List.take_add_one, List.getElem?_eq_getElem hi', List.map_append]
        rfl
    · rintro out σ' H2 ⟨u, os, rfl, rfl, g2, hos⟩ p hp
      rw [List.length_map, List.take_of_length_le (Nat.le_refl _)] at hos
      refine ⟨p, os, rfl, SqL.of upd_same, _, rfl, rfl, fin _ _ (g2.trans (same_new hp _)) ?_⟩
      have e : os.sum = sm ls.length ls := by rw [hos]; rfl
      rw [e, decide_eq_true_iff]
      constructor
      · intro z
        refine ⟨h1, fun l hl' => ?_, ?_⟩
        · have := hmax l hl'; omega
        · have := V.int.inj z
          rw [this, Int.one_mul, Int.toNat_natCast]
      · rintro ⟨_, _, z⟩
        show V.int _ = V.int (1 * 2 ^ ((ls.length : Nat) : Int).toNat)
        rw [z, Int.one_mul, Int.toNat_natCast]
/-! ### is_book -/
def spIsBook (K : PySem.W.Frag) : Sp := fun vs H Q _ => ∃ (a : Addr) (zs : List (Addr × G)), vs = [.ref a] ∧ SqL K H a (refs zs) ∧ Tb fL H zs ∧ zs.length ≤ 64 ∧ (∀ z ∈ zs, PyData.strOk z.2.2 = true) ∧
  ∀ (b : Bool) (H' : Hp), Same H H' → (b = true ↔ Bk (zs.map (·.2))) → Q (.bl b) H'
theorem sc_isbook : FnScope ["book", "signs", "lengths"] ["book"] (defScope sIsBook) := ⟨rfl, rfl, rfl, by decide +kernel, rfl, by decide +kernel, by decide +kernel⟩
theorem ok_isbook {f : Addr} {fd : FuncData} (F : Fun K "is_book" "is_book" sIsBook f fd) (T : Txt mg) {fm : Addr} {fdm : FuncData} (M : Fn K mg "make_a_whole" fm fdm ["lengths"]) (GM : FnOk P w K mg base CX0 1 fm fdm ["lengths"] (spMake K)) : FnOk P w K mg base CX0 2 f fd ["book"] (spIsBook K) := by
  refine F.ok sc_isbook (fun vs H Q E h => ?_) (fun cdv A outer s H vs Q E hr h => ?_)
  · obtain ⟨a, zs, rfl, _⟩ := h; rfl
  obtain ⟨a, zs, rfl, hS, hT, hl, hok, fin⟩ := h
  refine ⟨_, (pss_cons (ps_comp (i := 1) sc_isbook.nd rfl rfl (own := ["sign", "length"]) (cap := []) (cl := []) ⟨rfl, rfl, by decide +kernel, by decide +kernel, trivial, rfl, trivial⟩ rfl (pi_list (pv 0)) (fun _ _ _ _ => (pg_tup (n := 2) rfl (pgs_cons (pg_name (i := 0) (by show List.Nodup (["sign", "length"] : List Str); decide +kernel) rfl (Or.inl rfl)) (pgs_cons (pg_name (i := 1) (by show List.Nodup (["sign", "length"] : List Str); decide +kernel) rfl (Or.inl rfl)) pgs_nil)))) (fun _ _ _ _ => pts_nil) (fun _ _ _ _ => (pv 0)))
      (pss_cons (ps_comp (i := 2) sc_isbook.nd rfl rfl (own := ["sign", "length"]) (cap := []) (cl := []) ⟨rfl, rfl, by decide +kernel, by decide +kernel, trivial, rfl, trivial⟩ rfl (pi_list (pv 0)) (fun _ _ _ _ => (pg_tup (n := 2) rfl (pgs_cons (pg_name (i := 0) (by show List.Nodup (["sign", "length"] : List Str); decide +kernel) rfl (Or.inl rfl)) (pgs_cons (pg_name (i := 1) (by show List.Nodup (["sign", "length"] : List Str); decide +kernel) rfl (Or.inl rfl)) pgs_nil)))) (fun _ _ _ _ => pts_nil) (fun _ _ _ _ => (pv 1)))
      (pss_cons (ps_if (pt_cmpR (op_neD hr.units) (pv 1) (pe_callB (call_sorted_set64 rfl) rfl T.sorted boot_sorted (pa_cons (pe_callTy (call_set_strs rfl) rfl T.set PyProof.Rows.boot_set (pa_cons (pv 1) pa_nil)) pa_nil)) (nomark _)) (pss_one (ps_ret pe_bl)) pss_nil)
      (pss_cons (ps_if (pt_cmpR op_lt (pe_callB call_len rfl T.len PySem.boot_len (pa_cons (pv 0) pa_nil)) pe_int (nomark _)) (pss_one (ps_ret (pe_or (pe_cmpR (op_eqD hr.units) (pv 2) (pe_lst pa_nil) (nomark _)) (pe_one (pe_cmpR (op_eqD hr.units) (pv 2) (pe_lst (pa_cons pe_int pa_nil)) (nomark _)))))) pss_nil)
      (pss_one (ps_ret (pe_and (pe_cmpR op_ge (pe_callB (call_min_ints rfl) rfl T.min boot_min (pa_cons (pv 2) pa_nil)) pe_int (nomark _)) (pe_one (pe_call GM hr rfl M.m M.k M.b .nil pass0 (pa_cons (pv 2) pa_nil)))))))))), ?_⟩
  obtain ⟨ts, hts⟩ : ∃ ts, ts = zs.map (·.2.2) := ⟨_, rfl⟩
  obtain ⟨ls, hls⟩ : ∃ ls, ls = zs.map (·.2.1) := ⟨_, rfl⟩
  have htl : ts.length = zs.length := by rw [hts, List.length_map]
  have hll : ls.length = zs.length := by rw [hls, List.length_map]
  have htok : ∀ t ∈ ts, PyData.strOk t = true := fun t ht => by
    rw [hts] at ht
    obtain ⟨z, hz, rfl⟩ := List.mem_map.mp ht
    exact hok z hz
  have eB : Bk (zs.map (·.2)) ↔ UpS ts ∧ ((zs.length < 2 ∧ (ls = [] ∨ ls = [1])) ∨ (2 ≤ zs.length ∧ Kr ls)) := by
    unfold Bk
    rw [List.map_map, List.map_map, List.length_map, hts, hls]
    exact Iff.rfl
  -- signs
  refine ⟨_, rfl, a, rfl, ⟨_, hS⟩, fun C ex s0 H0 => comp_list_set (K := K) (a := a) (xs := refs zs)
    (fun i out σ H2 => ∃ (u v : Option V), σ = [u, v] ∧ out = (ts.take i).map V.str ∧ Same H H2)
    ⟨none, none, rfl, rfl, Same.refl _⟩ (fun i out σ H2 _ ⟨_, _, _, _, g⟩ => g.seq hS) ?_ ?_⟩
  · rintro i y out σ' H2 hi hy ⟨u, v, rfl, rfl, g2⟩
    obtain ⟨hi', rfl⟩ := refs_at hy
    simp only [gTup, gCons, gNil, gName, tNoTest, ↓reduceIte]
    have ht := (hT.same g2).at hi'
    have eti : ts[i]? = some zs[i].2.2 := by rw [hts, List.getElem?_map, List.getElem?_eq_getElem hi']; rfl
    refine ⟨_, _, rfl, SqT.of ht, rfl, _, _, rfl, _, _, rfl, rfl, _, rfl, smallL ?_, CW.next hi ⟨_, _, rfl, ?_, g2⟩⟩
    · rw [List.length_map, List.length_take]; omega
    · rw [List.take_add_one, eti, List.map_append]; rfl
  rintro out σ' H1 ⟨u, v, rfl, rfl, g1⟩ p hp
  rw [refs_len, List.take_of_length_le (by omega)]
  have g2 := g1.trans (same_new hp (.lst (ts.map V.str)))
  have hp2 : upd H1 p (.lst (ts.map V.str)) p = some (.lst (ts.map V.str)) := upd_same
  generalize upd H1 p (.lst (ts.map V.str)) = H2 at g2 hp2 ⊢
  clear hp g1
  -- lengths
  refine ⟨_, rfl, a, rfl, ⟨_, g2.seq hS⟩, fun C ex s0 H0 => comp_list_set (K := K) (a := a) (xs := refs zs)
    (fun i out σ H3 => ∃ (u v : Option V), σ = [u, v] ∧ out = (ls.take i).map V.int ∧ Same H2 H3)
    ⟨none, none, rfl, rfl, Same.refl _⟩ (fun i out σ H3 _ ⟨_, _, _, _, g⟩ => (g2.trans g).seq hS) ?_ ?_⟩
  · rintro i y out σ' H3 hi hy ⟨u, v, rfl, rfl, g3⟩
    obtain ⟨hi', rfl⟩ := refs_at hy
    simp only [gTup, gCons, gNil, gName, tNoTest, ↓reduceIte]
    have ht := (hT.same (g2.trans g3)).at hi'
    have eti : ls[i]? = some zs[i].2.1 := by rw [hls, List.getElem?_map, List.getElem?_eq_getElem hi']; rfl
    refine ⟨_, _, rfl, SqT.of ht, rfl, _, _, rfl, _, _, rfl, rfl, _, rfl, smallL ?_, CW.next hi ⟨_, _, rfl, ?_, g3⟩⟩
    · rw [List.length_map, List.length_take]; omega
    · rw [List.take_add_one, eti, List.map_append]; rfl
  rintro out σ' H3 ⟨u, v, rfl, rfl, g3⟩ l hl0
  rw [refs_len, List.take_of_length_le (by omega)]
  have g4 := (g3.trans (same_new hl0 (.lst (ls.map V.int))))
  have hl4 : upd H3 l (.lst (ls.map V.int)) l = some (.lst (ls.map V.int)) := upd_same
  generalize upd H3 l (.lst (ls.map V.int)) = H4 at g4 hl4 ⊢
  clear hl0 g3 H3
  have hp4 := g4 _ _ hp2
  have gg := g2.trans g4
  clear g2 g4 hp2 H2 H1
  -- sorted(set(signs))
  refine ⟨_, rfl, _, rfl, p, ts, rfl, SqL.of hp4, by unfold scanBound; omega, fun q ss hq hsl nd hm => ?_⟩
  refine ⟨q, ss, rfl, upd_same, by omega, fun r ys hr0 pm so => ?_⟩
  have mx : SeqAt.noMix (.list (ts.map PyData.str)) (.list (ys.map PyData.str)) = true := by rw [SeqAt.noMix]; exact mix_strs _ _
  refine ⟨.list (ts.map .str), .list (ys.map .str), .lst (SqL.of ((two_new hq hr0) _ _ hp4)) (rd_strs ts), .lst (SqL.of upd_same) (rd_strs ys), sh_strs htok, sh_strs (fun t ht => htok t ((hm t).mp (pm.mem_iff.mp ht))), mx, _, rfl, ?_⟩
  have ne : same (.list (ts.map PyData.str)) (.list (ys.map PyData.str)) = decide (ts = ys) := by rw [same]; exact same_strs ts ys
  rw [ne]
  have eu := signs_up nd hm pm so
  refine ite2 (fun c => ?_) (fun c => ?_)
  · have hne : ts ≠ ys := by simpa using c
    exact fin false _ (gg.trans (two_new hq hr0)) ⟨(fun z => nomatch z), (fun z => absurd (eu.mpr (eB.mp z).1) hne)⟩
  have heq : ts = ys := by simpa using c
  have hup := eu.mp heq
  refine ⟨_, rfl, _, _, rfl, .inl ⟨_, (gg.trans (two_new hq hr0)).seq hS, rfl⟩, _, _, rfl, rfl, _, rfl, ?_⟩
  rw [refs_len]
  refine ite2 (fun c => ?_) (fun c => ?_)
  · have h2 : zs.length < 2 := by have := of_decide_eq_true c; omega
    have m0 : SeqAt.noMix (.list (ls.map PyData.int)) (.list []) = true := by rw [SeqAt.noMix]; exact mix_ints ls []
    have s0 : same (.list (ls.map PyData.int)) (.list []) = decide (ls = []) := by rw [same]; exact same_ints ls []
    have m1 : SeqAt.noMix (.list (ls.map PyData.int)) (.list [.int 1]) = true := by rw [SeqAt.noMix]; exact mix_ints ls [1]
    have s1 : same (.list (ls.map PyData.int)) (.list [.int 1]) = decide (ls = [1]) := by rw [same]; exact same_ints ls [1]
    refine ⟨_, rfl, small (by show 0 ≤ 1000000; decide), fun p7 hp7 => ?_⟩
    refine ⟨.list (ls.map .int), .list [], .lst (SqL.of ((same_new hp7 _) _ _ ((two_new hq hr0) _ _ hl4))) (rd_ints ls), .lst (SqL.of upd_same) .nil, sh_ints ls, rfl, m0, ?_⟩
    rw [s0]
    refine ⟨_, rfl, ite2 (fun c0 => ?_) (fun c0 => ?_)⟩
    · exact fin true _ ((gg.trans (two_new hq hr0)).trans (same_new hp7 _)) ⟨(fun _ => eB.mpr ⟨hup, .inl ⟨h2, .inl (of_decide_eq_true c0)⟩⟩), (fun _ => rfl)⟩
    · refine ⟨_, rfl, small (by show 1 ≤ 1000000; decide), fun p8 hp8 => ?_⟩
      refine ⟨.list (ls.map .int), .list [.int 1], .lst (SqL.of ((same_new hp8 _) _ _ ((same_new hp7 _) _ _ ((two_new hq hr0) _ _ hl4)))) (rd_ints ls), .lst (SqL.of upd_same) (rd_ints [1]), sh_ints ls, rfl, m1, ?_⟩
      rw [s1]
      refine fin _ _ (((gg.trans (two_new hq hr0)).trans (same_new hp7 _)).trans (same_new hp8 _)) ?_
      rw [decide_eq_true_iff, eB]
      constructor
      · intro z; exact ⟨hup, .inl ⟨h2, .inr z⟩⟩
      · rintro ⟨_, ⟨_, z | z⟩ | ⟨z, _⟩⟩
        · exact absurd (decide_eq_true z) c0
        · exact z
        · omega
  · have h2 : 2 ≤ zs.length := by
      have : ¬ ((zs.length : Int) < 2) := fun z => c (decide_eq_true z)
      omega
    have lne : ls ≠ [] := fun e => by rw [e] at hll; simp at hll; omega
    refine ⟨_, rfl, l, ls, rfl, SqL.of ((two_new hq hr0) _ _ hl4), lne, fun m hm' hmin => ?_⟩
    refine ⟨_, _, rfl, rfl, _, rfl, ite2 (fun c1 => ?_) (fun c1 => ?_)⟩
    · have hm1 := of_decide_eq_true c1
      have all1 : ∀ x ∈ ls, 1 ≤ x := fun x hx => by have := hmin x hx; omega
      refine ⟨_, rfl, l, ls, rfl, SqL.of ((two_new hq hr0) _ _ hl4), lne, by omega, all1, fun b H' g hb => ?_⟩
      refine fin b H' ((gg.trans (two_new hq hr0)).trans g) (hb.trans ?_)
      rw [eB]
      constructor
      · intro z; exact ⟨hup, .inr ⟨h2, z⟩⟩
      · rintro ⟨_, ⟨z, _⟩ | ⟨_, z⟩⟩
        · omega
        · exact z
    · refine fin false _ (gg.trans (two_new hq hr0)) ⟨(fun z => nomatch z), (fun z => ?_)⟩
      rcases (eB.mp z).2 with ⟨q, _⟩ | ⟨_, q⟩
      · omega
      · have := q.1 m hm'
        exact absurd (decide_eq_true this) c1
end
end K06

set_option Elab.async false
set_option linter.all false
set_option maxRecDepth 100000
set_option maxHeartbeats 4000000
namespace K06
open PySem PySem.Spec L2 PyProof.Rows LmTxt M02 LmG M05 M06 M08
section
variable {P : Program} {w : World} {K : PySem.W.Frag} {mg : Str → Option Value} {base : Heap} {cL cB : Addr} {tS tL : Tok}
/-! ### refuse_unless_book -/
def spRefuse (K : PySem.W.Frag) (cB : Addr) : Sp := fun vs H Q E => ∃ (a : Addr) (zs : List (Addr × G)), vs = [.ref a] ∧ SqL K H a (refs zs) ∧ Tb fL H zs ∧ zs.length ≤ 64 ∧ (∀ z ∈ zs, PyData.strOk z.2.2 = true) ∧
  ∀ H' : Hp, Same H H' → (Bk (zs.map (·.2)) → Q .non H') ∧ (¬ Bk (zs.map (·.2)) → E (.ref cB) none H')
theorem sc_refuse : FnScope ["book"] ["book"] (defScope sRefuse) := ⟨rfl, rfl, rfl, by decide +kernel, rfl, by decide +kernel, by decide +kernel⟩
theorem ok_refuse {f : Addr} {fd : FuncData} (F : Fun K "refuse_unless_book" "refuse_unless_book" sRefuse f fd) (O : Own K mg cL cB tS tL) {fm : Addr} {fdm : FuncData} (M : Fn K mg "is_book" fm fdm ["book"]) (GM : FnOk P w K mg base CX0 2 fm fdm ["book"] (spIsBook K)) :
    FnOk P w K mg base (CX1 P w) 3 f fd ["book"] (spRefuse K cB) := by
  refine F.okX sc_refuse (fun vs H Q E h => ?_) (fun cdv A outer s H vs Q E hr h => ?_)
  · obtain ⟨a, zs, rfl, _⟩ := h; rfl
  obtain ⟨a, zs, rfl, hS, hT, hl, hok, fin⟩ := h
  refine ⟨_, (pss_one (ps_if (pt_not (pt_val (pe_call GM hr rfl M.m M.k M.b .nil pass0 (pa_cons (pv 0) pa_nil)))) (pss_one (ps_raise O.c_NoBook O.g_NoBook hr.hd)) pss_nil)), ?_⟩
  refine ⟨_, rfl, a, zs, rfl, hS, hT, hl, hok, fun b H' g hb => ?_⟩
  refine ⟨_, rfl, ?_⟩
  cases b with
  | true => exact iteF ((fin H' g).1 (hb.mp rfl))
  | false => exact iteT ((fin H' g).2 fun z => Bool.false_ne_true (hb.mpr z))
/-! ### code_behind -/
def spBehind : Sp := fun vs H Q _ => ∃ (c : Str) (n : Int), vs = [.str c, .int n] ∧ 0 ≤ n ∧ n ≤ 1000 ∧ c.length ≤ 100000 ∧ Q (.str (cb c n)) H
theorem sc_behind : FnScope ["code", "length", "changed"] ["code", "length"] (defScope sBehind) := ⟨rfl, rfl, rfl, by decide +kernel, rfl, by decide +kernel, by decide +kernel⟩
theorem ok_behind {f : Addr} {fd : FuncData} (F : Fun K "code_behind" "code_behind" sBehind f fd) (O : Own K mg cL cB tS tL) : FnOk P w K mg base CX0 1 f fd ["code", "length"] spBehind := by
  refine F.ok sc_behind (fun vs H Q E h => ?_) (fun cdv A outer s H vs Q E hr h => ?_)
  · obtain ⟨c, n, rfl, _⟩ := h; rfl
  obtain ⟨c, n, rfl, h0, h1, hc, q⟩ := h
  refine ⟨_, (pss_cons (ps_if (pt_cmpR op_eq (pv 0) pe_str (nomark _)) (pss_one (ps_ret (pe_op op_mul_str (pe_glob (v := .str ".") rfl O.gSHORT ⟨_, rfl⟩) (pv 1)))) pss_nil)
      (pss_cons (ps_set (i := 2) sc_behind.nd rfl (Or.inl rfl) (pe_op op_add_str (pe_slice sl_str (pv 0) po_none (po_some (pe_rfind (pv 0) (pa_cons (pe_glob (v := .str ".") rfl O.gSHORT ⟨_, rfl⟩) pa_nil)))) (pe_glob (v := .str "-") rfl O.gLONG ⟨_, rfl⟩)))
      (pss_one (ps_ret (pe_ljust (pv 2) (pa_cons (pv 1) (pa_cons (pe_glob (v := .str ".") rfl O.gSHORT ⟨_, rfl⟩) pa_nil))))))), ?_⟩
  have d1 : ("." : Str) = one 46 := by decide +kernel
  have d2 : ("-" : Str) = one 45 := by decide +kernel
  have d3 : ("" : Str) = Str.empty := by decide +kernel
  rw [d1, d2, d3]
  refine ⟨_, rfl, rfl, _, rfl, ite2 (fun e => ?_) (fun e => ?_)⟩
  · have e' : c = Str.empty := V.str.inj (of_decide_eq_true e)
    have ec : cb c n = Txt.mul (one 46) n := by unfold cb; rw [if_pos e']
    rw [ec] at q
    exact ⟨_, rfl, _, _, rfl, rfl, h0, by omega, small (by show 1 * n.toNat ≤ 1000000; omega), q⟩
  · have e' : c ≠ Str.empty := fun z => e (decide_eq_true (by rw [z]))
    have ec : cb c n = Txt.ljustF (Txt.slice c none (some (Txt.rfind c (one 46))) ++ one 45) n 46 := by unfold cb; rw [if_neg e']
    rw [ec] at q
    have hsl := Txt.slice_le c none (some (Txt.rfind c (one 46)))
    have hlen : (Txt.slice c none (some (Txt.rfind c (one 46)))).length + (one 45).length ≤ 1000000 := by
      have : (one 45).length = 1 := rfl
      omega
    have pad : PadOk n = true := padOk_of (by omega) (by omega)
    refine ⟨_, rfl, _, rfl, rfl, _, _, rfl, rfl, _, rfl, _, rfl, small (by omega), _, _, rfl, rfl, small hlen, ?_⟩
    exact ⟨_, rfl, rfl, _, rfl, _, _, _, rfl, rfl, pad, q⟩
/-! ### codes -/
/-- the table of the codes: by the book's own pairs in their order -/
def spCodes (K : PySem.W.Frag) (cB : Addr) : Sp := fun vs H Q E => ∃ (a : Addr) (zs : List (Addr × G)), vs = [.ref a] ∧ SqL K H a (refs zs) ∧ Tb fL H zs ∧ zs.length ≤ 64 ∧ (∀ z ∈ zs, PyData.strOk z.2.2 = true) ∧
  (¬ Bk (zs.map (·.2)) → ∀ H' : Hp, Same H H' → E (.ref cB) none H') ∧
  (Bk (zs.map (·.2)) → ∀ (r : Addr) (js : List (Addr × (Str × Str))) (qs : List G) (H' : Hp), Same H H' → H' r = some (.lst (refs js)) → Tb fM H' js → qs.Perm (zs.map (·.2)) → qs.Pairwise (fun a b => kltB a b = true) → js.map (·.2) = (zs.map (·.2)).map (fun k => (k.2, codeIn qs k.2)) → Q (.ref r) H')
theorem sc_codes : FnScope ["book", "code_of", "code", "length", "sign"] ["book"] (defScope sCodes) := ⟨rfl, rfl, rfl, by decide +kernel, rfl, by decide +kernel, by decide +kernel⟩
theorem bk_len {ks : List G} (h : Bk ks) (hl : ks.length ≤ 64) : ∀ k ∈ ks, 1 ≤ k.1 ∧ k.1 ≤ 64 := fun k hk => by
  have hm : k.1 ∈ ks.map (·.1) := List.mem_map.mpr ⟨k, hk, rfl⟩
  rcases h.2 with ⟨_, q | q⟩ | ⟨_, q⟩
  · rw [q] at hm; cases hm
  · rw [q] at hm
    have := List.mem_singleton.mp hm
    omega
  · have h1 := q.1 _ hm
    have h2 := q.2.1 _ hm
    rw [List.length_map] at h2
    omega
theorem up_nodup {ts : List Str} (h : UpS ts) : ts.Nodup := h.imp fun {a b} q e => by rw [e] at q; exact List.lt_irrefl _ q
theorem ok_codes {f : Addr} {fd : FuncData} (F : Fun K "codes" "codes" sCodes f fd) (T : Txt mg) {fm fb : Addr} {fdm fdb : FuncData} (M : Fn K mg "refuse_unless_book" fm fdm ["book"]) (GM : FnOk P w K mg base (CX1 P w) 3 fm fdm ["book"] (spRefuse K cB))
    (MB : Fn K mg "code_behind" fb fdb ["code", "length"]) (GB : FnOk P w K mg base CX0 1 fb fdb ["code", "length"] spBehind) : FnOk P w K mg base (CX1 P w) 4 f fd ["book"] (spCodes K cB) := by
  refine F.okX sc_codes (fun vs H Q E h => ?_) (fun cdv A outer s H vs Q E hr h => ?_)
  · obtain ⟨a, zs, rfl, _⟩ := h; rfl
  obtain ⟨a, zs, rfl, hS, hT, hl, hok, qe, fin⟩ := h
  have hr1 : Room 1 _ := hr.mono (by decide)
  have hu1 := u1 hr
  refine ⟨_, (pss_cons (ps_expr (pe_call GM hr rfl M.m M.k M.b .nil pass1 (pa_cons (pv 0) pa_nil)))
      (pss_cons (ps_set (i := 1) sc_codes.nd rfl (Or.inr rfl) pe_dnewK)
      (pss_cons (ps_set (i := 2) sc_codes.nd rfl (Or.inl rfl) pe_str)
      (pss_cons (ps_for own1 rfl (pi_list (pe_callB call_sorted_pairs64 rfl T.sorted boot_sorted (pa_cons (pe_comp (own := ["sign", "length"]) (cap := []) (cl := []) ⟨rfl, rfl, by decide +kernel, by decide +kernel, trivial, rfl, trivial⟩ rfl (pi_list (pv 0)) (fun _ _ _ _ => (pg_tup (n := 2) rfl (pgs_cons (pg_name (i := 0) (by show List.Nodup (["sign", "length"] : List Str); decide +kernel) rfl (Or.inl rfl)) (pgs_cons (pg_name (i := 1) (by show List.Nodup (["sign", "length"] : List Str); decide +kernel) rfl (Or.inl rfl)) pgs_nil)))) (fun _ _ _ _ => pts_nil) (fun _ _ _ _ => (pe_tup (pa_cons (pv 1) (pa_cons (pv 0) pa_nil))))) pa_nil))) (pg_tup (n := 2) rfl (pgs_cons (pg_name (i := 3) sc_codes.nd rfl (Or.inl rfl)) (pgs_cons (pg_name (i := 4) sc_codes.nd rfl (Or.inl rfl)) pgs_nil))) (pss_cons (ps_set (i := 2) sc_codes.nd rfl (Or.inl rfl) (pe_call GB hr1 rfl MB.m MB.k MB.b .nil pass0 (pa_cons (pv 2) (pa_cons (pv 3) pa_nil))))
      (pss_one (ps_dput hu1 (pv 1) (pv 4) (pv 2) rfl))))
      (pss_one (ps_ret (pe_comp (own := ["sign", "length"]) (cap := [("code_of", 1)]) (cl := [("code_of", s.heap.objs.size + 1)]) ⟨rfl, rfl, by decide +kernel, by decide +kernel, ⟨rfl, trivial⟩, rfl, ⟨⟨rfl, .inl rfl, .inl rfl, rfl⟩, trivial⟩⟩ rfl (pi_list (pv 0)) (fun _ _ _ _ => (pg_tup (n := 2) rfl (pgs_cons (pg_name (i := 0) (by show List.Nodup (["sign", "length", "code_of"] : List Str); decide +kernel) rfl (Or.inl rfl)) (pgs_cons (pg_name (i := 1) (by show List.Nodup (["sign", "length", "code_of"] : List Str); decide +kernel) rfl (Or.inl rfl)) pgs_nil)))) (fun _ _ _ _ => pts_nil) (fun _ _ _ _ => (pe_tup (pa_cons (pv 0) (pa_cons (pe_dget hu1 (pv 2) (pv 0) (fun _ _ => rfl)) pa_nil))))))))))), ?_⟩
  refine ⟨_, rfl, a, zs, rfl, hS, hT, hl, hok, fun H1 g1 => ⟨fun bk => ?_, fun nb => qe nb H1 g1⟩⟩
  have hb := bk_len bk (by rw [List.length_map]; exact hl)
  have hnd := up_nodup bk.1
  have d3 : ("" : Str) = Str.empty := by decide +kernel
  rw [d3]
  refine fun d hd0 => ?_
  have hHd : H d = none := by
    cases q : H d with
    | none => rfl
    | some o => exact absurd (g1 _ _ q) (by rw [hd0]; simp)
  have g2 := g1.trans (same_new hd0 (.dK []))
  have hd2 : upd H1 d (.dK []) d = some (.dK []) := upd_same
  generalize upd H1 d (.dK []) = H2 at g2 hd2 ⊢
  clear hd0 g1 H1
  -- the pairs, turned
  refine ⟨_, rfl, a, rfl, ⟨_, g2.seq hS⟩, fun C ex s0 H0 => comp_list_fin (K := K) (a := a) (xs := refs zs)
    (fun i out σ H3 => ∃ (u v : Option V) (ps : List (Addr × G)), σ = [u, v] ∧ out = refs ps ∧ Same H2 H3 ∧ Tb fP H3 ps ∧ ps.map (·.2) = (zs.map (·.2)).take i)
    ⟨none, none, [], rfl, rfl, Same.refl _, Tb.nil, rfl⟩ (fun i out σ H3 _ ⟨_, _, _, _, _, g, _⟩ => (g2.trans g).seq hS) ?_ ?_⟩
  · rintro i y out σ' H3 hi hy ⟨u, v, ps, rfl, rfl, g3, hps, hpe⟩
    obtain ⟨hi', rfl⟩ := refs_at hy
    simp only [gTup, gCons, gNil, gName, tNoTest, ↓reduceIte]
    have ht := (hT.same (g2.trans g3)).at hi'
    refine ⟨_, _, rfl, SqT.of ht, rfl, _, _, rfl, _, _, rfl, rfl, _, rfl, _, rfl, small (by show 2 ≤ 1000000; decide), fun t ht' => ⟨smallL ?_, CW.next hi ⟨_, _, ps ++ [(t, zs[i].2)], rfl, ?_, g3.trans (same_new ht' _), Tb.snoc (hps.same (same_new ht' _)) upd_same, ?_⟩⟩⟩
    · rw [refs_len]
      have := congrArg List.length hpe
      rw [List.length_map, List.length_take] at this
      omega
    · rw [refs_app]; rfl
    · rw [List.map_append, hpe, List.take_add_one, List.getElem?_map, List.getElem?_eq_getElem hi']
      rfl
  rintro out σ' H3 ⟨u, v, ps, rfl, rfl, g3, hps, hpe⟩ p hp
  have hpe' : ps.map (·.2) = zs.map (·.2) := by rw [hpe, refs_len, List.take_of_length_le (by rw [List.length_map]; exact Nat.le_refl _)]
  have hpl : ps.length = zs.length := by have := congrArg List.length hpe'; rwa [List.length_map, List.length_map] at this
  have g4 := g3.trans (same_new hp (.lst (refs ps)))
  have hp4 : upd H3 p (.lst (refs ps)) p = some (.lst (refs ps)) := upd_same
  have hps4 := hps.same (same_new hp (.lst (refs ps)))
  generalize upd H3 p (.lst (refs ps)) = H4 at g4 hp4 hps4 ⊢
  clear hp hps g3 hpe H3
  have hd4 := g4 _ _ hd2
  have gg := g2.trans g4
  clear g4 g2 hd2 H2
  refine ⟨p, refs ps, ps.map (·.2), rfl, SqL.of hp4, by rw [refs_len, List.length_map], fun i v k hv hk => ?_, ?_, by rw [refs_len]; omega, fun q pm hq hP hU => ?_⟩
  · obtain ⟨hi, rfl⟩ := refs_at hv
    rw [List.getElem?_map, List.getElem?_eq_getElem hi] at hk
    cases hk
    exact ⟨_, rfl, SqT.of (hps4.at hi)⟩
  · rw [hpe']; exact hnd
  obtain ⟨qs, eq, hperm, hup⟩ := sort_refs hP hU
  rw [eq]
  have hqd : q ≠ d := fun e => by rw [e, hd4] at hq; cases hq
  have g5 := gg.trans (same_new hq (.lst (refs qs)))
  have hd5 : upd H4 q (.lst (refs qs)) d = some (.dK []) := by rw [upd_ne hqd.symm]; exact hd4
  have hq5 : upd H4 q (.lst (refs qs)) q = some (.lst (refs qs)) := upd_same
  have hqs5 : Tb fP (upd H4 q (.lst (refs qs))) qs := fun z hz => (same_new hq (.lst (refs qs))) _ _ (hps4 z (hperm.mem_iff.mp hz))
  generalize upd H4 q (.lst (refs qs)) = H5 at g5 hd5 hq5 hqs5 ⊢
  clear eq hU hP hq hp4 hps4 hd4 gg H4
  have hql : qs.length = zs.length := by rw [hperm.length_eq, hpl]
  have hpm : (qs.map (·.2)).Perm (zs.map (·.2)) := by rw [← hpe']; exact hperm.map _
  have hqb : ∀ (i : Nat) (hi : i < qs.length), 1 ≤ qs[i].2.1 ∧ qs[i].2.1 ≤ 64 := fun i hi => hb _ (hpm.mem_iff.mp (List.mem_map.mpr ⟨qs[i], List.getElem_mem hi, rfl⟩))
  have hqnd : ((qs.map (·.2)).map (·.2)).Nodup := (hpm.map (·.2)).nodup_iff.mpr hnd
  clear hpe' hpl hperm ps p
  refine ⟨_, rfl, ⟨_, SqL.of hq5⟩, for_list (K := K) (a := q) (xs := refs qs)
    (fun i σ H6 => ∃ u v : Option V, σ = [some (.ref a), some (.ref d), some (.str (lastC Str.empty (((qs.map (·.2)).take i).map (·.1)))), u, v] ∧ H6 d = some (.dK (tabC ((qs.map (·.2)).take i))) ∧ Same H H6 ∧ ∀ b, b ≠ d → H6 b = H5 b)
    ⟨none, none, rfl, hd5, g5, fun _ _ => rfl⟩ (fun i σ H6 _ ⟨_, _, _, _, _, ho⟩ => SqL.of (by rw [ho q hqd]; exact hq5)) ?_ ?_⟩
  · rintro i y σ H6 hy ⟨u, v, rfl, hd6, g6, ho⟩
    obtain ⟨hi, rfl⟩ := refs_at hy
    have ht : H6 qs[i].1 = some (.tup (fP qs[i].2)) := by
      have := hqs5.at hi
      rw [ho _ (fun e => by rw [e, hd5] at this; cases this)]
      exact this
    have etk : (qs.map (·.2)).take (i + 1) = (qs.map (·.2)).take i ++ [qs[i].2] := by rw [List.take_add_one, List.getElem?_map, List.getElem?_eq_getElem hi]; rfl
    have hbi := hqb i hi
    have hlc : (lastC Str.empty (((qs.map (·.2)).take i).map (·.1))).length ≤ 1000 := by
      have := last_len Str.empty (((qs.map (·.2)).take i).map (·.1)) 64 fun n hn => by
        obtain ⟨k, hk, rfl⟩ := List.mem_map.mp hn
        have := hb _ (hpm.mem_iff.mp (List.mem_of_mem_take hk))
        omega
      rw [List.length_map, List.length_take, List.length_map] at this
      have e0 : Str.empty.length = 0 := rfl
      omega
    have hno : qs[i].2.2 ∉ ((qs.map (·.2)).take i).map (·.2) := fun z => by
      have nd : (((qs.map (·.2)).take (i + 1)).map (·.2)).Nodup := hqnd.sublist ((List.take_sublist _ _).map _)
      rw [etk, List.map_append] at nd
      exact (List.nodup_append.mp nd).2.2 _ z _ List.mem_cons_self rfl
    simp only [gTup, gCons, gNil, gName]
    refine ⟨_, _, rfl, SqT.of ht, rfl, _, _, rfl, _, _, rfl, rfl, ?_⟩
    refine ⟨_, rfl, _, rfl, _, _, rfl, by omega, by omega, by omega, ?_⟩
    refine ⟨_, rfl, _, rfl, _, rfl, d, upd H6 d (.dK (tabC ((qs.map (·.2)).take (i + 1)))), rfl, .inl ⟨_, .inr qs[i].2.2, hd6, rfl, smallL (by rw [tabC_len, List.length_take, List.length_map]; omega), ?_⟩, some (.int qs[i].2.1), some (.str qs[i].2.2), ?_, upd_same, same_upd g6 hHd _, fun b hb' => ?_⟩
    · rw [putK_new _ (tabC_none hno), etk, tabC_snoc]
    · rw [etk, List.map_append, List.map_cons, List.map_nil, last_snoc]
      rfl
    · rw [upd_ne hb']; exact ho b hb'
  rintro σ H6 ⟨u, v, rfl, hd6, g6, _⟩
  rw [refs_len, List.take_of_length_le (by rw [List.length_map]; exact Nat.le_refl _)] at hd6
  rw [refs_len, List.take_of_length_le (by rw [List.length_map]; exact Nat.le_refl _)]
  generalize lastC Str.empty ((qs.map (·.2)).map (·.1)) = lc
  refine ⟨_, rfl, a, rfl, ⟨_, g6.seq hS⟩, fun C ex s0 H0 => comp_list_fin (K := K) (a := a) (xs := refs zs)
    (fun i out σ H7 => ∃ (u v : Option V) (js : List (Addr × (Str × Str))), σ = [u, v, some (.ref d)] ∧ out = refs js ∧ Same H6 H7 ∧ Tb fM H7 js ∧ js.map (·.2) = ((zs.map (·.2)).take i).map fun k => (k.2, codeIn (qs.map (·.2)) k.2))
    ⟨none, none, [], rfl, rfl, Same.refl _, Tb.nil, rfl⟩ (fun i out σ H7 _ ⟨_, _, _, _, _, g, _⟩ => (g6.trans g).seq hS) ?_ ?_⟩
  · rintro i y out σ' H7 hi hy ⟨u, v, js, rfl, rfl, g7, hjs, hje⟩
    obtain ⟨hi', rfl⟩ := refs_at hy
    simp only [gTup, gCons, gNil, gName, tNoTest, ↓reduceIte]
    have ht := (hT.same (g6.trans g7)).at hi'
    have hin : zs[i].2.2 ∈ (qs.map (·.2)).map (·.2) := (hpm.map (·.2)).mem_iff.mpr (List.mem_map.mpr ⟨zs[i].2, List.mem_map.mpr ⟨zs[i], List.getElem_mem hi', rfl⟩, rfl⟩)
    refine ⟨_, _, rfl, SqT.of ht, rfl, _, _, rfl, _, _, rfl, rfl, _, rfl, _, rfl, _, rfl, d, .str (codeIn (qs.map (·.2)) zs[i].2.2), rfl, .inl ⟨_, .inr zs[i].2.2, .inl (g7 _ _ hd6), rfl, (codeIn_val hin).symm⟩, small (by show 2 ≤ 1000000; decide), fun t ht' => ⟨smallL ?_, CW.next hi ⟨_, _, js ++ [(t, (zs[i].2.2, codeIn (qs.map (·.2)) zs[i].2.2))], rfl, ?_, g7.trans (same_new ht' _), Tb.snoc (hjs.same (same_new ht' _)) upd_same, ?_⟩⟩⟩
    · rw [refs_len]
      have := congrArg List.length hje
      rw [List.length_map, List.length_map, List.length_take] at this
      omega
    · rw [refs_app]; rfl
    · rw [List.map_append, hje, List.take_add_one, List.getElem?_map, List.getElem?_eq_getElem hi', List.map_append]
      rfl
  · rintro out σ' H7 ⟨u, v, js, rfl, rfl, g7, hjs, hje⟩ r hr'
    rw [refs_len, List.take_of_length_le (by rw [List.length_map]; exact Nat.le_refl _)] at hje
    exact fin bk r js (qs.map (·.2)) _ ((g6.trans g7).trans (same_new hr' _)) upd_same (hjs.same (same_new hr' _)) hpm hup hje
end
end K06

set_option Elab.async false
set_option linter.all false
set_option maxRecDepth 100000
set_option maxHeartbeats 2000000
namespace M08
open PySem PySem.Spec L2 PyProof.Rows LmTxt M02 M05 M06 LmG
/-! ### grown books -/
def Wh (ls : List Int) : Prop := (∀ l ∈ ls, 1 ≤ l ∧ l ≤ 63) ∧ W 63 ls = 2 ^ 63
theorem W_app (N : Int) (a b : List Int) : W N (a ++ b) = W N a + W N b := by unfold W; rw [List.map_append, List.sum_append]
theorem wh_two : Wh [1, 1] := ⟨fun l h => by simp at h; omega, by unfold W ex; rfl⟩
theorem wh_split {ls : List Int} (h : Wh ls) {i : Nat} (hi : i < ls.length) (h9 : ls[i] < 9) : Wh (ls.take i ++ [ls[i] + 1, ls[i] + 1] ++ ls.drop (i + 1)) := by
  have hm := h.1 ls[i] (List.getElem_mem hi)
  refine ⟨fun l hl => ?_, ?_⟩
  · rcases List.mem_append.mp hl with q | q
    · rcases List.mem_append.mp q with q | q
      · exact h.1 l (List.mem_of_mem_take q)
      · have : l = ls[i] + 1 := by simpa using q
        omega
    · exact h.1 l (List.mem_of_mem_drop q)
  · have e : ls = ls.take i ++ ([ls[i]] ++ ls.drop (i + 1)) := by
      rw [List.singleton_append, ← List.drop_eq_getElem_cons hi, List.take_append_drop]
    have e1 := h.2
    rw [e, W_app, W_app] at e1
    rw [W_app, W_app, ← e1]
    have e2 := ex_up (N := 63) (l := ls[i] + 1) (by omega)
    rw [show ls[i] + 1 - 1 = ls[i] by omega] at e2
    have e3 : W 63 [ls[i] + 1, ls[i] + 1] = ex 63 (ls[i] + 1) + ex 63 (ls[i] + 1) := by unfold W; simp
    have e4 : W 63 [ls[i]] = ex 63 ls[i] := by unfold W; simp
    rw [e3, e4, e2]
    omega
def upTo (k : Nat) : List Int := (List.range k).map fun j => ((j : Nat) : Int) + 1
theorem upTo_succ (k : Nat) : upTo (k + 1) = upTo k ++ [(k : Int) + 1] := by unfold upTo; rw [List.range_succ, List.map_append]; rfl
theorem upTo_len (k : Nat) : (upTo k).length = k := by unfold upTo; simp
theorem upTo_W : ∀ k : Nat, k ≤ 62 → W 63 (upTo (k + 1)) + ex 63 ((k : Int) + 1) = 2 ^ 63
  | 0, _ => by unfold W ex upTo; rfl
  | k + 1, h => by
    have ih := upTo_W k (by omega)
    rw [upTo_succ, W_app]
    have e2 := ex_up (N := 63) (l := ((k + 1 : Nat) : Int) + 1) (by omega)
    rw [show ((k + 1 : Nat) : Int) + 1 - 1 = (k : Int) + 1 by omega] at e2
    have e4 : W 63 [((k + 1 : Nat) : Int) + 1] = ex 63 (((k + 1 : Nat) : Int) + 1) := by unfold W; simp
    rw [e4]
    omega
theorem wh_chain {k : Nat} (h1 : 1 ≤ k) (h2 : k ≤ 63) : Wh (upTo k ++ [(k : Int)]) := by
  obtain ⟨j, rfl⟩ : ∃ j, k = j + 1 := ⟨k - 1, by omega⟩
  refine ⟨fun l hl => ?_, ?_⟩
  · rcases List.mem_append.mp hl with q | q
    · unfold upTo at q
      obtain ⟨i, hi, rfl⟩ := List.mem_map.mp q
      have := List.mem_range.mp hi
      omega
    · have : l = ((j + 1 : Nat) : Int) := by simpa using q
      omega
  · have := upTo_W j (by omega)
    rw [W_app]
    have e4 : W 63 [((j + 1 : Nat) : Int)] = ex 63 ((j : Int) + 1) := by unfold W; simp
    rw [e4]
    exact this
def GL (ls : List Int) : Prop := ls = [1] ∨ (2 ≤ ls.length ∧ Wh ls)
theorem up_ones {cs : List Nat} (h : cs.Pairwise (· < ·)) : UpS (cs.map one) := List.pairwise_map.mpr (h.imp fun {a b} q => (lt1 a b).mpr q)
theorem bk_nil : Bk [] := ⟨List.Pairwise.nil, .inl ⟨by decide, .inl rfl⟩⟩
theorem bk_of {ls : List Int} {cs : List Nat} (hc : cs.Pairwise (· < ·)) (hl : ls.length = cs.length) (h : GL ls) : Bk (ls.zip (cs.map one)) := by
  have e1 : (ls.zip (cs.map one)).map (·.1) = ls := List.map_fst_zip (by rw [List.length_map]; omega)
  have e2 : (ls.zip (cs.map one)).map (·.2) = cs.map one := List.map_snd_zip (by rw [List.length_map]; omega)
  have e3 : (ls.zip (cs.map one)).length = ls.length := by rw [List.length_zip, List.length_map]; omega
  refine ⟨by rw [e2]; exact up_ones hc, ?_⟩
  rw [e1, e3]
  rcases h with rfl | ⟨h2, h⟩
  · exact .inl ⟨by decide, .inr rfl⟩
  · exact .inr ⟨h2, (kr_W (N := 63) (by decide) (fun l hl => (h.1 l hl).2) (fun l hl => (h.1 l hl).1) h2).mpr h.2⟩
/-! ### menus -/
def MnOk (x : Str) : Prop := x.cps.toList.Pairwise (· < ·) ∧ ∀ c ∈ x.cps.toList, c < 127
theorem sl_mid (x : Str) {a b : Nat} (h1 : a ≤ b) (h2 : b ≤ x.length) : (Txt.slice x (some (a : Int)) (some (b : Int))).cps.toList = (x.cps.toList.drop a).take (b - a) := by
  have := StrLaws.sliceText_nat x h1 h2
  have e : Txt.slice x (some (a : Int)) (some (b : Int)) = StrLaws.sliceText x (some (a : Int)) (some (b : Int)) := rfl
  rw [e, this]
theorem MnOk.mid {x : Str} (h : MnOk x) {a b : Nat} (h1 : a ≤ b) (h2 : b ≤ x.length) : MnOk (Txt.slice x (some (a : Int)) (some (b : Int))) := by
  unfold MnOk
  rw [sl_mid x h1 h2]
  exact ⟨h.1.sublist ((List.take_sublist _ _).trans (List.drop_sublist _ _)), fun c hc => h.2 c (List.mem_of_mem_drop (List.mem_of_mem_take hc))⟩
def Menu3 (x : Str) : Prop := x.length = 92 ∧ MnOk x
theorem one_ok {c : Nat} (h : c < 127) : PyData.strOk (one c) = true := by
  have : c < 1114112 := by omega
  simpa [PyData.strOk] using this
end M08

set_option Elab.async false
set_option linter.all false
set_option maxRecDepth 100000
set_option maxHeartbeats 4000000
namespace K06
open PySem PySem.Spec L2 PyProof.Rows LmTxt M02 LmG M05 M06 M08
section
variable {P : Program} {w : World} {K : PySem.W.Frag} {mg : Str → Option Value} {base : Heap} {cL cB : Addr} {tS tL : Tok}
/-! ### _law_full_menu -/
def spMenu : Sp := fun vs H Q _ => vs = [] ∧ ∀ x : Str, Menu3 x → Q (.str x) H
theorem sc_menu : FnScope ["_law_signs"] [] (defScope sMenu) := ⟨rfl, rfl, rfl, by decide +kernel, rfl, by decide +kernel, by decide +kernel⟩
theorem ok_menu {f : Addr} {fd : FuncData} (F : Fun K "_law_full_menu" "_law_full_menu" sMenu f fd) : FnOk P w K mg base CX0 1 f fd [] spMenu := by
  refine F.ok sc_menu (fun vs H Q E h => ?_) (fun cdv A outer s H vs Q E hr h => ?_)
  · obtain ⟨rfl, _⟩ := h; rfl
  obtain ⟨rfl, q⟩ := h
  refine ⟨_, (pss_cons (ps_set (i := 0) sc_menu.nd rfl (Or.inl rfl) pe_str)
      (pss_one (ps_ret (pe_op op_add_str (pv 0) pe_str)))), ?_⟩
  exact ⟨_, rfl, _, _, rfl, rfl, by decide +kernel, q _ ⟨by decide +kernel, by unfold MnOk; decide +kernel⟩⟩
/-! ### _law_grown -/
def spGrown (K : PySem.W.Frag) : Sp := fun vs H Q _ => ∃ (a : Addr) (ns : List Int), vs = [.ref a] ∧ SqL K H a (ns.map V.int) ∧ ns.length ≤ 63 ∧
  ∀ (r : Addr) (zs : List (Addr × G)) (H' : Hp), Same H H' → H' r = some (.lst (refs zs)) → Tb fL H' zs → Bk (zs.map (·.2)) → zs.length ≤ 64 → (∀ z ∈ zs, ∃ c, z.2.2 = one c ∧ c < 127) → Q (.ref r) H'
theorem sc_grown : FnScope ["_law_cells", "_law_lengths", "_law_size", "_law_cell", "_law_spot", "_law_twins", "_law_menu", "_law_full", "_law_start"] ["_law_cells"] (defScope sGrown) := ⟨rfl, rfl, rfl, by decide +kernel, rfl, by decide +kernel, by decide +kernel⟩
theorem ok_grown {f : Addr} {fd : FuncData} (F : Fun K "_law_grown" "_law_grown" sGrown f fd) (T : Txt mg) {fm : Addr} {fdm : FuncData} (M_full_menu : Fn K mg "_law_full_menu" fm fdm []) (G_full_menu : FnOk P w K mg base CX0 1 fm fdm [] spMenu) : FnOk P w K mg base CX0 2 f fd ["_law_cells"] (spGrown K) := by
  refine F.ok sc_grown (fun vs H Q E h => ?_) (fun cdv A outer s H vs Q E hr h => ?_)
  · obtain ⟨a, ns, rfl, _⟩ := h; rfl
  obtain ⟨a, ns, rfl, hS, hl, fin⟩ := h
  refine ⟨_, (pss_cons (ps_if (pt_cmpR (op_eqD hr.units) (pv 0) (pe_lst pa_nil) (nomark _)) (pss_one (ps_ret (pe_lst pa_nil))) pss_nil)
      (pss_cons (ps_set (i := 1) sc_grown.nd rfl (Or.inr rfl) (pe_lst (pa_cons pe_int pa_nil)))
      (pss_cons (ps_if (pt_cmpR op_eq (pe_op op_mod (pe_ix ix_list (pv 0) pe_int (fun _ _ => rfl)) pe_int) pe_int (nomark _)) (pss_cons (ps_set (i := 2) sc_grown.nd rfl (Or.inl rfl) (pe_callB (call_min2 rfl) rfl T.min boot_min (pa_cons (pe_callB call_len rfl T.len PySem.boot_len (pa_cons (pv 0) pa_nil)) (pa_cons pe_int pa_nil))))
      (pss_cons (ps_if (pt_cmpR op_gt (pe_callB call_len rfl T.len PySem.boot_len (pa_cons (pv 0) pa_nil)) pe_int (nomark _)) (pss_one (ps_set (i := 2) sc_grown.nd rfl (Or.inl rfl) (pe_callB (call_min2 rfl) rfl T.min boot_min (pa_cons (pe_callB call_len rfl T.len PySem.boot_len (pa_cons (pv 0) pa_nil)) (pa_cons pe_int pa_nil))))) pss_nil)
      (pss_one (ps_set (i := 1) sc_grown.nd rfl (Or.inr rfl) (pe_op op_catS (pe_comp (own := ["_law_k"]) (cap := []) (cl := []) ⟨rfl, rfl, by decide +kernel, by decide +kernel, trivial, rfl, trivial⟩ rfl (pi_range1 rfl T.range (pa_cons (pv 2) pa_nil)) (fun _ _ _ _ => (pg_name (i := 0) (by show List.Nodup (["_law_k"] : List Str); decide +kernel) rfl (Or.inl rfl))) (fun _ _ _ _ => pts_nil) (fun _ _ _ _ => (pe_op op_add (pv 0) pe_int))) (pe_lst (pa_cons (pv 2) pa_nil))))))) (pss_one (ps_if (pt_cmpR op_gt (pe_op op_mod (pe_ix ix_list (pv 0) pe_int (fun _ _ => rfl)) pe_int) pe_int (nomark _)) (pss_cons (ps_set (i := 1) sc_grown.nd rfl (Or.inr rfl) (pe_lst (pa_cons pe_int (pa_cons pe_int pa_nil))))
      (pss_one (ps_for PassesOwn.never rfl (pi_list (pe_slice sl_list (pv 0) (po_some pe_int) po_none)) (pg_name (i := 3) sc_grown.nd rfl (Or.inl rfl)) (pss_cons (ps_set (i := 4) sc_grown.nd rfl (Or.inl rfl) (pe_op op_mod (pe_op op_fdiv (pv 3) pe_int) (pe_callB call_len rfl T.len PySem.boot_len (pa_cons (pv 1) pa_nil))))
      (pss_one (ps_if (PW.pt (pw_and (pt_cmpR op_gt (pe_op op_mod (pv 3) pe_int) pe_int (nomark _)) (pw_and (pt_cmpR op_lt (pe_callB call_len rfl T.len PySem.boot_len (pa_cons (pv 1) pa_nil)) pe_int (nomark _)) (pw_and1 (pt_cmpR op_lt (pe_ix ix_list (pv 1) (pv 4) (fun _ _ => rfl)) pe_int (nomark _)))))) (pss_cons (ps_set (i := 5) sc_grown.nd rfl (Or.inl rfl) (pe_op op_rep (pe_lst (pa_cons (pe_op op_add (pe_ix ix_list (pv 1) (pv 4) (fun _ _ => rfl)) pe_int) pa_nil)) pe_int))
      (pss_one (ps_set (i := 1) sc_grown.nd rfl (Or.inr rfl) (pe_op op_catS (pe_op op_catS (pe_slice sl_list (pv 1) po_none (po_some (pv 4))) (pv 5)) (pe_slice sl_list (pv 1) (po_some (pe_op op_add (pv 4) pe_int)) po_none))))) pss_nil)))))) pss_nil)))
      (pss_cons (ps_set (i := 6) sc_grown.nd rfl (Or.inr rfl) pe_str)
      (pss_cons (ps_if (pt_cmpR op_eq (pe_op op_mod (pe_op op_fdiv (pe_ix ix_list (pv 0) pe_int (fun _ _ => rfl)) pe_int) pe_int) pe_int (nomark _)) (pss_cons (ps_set (i := 7) sc_grown.nd rfl (Or.inl rfl) (pe_call0 G_full_menu (hr.mono (by decide)) rfl M_full_menu.m M_full_menu.k M_full_menu.b .nil pass0))
      (pss_cons (ps_set (i := 8) sc_grown.nd rfl (Or.inl rfl) (pe_op op_mod (pe_ix ix_list (pv 0) pe_int (fun _ _ => rfl)) (pe_op op_sub (pe_callB call_len rfl T.len PySem.boot_len (pa_cons (pv 7) pa_nil)) pe_int)))
      (pss_one (ps_set (i := 6) sc_grown.nd rfl (Or.inr rfl) (pe_slice sl_str (pv 7) (po_some (pv 8)) (po_some (pe_op op_add (pv 8) pe_int))))))) pss_nil)
      (pss_cons (ps_if (pt_cmpR op_gt (pe_callB call_len rfl T.len PySem.boot_len (pa_cons (pv 1) pa_nil)) pe_int (nomark _)) (pss_one (ps_set (i := 6) sc_grown.nd rfl (Or.inr rfl) (pe_call0 G_full_menu (hr.mono (by decide)) rfl M_full_menu.m M_full_menu.k M_full_menu.b .nil pass0))) pss_nil)
      (pss_one (ps_ret (pe_comp (own := ["_law_k"]) (cap := [("_law_lengths", 1), ("_law_menu", 6)]) (cl := _) ⟨rfl, rfl, by decide +kernel, by decide +kernel, ⟨rfl, rfl, trivial⟩, rfl, ⟨⟨by kernel_rfl, .inl (by kernel_rfl), .inl (by kernel_rfl), by kernel_rfl⟩, ⟨by kernel_rfl, .inl (by kernel_rfl), .inl (by kernel_rfl), by kernel_rfl⟩, trivial⟩⟩ rfl (pi_range1 rfl T.range (pa_cons (pe_callB call_len rfl T.len PySem.boot_len (pa_cons (pv 1) pa_nil)) pa_nil)) (fun _ _ _ _ => (pg_name (i := 0) (by show List.Nodup (["_law_k", "_law_lengths", "_law_menu"] : List Str); decide +kernel) rfl (Or.inl rfl))) (fun _ _ _ _ => pts_nil) (fun _ _ _ _ => (pe_tup (pa_cons (pe_ix ix_str (pv 2) (pv 0) (fun _ _ => rfl)) (pa_cons (pe_ix ix_list (pv 1) (pv 0) (fun _ _ => rfl)) pa_nil))))))))))))), ?_⟩
  have s0 : same (.list (ns.map PyData.int)) (.list []) = decide (ns = []) := by rw [same]; exact same_ints ns []
  have m0 : SeqAt.noMix (.list (ns.map PyData.int)) (.list []) = true := by rw [SeqAt.noMix]; exact mix_ints ns []
  refine ⟨_, rfl, small (by show 0 ≤ 1000000; decide), fun p0 hp0 => ?_⟩
  have g1 := same_new hp0 (.lst [])
  refine ⟨.list (ns.map .int), .list [], .lst (g1.seq hS) (rd_ints ns), .lst (SqL.of upd_same) .nil, sh_ints ns, rfl, m0, _, rfl, ?_⟩
  generalize upd H p0 (.lst []) = H1 at g1 ⊢
  rw [s0]
  refine ite2 (fun c => ?_) (fun c => ?_)
  · refine ⟨small (by show 0 ≤ 1000000; decide), fun r hr' => ?_⟩
    exact fin r [] _ (g1.trans (same_new hr' _)) upd_same Tb.nil bk_nil (by simp) (fun z hz => nomatch hz)
  have hne : ns ≠ [] := fun e => c (decide_eq_true e)
  have hpos : 0 < ns.length := List.length_pos_iff.mpr hne
  have at0 : atI (ns.map V.int) (0 : Int) = some (V.int ns[0]) := atI_nat (j := 0) (by rw [List.getElem?_map, List.getElem?_eq_getElem hpos]; rfl)
  clear s0 m0 c hp0 p0
  -- lengths = [1]
  refine ⟨small (by show 1 ≤ 1000000; decide), fun l0 hl0 => ?_⟩
  have g2 := g1.trans (same_new hl0 (.lst [.int 1]))
  have hl2 : upd H1 l0 (.lst [.int 1]) l0 = some (.lst (([1] : List Int).map V.int)) := upd_same
  generalize upd H1 l0 (.lst [.int 1]) = H2 at g2 hl2 ⊢
  clear hl0 g1 H1
  refine via_next (fun σ' H' => ∃ (l : Addr) (ls : List Int) (u2 u3 u4 u5 : Option V), σ' = [some (.ref a), some (.ref l), u2, u3, u4, u5, none, none, none] ∧ H' l = some (.lst (ls.map V.int)) ∧ Same H H' ∧ ls.length ≤ 64 ∧ GL ls) ?_ ?_
  · rintro σ' H3 ⟨l, ls, u2, u3, u4, u5, rfl, hl3, g3, hll, hgl⟩
    refine seq_c (via (fun σ' H' => ∃ (menu : Str) (u7 u8 : Option V), σ' = [some (.ref a), some (.ref l), u2, u3, u4, u5, some (.str menu), u7, u8] ∧ H' = H3 ∧ 22 ≤ menu.length ∧ menu.length ≤ 100 ∧ MnOk menu) ?_ ?_)
    · rintro σ' H4 ⟨menu, u7, u8, rfl, hH4, hm1, hm2, hm3⟩
      have hH4' := hH4.symm
      subst hH4'
      refine via (fun σ' H' => ∃ (menu : Str), σ' = [some (.ref a), some (.ref l), u2, u3, u4, u5, some (.str menu), u7, u8] ∧ H' = H3 ∧ ls.length ≤ menu.length ∧ menu.length ≤ 100 ∧ MnOk menu) ?_ ?_
      · rintro σ' H4 ⟨menu, rfl, hH4, hlm, hm100, hm3⟩
        have hH4' := hH4.symm
        subst hH4'
        refine ⟨_, rfl, _, _, rfl, .inl ⟨_, SqL.of hl3, rfl⟩, _, rfl, by rw [List.length_map]; omega, by rw [List.length_map]; omega, ?_⟩
        rw [List.length_map, Int.toNat_natCast]
        refine fun C ex s0 H0 => comp_range_fin
          (fun i out σ H5 => ∃ (u : Option V) (zs : List (Addr × G)), σ = [u, some (.ref l), some (.str menu)] ∧ out = refs zs ∧ Same H3 H5 ∧ Tb fL H5 zs ∧ zs.map (·.2) = (ls.take i).zip ((menu.cps.toList.take i).map one))
          ⟨none, [], rfl, rfl, Same.refl _, Tb.nil, rfl⟩ ?_ ?_
        · rintro i out σ' H5 hi ⟨u, zs, rfl, rfl, g5, hzs, hzm⟩
          simp only [gName, tNoTest, ↓reduceIte]
          have him : i < menu.cps.toList.length := by rw [← LmTxt.len_list]; omega
          have hzl : zs.length = i := by
            have := congrArg List.length hzm
            rw [List.length_map, List.length_zip, List.length_map, List.length_take, List.length_take] at this
            omega
          have atm : atI menu.cps.toList (0 + (i : Int)) = some menu.cps.toList[i] := by rw [Int.zero_add]; exact atI_nat (List.getElem?_eq_getElem him)
          have atl : atI (ls.map V.int) (0 + (i : Int)) = some (V.int ls[i]) := by rw [Int.zero_add]; exact atI_nat (by rw [List.getElem?_map, List.getElem?_eq_getElem hi]; rfl)
          refine ⟨_, rfl, _, rfl, menu, _, _, rfl, rfl, small (by omega), atm, _, rfl, _, rfl, _, _, _, _, rfl, rfl, SqL.of (g5 _ _ hl3), atl, small (by show 2 ≤ 1000000; decide), fun t ht => ⟨smallL (by rw [refs_len]; omega), CW.next hi ⟨_, zs ++ [(t, (ls[i], one menu.cps.toList[i]))], rfl, ?_, g5.trans (same_new ht _), Tb.snoc (hzs.same (same_new ht _)) upd_same, ?_⟩⟩⟩
          · rw [refs_app]; rfl
          · rw [List.map_append, hzm, List.take_add_one, List.take_add_one, List.getElem?_eq_getElem hi, List.getElem?_eq_getElem him, List.map_append, List.zip_append (by rw [List.length_map, List.length_take, List.length_take]; omega)]
            rfl
        · rintro out σ' H5 ⟨u, zs, rfl, rfl, g5, hzs, hzm⟩ r hr'
          rw [List.take_of_length_le (Nat.le_refl _)] at hzm
          have hcl : (menu.cps.toList.take ls.length).length = ls.length := by
            rw [List.length_take, ← LmTxt.len_list]; omega
          have hzl : zs.length = ls.length := by
            have := congrArg List.length hzm
            rw [List.length_map, List.length_zip, List.length_map, hcl] at this
            omega
          refine fin r zs _ ((g3.trans g5).trans (same_new hr' _)) upd_same (hzs.same (same_new hr' _)) ?_ (by omega) (fun z hz => ?_)
          · rw [hzm]
            exact bk_of (hm3.1.sublist (List.take_sublist _ _)) hcl.symm hgl
          · have : z.2 ∈ ls.zip ((menu.cps.toList.take ls.length).map one) := by rw [← hzm]; exact List.mem_map.mpr ⟨z, hz, rfl⟩
            have h2 := (List.of_mem_zip (a := z.2.1) (b := z.2.2) this).2
            obtain ⟨c, hc, e⟩ := List.mem_map.mp h2
            exact ⟨c, e.symm, hm3.2 c (List.mem_of_mem_take hc)⟩
      · intro Y hY
        refine ⟨_, rfl, _, _, rfl, .inl ⟨_, SqL.of hl3, rfl⟩, _, _, rfl, rfl, _, rfl, ?_⟩
        rw [List.length_map]
        refine ite2 (fun c => ?_) (fun c => ?_)
        · exact ⟨rfl, fun mx hmx => hY _ _ ⟨mx, rfl, rfl, by rw [hmx.1]; omega, by rw [hmx.1]; omega, hmx.2⟩⟩
        · have : ¬ ((21 : Int) < (ls.length : Int)) := fun z => c (decide_eq_true z)
          exact hY _ _ ⟨menu, rfl, rfl, by omega, hm2, hm3⟩
    · intro X hX
      refine ⟨_, rfl, _, _, _, _, rfl, rfl, g3.seq hS, at0, _, _, rfl, rfl, ⟨by decide, by decide⟩, _, _, rfl, rfl, (by show (0 : Int) < 3; decide), rfl, _, rfl, ite2 (fun c => ?_) (fun c => ?_)⟩
      · refine ⟨rfl, fun mx hmx => ?_⟩
        have hpos2 : (0 : Int) < (mx.length : Int) - 22 := by rw [hmx.1]; decide
        refine ⟨_, rfl, _, _, _, _, rfl, rfl, g3.seq hS, at0, _, rfl, _, _, rfl, ⟨small (by rw [hmx.1]; decide), rfl⟩, _, _, rfl, rfl, _, _, rfl, rfl, hpos2, ?_⟩
        have h0 := Int.emod_nonneg ns[0] (show (mx.length : Int) - 22 ≠ 0 by omega)
        have h1 := Int.emod_lt_of_pos ns[0] hpos2
        refine ⟨_, rfl, _, rfl, _, rfl, _, rfl, _, _, rfl, rfl, _, rfl, mx, rfl, small (by rw [hmx.1]; decide), ?_⟩
        refine hX _ _ ⟨_, _, _, rfl, rfl, ?_⟩
        generalize ns[0] % ((mx.length : Int) - 22) = st at h0 h1 ⊢
        rw [hmx.1] at h1
        have e1 : st = ((st.toNat : Nat) : Int) := by omega
        have e2 : st + 22 = ((st.toNat + 22 : Nat) : Int) := by omega
        have hle : st.toNat + 22 ≤ mx.length := by rw [hmx.1]; omega
        rw [e2, e1]
        have hs := sl_mid mx (a := st.toNat) (b := st.toNat + 22) (by omega) hle
        have hln : (Txt.slice mx (some ((st.toNat : Nat) : Int)) (some ((st.toNat + 22 : Nat) : Int))).length = 22 := by
          rw [LmTxt.len_list, hs, List.length_take, List.length_drop, ← LmTxt.len_list]; omega
        refine ⟨?_, ?_, ?_⟩
        · show 22 ≤ (Txt.slice mx (some ((st.toNat : Nat) : Int)) (some ((st.toNat + 22 : Nat) : Int))).length
          omega
        · show (Txt.slice mx (some ((st.toNat : Nat) : Int)) (some ((st.toNat + 22 : Nat) : Int))).length ≤ 100
          omega
        · exact hmx.2.mid (a := st.toNat) (b := st.toNat + 22) (by omega) hle
      · exact hX _ _ ⟨_, _, _, rfl, rfl, by decide +kernel, by decide +kernel, by unfold MnOk; decide +kernel⟩
  · intro X hX
    refine ⟨_, rfl, _, _, _, _, rfl, rfl, g2.seq hS, at0, _, _, rfl, rfl, (by show (0 : Int) < 7; decide), rfl, _, rfl, ite2 (fun c => ?_) (fun c => ?_)⟩
    · refine ⟨_, rfl, _, _, rfl, .inl ⟨_, g2.seq hS, rfl⟩, _, _, rfl, ?_⟩
      rw [List.length_map]
      refine via_next (fun σ' H' => ∃ k : Nat, σ' = [some (.ref a), some (.ref l0), some (.int (k : Int)), none, none, none, none, none, none] ∧ H' = H2 ∧ 1 ≤ k ∧ k ≤ 63) ?_ ?_
      · rintro σ' H3 ⟨k, rfl, hH3, hk1, hk2⟩
        have hH3' := hH3.symm
        subst hH3'
        refine ⟨_, rfl, _, rfl, by omega, by omega, ?_⟩
        rw [Int.toNat_natCast]
        refine fun C ex s0 H0 => comp_range_fin
          (fun i out σ H5 => ∃ (u : Option V) (os : List Int), σ = [u] ∧ out = os.map V.int ∧ os = M08.upTo i ∧ Same H2 H5)
          ⟨none, [], rfl, rfl, rfl, Same.refl _⟩ ?_ ?_
        · rintro i out σ' H5 hi ⟨u, os, rfl, rfl, hol, g5⟩
          simp only [gName, tNoTest, ↓reduceIte]
          refine ⟨_, rfl, _, _, rfl, rfl, smallL (by rw [List.length_map, hol, upTo_len]; omega), CW.next hi ⟨_, os ++ [0 + (i : Int) + 1], rfl, ?_, by rw [hol, upTo_succ, Int.zero_add], g5⟩⟩
          rw [List.map_append]; rfl
        · rintro out σ' H5 ⟨u, os, rfl, rfl, hol, g5⟩ p hp
          have hosl : os.length = k := by rw [hol, upTo_len]
          have g6 := (g2.trans g5).trans (same_new hp (.lst (os.map V.int)))
          have hp6 : upd H5 p (.lst (os.map V.int)) p = some (.lst (os.map V.int)) := upd_same
          generalize upd H5 p (.lst (os.map V.int)) = H6 at g6 hp6 ⊢
          refine ⟨_, rfl, small (by show 1 ≤ 1000000; decide), fun q hq => ?_⟩
          have g7 := same_new hq (.lst [.int (k : Int)])
          have hq7 : upd H6 q (.lst [.int (k : Int)]) q = some (.lst [.int (k : Int)]) := upd_same
          generalize upd H6 q (.lst [.int (k : Int)]) = H7 at g7 hq7 ⊢
          refine ⟨p, q, _, _, rfl, rfl, SqL.of (g7 _ _ hp6), SqL.of hq7, small (by rw [List.length_map]; show _ + 1 ≤ _; omega), fun r hr' => ?_⟩
          refine hX _ _ ⟨r, os ++ [(k : Int)], _, _, _, _, rfl, ?_, (g6.trans g7).trans (same_new hr' _), by simp; omega, .inr ⟨by simp; omega, by rw [hol]; exact wh_chain hk1 (by omega)⟩⟩
          rw [upd_same, List.map_append]
          rfl
      · intro Y hY
        refine ⟨_, rfl, _, _, rfl, .inl ⟨_, g2.seq hS, rfl⟩, _, _, rfl, rfl, _, rfl, ?_⟩
        rw [List.length_map]
        refine ite2 (fun c1 => ?_) (fun c1 => ?_)
        · refine ⟨_, rfl, _, _, rfl, .inl ⟨_, g2.seq hS, rfl⟩, _, _, rfl, ?_⟩
          rw [List.length_map]
          refine hY _ _ ⟨(if (90 : Int) < (ns.length : Int) then (90 : Int) else (ns.length : Int)).toNat, ?_, rfl, by split <;> omega, by split <;> omega⟩
          rw [show (((if (90 : Int) < (ns.length : Int) then (90 : Int) else (ns.length : Int)).toNat : Nat) : Int) = (if (90 : Int) < (ns.length : Int) then (90 : Int) else (ns.length : Int)) by split <;> omega]
          rfl
        refine hY _ _ ⟨(if (20 : Int) < (ns.length : Int) then (20 : Int) else (ns.length : Int)).toNat, ?_, rfl, by split <;> omega, by split <;> omega⟩
        rw [show (((if (20 : Int) < (ns.length : Int) then (20 : Int) else (ns.length : Int)).toNat : Nat) : Int) = (if (20 : Int) < (ns.length : Int) then (20 : Int) else (ns.length : Int)) by split <;> omega]
        rfl
    · refine ⟨_, rfl, _, _, _, _, rfl, rfl, g2.seq hS, at0, _, _, rfl, rfl, (by show (0 : Int) < 7; decide), _, _, rfl, rfl, _, rfl, ite2 (fun c1 => ?_) (fun c1 => ?_)⟩
      · refine ⟨small (by show 2 ≤ 1000000; decide), fun l1 hl1 => ?_⟩
        have g3 := g2.trans (same_new hl1 (.lst [.int 1, .int 1]))
        have hl3 : upd H2 l1 (.lst [.int 1, .int 1]) l1 = some (.lst (([1, 1] : List Int).map V.int)) := upd_same
        generalize upd H2 l1 (.lst [.int 1, .int 1]) = H3 at g3 hl3 ⊢
        obtain ⟨ms, ems, _, hml⟩ := cut_ints ns (some 1) none
        refine ⟨_, rfl, 1, rfl, a, _, rfl, g3.seq hS, fun p hp => ?_⟩
        rw [ems]
        have g4 := g3.trans (same_new hp (.lst (ms.map V.int)))
        have hl4 := (same_new hp (.lst (ms.map V.int))) _ _ hl3
        have hp4 : upd H3 p (.lst (ms.map V.int)) p = some (.lst (ms.map V.int)) := upd_same
        generalize upd H3 p (.lst (ms.map V.int)) = H4 at g4 hl4 hp4 ⊢
        refine ⟨p, rfl, ⟨_, SqL.of hp4⟩, for_list (K := K) (a := p) (xs := ms.map V.int)
          (fun i σ H5 => ∃ (l : Addr) (ls : List Int) (u3 u4 u5 : Option V), σ = [some (.ref a), some (.ref l), none, u3, u4, u5, none, none, none] ∧ H5 l = some (.lst (ls.map V.int)) ∧ Same H4 H5 ∧ 2 ≤ ls.length ∧ ls.length ≤ 20 ∧ Wh ls)
          ⟨l1, [1, 1], none, none, none, rfl, hl4, Same.refl _, by decide, by decide, wh_two⟩ (fun i σ H5 _ ⟨_, _, _, _, _, _, _, g, _⟩ => SqL.of (g _ _ hp4)) ?_ ?_⟩
        · rintro i y σ H5 hy ⟨l, ls, u3, u4, u5, rfl, hl5, g5, hn2, hn20, hwh⟩
          rw [List.getElem?_map] at hy
          obtain ⟨cell, hcell, rfl⟩ := Option.map_eq_some_iff.mp hy
          have hlp : (0 : Int) < ((ls.map V.int).length : Int) := by rw [List.length_map]; omega
          refine ⟨_, rfl, _, _, rfl, rfl, ⟨by decide, by decide⟩, _, rfl, _, _, rfl, .inl ⟨_, SqL.of hl5, rfl⟩, _, _, rfl, rfl, hlp, ?_⟩
          have s0 := Int.emod_nonneg (cell / 3) (show ((ls.map V.int).length : Int) ≠ 0 by omega)
          have s1 := Int.emod_lt_of_pos (cell / 3) hlp
          dsimp only
          generalize cell / 3 % ((ls.map V.int).length : Int) = sp at s0 s1 ⊢
          rw [List.length_map] at s1
          have hsp : sp.toNat < ls.length := by omega
          have ats : atI (ls.map V.int) sp = some (V.int ls[sp.toNat]) := by
            have e : atI (ls.map V.int) ((sp.toNat : Nat) : Int) = some (V.int ls[sp.toNat]) := atI_nat (by rw [List.getElem?_map, List.getElem?_eq_getElem hsp]; rfl)
            rwa [show ((sp.toNat : Nat) : Int) = sp by omega] at e
          refine ⟨_, rfl, _, _, rfl, rfl, (by show (0 : Int) < 3; decide), _, _, rfl, rfl, _, rfl, ite2 (fun c2 => ?_) (fun _ => iteF ⟨l, ls, _, _, u5, rfl, hl5, g5, hn2, hn20, hwh⟩)⟩
          refine ⟨_, rfl, _, _, rfl, .inl ⟨_, SqL.of hl5, rfl⟩, _, _, rfl, rfl, _, rfl, ?_⟩
          rw [List.length_map]
          refine ite2 (fun c3 => ?_) (fun _ => iteF ⟨l, ls, _, _, u5, rfl, hl5, g5, hn2, hn20, hwh⟩)
          have hn19 : ls.length < 20 := by have := of_decide_eq_true c3; omega
          refine ⟨_, rfl, _, rfl, _, _, _, _, rfl, rfl, SqL.of hl5, ats, _, _, rfl, rfl, _, rfl, ite2 (fun c4 => ?_) (fun _ => ⟨l, ls, _, _, u5, rfl, hl5, g5, hn2, hn20, hwh⟩)⟩
          have h9 : ls[sp.toNat] < 9 := of_decide_eq_true c4
          have hwh2 := wh_split hwh hsp h9
          rw [show sp.toNat + 1 = (sp + 1).toNat by omega] at hwh2
          -- twins
          refine ⟨_, rfl, _, rfl, _, _, _, _, rfl, rfl, SqL.of hl5, ats, _, _, rfl, rfl, small (by show 1 ≤ 1000000; decide), fun p1 hp1 => ?_⟩
          have g6 := same_new hp1 (.lst [.int (ls[sp.toNat] + 1)])
          have hp6 : upd H5 p1 (.lst [.int (ls[sp.toNat] + 1)]) p1 = some (.lst [.int (ls[sp.toNat] + 1)]) := upd_same
          generalize upd H5 p1 (.lst [.int (ls[sp.toNat] + 1)]) = H6 at g6 hp6 ⊢
          refine ⟨p1, 2, _, rfl, rfl, hp6, by decide, by decide, small (by show 1 * 2 ≤ 1000000; decide), fun p2 hp2 => ?_⟩
          have erep : (List.replicate (2 : Int).toNat [V.int (ls[sp.toNat] + 1)]).flatten = ([ls[sp.toNat] + 1, ls[sp.toNat] + 1] : List Int).map V.int := rfl
          rw [erep]
          have g7 := same_new hp2 (.lst (([ls[sp.toNat] + 1, ls[sp.toNat] + 1] : List Int).map V.int))
          have hp7 : upd H6 p2 (.lst (([ls[sp.toNat] + 1, ls[sp.toNat] + 1] : List Int).map V.int)) p2 = some (.lst (([ls[sp.toNat] + 1, ls[sp.toNat] + 1] : List Int).map V.int)) := upd_same
          generalize upd H6 p2 (.lst (([ls[sp.toNat] + 1, ls[sp.toNat] + 1] : List Int).map V.int)) = H7 at g7 hp7 ⊢
          have hl7 := g7 _ _ (g6 _ _ hl5)
          have g57 := (g5.trans g6).trans g7
          -- the first part
          refine ⟨_, rfl, _, rfl, _, rfl, l, _, rfl, SqL.of hl7, fun p3 hp3 => ?_⟩
          rw [cut_to _ s0 (by rw [List.length_map]; omega), ← List.map_take]
          have g8 := same_new hp3 (.lst ((ls.take sp.toNat).map V.int))
          have hp8 : upd H7 p3 (.lst ((ls.take sp.toNat).map V.int)) p3 = some (.lst ((ls.take sp.toNat).map V.int)) := upd_same
          generalize upd H7 p3 (.lst ((ls.take sp.toNat).map V.int)) = H8 at g8 hp8 ⊢
          refine ⟨_, rfl, p3, p2, _, _, rfl, rfl, SqL.of hp8, SqL.of (g8 _ _ hp7), small (by rw [List.length_map, List.length_map, List.length_take]; show _ + 2 ≤ _; omega), fun p4 hp4' => ?_⟩
          rw [← List.map_append]
          have g9 := same_new hp4' (.lst ((ls.take sp.toNat ++ [ls[sp.toNat] + 1, ls[sp.toNat] + 1]).map V.int))
          have hp9 : upd H8 p4 (.lst ((ls.take sp.toNat ++ [ls[sp.toNat] + 1, ls[sp.toNat] + 1]).map V.int)) p4 = some (.lst ((ls.take sp.toNat ++ [ls[sp.toNat] + 1, ls[sp.toNat] + 1]).map V.int)) := upd_same
          generalize upd H8 p4 (.lst ((ls.take sp.toNat ++ [ls[sp.toNat] + 1, ls[sp.toNat] + 1]).map V.int)) = H9 at g9 hp9 ⊢
          have hl9 := g9 _ _ (g8 _ _ hl7)
          refine ⟨_, rfl, _, rfl, _, _, rfl, rfl, _, rfl, l, _, rfl, SqL.of hl9, fun p5 hp5 => ?_⟩
          rw [cut_from _ (show (0 : Int) ≤ sp + 1 by omega) (by rw [List.length_map]; omega), ← List.map_drop]
          have g10 := same_new hp5 (.lst ((ls.drop (sp + 1).toNat).map V.int))
          have hp10 : upd H9 p5 (.lst ((ls.drop (sp + 1).toNat).map V.int)) p5 = some (.lst ((ls.drop (sp + 1).toNat).map V.int)) := upd_same
          generalize upd H9 p5 (.lst ((ls.drop (sp + 1).toNat).map V.int)) = H10 at g10 hp10 ⊢
          have hlen : (ls.take sp.toNat ++ [ls[sp.toNat] + 1, ls[sp.toNat] + 1]).length + (ls.drop (sp + 1).toNat).length = ls.length + 1 := by
            rw [List.length_append, List.length_take, List.length_drop]
            show _ + 2 + _ = _
            omega
          refine ⟨p4, p5, _, _, rfl, rfl, SqL.of (g10 _ _ hp9), SqL.of hp10, small (by rw [List.length_map, List.length_map]; omega), fun p6 hp6' => ?_⟩
          rw [← List.map_append]
          exact ⟨p6, _, _, _, _, rfl, upd_same, (((g57.trans g8).trans g9).trans g10).trans (same_new hp6' _), by rw [List.length_append, hlen]; omega, by rw [List.length_append, hlen]; omega, hwh2⟩
        · rintro σ H5 ⟨l, ls, u3, u4, u5, rfl, hl5, g5, hn2, hn20, hwh⟩
          exact hX _ _ ⟨l, ls, _, _, _, _, rfl, hl5, g4.trans g5, by omega, .inr ⟨hn2, hwh⟩⟩
      · exact hX _ _ ⟨l0, [1], _, _, _, _, rfl, hl2, g2, by decide, .inl rfl⟩
end
end K06

set_option Elab.async false
set_option linter.all false
set_option maxRecDepth 100000
set_option maxHeartbeats 2000000
namespace M08
open PySem PySem.Spec L2 PyProof.Rows LmTxt M02 M05 M06 LmG
section
variable {K : PySem.W.Frag}
end
/-! ### how long a text is told -/
/-! ### told and heard -/
end M08
namespace L2
open PySem PySem.Spec PyProof.Rows
end L2

set_option Elab.async false
set_option linter.all false
set_option maxRecDepth 100000
set_option maxHeartbeats 2000000
namespace L2
open PySem PySem.Spec PyProof.Rows PySem.W
section
variable {X : Cx} {pins : List (Addr × Obj)} {σ : St} {H : Hp} {s : Shared} {A : Around} {E : Value → Shared → Prop} {Q : Value → Shared → Prop} {b : Bool}
end
section
variable {X : Cx} {o e : Expr} {to : TE} {t : TA} {apos cpos : Pos}
theorem mt_startswith : MtR X "str.startswith" (fun x vs H Q => ∃ i j, x = .str i ∧ vs = [.str j] ∧ Q (.bl (Txt.startswith i j)) H) := by
  intro pins s σ H x xs v us Q I rx rv h
  obtain ⟨i, j, rfl, rfl, q⟩ := h
  obtain ⟨t, rfl⟩ := rx
  obtain ⟨u, rfl, t', rfl⟩ := vals1 rv
  exact SC.startswith ⟨.bl _, H, I, rfl, q⟩
theorem pe_startswith (ho : PE X o to) (ha : PA X [e] t)
    (hbase : attributeBase o "startswith" X.env (eval o X.env) = eval o X.env := by rfl)
    (hfew : ((backTo cpos (starEach [e] X.env)).all (fun x => !x.1) && (backToKw cpos (keywordEach [] X.env)).all (fun x => x.1.isSome)
      && decide (([e] : List Expr).length + ([] : List Keyword).length + (if ([] : List Keyword).isEmpty then 0 else 1) < 30)) = true := by rfl)
    (hline : (apos.endLine == cpos.line) = true := by rfl) (hs : starEach [e] X.env = (false, eval e X.env) :: starEach [] X.env := by rfl) (hplain : (backTo cpos (starEach [] X.env)).any (·.1) = false := by rfl) :
    PE X (.Call (.Attribute o "startswith" apos) [e] [] cpos) (tBM X.K "str" (fun x vs H Q => ∃ i j, x = .str i ∧ vs = [.str j] ∧ Q (.bl (Txt.startswith i j)) H) to t) :=
  pe_bm PySem.F.plainAttrs_str PySem.F.slot_str_startswith PySem.F.type_str_startswith mt_startswith ho ha hbase hfew hline hs hplain
end
section
variable {X : Cx} {e : Expr} {te : TE} {p p2 p3 tp pos : Pos}
end
end L2

set_option Elab.async false
set_option linter.all false
set_option maxRecDepth 100000
set_option maxHeartbeats 2000000
namespace M08
open PySem PySem.Spec L2 PyProof.Rows LmTxt M02 M05 M06 LmG
/-! ### the codes by the parts of the whole -/
/-! ### what begins with a code -/
theorem starts_iff (x y : Str) : Txt.startswith x y = true ↔ y.cps.toList <+: x.cps.toList := by
  unfold Txt.startswith
  rw [Bool.and_eq_true, decide_eq_true_iff, PySem.StrLaws.subAt_eq, beq_iff_eq, List.drop_zero, Nat.zero_add]
  constructor
  · rintro ⟨_, e⟩
    rw [← e]
    exact List.take_prefix _ _
  · intro h
    have hl := h.length_le
    rw [← LmTxt.len_list, ← LmTxt.len_list] at hl
    refine ⟨hl, ?_⟩
    rw [LmTxt.len_list]
    exact (List.prefix_iff_eq_take.mp h).symm
end M08

set_option Elab.async false
set_option linter.all false
set_option maxRecDepth 100000
set_option maxHeartbeats 4000000
namespace M08
open PySem PySem.Spec L2 PyProof.Rows LmTxt M02 LmG M05 M06
structure Hd6 (K : PySem.W.Frag) (H : Hp) (a : Addr) (zs : List (Addr × G)) : Prop where
  l : H a = some (.lst (refs zs))
  t : Tb fL H zs
  n : zs.length ≤ 64
  s : ∀ z ∈ zs, ∃ c, z.2.2 = LmTxt.one c ∧ c < 127
theorem Hd6.ok {K : PySem.W.Frag} {H : Hp} {a : Addr} {zs : List (Addr × G)} (h : Hd6 K H a zs) : ∀ z ∈ zs, PyData.strOk z.2.2 = true := fun z hz => by
  obtain ⟨c, e, hc⟩ := h.s z hz
  rw [e]; exact one_ok hc
theorem Hd6.same {K : PySem.W.Frag} {H H' : Hp} {a : Addr} {zs : List (Addr × G)} (h : Hd6 K H a zs) (g : Same H H') : Hd6 K H' a zs := ⟨g _ _ h.l, h.t.same g, h.n, h.s⟩
end M08

set_option Elab.async false
set_option linter.all false
set_option maxRecDepth 100000
set_option maxHeartbeats 2000000
namespace L2
open PySem PySem.Spec PyProof.Rows
section
variable {X : Cx}
/-- x.index(y) of what is there -/
def rIndex : V → List V → Hp → VK → Prop := fun x vs H Q => ∃ (i j : Str) (a : Nat) (r : List Nat), x = .str i ∧ vs = [.str j] ∧ Builtin.Str.occurrences i j 0 i.length 1 = a :: r ∧ Q (.int a) H
theorem mt_index : MtR X "str.index" rIndex := by
  intro pins s σ H x xs v us Q I rx rv h
  obtain ⟨i, j, a, r, rfl, rfl, ho, q⟩ := h
  obtain ⟨t, rfl⟩ := rx
  obtain ⟨u, rfl, t', rfl⟩ := vals1 rv
  exact call_gives F.slot_str_index (typeIs_str _ _ _) F.entry_str_index (F.args_str_index_2 _ _) (gives_str_index i j t t' a r ho) ⟨.int a, H, I.tok _, ⟨_, rfl⟩, q⟩
end
section
variable {X : Cx} {o e : Expr} {to : TE} {t : TA} {apos cpos : Pos}
theorem pe_index (ho : PE X o to) (ha : PA X [e] t)
    (hbase : attributeBase o "index" X.env (eval o X.env) = eval o X.env := by rfl)
    (hfew : ((backTo cpos (starEach [e] X.env)).all (fun x => !x.1) && (backToKw cpos (keywordEach [] X.env)).all (fun x => x.1.isSome)
      && decide (([e] : List Expr).length + ([] : List Keyword).length + (if ([] : List Keyword).isEmpty then 0 else 1) < 30)) = true := by rfl)
    (hline : (apos.endLine == cpos.line) = true := by rfl) (hs : starEach [e] X.env = (false, eval e X.env) :: starEach [] X.env := by rfl) (hplain : (backTo cpos (starEach [] X.env)).any (·.1) = false := by rfl) :
    PE X (.Call (.Attribute o "index" apos) [e] [] cpos) (tBM X.K "str" rIndex to t) :=
  pe_bm PySem.F.plainAttrs_str PySem.F.slot_str_index PySem.F.type_str_index mt_index ho ha hbase hfew hline hs hplain
end
end L2

set_option Elab.async false
set_option linter.all false
set_option maxRecDepth 100000
set_option maxHeartbeats 4000000
namespace HT
open PySem PySem.W PyProof.Rows
open PySem.AutoSeq1 (wpAny_loadPart')
open PySem.MeetsSeq PySem.MeetsSeq2 PySem.MeetsSeq3 PySem.SeqAt

theorem ints_at : ∀ {vs : List Value} {ns : List Int}, IntsAre vs ns → (vs = [] ∧ ns = []) ∨ ∃ n t vr nr, vs = .int n t :: vr ∧ ns = n :: nr ∧ IntsAre vr nr
  | _, _, .nil => .inl ⟨rfl, rfl⟩
  | _, _, .cons n t h => .inr ⟨n, t, _, _, rfl, rfl, h⟩
theorem drop_none {xs : Array Value} {i : Nat} (h : xs.toList.drop i = []) : xs.size ≤ i := by
  have := congrArg List.length h
  simp at this
  omega
theorem drop_some {xs : Array Value} {i : Nat} {v : Value} {r : List Value} (h : xs.toList.drop i = v :: r) : i < xs.size ∧ xs[i]? = some v ∧ xs.toList.drop (i + 1) = r := by
  have hl := congrArg List.length h
  simp at hl
  have hi : i < xs.toList.length := by simp; omega
  rw [List.drop_eq_getElem_cons hi] at h
  obtain ⟨e1, e2⟩ := List.cons.inj h
  refine ⟨by simpa using hi, ?_, e2⟩
  rw [← e1]
  simp

theorem lt_loop (l b : Addr) (us vs : Array Value) (n n2 : Nat) (dd dd2 : Option Addr) (sl sl2 : Array (Option Value)) : ∀ (ns : List Int) (i : Nat) (ms : List Int), i ≤ us.size → i ≤ vs.size → IntsAre (us.toList.drop i) ns → IntsAre (vs.toList.drop i) ms →
    Meets (Builtin.«list.__eq__.loop» ⟨[.ref l, .ref b, rawInt i, rawInt 0], []⟩)
      (fun A R s => s.heap.get? l = some { cls := .type "list", dict := dd, data := .seq us n, slots := sl } ∧ s.heap.get? b = some { cls := .type "list", dict := dd2, data := .seq vs n2, slots := sl2 } ∧ R (.ok (.ret (.bool (lexLt ns ms)))) s) := by
  intro ns
  induction ns with
  | nil =>
    intro i ms h1 h2 hi hj prog w A R s h
    obtain ⟨hp, g, d, tk, os⟩ := s; obtain ⟨hl, hb, h⟩ := h
    have e1 : us.toList.drop i = [] := by
      rcases ints_at hi with ⟨e1, _⟩ | ⟨_, _, _, _, _, z, _⟩
      · exact e1
      · cases z
    have e2 := drop_none e1
    have e3 : us[((i : Nat) : Int).toNat]? = none := by simp; omega
    wp_walk using wpAny_loadPart' hb, wpAny_loadPart' hl
    rw [e3]
    wp_walk using wpAny_loadPart' hb, wpAny_loadPart' hl
    show R (.ok (.ret (.bool (decide (us.size < vs.size))))) _
    rcases ints_at hj with ⟨f1, rfl⟩ | ⟨y, u, vr, nr, f1, rfl, _⟩
    · have f2 := drop_none f1
      rw [decide_eq_false (by omega)]
      exact h
    · have f2 := drop_some f1
      rw [decide_eq_true (by omega)]
      exact h
  | cons x ns ih =>
    intro i ms h1 h2 hi hj prog w A R s h
    obtain ⟨hp, g, d, tk, os⟩ := s; obtain ⟨hl, hb, h⟩ := h
    rcases ints_at hi with ⟨_, z⟩ | ⟨x', t, ur, nr', e1, z, hi'⟩
    · cases z
    cases z
    obtain ⟨e2, e3, e4⟩ := drop_some e1
    have e3' : us[((i : Nat) : Int).toNat]? = some (.int x t) := by simpa using e3
    wp_walk using wpAny_loadPart' hb, wpAny_loadPart' hl
    rw [e3']
    rcases ints_at hj with ⟨f1, rfl⟩ | ⟨y, u, vr, mr, f1, rfl, hj'⟩
    · have f2 := drop_none f1
      have f3 : vs[((i : Nat) : Int).toNat]? = none := by simp; omega
      rw [f3]
      wp_walk using wpAny_loadPart' hb, wpAny_loadPart' hl
      show R (.ok (.ret (.bool (decide (us.size < vs.size))))) _
      rw [decide_eq_false (by omega)]
      exact h
    · obtain ⟨f2, f3, f4⟩ := drop_some f1
      have f3' : vs[((i : Nat) : Int).toNat]? = some (.int y u) := by simpa using f3
      rw [f3']
      rw [lexLt_cons] at h
      obtain ⟨e, he, hiff⟩ := eqAt_int A.in1 ⟨hp, g, d, tk, os⟩ x t y u
      refine wpAny_bind (he prog w _ _ ?_)
      cases e with
      | true =>
        rw [if_pos (hiff.mp rfl)] at h
        wp_walk
        have hc : ((i : Int) + 1) = ((i + 1 : Nat) : Int) := by omega
        rw [hc]
        refine ⟨plainId_quiet plain_eq_loop _, codeAny_builtin entry_eq_loop ?_⟩
        rw [Around.under_plainId plain_eq_loop _]
        exact ih (i + 1) mr (by omega) (by omega) (e4.symm ▸ hi') (f4.symm ▸ hj') prog w A R _ ⟨hl, hb, h⟩
      | false =>
        rw [if_neg (fun q => absurd (hiff.mpr q) Bool.false_ne_true)] at h
        have hri := rcLt_int A.in1 ⟨hp, g, d, tk, os⟩ x t y u prog w
        wp_walk using wpAny_loadPart' hb, wpAny_loadPart' hl
        rw [e3', f3']
        wp_walk using hri
        exact h
theorem list_lt_ints (l b : Addr) (us vs : Array Value) (n n2 : Nat) (dd dd2 : Option Addr) (sl sl2 : Array (Option Value)) (ns ms : List Int) (hi : IntsAre us.toList ns) (hj : IntsAre vs.toList ms) :
    Meets (Builtin.«list.__lt__» ⟨[.ref l, .ref b], []⟩)
      (fun A R s => s.heap.get? l = some { cls := .type "list", dict := dd, data := .seq us n, slots := sl } ∧ s.heap.get? b = some { cls := .type "list", dict := dd2, data := .seq vs n2, slots := sl2 } ∧ R (.ok (.ret (.bool (lexLt ns ms)))) s) := by
  intro prog w A R s h
  obtain ⟨hp, g, d, tk, os⟩ := s; obtain ⟨hl, hb, h⟩ := h
  have f3 := AutoSeq1.sub_list_list
  wp_walk using wpAny_loadPart' hb, wpAny_loadPart' hl
  refine ⟨plainId_quiet plain_eq_loop _, codeAny_builtin entry_eq_loop ?_⟩
  rw [Around.under_plainId plain_eq_loop _]
  exact lt_loop l b us vs n n2 dd dd2 sl sl2 ns 0 ms (Nat.zero_le _) (Nat.zero_le _) (by simpa using hi) (by simpa using hj) prog w A R _ ⟨hl, hb, h⟩
section
variable {prog : Program} {w : World} {A : Around} {E : Value → Shared → Prop} {s : Shared}
theorem lt_listInts {l b : Addr} {us vs : Array Value} {ns ms : List Int} {Q : Value → Shared → Prop} (hl : s.heap.IsList l us) (hb : s.heap.IsList b vs) (hi : IntsAre us.toList ns) (hj : IntsAre vs.toList ms)
    (hu : A.units < cLine) (h : Q (.bool (lexLt ns ms)) s) : wpAny (model prog w) A (compareOp .Lt (.ref l) (.ref b)) Q E s := by
  obtain ⟨⟨cls, dd, data, sl⟩, ho, hc, n, hd⟩ := id hl
  obtain ⟨⟨cls2, dd2, data2, sl2⟩, ho2, hc2, n2, hd2⟩ := id hb
  simp only at hc hd hc2 hd2
  subst hc hd hc2 hd2
  exact richCompare_meets_room (op := .Lt) ⟨_, ho, rfl⟩ ⟨_, ho2, rfl⟩ PySem.F.slot_list_lt PySem.F.entry_list_lt (PySem.F.args_list_lt_2 _ _) (list_lt_ints l b us vs n n2 dd dd2 sl sl2 ns ms hi hj)
    ⟨ho, ho2, show Value.bool (lexLt ns ms) ≠ Value.notImplemented ∧ Q (.bool (lexLt ns ms)) s from ⟨(fun x => nomatch x), h⟩⟩ hu
end
end HT
namespace L2
open PySem PySem.Spec PyProof.Rows
section
variable {X : Cx}
def rLtLs (K : PySem.W.Frag) : R2 := fun x y H Q => ∃ a b ns ms, x = .ref a ∧ y = .ref b ∧ SqL K H a (ns.map V.int) ∧ SqL K H b (ms.map V.int) ∧ Q (.bl (HT.lexLt ns ms)) H
theorem op_lt_ints (hu : X.A.units < cLine) : OpR X (compareOp .Lt) (rLtLs X.K) := by
  intro pins s σ H x y v u Q I rx ry h
  obtain ⟨a, b, ns, ms, rfl, rfl, ha, hb, q⟩ := h
  cases rx
  cases ry
  obtain ⟨its, r1, p1, _⟩ := I.list ha
  obtain ⟨its2, r2, p2, _⟩ := I.list hb
  have i1 : IntsAre its.toArray.toList ns := intsAre_of r1
  have i2 : IntsAre its2.toArray.toList ms := intsAre_of r2
  exact HT.lt_listInts p1.isList p2.isList i1 i2 hu ⟨.bl (HT.lexLt ns ms), H, I, rfl, q⟩
end
end L2

set_option Elab.async false
set_option linter.all false
set_option maxRecDepth 100000
set_option maxHeartbeats 4000000
namespace M08
open PySem PySem.Spec L2 PyProof.Rows LmTxt M02 M05 M06 LmG
/-- the short ahead of the long -/
def ixF (c : Nat) : Int := if c = 45 then 1 else 0
theorem lex_pre : ∀ (a x y : List Int), HT.lexLt (a ++ x) (a ++ y) = HT.lexLt x y
  | [], _, _ => rfl
  | n :: a, x, y => by
    rw [List.cons_append, List.cons_append, HT.lexLt_cons, if_pos rfl]
    exact lex_pre a x y
theorem lex_app : ∀ (a b x y : List Int), a.length = b.length → HT.lexLt a b = true → HT.lexLt (a ++ x) (b ++ y) = true
  | [], [], _, _, _, h => by cases h
  | [], _ :: _, _, _, hl, _ => by simp at hl
  | _ :: _, [], _, _, hl, _ => by simp at hl
  | n :: a, m :: b, x, y, hl, h => by
    rw [HT.lexLt_cons] at h
    rw [List.cons_append, List.cons_append, HT.lexLt_cons]
    by_cases e : n = m
    · rw [if_pos e] at h ⊢
      exact lex_app a b x y (by simpa using hl) h
    · rw [if_neg e] at h ⊢
      exact h
theorem lex_asymm : ∀ (a b : List Int), HT.lexLt a b = true → HT.lexLt b a = false
  | [], [], _ => rfl
  | [], _ :: _, _ => rfl
  | _ :: _, [], h => by cases h
  | n :: a, m :: b, h => by
    rw [HT.lexLt_cons] at h ⊢
    by_cases e : n = m
    · rw [if_pos e] at h
      rw [if_pos e.symm]
      exact lex_asymm a b h
    · rw [if_neg e] at h
      have := of_decide_eq_true h
      rw [if_neg (Ne.symm e)]
      exact decide_eq_false (by omega)
theorem bits_lex : ∀ (l u v : Nat), u < v → v < 2 ^ l → HT.lexLt ((bits l u).map ixF) ((bits l v).map ixF) = true
  | 0, u, v, h1, h2 => by simp at h2; omega
  | l + 1, u, v, h1, h2 => by
    rw [bits, bits, List.map_append, List.map_append]
    rw [Nat.pow_succ] at h2
    by_cases e : u / 2 = v / 2
    · rw [e, lex_pre]
      have e1 : ¬ (u % 2 = 1) := by omega
      have e2 : v % 2 = 1 := by omega
      rw [if_neg e1, if_pos e2]
      decide
    · refine lex_app _ _ _ _ (by rw [List.length_map, List.length_map, bits_len, bits_len]) (bits_lex l (u / 2) (v / 2) (by omega) (by omega))
theorem at_lex {N : Nat} {ns : List Nat} (hn : ∀ n ∈ ns, 1 ≤ n ∧ n ≤ N) (hp : ns.Pairwise (· ≤ ·)) (hw : wt N ns ≤ 2 ^ N) {i j : Nat} (hij : i < j) (hi : i < ns.length) (hj : j < ns.length) :
    HT.lexLt ((bits ns[i] (wt N (ns.take i) / 2 ^ (N - ns[i]))).map ixF) ((bits ns[j] (wt N (ns.take j) / 2 ^ (N - ns[j]))).map ixF) = true := by
  have hle : ns[i] ≤ ns[j] := List.pairwise_iff_getElem.mp hp i j hi hj hij
  have hi1 := hn ns[i] (List.getElem_mem hi)
  have hj1 := hn ns[j] (List.getElem_mem hj)
  have hpos : 0 < 2 ^ (N - ns[i]) := Nat.pow_pos (by decide)
  have hposj : 0 < 2 ^ (N - ns[j]) := Nat.pow_pos (by decide)
  have hsplit : ns.take j = ns.take i ++ (ns[i] :: (ns.take j).drop (i + 1)) := by
    have e1 : ns.take j = (ns.take j).take i ++ (ns.take j).drop i := (List.take_append_drop i _).symm
    have e2 : (ns.take j).take i = ns.take i := by rw [List.take_take]; congr 1; omega
    have e3 : (ns.take j).drop i = (ns.take j)[i]'(by rw [List.length_take]; omega) :: (ns.take j).drop (i + 1) := List.drop_eq_getElem_cons (by rw [List.length_take]; omega)
    rw [e2, e3, List.getElem_take] at e1
    exact e1
  have hge : wt N (ns.take i) + 2 ^ (N - ns[i]) ≤ wt N (ns.take j) := by
    rw [hsplit, wt_app, wt_cons]; omega
  have hsum : wt N (ns.take j) + 2 ^ (N - ns[j]) ≤ 2 ^ N := by
    have e : wt N ns = wt N (ns.take j) + wt N (ns.drop j) := by rw [← wt_app, List.take_append_drop]
    rw [List.drop_eq_getElem_cons hj, wt_cons] at e
    omega
  have e1 := bits_take ns[i] (wt N (ns.take j) / 2 ^ (N - ns[j])) (ns[j] - ns[i])
  rw [show ns[i] + (ns[j] - ns[i]) = ns[j] by omega, Nat.div_div_eq_div_mul, ← Nat.pow_add, show N - ns[j] + (ns[j] - ns[i]) = N - ns[i] by omega] at e1
  have e2 : 2 ^ N = 2 ^ ns[i] * 2 ^ (N - ns[i]) := by rw [← Nat.pow_add]; congr 1; omega
  have b2 : wt N (ns.take j) / 2 ^ (N - ns[i]) < 2 ^ ns[i] := by
    rw [Nat.div_lt_iff_lt_mul hpos, ← e2]; omega
  have e4 : wt N (ns.take i) / 2 ^ (N - ns[i]) + 1 ≤ wt N (ns.take j) / 2 ^ (N - ns[i]) := by
    have := Nat.div_le_div_right (c := 2 ^ (N - ns[i])) hge
    rw [Nat.add_div_right _ hpos] at this
    exact this
  have e5 : bits ns[j] (wt N (ns.take j) / 2 ^ (N - ns[j])) = bits ns[i] (wt N (ns.take j) / 2 ^ (N - ns[i])) ++ (bits ns[j] (wt N (ns.take j) / 2 ^ (N - ns[j]))).drop ns[i] := by
    rw [← e1, List.take_append_drop]
  rw [e5, List.map_append]
  have := lex_app _ _ [] (((bits ns[j] (wt N (ns.take j) / 2 ^ (N - ns[j]))).drop ns[i]).map ixF) (by rw [List.length_map, List.length_map, bits_len, bits_len]) (bits_lex ns[i] _ _ (show wt N (ns.take i) / 2 ^ (N - ns[i]) < wt N (ns.take j) / 2 ^ (N - ns[i]) by omega) b2)
  rwa [List.append_nil] at this
theorem cod_lex {ks qs : List G} (h : Bk ks) (p : qs.Perm ks) (u : qs.Pairwise fun a b => kltB a b = true) {i j : Nat} (hij : i < j) (hi : i < qs.length) (hj : j < qs.length) :
    HT.lexLt ((cod ks qs[i].2).cps.toList.map ixF) ((cod ks qs[j].2).cps.toList.map ixF) = true := by
  have hc := (cd_ok h p u).2
  rw [cod_of p u] at hc
  obtain ⟨ns, hns⟩ : ∃ ns, ns = (qs.map (·.1)).map (·.toNat) := ⟨_, rfl⟩
  have hnl : ns.length = qs.length := by rw [hns, List.length_map, List.length_map]
  have hpos := bk_pos h
  have hn1 : ∀ n ∈ ns, 1 ≤ n ∧ n ≤ ks.length := fun n hn => by
    rw [hns, List.map_map] at hn
    obtain ⟨k, hk, rfl⟩ := List.mem_map.mp hn
    have := hpos k (p.mem_iff.mp hk)
    show 1 ≤ k.1.toNat ∧ k.1.toNat ≤ _
    omega
  have hsort : ns.Pairwise (· ≤ ·) := by
    rw [hns, List.map_map]
    refine List.pairwise_map.mpr (u.imp fun {a b} q => ?_)
    have := klt_le q
    show a.1.toNat ≤ b.1.toNat
    omega
  have hw : wt ks.length ns ≤ 2 ^ ks.length := by
    have e : wt ks.length ns = wt ks.length ((ks.map (·.1)).map (·.toNat)) := by rw [hns]; exact wt_perm ((p.map (·.1)).map _)
    rw [e]
    exact bk_wt h
  have r := at_lex hn1 hsort hw hij (by omega) (by omega)
  have e1 : ns[i]'(by omega) = qs[i].1.toNat := by simp [hns]
  have e2 : ns[j]'(by omega) = qs[j].1.toNat := by simp [hns]
  rw [hc i hi, hc j hj, ← hns]
  rw [e1, e2] at r
  exact r
/-- by flashes the codes stand in the order of lengths and signs -/
theorem book_lex {ks qs : List G} (h : Bk ks) (p : qs.Perm ks) (u : qs.Pairwise fun a b => kltB a b = true) {i j : Nat} (hij : i < j) (hi : i < ks.length) (hj : j < ks.length) :
    HT.lexLt ((cod ks ks[i].2).cps.toList.map ixF) ((cod ks ks[j].2).cps.toList.map ixF) = decide (ks[i].1 ≤ ks[j].1) := by
  have hs : ks[i].2.cps.toList < ks[j].2.cps.toList := by
    have := List.pairwise_iff_getElem.mp h.1 i j (by rw [List.length_map]; exact hi) (by rw [List.length_map]; exact hj) hij
    simpa using this
  obtain ⟨a, ha, ea⟩ := List.getElem_of_mem (p.mem_iff.mpr (List.getElem_mem hi))
  obtain ⟨b, hb, eb⟩ := List.getElem_of_mem (p.mem_iff.mpr (List.getElem_mem hj))
  have irr : ∀ x : G, kltB x x = false := fun x => by unfold kltB; rw [if_pos rfl]; exact decide_eq_false (List.lt_irrefl _)
  have asy : ∀ x y : G, kltB x y = true → kltB y x = true → False := fun x y h1 h2 => by
    have l1 := klt_le h1
    have l2 := klt_le h2
    have e : x.1 = y.1 := by omega
    unfold kltB at h1 h2
    rw [if_pos e] at h1
    rw [if_pos e.symm] at h2
    exact List.lt_irrefl _ (List.lt_trans (of_decide_eq_true h1) (of_decide_eq_true h2))
  have pw : ∀ {x y : Nat} (hx : x < qs.length) (hy : y < qs.length), x < y → kltB qs[x] qs[y] = true := fun hx hy hxy => List.pairwise_iff_getElem.mp u _ _ hx hy hxy
  by_cases le : ks[i].1 ≤ ks[j].1
  · rw [decide_eq_true le]
    have k1 : kltB ks[i] ks[j] = true := by
      unfold kltB
      by_cases e : ks[i].1 = ks[j].1
      · rw [if_pos e]; exact decide_eq_true hs
      · rw [if_neg e]; exact decide_eq_true (by omega)
    rw [← ea, ← eb] at k1
    have hab : a < b := by
      rcases Nat.lt_trichotomy a b with q | q | q
      · exact q
      · subst q; rw [irr] at k1; cases k1
      · exact (asy _ _ k1 (pw hb ha q)).elim
    rw [← ea, ← eb]
    exact cod_lex h p u hab ha hb
  · rw [decide_eq_false le]
    have k1 : kltB ks[j] ks[i] = true := by
      unfold kltB
      rw [if_neg (by omega)]
      exact decide_eq_true (by omega)
    rw [← ea, ← eb] at k1
    have hab : b < a := by
      rcases Nat.lt_trichotomy a b with q | q | q
      · exact (asy _ _ k1 (pw ha hb q)).elim
      · subst q; rw [irr] at k1; cases k1
      · exact q
    rw [← ea, ← eb]
    exact lex_asymm _ _ (cod_lex h p u hab hb ha)
end M08

set_option Elab.async false
set_option linter.all false
set_option maxRecDepth 100000
set_option maxHeartbeats 4000000
namespace K06
open PySem PySem.Spec L2 PyProof.Rows LmTxt M02 LmG M05 M06 M08
section
variable {P : Program} {w : World} {K : PySem.W.Frag} {mg : Str → Option Value} {base : Heap} {cL cB : Addr} {tS tL : Tok}
theorem pass10 {X : Cx} : Passes (CX1 P w) X E0 := fun _ _ _ _ _ _ _ h => by
  obtain ⟨_, _, _, _, _, z⟩ := h
  exact False.elim z
/-! ### _law_flashes -/
def spFlashes : Sp := fun vs H Q _ => ∃ x : Str, vs = [.str x] ∧ (∀ c ∈ x.cps.toList, c = 45 ∨ c = 46) ∧ Q (.bl true) H
theorem sc_flashes : FnScope ["_law_found", "_law_flash"] ["_law_found"] (defScope sFlashes) := ⟨rfl, rfl, rfl, by decide +kernel, rfl, by decide +kernel, by decide +kernel⟩
theorem in45 : (!(!(Builtin.Str.occurrences (".-" : Str) (one 45) 0 (".-" : Str).length 1).isEmpty)) = false := by decide +kernel
theorem in46 : (!(!(Builtin.Str.occurrences (".-" : Str) (one 46) 0 (".-" : Str).length 1).isEmpty)) = false := by decide +kernel
theorem ok_flashes {f : Addr} {fd : FuncData} (F : Fun K "_law_flashes" "_law_flashes" sFlashes f fd) (T : Txt mg) : FnOk P w K mg base CX0 1 f fd ["_law_found"] spFlashes := by
  refine F.ok sc_flashes (fun vs H Q E h => ?_) (fun cdv A outer s H vs Q E hr h => ?_)
  · obtain ⟨x, rfl, _⟩ := h; rfl
  obtain ⟨x, rfl, hx, q⟩ := h
  refine ⟨_, (pss_cons (ps_if (pt_not (pt_val (pe_isinst T.isinstance T.str boot_str (pv 0)))) (pss_one (ps_ret pe_bl)) pss_nil)
      (pss_cons (ps_for PassesOwn.never rfl (pi_str (pv 0)) (pg_name (i := 1) sc_flashes.nd rfl (Or.inl rfl)) (pss_one (ps_if (pt_cmpR op_notin_str (pv 1) pe_str (by with_unfolding_all rfl)) (pss_one (ps_ret pe_bl)) pss_nil)))
      (pss_one (ps_ret pe_bl)))), ?_⟩
  refine ⟨_, rfl, _, _, _, true, rfl, .str _, rfl, _, rfl, iteF ?_⟩
  refine ⟨_, rfl, x, rfl, for_str (fun i σ H' => H = H' ∧ ∃ u, σ = [some (.str x), u]) ⟨rfl, none, rfl⟩ ?_ ?_⟩
  · rintro i c σ H' hc ⟨rfl, u, rfl⟩
    have hc' : x.cps.toList[i]? = some c := by simpa using hc
    refine ⟨_, rfl, _, _, rfl, rfl, _, rfl, ?_⟩
    rcases hx c (List.mem_of_getElem? hc') with rfl | rfl
    · rw [in45]; exact iteF ⟨rfl, _, rfl⟩
    · rw [in46]; exact iteF ⟨rfl, _, rfl⟩
  · rintro σ H' ⟨rfl, u, rfl⟩
    exact q
/-! ### law -/
def spLaw (K : PySem.W.Frag) : Sp := fun vs H Q _ => ∃ (a : Addr) (ns : List Int), vs = [.ref a] ∧ SqL K H a (ns.map V.int) ∧ ns.length ≤ 63 ∧ ∀ H', Q (.bl true) H'
theorem sc_law : FnScope ["_law_script", "_law_book", "_law_found", "_law_k", "_law_pair", "_law_other", "_law_ahead", "_law_left", "_law_right"] ["_law_script"] (defScope sLaw) := ⟨rfl, rfl, rfl, by decide +kernel, rfl, by decide +kernel, by decide +kernel⟩
theorem ix45 : Builtin.Str.occurrences (".-" : Str) (one 45) 0 (".-" : Str).length 1 = [1] := by decide +kernel
theorem ix46 : Builtin.Str.occurrences (".-" : Str) (one 46) 0 (".-" : Str).length 1 = [0] := by decide +kernel
theorem ix_of {c : Nat} (h : c = 45 ∨ c = 46) : ∃ (a : Nat) (r : List Nat), Builtin.Str.occurrences (".-" : Str) (one c) 0 (".-" : Str).length 1 = a :: r ∧ (a : Int) = ixF c := by
  rcases h with rfl | rfl
  · exact ⟨1, [], ix45, rfl⟩
  · exact ⟨0, [], ix46, rfl⟩
theorem ok_law {f : Addr} {fd : FuncData} (F : Fun K "law" "law" sLaw f fd) (T : Txt mg) {f1 f2 f3 : Addr} {d1 d2 d3 : FuncData}
    (M_grown : Fn K mg "_law_grown" f1 d1 ["_law_cells"]) (G_grown : FnOk P w K mg base CX0 2 f1 d1 ["_law_cells"] (spGrown K))
    (M_codes : Fn K mg "codes" f3 d3 ["book"]) (G_codes : FnOk P w K mg base (CX1 P w) 4 f3 d3 ["book"] (spCodes K cB))
    (M_flashes : Fn K mg "_law_flashes" f2 d2 ["_law_found"]) (G_flashes : FnOk P w K mg base CX0 1 f2 d2 ["_law_found"] spFlashes) :
    FnOk P w K mg base CX0 7 f fd ["_law_script"] (spLaw K) := by
  refine F.ok sc_law (fun vs H Q E h => ?_) (fun cdv A outer s H vs Q E hr h => ?_)
  · obtain ⟨a, ns, rfl, _⟩ := h; rfl
  obtain ⟨a, ns, rfl, hS, hl, fin⟩ := h
  have hu1 := u1 hr
  have hu0 : (A.deeper (envOfC (Str.ofString "law") (defScope sLaw) s.heap.objs.size f cdv)).units < cLine := by omega
  refine ⟨_, (pss_cons (ps_set (i := 1) sc_law.nd rfl (Or.inl rfl) (pe_call G_grown (hr.mono (by decide)) rfl M_grown.m M_grown.k M_grown.b .nil pass0 (pa_cons (pv 0) pa_nil)))
      (pss_cons (ps_set (i := 2) sc_law.nd rfl (Or.inl rfl) (pe_call G_codes (hr.mono (by decide)) rfl M_codes.m M_codes.k M_codes.b .nil pass10 (pa_cons (pe_callTy call_list_of rfl T.list boot_list (pa_cons (pv 1) pa_nil)) pa_nil)))
      (pss_cons (ps_if (PW.pt (pw_or (pt_not (pt_val (pe_isinst T.isinstance T.list boot_list (pv 2)))) (pw_or1 (pt_cmpR op_ne (pe_callB call_len rfl T.len PySem.boot_len (pa_cons (pv 2) pa_nil)) (pe_callB call_len rfl T.len PySem.boot_len (pa_cons (pv 1) pa_nil)) (nomark _))))) (pss_one (ps_ret pe_bl)) pss_nil)
      (pss_cons (ps_for PassesOwn.never rfl (pi_range1 rfl T.range (pa_cons (pe_callB call_len rfl T.len PySem.boot_len (pa_cons (pv 1) pa_nil)) pa_nil)) (pg_name (i := 3) sc_law.nd rfl (Or.inl rfl)) (pss_cons (ps_set (i := 4) sc_law.nd rfl (Or.inl rfl) (pe_ix ix_list (pv 2) (pv 3) (fun _ _ => rfl)))
      (pss_cons (ps_if (PW.pt (pw_or (pt_not (pt_val (pe_isinst T.isinstance T.tuple boot_tuple (pv 4)))) (pw_or (pt_cmpR op_ne (pe_callB call_len rfl T.len PySem.boot_len (pa_cons (pv 4) pa_nil)) pe_int (nomark _)) (pw_or1 (pt_not (pt_val (pe_isinst T.isinstance T.str boot_str (pe_ix ix_tup (pv 4) pe_int (fun _ _ => rfl))))))))) (pss_one (ps_ret pe_bl)) pss_nil)
      (pss_cons (ps_if (PW.pt (pw_or (pt_not (pt_val (pe_call G_flashes (hr.mono (by decide)) rfl M_flashes.m M_flashes.k M_flashes.b .nil pass0 (pa_cons (pe_ix ix_tup (pv 4) pe_int (fun _ _ => rfl)) pa_nil)))) (pw_or1 (pt_cmpR (op_neD hr.units) (pe_tup (pa_cons (pe_ix ix_tup (pv 4) pe_int (fun _ _ => rfl)) (pa_cons (pe_callB call_len rfl T.len PySem.boot_len (pa_cons (pe_ix ix_tup (pv 4) pe_int (fun _ _ => rfl)) pa_nil)) pa_nil))) (pe_ix ix_list (pv 1) (pv 3) (fun _ _ => rfl)) (nomark _))))) (pss_one (ps_ret pe_bl)) pss_nil)
      (pss_one (ps_for PassesOwn.never rfl (pi_list (pe_slice sl_list (pv 2) po_none (po_some (pv 3)))) (pg_name (i := 5) sc_law.nd rfl (Or.inl rfl)) (pss_cons (ps_if (PW.pt (pw_or (pt_val (pe_startswith (pe_ix ix_tup (pv 4) pe_int (fun _ _ => rfl)) (pa_cons (pe_ix ix_tup (pv 5) pe_int (fun _ _ => rfl)) pa_nil))) (pw_or1 (pt_val (pe_startswith (pe_ix ix_tup (pv 5) pe_int (fun _ _ => rfl)) (pa_cons (pe_ix ix_tup (pv 4) pe_int (fun _ _ => rfl)) pa_nil)))))) (pss_one (ps_ret pe_bl)) pss_nil)
      (pss_cons (ps_set (i := 6) sc_law.nd rfl (Or.inl rfl) (pe_cmpR op_le (pe_callB call_len rfl T.len PySem.boot_len (pa_cons (pe_ix ix_tup (pv 5) pe_int (fun _ _ => rfl)) pa_nil)) (pe_callB call_len rfl T.len PySem.boot_len (pa_cons (pe_ix ix_tup (pv 4) pe_int (fun _ _ => rfl)) pa_nil)) (nomark _)))
      (pss_cons (ps_comp (i := 7) sc_law.nd rfl rfl (own := ["_law_flash"]) (cap := []) (cl := []) ⟨rfl, rfl, by decide +kernel, by decide +kernel, trivial, rfl, trivial⟩ rfl (pi_str (pe_ix ix_tup (pv 5) pe_int (fun _ _ => rfl))) (fun _ _ _ _ => (pg_name (i := 0) (by show List.Nodup (["_law_flash"] : List Str); decide +kernel) rfl (Or.inl rfl))) (fun _ _ _ _ => pts_nil) (fun _ _ _ _ => (pe_index pe_str (pa_cons (pv 0) pa_nil))))
      (pss_cons (ps_comp (i := 8) sc_law.nd rfl rfl (own := ["_law_flash"]) (cap := []) (cl := []) ⟨rfl, rfl, by decide +kernel, by decide +kernel, trivial, rfl, trivial⟩ rfl (pi_str (pe_ix ix_tup (pv 4) pe_int (fun _ _ => rfl))) (fun _ _ _ _ => (pg_name (i := 0) (by show List.Nodup (["_law_flash"] : List Str); decide +kernel) rfl (Or.inl rfl))) (fun _ _ _ _ => pts_nil) (fun _ _ _ _ => (pe_index pe_str (pa_cons (pv 0) pa_nil))))
      (pss_one (ps_if (pt_cmpR op_ne (pv 6) (pe_cmpR (op_lt_ints hu0) (pv 7) (pv 8) (nomark _)) (nomark _)) (pss_one (ps_ret pe_bl)) pss_nil))))))))))))
      (pss_one (ps_ret pe_bl)))))), ?_⟩
  refine ⟨_, rfl, a, ns, rfl, hS, hl, fun b zs H2 g2 hb hT bk0 hzl hsg => ?_⟩
  have hd : Hd6 K H2 b zs := ⟨hb, hT, by omega, hsg⟩
  clear hb hT
  obtain ⟨ks, hks⟩ : ∃ ks, ks = zs.map (·.2) := ⟨_, rfl⟩
  have bk : Bk ks := by rw [hks]; exact bk0
  have hkl : ks.length = zs.length := by rw [hks, List.length_map]
  refine ⟨_, rfl, b, _, rfl, .inl (SqL.of hd.l), fun q hq => ?_⟩
  have g4 := same_new hq (.lst (refs zs))
  have hq4 : upd H2 q (.lst (refs zs)) q = some (.lst (refs zs)) := upd_same
  have hdb4 := hd.same g4
  generalize upd H2 q (.lst (refs zs)) = H4 at g4 hq4 hdb4 ⊢
  refine ⟨q, zs, rfl, SqL.of hq4, hdb4.t, hzl, hdb4.ok, fun nb => absurd bk0 nb, fun _ r js qs H5 g5 hr5 hT5 pm up hje => ?_⟩
  rw [cod_of pm up, ← hks] at hje
  rw [← hks] at pm
  have C := cod_ok bk pm up
  have hdb5 := hdb4.same g5
  have hjl : js.length = zs.length := by
    have := congrArg List.length hje
    rwa [List.length_map, List.length_map, hkl] at this
  clear hdb4 hq4 g4 hq hd g2 g5
  refine ⟨_, rfl, _, _, _, true, rfl, .lst hr5, rfl, _, rfl, iteF ?_⟩
  refine ⟨_, rfl, _, _, rfl, .inl ⟨_, SqL.of hr5, rfl⟩, _, rfl, _, _, rfl, .inl ⟨_, SqL.of hdb5.l, rfl⟩, rfl, _, rfl, ?_⟩
  rw [refs_len, refs_len, hjl]
  refine ite2 (fun c => absurd c (by simp)) (fun _ => ?_)
  have eat : ∀ (i : Nat) (hj : i < js.length) (hk : i < ks.length), js[i].2 = (ks[i].2, cod ks ks[i].2) := fun i hj hk => by
    have := congrArg (fun l => l[i]?) hje
    simpa [hj, hk] using this
  have hlc : ∀ (i : Nat) (hk : i < ks.length), (cod ks ks[i].2).length = ks[i].1.toNat ∧ 1 ≤ ks[i].1 ∧ ks[i].1 ≤ 64 := fun i hk => by
    have h1 := C.len _ (List.getElem_mem hk)
    have h2 := C.pos _ (List.getElem_mem hk)
    rw [LmTxt.len_list]
    exact ⟨h1, h2.1, by omega⟩
  refine ⟨_, rfl, _, _, rfl, .inl ⟨_, SqL.of hdb5.l, rfl⟩, _, rfl, by rw [refs_len]; omega, by rw [refs_len]; omega, for_range
    (fun i σ H' => ∃ u3 u4 u5 u6 u7 u8 : Option V, σ = [some (.ref a), some (.ref b), some (.ref r), u3, u4, u5, u6, u7, u8] ∧ Same H5 H') ⟨none, none, none, none, none, none, rfl, Same.refl _⟩ ?_ ?_⟩
  · rintro i σ H6 hi ⟨u3, u4, u5, u6, u7, u8, rfl, g6⟩
    rw [refs_len, Int.toNat_natCast] at hi
    have hij : i < js.length := by omega
    have hik : i < ks.length := by omega
    have eji := eat i hij hik
    have ezi : zs[i].2 = ks[i] := by simp [hks]
    have atr : atI (refs js) (0 + (i : Int)) = some (V.ref js[i].1) := by rw [Int.zero_add]; exact atI_nat (by unfold refs; rw [List.getElem?_map, List.getElem?_eq_getElem hij]; rfl)
    have atb : atI (refs zs) (0 + (i : Int)) = some (V.ref zs[i].1) := by rw [Int.zero_add]; exact atI_nat (by unfold refs; rw [List.getElem?_map, List.getElem?_eq_getElem hi]; rfl)
    have hp := (hT5.same g6).at hij
    have sq := SqT.of (K := K) hp
    have e1 : js[i].2.1 = ks[i].2 := by rw [eji]
    have e2 : js[i].2.2 = cod ks ks[i].2 := by rw [eji]
    obtain ⟨hle, hp1, hp2⟩ := hlc i hik
    have hfl : ∀ c ∈ js[i].2.2.cps.toList, c = 45 ∨ c = 46 := by rw [e2]; exact C.fl _ (List.getElem_mem hik)
    refine ⟨_, rfl, _, rfl, _, _, _, _, rfl, rfl, SqL.of (g6 _ _ hr5), atr, ?_⟩
    refine ⟨_, rfl, _, _, _, true, rfl, .tup hp, rfl, _, rfl, iteF ?_⟩
    refine ⟨_, rfl, _, _, rfl, .inr ⟨_, sq, rfl⟩, rfl, _, rfl, iteNS rfl ?_⟩
    refine ⟨_, rfl, _, _, _, _, rfl, rfl, sq, rfl, _, _, _, true, rfl, .str _, rfl, _, rfl, iteF ?_⟩
    refine ⟨_, rfl, _, _, _, _, rfl, rfl, sq, rfl, js[i].2.2, rfl, hfl, _, rfl, iteF ?_⟩
    have hbig : js[i].2.2.length ≤ 1000000 := by rw [e2, hle]; omega
    -- the pair, held against the book's
    refine ⟨_, rfl, _, _, _, _, rfl, rfl, sq, rfl, _, rfl, _, _, _, _, rfl, rfl, sq, rfl, _, _, rfl, ⟨small hbig, rfl⟩, small (by show 2 ≤ 1000000; decide), fun t ht => ?_⟩
    have g7 := g6.trans (same_new ht (.tup [.str js[i].2.1, .int (js[i].2.2.length : Nat)]))
    have ht7 : upd H6 t (.tup [.str js[i].2.1, .int (js[i].2.2.length : Nat)]) t = some (.tup [.str js[i].2.1, .int (js[i].2.2.length : Nat)]) := upd_same
    generalize upd H6 t (.tup [.str js[i].2.1, .int (js[i].2.2.length : Nat)]) = H7 at g7 ht7 ⊢
    have hd7 := hdb5.same g7
    refine ⟨_, rfl, _, rfl, _, _, _, _, rfl, rfl, SqL.of hd7.l, atb, ?_⟩
    have sb := SqT.of (K := K) (hd7.t.at hi)
    have e3 : (js[i].2.1, ((js[i].2.2.length : Nat) : Int)) = (zs[i].2.2, zs[i].2.1) := by rw [e1, e2, ezi, hle, Int.toNat_of_nonneg (by omega)]
    have e4 : js[i].2.1 = zs[i].2.2 := congrArg Prod.fst e3
    have e5 : ((js[i].2.2.length : Nat) : Int) = zs[i].2.1 := congrArg Prod.snd e3
    have sh := sh_pair (k := zs[i].2) (hd7.ok _ (List.getElem_mem hi))
    have st : SqT K H7 t [.str zs[i].2.2, .int zs[i].2.1] := SqT.of (by rw [ht7, e4, e5])
    refine ⟨.tuple [.str zs[i].2.2, .int zs[i].2.1], .tuple [.str zs[i].2.2, .int zs[i].2.1], .tup st (.cons (.str _) (.cons (.int _) .nil)), .tup sb (.cons (.str _) (.cons (.int _) .nil)), sh, sh, by simp [SeqAt.noMix, SeqAt.noMixAll], _, rfl, ?_⟩
    refine ite2 (fun c => absurd c (by simp [same, sameAll])) fun _ => ?_
    -- the others
    refine ⟨_, rfl, _, rfl, _, rfl, r, _, rfl, SqL.of (g7 _ _ hr5), fun p hpn => ?_⟩
    have ecut : cutV (refs js) none (some (0 + (i : Int))) = refs (js.take i) := by
      rw [Int.zero_add, cut_to _ (by omega) (by rw [refs_len]; omega), Int.toNat_natCast]
      unfold refs
      rw [List.map_take]
    rw [ecut]
    have g8 := g7.trans (same_new hpn (.lst (refs (js.take i))))
    have hp8 : upd H7 p (.lst (refs (js.take i))) p = some (.lst (refs (js.take i))) := upd_same
    generalize upd H7 p (.lst (refs (js.take i))) = H8 at g8 hp8 ⊢
    clear hpn ecut g7 ht7 sb st hd7 H7 ht
    refine ⟨p, rfl, ⟨_, SqL.of hp8⟩, for_list (K := K) (a := p) (xs := refs (js.take i))
      (fun j σ H9 => ∃ u5 u6 u7 u8 : Option V, σ = [some (.ref a), some (.ref b), some (.ref r), some (.int (0 + (i : Int))), some (.ref js[i].1), u5, u6, u7, u8] ∧ Same H8 H9)
      ⟨u5, u6, u7, u8, rfl, Same.refl _⟩ (fun j σ H9 _ ⟨_, _, _, _, _, g⟩ => SqL.of (g _ _ hp8)) ?_ ?_⟩
    · rintro j y σ H9 hy ⟨v5, v6, v7, v8, rfl, g9⟩
      obtain ⟨hjt, rfl⟩ := refs_at hy
      have hji : j < i := by rw [List.length_take] at hjt; omega
      have hjj : j < js.length := by omega
      have hjk : j < ks.length := by omega
      rw [List.getElem_take]
      have gg := g8.trans g9
      have so := SqT.of (K := K) ((hT5.same gg).at hjj)
      have sp := SqT.of (K := K) ((hT5.same gg).at hij)
      have o2 : js[j].2.2 = cod ks ks[j].2 := by rw [eat j hjj hjk]
      obtain ⟨ole, op1, op2⟩ := hlc j hjk
      have ofl : ∀ c ∈ js[j].2.2.cps.toList, c = 45 ∨ c = 46 := by rw [o2]; exact C.fl _ (List.getElem_mem hjk)
      have obig : js[j].2.2.length ≤ 1000000 := by rw [o2, ole]; omega
      have nek : ks[j] ≠ ks[i] := fun e => by
        have h1 := List.pairwise_iff_getElem.mp C.nd j i (by rw [List.length_map]; exact hjk) (by rw [List.length_map]; exact hik) hji
        apply h1
        simp [e]
      have ns1 : Txt.startswith js[i].2.2 js[j].2.2 = false := Bool.eq_false_iff.mpr fun z => nek (C.free _ (List.getElem_mem hjk) _ (List.getElem_mem hik) (by rw [← o2, ← e2]; exact (starts_iff _ _).mp z))
      have ns2 : Txt.startswith js[j].2.2 js[i].2.2 = false := Bool.eq_false_iff.mpr fun z => nek (C.free _ (List.getElem_mem hik) _ (List.getElem_mem hjk) (by rw [← o2, ← e2]; exact (starts_iff _ _).mp z)).symm
      have lex := book_lex bk pm up hji hjk hik
      rw [← o2, ← e2] at lex
      refine ⟨_, rfl, _, _, _, _, rfl, rfl, sp, rfl, rfl, _, rfl, _, _, _, _, rfl, rfl, so, rfl, _, _, rfl, rfl, _, rfl, ?_⟩
      rw [ns1]
      refine iteF ?_
      refine ⟨_, rfl, _, _, _, _, rfl, rfl, so, rfl, rfl, _, rfl, _, _, _, _, rfl, rfl, sp, rfl, _, _, rfl, rfl, _, rfl, ?_⟩
      rw [ns2]
      refine iteF ?_
      refine ⟨_, rfl, _, _, _, _, rfl, rfl, so, rfl, _, _, rfl, ⟨small obig, rfl⟩, _, rfl, _, _, _, _, rfl, rfl, sp, rfl, _, _, rfl, ⟨small hbig, rfl⟩, _, _, rfl, rfl, ?_⟩
      refine ⟨_, rfl, _, _, _, _, rfl, rfl, so, rfl, js[j].2.2, rfl, fun C' ex s0 H0 => comp_str_fin (x := js[j].2.2)
        (fun n out σ H10 => ∃ w : Option V, σ = [w] ∧ out = ((js[j].2.2.cps.toList.take n).map ixF).map V.int ∧ Same H9 H10)
        ⟨none, rfl, rfl, Same.refl _⟩ ?_ ?_⟩
      · rintro n c out σ' H10 hn hc ⟨w, rfl, rfl, g10⟩
        have hcl : js[j].2.2.cps.toList[n]? = some c := by rw [Array.getElem?_toList]; exact hc
        simp only [gName, tNoTest, ↓reduceIte]
        obtain ⟨ia, ir, hix, hia⟩ := ix_of (ofl c (List.mem_of_getElem? hcl))
        refine ⟨rfl, _, rfl, _, _, ia, ir, rfl, rfl, hix, smallL (by rw [List.length_map, List.length_map, List.length_take]; have := LmTxt.len_list js[j].2.2; omega), CW.next hn ⟨_, rfl, ?_, g10⟩⟩
        rw [List.take_add_one, hcl, List.map_append, List.map_append, hia]
        rfl
      rintro out σ' H10 ⟨w, rfl, rfl, g10⟩ lp hlp
      have zsz : js[j].2.2.cps.size = js[j].2.2.cps.toList.length := by simp
      rw [zsz, List.take_of_length_le (Nat.le_refl _)]
      have g11 := g10.trans (same_new hlp (.lst ((js[j].2.2.cps.toList.map ixF).map V.int)))
      have hl11 : upd H10 lp (.lst ((js[j].2.2.cps.toList.map ixF).map V.int)) lp = some (.lst ((js[j].2.2.cps.toList.map ixF).map V.int)) := upd_same
      generalize upd H10 lp (.lst ((js[j].2.2.cps.toList.map ixF).map V.int)) = H11 at g11 hl11 ⊢
      clear hlp g10 H10
      have sp11 := SqT.of (K := K) ((hT5.same (gg.trans g11)).at hij)
      refine ⟨_, rfl, _, _, _, _, rfl, rfl, sp11, rfl, js[i].2.2, rfl, fun C' ex s0 H0 => comp_str_fin (x := js[i].2.2)
        (fun n out σ H12 => ∃ w : Option V, σ = [w] ∧ out = ((js[i].2.2.cps.toList.take n).map ixF).map V.int ∧ Same H11 H12)
        ⟨none, rfl, rfl, Same.refl _⟩ ?_ ?_⟩
      · rintro n c out σ' H12 hn hc ⟨w, rfl, rfl, g12⟩
        have hcl : js[i].2.2.cps.toList[n]? = some c := by rw [Array.getElem?_toList]; exact hc
        simp only [gName, tNoTest, ↓reduceIte]
        obtain ⟨ia, ir, hix, hia⟩ := ix_of (hfl c (List.mem_of_getElem? hcl))
        refine ⟨rfl, _, rfl, _, _, ia, ir, rfl, rfl, hix, smallL (by rw [List.length_map, List.length_map, List.length_take]; have := LmTxt.len_list js[i].2.2; omega), CW.next hn ⟨_, rfl, ?_, g12⟩⟩
        rw [List.take_add_one, hcl, List.map_append, List.map_append, hia]
        rfl
      rintro out σ' H12 ⟨w, rfl, rfl, g12⟩ rp hrp
      have zsz : js[i].2.2.cps.size = js[i].2.2.cps.toList.length := by simp
      rw [zsz, List.take_of_length_le (Nat.le_refl _)]
      have g13 := g12.trans (same_new hrp (.lst ((js[i].2.2.cps.toList.map ixF).map V.int)))
      have hr13 : upd H12 rp (.lst ((js[i].2.2.cps.toList.map ixF).map V.int)) rp = some (.lst ((js[i].2.2.cps.toList.map ixF).map V.int)) := upd_same
      generalize upd H12 rp (.lst ((js[i].2.2.cps.toList.map ixF).map V.int)) = H13 at g13 hr13 ⊢
      have ea : decide (((js[j].2.2.length : Nat) : Int) ≤ ((js[i].2.2.length : Nat) : Int)) = HT.lexLt (js[j].2.2.cps.toList.map ixF) (js[i].2.2.cps.toList.map ixF) := by
        rw [lex, o2, e2, ole, hle, Int.toNat_of_nonneg (by omega), Int.toNat_of_nonneg (by omega)]
      refine ⟨_, rfl, _, rfl, _, rfl, lp, rp, _, _, rfl, rfl, SqL.of (g13 _ _ hl11), SqL.of hr13, rfl, _, rfl, ?_⟩
      refine ite2 (fun c => absurd (congrArg V.bl ea) (of_decide_eq_false (by simpa only [Bool.not_eq_true'] using c))) fun _ => ?_
      exact ⟨_, _, _, _, rfl, (g9.trans g11).trans g13⟩
    · rintro σ H9 ⟨v5, v6, v7, v8, rfl, g9⟩
      exact ⟨_, _, _, _, _, _, rfl, g8.trans g9⟩
  · rintro σ H' ⟨u3, u4, u5, u6, u7, u8, rfl, _⟩
    exact fin _
end
end K06

set_option Elab.async false
set_option linter.all false
set_option maxRecDepth 100000
set_option maxHeartbeats 4000000
namespace K06
open PySem PySem.Spec L2 PyProof.Rows LmTxt M02 LmG M05 M06 M08
theorem len0 {us : List Value} (h : us.length = 0) : us = [] := List.length_eq_zero_iff.mp h
theorem len1 {us : List Value} (h : us.length = 1) : ∃ a, us = [a] := List.length_eq_one_iff.mp h
theorem len2 {us : List Value} (h : us.length = 2) : ∃ a b, us = [a, b] := by
  cases us with
  | nil => cases h
  | cons a us =>
    obtain ⟨b, rfl⟩ := len1 (Nat.succ.inj h)
    exact ⟨a, b, rfl⟩
theorem all_mk {l : PySem.W.OpenLaw} {w : World} {K : PySem.W.Frag} {h : Heap} {mg : Str → Option Value} {fa f1 f2 f3 f4 f5 f6 f7 f8 f9 : Addr} (X : K.In h) (G : h.Ns mainGlobals mg) (hfa : mg "law" = some (.ref fa))
    {od1 an1 od2 an2 od3 an3 od4 an4 od5 an5 od6 an6 od7 an7 od8 an8 od9 an9 : Option Addr} {sl1 sl2 sl3 sl4 sl5 sl6 sl7 sl8 sl9 : Array (Option Value)} {oc1 kV1 dc1 pm1 cd1 ct1 oc2 kV2 dc2 pm2 cd2 ct2 oc3 kV3 dc3 pm3 cd3 ct3 oc4 kV4 dc4 pm4 cd4 ct4 oc5 kV5 dc5 pm5 cd5 ct5 oc6 kV6 dc6 pm6 cd6 ct6 oc7 kV7 dc7 pm7 cd7 ct7 oc8 kV8 dc8 pm8 cd8 ct8 oc9 kV9 dc9 pm9 cd9 ct9 : Value}
    {cL cB : Addr} {tS tL : Tok}
    {nmcL qncL : Str} {NcL : Addr} {bscL sbcL : List Value} {hdcL abcL : Bool} {sncL : List Str} {cocL : Option Bool} {ddcL : Option Addr} {kacL kbcL kccL kdcL kecL : Option Value}
    {nmcB qncB : Str} {NcB : Addr} {bscB sbcB : List Value} {hdcB abcB : Bool} {sncB : List Str} {cocB : Option Bool} {ddcB : Option Addr} {kacB kbcB kccB kdcB kecB : Option Value}
    (a1 : PySem.W.nsIn K mainGlobals "is_book" = some (some (.ref f1))) (l1 : K.lookup f1 = some ⟨oc1, od1, .func (PySem.W.fnOf "is_book" "is_book" (defArgs sIsBook) (defBody sIsBook) (defScope sIsBook) .none kV1 dc1 pm1 an1 cd1 ct1), sl1⟩) (c1 : PySem.W.codeIn K cd1 "is_book" = true) (k1 : PySem.W.keepIn K (.ref f1) = true)
    (a2 : PySem.W.nsIn K mainGlobals "make_a_whole" = some (some (.ref f2))) (l2 : K.lookup f2 = some ⟨oc2, od2, .func (PySem.W.fnOf "make_a_whole" "make_a_whole" (defArgs sMake) (defBody sMake) (defScope sMake) .none kV2 dc2 pm2 an2 cd2 ct2), sl2⟩) (c2 : PySem.W.codeIn K cd2 "make_a_whole" = true) (k2 : PySem.W.keepIn K (.ref f2) = true)
    (a3 : PySem.W.nsIn K mainGlobals "refuse_unless_book" = some (some (.ref f3))) (l3 : K.lookup f3 = some ⟨oc3, od3, .func (PySem.W.fnOf "refuse_unless_book" "refuse_unless_book" (defArgs sRefuse) (defBody sRefuse) (defScope sRefuse) .none kV3 dc3 pm3 an3 cd3 ct3), sl3⟩) (c3 : PySem.W.codeIn K cd3 "refuse_unless_book" = true) (k3 : PySem.W.keepIn K (.ref f3) = true)
    (a4 : PySem.W.nsIn K mainGlobals "codes" = some (some (.ref f4))) (l4 : K.lookup f4 = some ⟨oc4, od4, .func (PySem.W.fnOf "codes" "codes" (defArgs sCodes) (defBody sCodes) (defScope sCodes) .none kV4 dc4 pm4 an4 cd4 ct4), sl4⟩) (c4 : PySem.W.codeIn K cd4 "codes" = true) (k4 : PySem.W.keepIn K (.ref f4) = true)
    (a5 : PySem.W.nsIn K mainGlobals "code_behind" = some (some (.ref f5))) (l5 : K.lookup f5 = some ⟨oc5, od5, .func (PySem.W.fnOf "code_behind" "code_behind" (defArgs sBehind) (defBody sBehind) (defScope sBehind) .none kV5 dc5 pm5 an5 cd5 ct5), sl5⟩) (c5 : PySem.W.codeIn K cd5 "code_behind" = true) (k5 : PySem.W.keepIn K (.ref f5) = true)
    (a6 : PySem.W.nsIn K mainGlobals "_law_grown" = some (some (.ref f6))) (l6 : K.lookup f6 = some ⟨oc6, od6, .func (PySem.W.fnOf "_law_grown" "_law_grown" (defArgs sGrown) (defBody sGrown) (defScope sGrown) .none kV6 dc6 pm6 an6 cd6 ct6), sl6⟩) (c6 : PySem.W.codeIn K cd6 "_law_grown" = true) (k6 : PySem.W.keepIn K (.ref f6) = true)
    (a7 : PySem.W.nsIn K mainGlobals "_law_flashes" = some (some (.ref f7))) (l7 : K.lookup f7 = some ⟨oc7, od7, .func (PySem.W.fnOf "_law_flashes" "_law_flashes" (defArgs sFlashes) (defBody sFlashes) (defScope sFlashes) .none kV7 dc7 pm7 an7 cd7 ct7), sl7⟩) (c7 : PySem.W.codeIn K cd7 "_law_flashes" = true) (k7 : PySem.W.keepIn K (.ref f7) = true)
    (a8 : PySem.W.nsIn K mainGlobals "_law_full_menu" = some (some (.ref f8))) (l8 : K.lookup f8 = some ⟨oc8, od8, .func (PySem.W.fnOf "_law_full_menu" "_law_full_menu" (defArgs sMenu) (defBody sMenu) (defScope sMenu) .none kV8 dc8 pm8 an8 cd8 ct8), sl8⟩) (c8 : PySem.W.codeIn K cd8 "_law_full_menu" = true) (k8 : PySem.W.keepIn K (.ref f8) = true)
    (a9 : PySem.W.nsIn K mainGlobals "law" = some (some (.ref f9))) (l9 : K.lookup f9 = some ⟨oc9, od9, .func (PySem.W.fnOf "law" "law" (defArgs sLaw) (defBody sLaw) (defScope sLaw) .none kV9 dc9 pm9 an9 cd9 ct9), sl9⟩) (c9 : PySem.W.codeIn K cd9 "law" = true) (k9 : PySem.W.keepIn K (.ref f9) = true)
    (gSHORT : PySem.W.nsIn K mainGlobals "SHORT" = some (some (.str "." tS)))
    (gLONG : PySem.W.nsIn K mainGlobals "LONG" = some (some (.str "-" tL)))
    (gLampError : PySem.W.nsIn K mainGlobals "LampError" = some (some (.ref cL)))
    (gNoBook : PySem.W.nsIn K mainGlobals "NoBook" = some (some (.ref cB)))
    (lLampError : K.lookup cL = some (excClassObj nmcL qncL cL NcL bscL bmV hdcL sncL sbcL abcL cocL ddcL kacL kbcL kccL kdcL kecL "ValueError.__new__")) (eLampError : PySem.W.excIn K cL bmV "ValueError.__new__" = true)
    (lNoBook : K.lookup cB = some (excClassObj nmcB qncB cB NcB bscB (.ref cL :: bmV) hdcB sncB sbcB abcB cocB ddcB kacB kbcB kccB kdcB kecB "ValueError.__new__")) (eNoBook : PySem.W.excIn K cB bmV "ValueError.__new__" = true)
    (z1 : PySem.W.nsIn K mainGlobals "isinstance" = some none) (z2 : PySem.W.nsIn K mainGlobals "list" = some none) (z3 : PySem.W.nsIn K mainGlobals "tuple" = some none) (z4 : PySem.W.nsIn K mainGlobals "str" = some none) (z5 : PySem.W.nsIn K mainGlobals "len" = some none) (z6 : PySem.W.nsIn K mainGlobals "sorted" = some none) (z7 : PySem.W.nsIn K mainGlobals "min" = some none) (z8 : PySem.W.nsIn K mainGlobals "range" = some none) (z9 : PySem.W.nsIn K mainGlobals "set" = some none) (z10 : PySem.W.nsIn K mainGlobals "max" = some none) (z11 : PySem.W.nsIn K mainGlobals "sum" = some none) :
    ∃ fd : FuncData, (∀ (s : Shared) (v : Value), BindsTo s fd ⟨[v], []⟩ [("_law_script", v)]) ∧ ∀ base : Heap, K.In base → base.Ns mainGlobals mg → FnOk l.prog w K mg base CX0 7 fa fd ["_law_script"] (spLaw K) := by
  have e := hfa.symm.trans (PySem.W.mg_of X G a9)
  cases e
  have T : Txt mg := ⟨PySem.W.mg_none_of X G z1, PySem.W.mg_none_of X G z2, PySem.W.mg_none_of X G z3, PySem.W.mg_none_of X G z4, PySem.W.mg_none_of X G z5, PySem.W.mg_none_of X G z6, PySem.W.mg_none_of X G z7, PySem.W.mg_none_of X G z8, PySem.W.mg_none_of X G z9, PySem.W.mg_none_of X G z10, PySem.W.mg_none_of X G z11⟩
  have xLampError : ExC K cL bmV := exc_mk lLampError eLampError
  have xNoBook : ExC K cB (.ref cL :: bmV) := exc_mk lNoBook eNoBook
  have O : Own K mg cL cB tS tL := ⟨PySem.W.mg_of X G gSHORT, PySem.W.mg_of X G gLONG, PySem.W.mg_of X G gLampError, PySem.W.mg_of X G gNoBook, xLampError, xNoBook⟩
  have F1 := fun_mk (st := sIsBook) l1 c1 k1
  have F2 := fun_mk (st := sMake) l2 c2 k2
  have F3 := fun_mk (st := sRefuse) l3 c3 k3
  have F4 := fun_mk (st := sCodes) l4 c4 k4
  have F5 := fun_mk (st := sBehind) l5 c5 k5
  have F6 := fun_mk (st := sGrown) l6 c6 k6
  have F7 := fun_mk (st := sFlashes) l7 c7 k7
  have F8 := fun_mk (st := sMenu) l8 c8 k8
  have F9 := fun_mk (st := sLaw) l9 c9 k9
  have b1 := F1.binds (ps := ["book"]) fun _ _ _ _ _ _ us hl => by obtain ⟨_, rfl⟩ := len1 hl; rfl
  have n1 : Fn K mg "is_book" f1 _ ["book"] := ⟨PySem.W.mg_of X G a1, k1, b1⟩
  have b2 := F2.binds (ps := ["lengths"]) fun _ _ _ _ _ _ us hl => by obtain ⟨_, rfl⟩ := len1 hl; rfl
  have n2 : Fn K mg "make_a_whole" f2 _ ["lengths"] := ⟨PySem.W.mg_of X G a2, k2, b2⟩
  have b3 := F3.binds (ps := ["book"]) fun _ _ _ _ _ _ us hl => by obtain ⟨_, rfl⟩ := len1 hl; rfl
  have n3 : Fn K mg "refuse_unless_book" f3 _ ["book"] := ⟨PySem.W.mg_of X G a3, k3, b3⟩
  have b4 := F4.binds (ps := ["book"]) fun _ _ _ _ _ _ us hl => by obtain ⟨_, rfl⟩ := len1 hl; rfl
  have n4 : Fn K mg "codes" f4 _ ["book"] := ⟨PySem.W.mg_of X G a4, k4, b4⟩
  have b5 := F5.binds (ps := ["code", "length"]) fun _ _ _ _ _ _ us hl => by obtain ⟨_, _, rfl⟩ := len2 hl; rfl
  have n5 : Fn K mg "code_behind" f5 _ ["code", "length"] := ⟨PySem.W.mg_of X G a5, k5, b5⟩
  have b6 := F6.binds (ps := ["_law_cells"]) fun _ _ _ _ _ _ us hl => by obtain ⟨_, rfl⟩ := len1 hl; rfl
  have n6 : Fn K mg "_law_grown" f6 _ ["_law_cells"] := ⟨PySem.W.mg_of X G a6, k6, b6⟩
  have b7 := F7.binds (ps := ["_law_found"]) fun _ _ _ _ _ _ us hl => by obtain ⟨_, rfl⟩ := len1 hl; rfl
  have n7 : Fn K mg "_law_flashes" f7 _ ["_law_found"] := ⟨PySem.W.mg_of X G a7, k7, b7⟩
  have b8 := F8.binds (ps := []) fun _ _ _ _ _ _ us hl => by obtain rfl := len0 hl; rfl
  have n8 : Fn K mg "_law_full_menu" f8 _ [] := ⟨PySem.W.mg_of X G a8, k8, b8⟩
  refine ⟨PySem.W.fnOf "law" "law" (defArgs sLaw) (defBody sLaw) (defScope sLaw) .none kV9 dc9 pm9 an9 cd9 ct9, fun s v => .of_eq rfl, fun base _ _ => ?_⟩
  have G2 := ok_make (P := l.prog) (w := w) (base := base) F2 T
  have G1 := ok_isbook F1 T n2 G2
  have G3 := ok_refuse F3 O n1 G1
  have G5 := ok_behind (P := l.prog) (w := w) (base := base) F5 O
  have G4 := ok_codes F4 T n3 G3 n5 G5
  have GM := ok_menu (P := l.prog) (w := w) (mg := mg) (base := base) F8
  have GG := ok_grown F6 T n8 GM
  exact ok_law F9 T n6 GG n4 G4 n7 (ok_flashes F7 T)
theorem walk {l : PySem.W.OpenLaw} {q : Program} {loose : List Str} {XP : (Str → Option Value) → Heap → Prop} {YP : World → Heap → Prop} {d : DefRec} {K : Params → PySem.W.Frag} (hn : l.most = some 63) (hdf : d.params.defaults = [])
    (hY : ∀ (w : World) (h : Heap), YP w h → (K w.params).In h)
    (F : ∀ (w : World) (mg : Str → Option Value) (fa : Addr) (h : Heap), (K w.params).In h → h.Ns mainGlobals mg → mg d.name = some (.ref fa) →
      ∃ fd : FuncData, (∀ (s : Shared) (u : Value), BindsTo s fd ⟨[u], []⟩ [("_law_script", u)]) ∧ ∀ base : Heap, (K w.params).In base → base.Ns mainGlobals mg → FnOk l.prog w (K w.params) mg base CX0 7 fa fd ["_law_script"] (spLaw (K w.params))) :
    PySem.W.WalkO q loose XP YP l.row.toRowW d [] (fun f vs => PySem.call f vs) :=
  L2.walk_of (n := 63) (k := 7) (x := "_law_script") (CX := fun _ => CX0) (sp := fun w => spLaw (K w.params)) hn (by decide) hdf ⟨rfl, by decide, by decide⟩ hY F (fun _ _ a ns hl _ hS => ⟨a, ns, rfl, hS, hl, fun _ => rfl⟩) fun _ _ _ _ _ z => z
end K06
open PySem PySem.W PyProof.Rows
set_option maxRecDepth 100000 in
set_option maxHeartbeats 0 in
theorem PySem.Challenge.cw_lampcode_k06_whole_no_code_begins_anothe_holds : PySem.Challenge.rw_lampcode_k06_whole_no_code_begins_anothe.Holds := by
  w_on; o_law; k_head; (case hw => w_witness2)
  k_fill
  refine K06.walk (l := PySem.Challenge.rw_lampcode_k06_whole_no_code_begins_anothe) rfl rfl (fun w h Y => PySem.W.kIn_of Y) ?F
  case F =>
    intro w mg fa h KX G hmg
    refine' K06.all_mk KX G hmg ?a1 ?l1 ?c1 ?k1 ?a2 ?l2 ?c2 ?k2 ?a3 ?l3 ?c3 ?k3 ?a4 ?l4 ?c4 ?k4 ?a5 ?l5 ?c5 ?k5 ?a6 ?l6 ?c6 ?k6 ?a7 ?l7 ?c7 ?k7 ?a8 ?l8 ?c8 ?k8 ?a9 ?l9 ?c9 ?k9 ?gSHORT ?gLONG ?gLampError ?gNoBook ?lLampError ?eLampError ?lNoBook ?eNoBook ?z1 ?z2 ?z3 ?z4 ?z5 ?z6 ?z7 ?z8 ?z9 ?z10 ?z11
    (case a1 => k_is); (case l1 => k_is); (case c1 => k_is); (case k1 => k_is)
    (case a2 => k_is); (case l2 => k_is); (case c2 => k_is); (case k2 => k_is)
    (case a3 => k_is); (case l3 => k_is); (case c3 => k_is); (case k3 => k_is)
    (case a4 => k_is); (case l4 => k_is); (case c4 => k_is); (case k4 => k_is)
    (case a5 => k_is); (case l5 => k_is); (case c5 => k_is); (case k5 => k_is)
    (case a6 => k_is); (case l6 => k_is); (case c6 => k_is); (case k6 => k_is)
    (case a7 => k_is); (case l7 => k_is); (case c7 => k_is); (case k7 => k_is)
    (case a8 => k_is); (case l8 => k_is); (case c8 => k_is); (case k8 => k_is)
    (case a9 => k_is); (case l9 => k_is); (case c9 => k_is); (case k9 => k_is)
    (case gSHORT => k_is); (case gLONG => k_is); (case gLampError => k_is); (case gNoBook => k_is)
    (case lLampError => k_is); (case eLampError => k_exc); (case lNoBook => k_is); (case eNoBook => k_exc)
    (case z1 => k_is); (case z2 => k_is); (case z3 => k_is); (case z4 => k_is)
    (case z5 => k_is); (case z6 => k_is); (case z7 => k_is); (case z8 => k_is)
    (case z9 => k_is); (case z10 => k_is); (case z11 => k_is)
#print axioms PySem.Challenge.cw_lampcode_k06_whole_no_code_begins_anothe_holds
