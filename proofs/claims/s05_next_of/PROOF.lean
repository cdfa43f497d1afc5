import PyProof.Rows.All
import Wide.All
import OpenK.AllK
import Wide.FinOn
import PyProof.EqAt
import PyProof.EqKinds
import PyProof.TupleCall
import KE.BitLaws
import Open.SpecLaws
import KE.OsHead
import KE.OsGo
import PySem.Challenge.RW_totecombos_s05_next_of
section

set_option Elab.async false
set_option linter.all false
set_option maxRecDepth 100000
/-! THE HAND LAYER, for ints, bools, texts, own classes, lists, tuples, dicts, comprehensions, walks over dicts, enumerate, zip, reversed, texts, calls, loops. Paste it whole ahead of your own text; what your proof does not reach may be deleted. -/
namespace L2
open PySem PySem.Spec PyProof.Rows

/-- a key: an int or a str -/
abbrev Key := Sum Int Str
def keyIs : Key → Value → Bool
  | .inl k, v => Value.isInt k v
  | .inr x, v => Value.isStrOf x v
def keyH (w : World) : Key → Int
  | .inl k => hashInt k
  | .inr x => hashStr w x
theorem keyIs_shape : ∀ {k : Key} {v : Value}, keyIs k v = true → (∃ i t, k = Sum.inl i ∧ v = Value.int i t) ∨ (∃ x t, k = Sum.inr x ∧ v = Value.str x t)
  | .inl i, v, h => by
    obtain ⟨t, e⟩ := Value.isInt_shape (k := i) (v := v) h
    exact .inl ⟨i, t, rfl, e⟩
  | .inr x, v, h => by
    obtain ⟨t, e⟩ := Value.isStrOf_shape (x := x) (v := v) h
    exact .inr ⟨x, t, rfl, e⟩
theorem keyIs_int (i : Int) (t : Tok) : keyIs (.inl i) (.int i t) = true := by simp [keyIs, Value.isInt]
theorem keyIs_str (x : Str) (t : Tok) : keyIs (.inr x) (.str x t) = true := by simp [keyIs, Value.isStrOf]
theorem key_ll (a b : Int) : decide ((Sum.inl a : Key) = Sum.inl b) = (a == b) := by
  by_cases e : a = b
  · subst e; simp
  · have h : ¬ (Sum.inl a : Key) = Sum.inl b := fun q => e (Sum.inl.inj q)
    rw [decide_eq_false h]
    exact (beq_eq_false_iff_ne.mpr e).symm
theorem key_rr (a b : Str) : decide ((Sum.inr a : Key) = Sum.inr b) = decide (a = b) := by
  by_cases e : a = b
  · subst e; simp
  · have h : ¬ (Sum.inr a : Key) = Sum.inr b := fun q => e (Sum.inr.inj q)
    rw [decide_eq_false h, decide_eq_false e]
theorem key_lr (a : Int) (b : Str) : decide ((Sum.inl a : Key) = Sum.inr b) = false := decide_eq_false (fun q => nomatch q)
theorem key_rl (a : Str) (b : Int) : decide ((Sum.inr a : Key) = Sum.inl b) = false := decide_eq_false (fun q => nomatch q)

def mixKind (prog : Program) (w : World) : PySem.KeyKind prog w Key where
  is := keyIs
  hash := keyH w
  inj := fun v a b ha hb => by
    rcases keyIs_shape ha with ⟨i, t, rfl, rfl⟩ | ⟨x, t, rfl, rfl⟩
    · rcases keyIs_shape hb with ⟨j, u, rfl, e⟩ | ⟨y, u, rfl, e⟩
      · injection e with e1 _; rw [e1]
      · exact nomatch e
    · rcases keyIs_shape hb with ⟨j, u, rfl, e⟩ | ⟨y, u, rfl, e⟩
      · exact nomatch e
      · injection e with e1 _; rw [e1]
  byValue := fun k v h => by
    rcases keyIs_shape h with ⟨i, t, rfl, rfl⟩ | ⟨x, t, rfl, rfl⟩ <;> rfl
  pyHash := fun hv h => by
    rcases keyIs_shape hv with ⟨i, t, rfl, rfl⟩ | ⟨x, t, rfl, rfl⟩
    · exact wpAny_pyHash_int h
    · exact wpAny_pyHash_str h
  eqBool := fun hu hv h => by
    rcases keyIs_shape hu with ⟨i, t, rfl, rfl⟩ | ⟨x, t, rfl, rfl⟩
    · rcases keyIs_shape hv with ⟨j, u, rfl, rfl⟩ | ⟨y, u, rfl, rfl⟩
      · rw [key_ll] at h; exact wpAny_eqBool_int h
      · rw [key_lr] at h; exact SeqAt.EqAt.int_str i t y u _ _ _ _ h
    · rcases keyIs_shape hv with ⟨j, u, rfl, rfl⟩ | ⟨y, u, rfl, rfl⟩
      · rw [key_rl] at h; exact SeqAt.EqAt.str_int x t j u _ _ _ _ h
      · rw [key_rr] at h; exact wpAny_eqBool_str h
  «strs» := fun k x t v h => by
    rcases keyIs_shape h with ⟨i, u, rfl, e⟩ | ⟨y, u, rfl, e⟩
    · exact nomatch e
    · injection e with e1 _
      subst e1
      cases v <;> rfl

theorem mixKind_int (prog : Program) (w : World) (i : Int) (t : Tok) : (mixKind prog w).is (.inl i) (.int i t) = true := keyIs_int i t
theorem mixKind_str (prog : Program) (w : World) (x : Str) (t : Tok) : (mixKind prog w).is (.inr x) (.str x t) = true := keyIs_str x t
end L2

namespace L2
open PySem PySem.Spec PyProof.Rows

/-- a value, without the heap -/
inductive V where
  | non | bl (b : Bool) | int (i : Int) | str (x : Str) | byt (b : Array UInt8) | flt (b : UInt64) | ref (a : Addr) | ty (n : String)
  deriving DecidableEq

def RelV : V → Value → Prop
  | .non, u => u = Value.none
  | .bl b, u => u = Value.bool b
  | .int i, u => ∃ t, u = Value.int i t
  | .str x, u => ∃ t, u = Value.str x t
  | .byt b, u => ∃ t, u = Value.bytes b t
  | .flt b, u => ∃ t, u = Value.float b t
  | .ref a, u => u = Value.ref a
  | .ty n, u => u = Value.type n

abbrev Vals : List V → List Value → Prop := Paired RelV
theorem Vals.length {xs : List V} {us : List Value} (r : Vals xs us) : xs.length = us.length := Paired.length r
theorem Vals.get : ∀ {xs : List V} {us : List Value} {i : Nat} {x : V}, Vals xs us → xs[i]? = some x → ∃ u, us[i]? = some u ∧ RelV x u
  | _, _, _, _, .nil, e => by simp at e
  | _, _, 0, _, .cons r _, e => by simp at e; subst e; exact ⟨_, rfl, r⟩
  | _, _, i + 1, x, .cons _ t, e => by
    obtain ⟨u, h1, h2⟩ := Vals.get (i := i) (x := x) t (by simpa using e)
    exact ⟨u, by simpa using h1, h2⟩
theorem Vals.append : ∀ {xs ys : List V} {us ws : List Value}, Vals xs us → Vals ys ws → Vals (xs ++ ys) (us ++ ws)
  | _, _, _, _, .nil, s => s
  | _, _, _, _, .cons r t, s => .cons r (Vals.append t s)
theorem Vals.take : ∀ {xs : List V} {us : List Value} (n : Nat), Vals xs us → Vals (xs.take n) (us.take n)
  | _, _, 0, _ => .nil
  | _, _, _ + 1, .nil => .nil
  | _, _, n + 1, .cons r t => .cons r (Vals.take n t)
theorem Vals.drop : ∀ {xs : List V} {us : List Value} (n : Nat), Vals xs us → Vals (xs.drop n) (us.drop n)
  | _, _, 0, r => r
  | _, _, _ + 1, .nil => .nil
  | _, _, n + 1, .cons _ t => Vals.drop n t
def RelO : Option V → Option Value → Prop
  | some v, some u => RelV v u
  | none, none => True
  | _, _ => False
def KV {κ : Type} : List (κ × V) → List (κ × Value) → Prop := Paired fun (p : κ × V) (q : κ × Value) => p.1 = q.1 ∧ RelV p.2 q.2

/-- a key of a dict (00_mix): an int or a text -/
def kV : Key → V
  | .inl i => .int i
  | .inr x => .str x

/-- what stands at a tracked address -/
inductive HO where
  /-- a list -/
  | lst (xs : List V)
  /-- a tuple (never changes) -/
  | tup (xs : List V)
  /-- a dict whose keys are ints and texts; one whose keys are tuples of ints and texts (the empty one is both) -/
  | dK (kvs : List (Key × V)) | dT (kvs : List (List Key × V))
  /-- a set of ints: its members, its size -/
  | set (S : Int → Bool) (n : Nat)
  /-- an instance of the class at C, its dict at dx, its attributes -/
  | ins (C dx : Addr) (fs : List (Str × V))
  /-- the dict of the instance at x -/
  | own (x : Addr)
  /-- the dict of an exception -/
  | xd (fs : List (Str × V))
  /-- a bound method, f of x -/
  | met (f x : Addr)
  /-- a range object lo, lo + 1, .. below hi -/
  | rng (lo hi : Int)
  /-- a thing that is known to the object (the script; a dict while a loop walks it): read, never written while it is so -/
  | frz (o : Obj) (u : HO)
  /-- a code object's table -/
  | tbl (ps : Array Value)
  /-- any other thing, by what is true of its one object (a def of one's own: SetO a S n := HO.ext fun h => ..) -/
  | ext (φ : Heap → Prop)

abbrev Hp := Addr → Option HO
def upd (H : Hp) (a : Addr) (o : HO) : Hp := fun b => if b = a then some o else H b
theorem upd_same {H : Hp} {a : Addr} {o : HO} : upd H a o a = some o := by unfold upd; rw [if_pos rfl]
theorem upd_ne {H : Hp} {a b : Addr} {o : HO} (h : b ≠ a) : upd H a o b = H b := by unfold upd; rw [if_neg h]
theorem ne_of_none {H : Hp} {a b : Addr} {o : HO} (h : H a = some o) (h' : H b = none) : a ≠ b := by
  intro e; subst e; rw [h] at h'; cases h'

section
variable (P : Program) (w : World)
def ObjOk (H : Hp) (h : Heap) (a : Addr) : HO → Prop
  | .lst xs => xs.length ≤ sizeLine ∧ ∃ (its : List Value) (n : Nat), Vals xs its ∧ h.get? a = some { cls := .type "list", data := .seq its.toArray n }
  | .tup xs => xs.length ≤ sizeLine ∧ ∃ its : List Value, Vals xs its ∧ IsTup h a its.toArray
  | .dK kvs => kvs.length ≤ sizeLine ∧ (a == sysModules) = false ∧ ∃ vs, KV kvs vs ∧ h.DictOf (mixKind P w) a vs
  | .dT kvs => kvs.length ≤ sizeLine ∧ (a == sysModules) = false ∧ ∃ xs : List (List Key × Addr × Value),
      Paired (fun (p : List Key × V) (q : List Key × Addr × Value) => p.1 = q.1 ∧ H q.2.1 = some (.tup (p.1.map kV)) ∧ RelV p.2 q.2.2) kvs xs ∧
      ∃ o es ep, h.get? a = some o ∧ o.ExactDict ∧ o.data = .dict es ep ∧ es.toList = xs.map (entryOfKey (tupleKind (mixKind P w))) ∧ (xs.map (·.1)).Nodup
  | .set S n => h.SetOf (intKind P w) a S n
  | .ins C dx fs => H dx = some (.own a) ∧ fs.length ≤ 1000 ∧ dx ≠ a ∧ h.get? a = some (PySem.W.instObj C dx) ∧
      ∃ mA, h.Ns1 dx mA ∧ (∀ f, RelO (fs.lookup f) (mA f)) ∧ PySem.Within mA (fs.map (·.1))
  | .own _ => ∃ o, h.get? a = some o
  | .xd fs => ∃ mA, h.Ns1 a mA ∧ ∀ f, RelO (fs.lookup f) (mA f)
  | .rng lo hi => ∃ t u v, h.get? a = some { cls := .type "range", data := .fields #[.int lo t, .int hi u, .int 1 v] }
  | .frz o u => h.get? a = some o ∧ ObjOk H h a u
  | .tbl ps => h.get? a = some { cls := .none, data := .fields ps }
  | .met f x => h.get? a = some (PySem.W.methodObj (.ref f) (.ref x))
  | .ext φ => φ h ∧ (∃ o, h.get? a = some o) ∧ ∀ h1 h2 : Heap, φ h1 → (∀ o, h1.get? a = some o → h2.get? a = some o) → φ h2
/-- the abstract heap is held -/
def HOk (H : Hp) (h : Heap) : Prop := ∀ a o, H a = some o → ObjOk P w H h a o
end

section
variable {P : Program} {w : World} {H H' : Hp} {h h' : Heap} {a : Addr} {o : HO}
theorem ObjOk.lt (x : ObjOk P w H h a o) : a < h.objs.size := by
  cases o with
  | lst xs => obtain ⟨_, _, _, _, e⟩ := x; exact Heap.lt_size e
  | tup xs => obtain ⟨_, _, _, p⟩ := x; exact p.lt
  | dK kvs => obtain ⟨_, _, _, _, o, _, _, e, _⟩ := x; exact Heap.lt_size e
  | dT kvs => obtain ⟨_, _, _, _, o, _, _, e, _⟩ := x; exact Heap.lt_size e
  | set S n => obtain ⟨o, _, _, _, e, _⟩ := x; exact Heap.lt_size e
  | ins C dx fs => obtain ⟨_, _, _, e, _⟩ := x; exact Heap.lt_size e
  | own y => obtain ⟨_, e⟩ := x; exact Heap.lt_size e
  | xd fs => obtain ⟨_, ⟨_, _, _, e, _⟩, _⟩ := x; exact Heap.lt_size e
  | rng lo hi => obtain ⟨_, _, _, e⟩ := x; exact Heap.lt_size e
  | frz ob u => obtain ⟨e, _⟩ := x; exact Heap.lt_size e
  | tbl ps => exact Heap.lt_size (show h.get? a = some _ from x)
  | met f y => exact Heap.lt_size (show h.get? a = some _ from x)
  | ext φ => obtain ⟨_, ⟨_, e⟩, _⟩ := x; exact Heap.lt_size e
theorem Paired.mapP {α β : Type} {F G : α → β → Prop} : ∀ {l₁ : List α} {l₂ : List β}, Paired F l₁ l₂ → (∀ a b, F a b → G a b) → Paired G l₁ l₂
  | _, _, .nil, _ => .nil
  | _, _, .cons r t, f => .cons (f _ _ r) (Paired.mapP t f)
/-- what an object's description leans on: its own object, its own dict, the tuples -/
theorem ObjOk.stay (x : ObjOk P w H h a o) (k : ∀ b u, (b = a ∨ H b = some (.own a)) → h.get? b = some u → h'.get? b = some u)
    (ho : ∀ b, H b = some (.own a) → H' b = some (.own a)) (ht : ∀ b xs, H b = some (.tup xs) → H' b = some (.tup xs)) : ObjOk P w H' h' a o := by
  induction o with
  | lst xs => obtain ⟨z, its, n, r, e⟩ := x; exact ⟨z, its, n, r, k _ _ (.inl rfl) e⟩
  | tup xs => obtain ⟨z, its, r, ob, e, c⟩ := x; exact ⟨z, its, r, ob, k _ _ (.inl rfl) e, c⟩
  | dK kvs => obtain ⟨z, y, vs, r, ob, es, ep, e, c⟩ := x; exact ⟨z, y, vs, r, ob, es, ep, k _ _ (.inl rfl) e, c⟩
  | dT kvs =>
    obtain ⟨z, y, xs, r, ob, es, ep, e, c⟩ := x
    exact ⟨z, y, xs, Paired.mapP r fun p q z => ⟨z.1, ht _ _ z.2.1, z.2.2⟩, ob, es, ep, k _ _ (.inl rfl) e, c⟩
  | set S n => obtain ⟨ob, es, ep, t, e, c⟩ := x; exact ⟨ob, es, ep, t, k _ _ (.inl rfl) e, c⟩
  | ins C dx fs =>
    obtain ⟨d, z, ne, e, mA, ⟨od, es, ep, e2, c⟩, r⟩ := x
    exact ⟨ho _ d, z, ne, k _ _ (.inl rfl) e, mA, ⟨od, es, ep, k _ _ (.inr d) e2, c⟩, r⟩
  | own y => obtain ⟨ob, e⟩ := x; exact ⟨ob, k _ _ (.inl rfl) e⟩
  | xd fs => obtain ⟨mA, ⟨od, es, ep, e, c⟩, r⟩ := x; exact ⟨mA, ⟨od, es, ep, k _ _ (.inl rfl) e, c⟩, r⟩
  | rng lo hi => obtain ⟨t, u, v, e⟩ := x; exact ⟨t, u, v, k _ _ (.inl rfl) e⟩
  | frz ob u ih => obtain ⟨e, q⟩ := x; exact ⟨k _ _ (.inl rfl) e, ih q⟩
  | tbl ps =>
    have e : h.get? a = some { cls := .none, data := .fields ps } := x
    show h'.get? a = some { cls := .none, data := .fields ps }
    exact k a _ (.inl rfl) e
  | met f y =>
    have e : h.get? a = some (PySem.W.methodObj (.ref f) (.ref y)) := x
    show h'.get? a = some (PySem.W.methodObj (.ref f) (.ref y))
    exact k a _ (.inl rfl) e
  | ext φ => obtain ⟨p, ⟨o, e⟩, st⟩ := x; exact ⟨st _ _ p fun o q => k _ _ (.inl rfl) q, ⟨o, k _ _ (.inl rfl) e⟩, st⟩
theorem HOk.lt (x : HOk P w H h) (e : H a = some o) : a < h.objs.size := (x a o e).lt
theorem HOk.fresh (x : HOk P w H h) (e : h.objs.size ≤ a) : H a = none := by
  cases q : H a with
  | none => rfl
  | some u => exact absurd (Nat.lt_of_lt_of_le (x.lt q) e) (Nat.lt_irrefl _)
/-- every object of the heap is kept -/
theorem HOk.kept (x : HOk P w H h) (k : ∀ b u, h.get? b = some u → h'.get? b = some u) : HOk P w H h' := fun a o e =>
  (x a o e).stay (fun b u _ q => k b u q) (fun _ q => q) fun _ _ q => q
/-- a new object is laid and tracked -/
theorem HOk.laid (x : HOk P w H h) (k : ∀ b u, h.get? b = some u → h'.get? b = some u) (hp : h.objs.size ≤ a) (new : ObjOk P w (upd H a o) h' a o) : HOk P w (upd H a o) h' := fun b u e => by
  have hn := x.fresh hp
  by_cases hb : b = a
  · subst hb; rw [upd_same] at e; cases e; exact new
  · rw [upd_ne hb] at e
    exact (x b u e).stay (fun c v _ q => k c v q) (fun c q => by rw [upd_ne (ne_of_none q hn)]; exact q) fun c xs q => by rw [upd_ne (ne_of_none q hn)]; exact q
end

/-- what may be read as u: it is u, or a known u -/
def Rd (H : Hp) (a : Addr) (u : HO) : Prop := H a = some u ∨ ∃ o, H a = some (.frz o u)
theorem Rd.ok {P : Program} {w : World} {H : Hp} {h : Heap} {a : Addr} {u : HO} (r : Rd H a u) (x : HOk P w H h) : ObjOk P w H h a u := by
  rcases r with r | ⟨o, r⟩
  · exact x a u r
  · obtain ⟨_, q⟩ := x a _ r
    exact q
/-- what may be written -/
def Mut : Option HO → Prop
  | some (.lst _) => True
  | some (.dK _) => True
  | some (.dT _) => True
  | some (.set _ _) => True
  | some (.ins _ _ _) => True
  | some (.ext _) => True
  | _ => False
section
variable {P : Program} {w : World} {H : Hp} {h h' : Heap} {x e : Addr} {o' : HO}
/-- the object at e is changed: x itself, or the dict of the instance x -/
theorem HOk.write (ok : HOk P w H h) (mu : Mut (H x)) (he : e = x ∨ H e = some (.own x)) (k : ∀ b u, b ≠ e → h.get? b = some u → h'.get? b = some u) (heo : ∃ u, h'.get? e = some u)
    (new : ObjOk P w (upd H x o') h' x o') : HOk P w (upd H x o') h' := fun b u q => by
  have nown : ∀ c y, H c = some (.own y) → c ≠ x := fun c y r z => by subst z; rw [r] at mu; exact mu
  have ntup : ∀ c xs, H c = some (.tup xs) → c ≠ x := fun c xs r z => by subst z; rw [r] at mu; exact mu
  by_cases hb : b = x
  · subst hb; rw [upd_same] at q; cases q; exact new
  · rw [upd_ne hb] at q
    by_cases hbe : b = e
    · have q' : H b = some (.own x) := by
        rcases he with z | z
        · exact absurd (hbe.trans z) hb
        · rw [hbe]; exact z
      rw [q] at q'; cases q'
      obtain ⟨v, hv⟩ := heo
      exact ⟨v, by rw [hbe]; exact hv⟩
    · refine (ok b u q).stay (fun c v hc r => k c v ?_ r) (fun c r => by rw [upd_ne (nown c b r)]; exact r) fun c xs r => by rw [upd_ne (ntup c xs r)]; exact r
      rcases hc with rfl | hc
      · exact hbe
      · rintro rfl
        rcases he with z | z
        · exact nown c b hc z
        · rw [hc] at z; cases z; exact hb rfl
end

/-! ### kept unless tracked; of the frames at fs (the callers') the slots may change (an exception that passes writes there); of the records at ex (iterators) nothing is said -/
structure Un (fs ex : List Addr) (H H' : Hp) (h h' : Heap) : Prop where
  keep : ∀ b o, h.get? b = some o → H b = none → b ∉ fs → b ∉ ex → h'.get? b = some o
  slot : ∀ b o, h.get? b = some o → H b = none → b ∈ fs → b ∉ ex → ∃ sl, h'.get? b = some { o with slots := sl }
  free : ∀ b o, h.get? b = some o → H b = none → b ∉ ex → H' b = none
  there : ∀ b o, h.get? b = some o → b ∉ ex → ∃ o', h'.get? b = some o'
  tups : ∀ b xs, H b = some (.tup xs) → H' b = some (.tup xs)
  frzs : ∀ b o u, H b = some (.frz o u) → H' b = some (.frz o u)
  tbls : ∀ b ps, H b = some (.tbl ps) → ∃ more, H' b = some (.tbl (ps ++ more))
section
variable {fs fs' ex ex' : List Addr} {H H1 H2 : Hp} {h h1 h2 h' : Heap} {a x e : Addr} {o : HO}
theorem Un.any (u : Un fs ex H H1 h h1) {b : Addr} {ob : Obj} (q : h.get? b = some ob) (n : H b = none) (hx : b ∉ ex) : ∃ sl, h1.get? b = some { ob with slots := sl } := by
  by_cases hb : b ∈ fs
  · exact u.slot b ob q n hb hx
  · exact ⟨ob.slots, u.keep b ob q n hb hx⟩
theorem Un.kept (k : ∀ b u, h.get? b = some u → h'.get? b = some u) : Un fs ex H H h h' :=
  ⟨fun b ob q _ _ _ => k b ob q, fun b ob q _ _ _ => ⟨ob.slots, k b ob q⟩, fun _ _ _ n _ => n, fun b ob q _ => ⟨ob, k b ob q⟩, fun _ _ q => q, fun _ _ _ q => q, fun _ ps q => ⟨#[], by rw [q]; simp⟩⟩
theorem Un.refl : Un fs ex H H h h := Un.kept fun _ _ q => q
theorem Un.laid (k : ∀ b u, h.get? b = some u → h'.get? b = some u) (hp : h.objs.size ≤ a) (hn : H a = none) : Un fs ex H (upd H a o) h h' where
  keep := fun b u q _ _ _ => k b u q
  slot := fun b u q _ _ _ => ⟨u.slots, k b u q⟩
  free := fun b u q n _ => by rw [upd_ne (Nat.ne_of_lt (Nat.lt_of_lt_of_le (Heap.lt_size q) hp))]; exact n
  there := fun b u q _ => ⟨u, k b u q⟩
  tups := fun b xs q => by rw [upd_ne (ne_of_none q hn)]; exact q
  frzs := fun b u xs q => by rw [upd_ne (ne_of_none q hn)]; exact q
  tbls := fun b ps q => ⟨#[], by rw [upd_ne (ne_of_none q hn), q]; simp⟩
theorem Un.write (mu : Mut (H x)) (he : e = x ∨ H e = some (.own x)) (k : ∀ b u, b ≠ e → h.get? b = some u → h'.get? b = some u) (heo : ∃ u, h'.get? e = some u) : Un fs ex H (upd H x o) h h' := by
  have hx : ∀ b, H b = none → b ≠ x := fun b n z => by subst z; rw [n] at mu; exact mu
  have hb : ∀ b, H b = none → b ≠ e := fun b n z => by
    subst z
    rcases he with r | r
    · exact hx b n r
    · rw [n] at r; cases r
  have hm : ∀ b u, H b = some u → ¬ Mut (some u) → b ≠ x := fun b u q nm z => by subst z; rw [q] at mu; exact nm mu
  refine ⟨fun b u q n _ _ => k b u (hb b n) q, fun b u q n _ _ => ⟨u.slots, k b u (hb b n) q⟩, fun b u q n _ => by rw [upd_ne (hx b n)]; exact n, fun b u q _ => ?_,
    fun b xs q => by rw [upd_ne (hm b _ q fun z => z)]; exact q, fun b u xs q => by rw [upd_ne (hm b _ q fun z => z)]; exact q, fun b ps q => ⟨#[], by rw [upd_ne (hm b _ q fun z => z), q]; simp⟩⟩
  by_cases hbe : b = e
  · subst hbe; exact heo
  · exact ⟨u, k b u hbe q⟩
end

/-! ### the heap without what is tracked -/
def trk (h : Heap) (H : Hp) : List Addr := (List.range h.objs.size).filter fun a => (H a).isSome
def hidT (h : Heap) (H : Hp) : Heap := PySem.W.hideAll h (trk h H)
theorem hidT_size (h : Heap) (H : Hp) : (hidT h H).objs.size = h.objs.size := PySem.W.hideAll_size _ _
theorem hidT_get {h : Heap} {H : Hp} {b : Addr} {o : Obj} (e : h.get? b = some o) (n : H b = none) : (hidT h H).get? b = some o :=
  PySem.W.hideAll_get _ e fun hm => by
    have q : (H b).isSome = true := (List.mem_filter.mp hm).2
    rw [n] at q; simp at q
theorem of_hidT {h : Heap} {H : Hp} {b : Addr} {o : Obj} (e : (hidT h H).get? b = some o) : h.get? b = some o ∧ H b = none := by
  have e' : h.get? b = some o := PySem.W.of_hideAll (trk h H) e
  refine ⟨e', ?_⟩
  cases q : H b with
  | none => rfl
  | some x =>
    have hm : b ∈ trk h H := List.mem_filter.mpr ⟨List.mem_range.mpr (Heap.lt_size e'), by simp [q]⟩
    have z : (hidT h H).get? b = none := PySem.W.hideAll_none (trk h H) hm
    rw [z] at e; cases e

/-! ### OpenK's ledger, filled with every new object but one -/
def allNews (g h : Heap) (L : Addr) : List (Addr × Obj) := (List.range h.objs.size).filterMap fun a => if a = L ∨ (g.get? a).isSome = true then none else (h.get? a).map fun o => (a, o)
def rest (g h : Heap) (L d : Addr) : List (Addr × Obj) := (allNews g h L).filter fun p => decide (p.1 ≠ d)
end L2

namespace L2
open PySem PySem.Spec PyProof.Rows

/-- the module's facts, over the base: the heap at the law's entry without what is tracked there -/
structure Mod (K : PySem.W.Frag) (mg : Str → Option Value) (base : Heap) : Prop where
  kin : K.In base
  glob : base.Ns mainGlobals mg
  blt : ∃ mb, base.Ns builtinsNs mb ∧ ∀ x : Str, x ≠ "__name__" → mb x = bootBuiltins x
  nolimit : base.NoLimit

/-- the context: a def's body (or a comprehension's block) running. base: fixed through the whole law; s₀, H₀: the entry; outer: the frames whose slots others may change (a def's callers); stack: all frames that run;
   ex: iterators that were made ahead of the entry and are walked here (a comprehension's); fn: the names whose cells were made at the entry (a def: all; a comprehension's block: its own); calm: not within an except suite; pn: pins that every state bears; xe: what is wanted of an exception that leaves the code -/
structure Cx where
  prog : Program
  w : World
  K : PySem.W.Frag
  mg : Str → Option Value
  base : Heap
  A : Around
  N : List Str
  s_0 : Shared
  H_0 : Hp
  env : Env
  outer : List Env
  stack : List Env
  ex : List Addr
  fn : Str → Bool
  calm : Bool
  pn : List (Addr × Obj)
  xe : Value → Shared → Prop
/-- the callers' frames -/
def frs (l : List Env) : List Addr := l.filterMap (·.frame)
abbrev Cx.fs (X : Cx) : List Addr := frs X.outer

def Vis (sc : Scope) (x : Str) : Prop := sc.names.lookup x = some .local ∨ sc.names.lookup x = some .cell ∨ sc.names.lookup x = some .free
def Loc (sc : Scope) (x : Str) : Prop := sc.names.lookup x = some .local ∨ sc.names.lookup x = some .cell
def Look (env : Env) (h : Heap) (m : Str → Option Value) (x : Str) (u : Value) : Prop :=
  (env.kindOf x = some .local ∧ m x = some u) ∨ ((env.kindOf x = some .cell ∨ env.kindOf x = some .free) ∧ ∃ c, env.cells.lookup x = some c ∧ h.IsCell c (some u))

structure Cx.Ok (X : Cx) : Prop where
  mod : Mod X.K X.mg X.base
  kind : X.env.scope.kind = .function
  glob : X.env.globals = mainGlobals
  blt : X.env.builtins = builtinsNs
  above : X.s_0.heap.objs.size ≤ X.env.locals
  inj : ∀ x y c, X.env.cells.lookup x = some c → X.env.cells.lookup y = some c → x = y
  has : ∀ x, (X.env.kindOf x = some .cell ∨ X.env.kindOf x = some .free) → ∃ c, X.env.cells.lookup x = some c
  cab : ∀ x c, X.fn x = true → X.env.cells.lookup x = some c → X.s_0.heap.objs.size ≤ c
  hd : X.calm = true → X.A.handled = none
  frames : X.A.frames = some X.stack
  stk : X.stack = X.outer ∨ (X.stack = X.env :: X.outer ∧ X.env.frame = some X.env.locals)
  exf : ∀ b ∈ X.ex, b ≠ X.env.locals ∧ ∀ x c, X.env.cells.lookup x = some c → c ≠ b
  bs : ∀ b o, X.base.get? b = some o → X.s_0.heap.get? b = some o ∧ X.H_0 b = none
  bsz : X.base.objs.size ≤ X.s_0.heap.objs.size
  noex : ∀ b o, X.base.get? b = some o → b ∉ X.ex
  exfs : ∀ b ∈ X.ex, b ∉ X.fs
  funs : X.s_0.heap.FunFrames X.base X.outer
  frf : ∀ b ∈ X.fs, X.H_0 b = none

structure Inv (X : Cx) (pins : List (Addr × Obj)) (σ : List (Option V)) (H : Hp) (s : Shared) : Prop where
  ok : X.Ok
  os : s.os = X.s_0.os
  bare : AllBare s.gens
  base : Un X.fs X.ex X.H_0 H X.s_0.heap s.heap
  loc : ∃ m, s.heap.Ns X.env.locals m ∧ ∀ (i : Nat) (x : Str) (v : V), X.N[i]? = some x → σ[i]? = some (some v) → Vis X.env.scope x → ∃ u, RelV v u ∧ Look X.env s.heap m x u
  cell : ∀ x c, X.env.cells.lookup x = some c → ∃ v, s.heap.IsCell c v
  free : H X.env.locals = none
  freeC : ∀ x c, X.env.cells.lookup x = some c → H c = none
  pin : ∀ p ∈ X.pn ++ pins, s.heap.get? p.1 = some p.2 ∧ H p.1 = none ∧ p.1 ≠ X.env.locals ∧ p.1 ∉ X.fs ∧ ∀ v, p.2.data ≠ .cell v
  hok : HOk X.prog X.w H s.heap
  len : σ.length = X.N.length

section
variable {X : Cx} {pins : List (Addr × Obj)} {σ : List (Option V)} {H H' : Hp} {s : Shared} {h' : Heap}

theorem Cx.Ok.nofr (ok : X.Ok) {b : Addr} {o : Obj} (e : X.base.get? b = some o) : b ∉ X.fs := fun hb => by
  have := (ok.funs.mem hb).1
  rw [e] at this; cases this
theorem Inv.bs (I : Inv X pins σ H s) : ∀ b o, X.base.get? b = some o → s.heap.get? b = some o ∧ H b = none := fun b o e =>
  ⟨I.base.keep b o (I.ok.bs b o e).1 (I.ok.bs b o e).2 (I.ok.nofr e) (I.ok.noex b o e), I.base.free b o (I.ok.bs b o e).1 (I.ok.bs b o e).2 (I.ok.noex b o e)⟩
theorem Inv.bk (I : Inv X pins σ H s) : ∀ b o, X.base.get? b = some o → s.heap.get? b = some o := fun b o e => (I.bs b o e).1
theorem Inv.mod (I : Inv X pins σ H s) : Mod X.K X.mg X.base := I.ok.mod
theorem Inv.kIn (I : Inv X pins σ H s) : X.K.In s.heap := I.ok.mod.kin.keeps I.bk
/-- the frame over the base: for OpenK's rules (K.In X.base is I.mod.kin) -/
theorem Inv.fr (I : Inv X pins σ H s) : ∃ m, Fr X.base X.env.locals s.heap m :=
  let ⟨m, hn, _⟩ := I.loc
  ⟨m, hn, I.bk, Nat.le_trans I.ok.bsz I.ok.above⟩
theorem Inv.lt (I : Inv X pins σ H s) : X.env.locals < s.heap.objs.size := let ⟨_, hn, _⟩ := I.loc; hn.lt
theorem Inv.sz (I : Inv X pins σ H s) : X.s_0.heap.objs.size ≤ s.heap.objs.size := Nat.le_trans I.ok.above (Nat.le_of_lt I.lt)
theorem Inv.nofs (I : Inv X pins σ H s) {a : Addr} (h : s.heap.objs.size ≤ a) : a ∉ X.fs := fun hb => by
  obtain ⟨_, o, ho, _⟩ := I.ok.funs.mem hb
  exact absurd (Nat.lt_of_lt_of_le (Heap.lt_size ho) (Nat.le_trans I.sz h)) (Nat.lt_irrefl _)
theorem Inv.cne (I : Inv X pins σ H s) : ∀ x c, X.env.cells.lookup x = some c → c ≠ X.env.locals := fun x c e z => by
  obtain ⟨v, o, ho, hd⟩ := I.cell x c e
  obtain ⟨m, ⟨o', es, ep, ho', hd', _⟩, _⟩ := I.loc
  rw [z, ho'] at ho; cases ho; rw [hd'] at hd; cases hd
theorem Inv.funs (I : Inv X pins σ H s) : s.heap.FunFrames X.base X.outer := by
  have all : ∀ (l : List Env), (∀ b ∈ frs l, b ∈ X.fs) → X.s_0.heap.FunFrames X.base l → s.heap.FunFrames X.base l := by
    intro l
    induction l with
    | nil => intro _ _; trivial
    | cons env r ih =>
      intro hs hl
      obtain ⟨hk, ⟨L, o, hf, hn, ho, hd⟩, hr⟩ := hl
      have hL : L ∈ X.fs := hs L (by unfold frs; rw [List.filterMap_cons, hf]; exact List.mem_cons_self)
      obtain ⟨sl, e⟩ := I.base.slot L o ho (I.ok.frf L hL) hL fun z => I.ok.exfs L z hL
      exact ⟨hk, ⟨L, _, hf, hn, e, hd⟩, ih (fun b hb => hs b (by unfold frs; rw [List.filterMap_cons, hf]; exact List.mem_cons_of_mem _ hb)) hr⟩
  exact all X.outer (fun _ hb => hb) I.ok.funs

/-- the frames that run, for a call -/
theorem Inv.stack (I : Inv X pins σ H s) : s.heap.FunFrames X.base X.stack := by
  rcases I.ok.stk with e | ⟨e, hf⟩
  · rw [e]; exact I.funs
  · rw [e]
    obtain ⟨m, hn, _⟩ := I.loc
    refine .cons (by rw [I.ok.kind]; decide) hf hn ?_ I.funs
    exact Heap.get?_none_of_le (Nat.le_trans I.ok.bsz I.ok.above)
theorem Inv.stkSub (I : Inv X pins σ H s) : ∀ b ∈ frs X.stack, b ∈ X.env.locals :: X.fs := fun b hb => by
  rcases I.ok.stk with e | ⟨e, hf⟩
  · rw [e] at hb; exact List.mem_cons_of_mem _ hb
  · rw [e] at hb
    unfold frs at hb
    rw [List.filterMap_cons, hf] at hb
    exact hb
theorem Inv.stkFree (I : Inv X pins σ H s) : ∀ b ∈ frs X.stack, H b = none := fun b hb => by
  rcases List.mem_cons.mp (I.stkSub b hb) with e | hb
  · rw [e]; exact I.free
  · obtain ⟨_, o, ho, _⟩ := I.ok.funs.mem hb
    exact I.base.free b o ho (I.ok.frf b hb) fun z => I.ok.exfs b z hb

/-- THE STEP: the untracked objects but the frame and the records at ch are kept (the callers' frames up to slots), the frame's map is kept, the new abstract heap is held -/
theorem Inv.step {g' : Array GenState} {t' : Nat} {d' : Drawn} {ch : List Addr} (I : Inv X pins σ H s)
    (hch : ∀ b ∈ ch, (b ∈ X.ex ∨ X.s_0.heap.objs.size ≤ b) ∧ b ≠ X.env.locals ∧ (∀ x c, X.env.cells.lookup x = some c → c ≠ b) ∧ ∀ p ∈ X.pn ++ pins, p.1 ≠ b)
    (keep : ∀ b o, b ≠ X.env.locals → b ∉ X.fs → b ∉ ch → s.heap.get? b = some o → H b = none → h'.get? b = some o)
    (slot : ∀ b o, b ≠ X.env.locals → b ∈ X.fs → b ∉ ch → s.heap.get? b = some o → H b = none → ∃ sl, h'.get? b = some { o with slots := sl }) (free : ∀ b o, b ∉ ch → s.heap.get? b = some o → H b = none → H' b = none)
    (there : ∀ b o, b ∉ ch → s.heap.get? b = some o → ∃ o', h'.get? b = some o')
    (tups : ∀ b xs, H b = some (.tup xs) → H' b = some (.tup xs)) (frzs : ∀ b o u, H b = some (.frz o u) → H' b = some (.frz o u)) (tbls : ∀ b ps, H b = some (.tbl ps) → ∃ more, H' b = some (.tbl (ps ++ more)))
    (ns : ∀ m, s.heap.Ns X.env.locals m → h'.Ns X.env.locals m) (hok : HOk X.prog X.w H' h') (hg : AllBare g') :
    Inv X pins σ H' { s with heap := h', gens := g', drawn := d', toks := t' } := by
  have neL : ∀ b o, X.s_0.heap.get? b = some o → b ≠ X.env.locals := fun b o e => Nat.ne_of_lt (Nat.lt_of_lt_of_le (Heap.lt_size e) I.ok.above)
  have neC : ∀ b o, X.s_0.heap.get? b = some o → b ∉ X.ex → b ∉ ch := fun b o e hx hb => by
    rcases (hch b hb).1 with z | z
    · exact hx z
    · exact absurd (Nat.lt_of_lt_of_le (Heap.lt_size e) z) (Nat.lt_irrefl _)
  have cellK : ∀ x c, X.env.cells.lookup x = some c → ∀ v, s.heap.IsCell c v → h'.IsCell c v := fun x c e v ⟨o, ho, hd⟩ => by
    have nch : c ∉ ch := fun z => (hch c z).2.2.1 x c e rfl
    by_cases hc : c ∈ X.fs
    · obtain ⟨sl, q⟩ := slot c o (I.cne x c e) hc nch ho (I.freeC x c e)
      exact ⟨_, q, hd⟩
    · exact ⟨o, keep c o (I.cne x c e) hc nch ho (I.freeC x c e), hd⟩
  refine ⟨I.ok, I.os, hg, ⟨fun b o e n hb hx => ?_, fun b o e n hb hx => ?_, fun b o e n hx => ?_, fun b o e hx => ?_, fun b xs e => tups b xs (I.base.tups b xs e), fun b o xs e => frzs b o xs (I.base.frzs b o xs e), fun b ps e => ?_⟩, ?_, fun x c e => ?_, ?_, fun x c e => ?_, fun p hp => ?_, hok, I.len⟩
  · exact keep b o (neL b o e) hb (neC b o e hx) (I.base.keep b o e n hb hx) (I.base.free b o e n hx)
  · obtain ⟨sl, e1⟩ := I.base.slot b o e n hb hx
    obtain ⟨sl', e2⟩ := slot b _ (neL b o e) hb (neC b o e hx) e1 (I.base.free b o e n hx)
    exact ⟨sl', e2⟩
  · obtain ⟨o', e1⟩ := I.base.there b o e hx
    exact free b o' (neC b o e hx) e1 (I.base.free b o e n hx)
  · obtain ⟨o', e1⟩ := I.base.there b o e hx
    exact there b o' (neC b o e hx) e1
  · obtain ⟨m1, e1⟩ := I.base.tbls b ps e
    obtain ⟨m2, e2⟩ := tbls b _ e1
    exact ⟨m1 ++ m2, by rw [e2, Array.append_assoc]⟩
  · obtain ⟨m, hn, hl⟩ := I.loc
    refine ⟨m, ns m hn, fun i x v e1 e2 e3 => ?_⟩
    obtain ⟨u, r, l⟩ := hl i x v e1 e2 e3
    refine ⟨u, r, ?_⟩
    rcases l with l | ⟨k, c, e, z⟩
    · exact .inl l
    · exact .inr ⟨k, c, e, cellK x c e _ z⟩
  · obtain ⟨v, z⟩ := I.cell x c e
    exact ⟨v, cellK x c e v z⟩
  · obtain ⟨m, ⟨o, _, _, ho, _⟩, _⟩ := I.loc
    exact free _ o (fun z => (hch _ z).2.1 rfl) ho I.free
  · obtain ⟨v, o, ho, hd⟩ := I.cell x c e
    exact free c o (fun z => (hch c z).2.2.1 x c e rfl) ho (I.freeC x c e)
  · obtain ⟨e, n, ne, nf, d⟩ := I.pin p hp
    have nch : p.1 ∉ ch := fun z => (hch p.1 z).2.2.2 p hp rfl
    exact ⟨keep p.1 p.2 ne nf nch e n, free p.1 p.2 nch e n, ne, nf, d⟩
/-- .. where the frame's own object is kept too -/
theorem Inv.un {t' : Nat} (I : Inv X pins σ H s) (u : Un X.fs [] H H' s.heap h') (hok : HOk X.prog X.w H' h') : Inv X pins σ H' { s with heap := h', toks := t' } := by
  obtain ⟨m, ⟨o, es, ep, ho, r⟩, _⟩ := id I.loc
  obtain ⟨sl, hL⟩ := u.any ho I.free (by simp)
  exact I.step (g' := s.gens) (d' := s.drawn) (ch := []) (fun _ z => nomatch z) (fun b o _ hb _ e n => u.keep b o e n hb (by simp)) (fun b o _ hb _ e n => u.slot b o e n hb (by simp)) (fun b o _ e n => u.free b o e n (by simp)) (fun b o _ e => u.there b o e (by simp)) u.tups u.frzs u.tbls (fun m' hm => by
    obtain ⟨o', es', ep', ho', r'⟩ := hm
    rw [ho] at ho'; cases ho'
    exact ⟨_, es', ep', hL, r'⟩) hok I.bare
/-- behind a call (or a comprehension's block): the slots of this frame may have changed too, the records at ch may have turned -/
theorem Inv.call {g' : Array GenState} {t' : Nat} {d' : Drawn} {ch : List Addr} (I : Inv X pins σ H s) (u : Un (frs X.stack) ch H H' s.heap h') (hok : HOk X.prog X.w H' h') (hg : AllBare g')
    (hch : ∀ b ∈ ch, (b ∈ X.ex ∨ X.s_0.heap.objs.size ≤ b) ∧ b ≠ X.env.locals ∧ (∀ x c, X.env.cells.lookup x = some c → c ≠ b) ∧ ∀ p ∈ X.pn ++ pins, p.1 ≠ b) :
    Inv X pins σ H' { s with heap := h', gens := g', drawn := d', toks := t' } := by
  obtain ⟨m, ⟨o, es, ep, ho, r⟩, _⟩ := id I.loc
  obtain ⟨sl, hL⟩ := u.any ho I.free fun z => (hch _ z).2.1 rfl
  exact I.step (ch := ch) hch (fun b o hL hb hc e n => u.keep b o e n (fun z => (List.mem_cons.mp (I.stkSub b z)).elim hL hb) hc) (fun b o _ _ hc e n => u.any e n hc) (fun b o hc e n => u.free b o e n hc) (fun b o hc e => u.there b o e hc) u.tups u.frzs u.tbls (fun m' hm => by
    obtain ⟨o', es', ep', ho', r'⟩ := hm
    rw [ho] at ho'; cases ho'
    exact ⟨_, es', ep', hL, r'⟩) hok hg
/-- an untracked record of ours (an iterator) has turned -/
theorem Inv.turned {t' : Nat} {it : Addr} (I : Inv X pins σ H s) (k : ∀ b o, b ≠ it → s.heap.get? b = some o → h'.get? b = some o) (hn : H it = none) (hL : it ≠ X.env.locals)
    (h1 : it ∈ X.ex ∨ X.s_0.heap.objs.size ≤ it) (h2 : ∀ x c, X.env.cells.lookup x = some c → c ≠ it) (h3 : ∀ p ∈ X.pn ++ pins, p.1 ≠ it) : Inv X pins σ H { s with heap := h', toks := t' } := by
  have nit : ∀ b u, H b = some u → b ≠ it := fun b u e z => by rw [z, hn] at e; cases e
  refine I.step (g' := s.gens) (d' := s.drawn) (ch := [it]) (fun b hb => ?_) (fun b o _ _ hc e _ => k b o (fun z => hc (by simp [z])) e) (fun b o _ _ hc e _ => ⟨o.slots, k b o (fun z => hc (by simp [z])) e⟩) (fun _ _ _ _ n => n)
    (fun b o hc e => ⟨o, k b o (fun z => hc (by simp [z])) e⟩) (fun _ _ e => e) (fun _ _ _ e => e) (fun b ps e => ⟨#[], by rw [e]; simp⟩) (fun m hm => ?_) (fun b u e => ?_) I.bare
  · have e : b = it := by simpa using hb
    subst e
    exact ⟨h1, hL, h2, h3⟩
  · obtain ⟨o, es, ep, ho, r⟩ := hm
    exact ⟨o, es, ep, k _ o (Ne.symm hL) ho, r⟩
  · refine (I.hok b u e).stay (fun c v hc q => k c v ?_ q) (fun _ q => q) fun _ _ q => q
    rcases hc with z | z
    · rw [z]; exact nit b u e
    · exact nit c _ z
theorem Inv.tok (I : Inv X pins σ H s) (t : Nat) : Inv X pins σ H { s with toks := t } := I.un (h' := s.heap) (t' := t) Un.refl I.hok
/-- all objects kept -/
theorem Inv.kept {t' : Nat} (I : Inv X pins σ H s) (k : ∀ b u, s.heap.get? b = some u → h'.get? b = some u) : Inv X pins σ H { s with heap := h', toks := t' } := I.un (Un.kept k) (I.hok.kept k)
/-- a new object laid and tracked -/
theorem Inv.laid {a : Addr} {o : HO} {t' : Nat} (I : Inv X pins σ H s) (k : ∀ b u, s.heap.get? b = some u → h'.get? b = some u) (hp : s.heap.objs.size ≤ a) (new : ObjOk X.prog X.w (upd H a o) h' a o) :
    Inv X pins σ (upd H a o) { s with heap := h', toks := t' } := I.un (Un.laid k hp (I.hok.fresh hp)) (I.hok.laid k hp new)
/-- an object written -/
theorem Inv.write {x e : Addr} {o : HO} {t' : Nat} (I : Inv X pins σ H s) (mu : Mut (H x)) (he : e = x ∨ H e = some (.own x)) (k : ∀ b u, b ≠ e → s.heap.get? b = some u → h'.get? b = some u) (heo : ∃ u, h'.get? e = some u)
    (new : ObjOk X.prog X.w (upd H x o) h' x o) : Inv X pins σ (upd H x o) { s with heap := h', toks := t' } := I.un (Un.write mu he k heo) (I.hok.write mu he k heo new)
/-- forgetting slots, pins -/
theorem Inv.weak {σ' : List (Option V)} (I : Inv X pins σ H s) (hl : σ'.length = σ.length) (w : ∀ (i : Nat) v, σ'[i]? = some (some v) → σ[i]? = some (some v)) : Inv X pins σ' H s :=
  ⟨I.ok, I.os, I.bare, I.base, let ⟨m, hn, hl'⟩ := I.loc; ⟨m, hn, fun i x v e1 e2 e3 => hl' i x v e1 (w i v e2) e3⟩, I.cell, I.free, I.freeC, I.pin, I.hok, hl.trans I.len⟩
theorem Inv.pins_of {pins' : List (Addr × Obj)} (I : Inv X pins σ H s) (h : ∀ p ∈ pins', s.heap.get? p.1 = some p.2 ∧ H p.1 = none ∧ p.1 ≠ X.env.locals ∧ p.1 ∉ X.fs ∧ ∀ v, p.2.data ≠ .cell v) : Inv X pins' σ H s :=
  ⟨I.ok, I.os, I.bare, I.base, I.loc, I.cell, I.free, I.freeC, fun p hp => (List.mem_append.mp hp).elim (fun z => I.pin p (List.mem_append_left _ z)) (h p), I.hok, I.len⟩

theorem nodup_ix {N : List Str} (hN : N.Nodup) {i j : Nat} {x : Str} (a : N[i]? = some x) (b : N[j]? = some x) : i = j := by
  obtain ⟨h1, e1⟩ := List.getElem?_eq_some_iff.mp a
  obtain ⟨h2, e2⟩ := List.getElem?_eq_some_iff.mp b
  exact (List.getElem_inj hN).mp (e1.trans e2.symm)

/-- a name is stored; what changed -/
theorem store_ok2 {M : Model} {A : Around} {E : Value → Shared → Prop} {i : Nat} {x : Str} {v : V} {u : Value} {Q : Unit → Shared → Prop} (I : Inv X pins σ H s) (hN : X.N.Nodup) (hi : X.N[i]? = some x) (hx : Loc X.env.scope x) (r : RelV v u)
    (h : ∀ s', Inv X pins (σ.set i (some v)) H s' → (∃ a, Heap.SameBut a s.heap s'.heap ∧ (a = X.env.locals ∨ X.env.cells.lookup x = some a)) → Q () s') (hf : X.fn x = true ∨ X.env.scope.names.lookup x = some .local := by first | exact .inl rfl | exact .inr rfl | assumption) : wpAny M A (storeName X.env x u) Q E s := by
  obtain ⟨m, hn, hl⟩ := id I.loc
  have hcls : (X.env.scope.kind == .class || (X.env.scope.kind == .module && X.env.locals != X.env.globals)) = false := by rw [I.ok.kind]; rfl
  have hiσ : i < σ.length := by rw [I.len]; exact (List.getElem?_eq_some_iff.mp hi).1
  have cne := I.cne
  have tracked : ∀ {a : Addr} {h' : Heap}, (∃ o, s.heap.get? a = some o ∧ H a = none) → Heap.SameBut a s.heap h' → HOk X.prog X.w H h' := fun {a h'} ha hs b ob e => by
    obtain ⟨_, _, hfree⟩ := ha
    refine (I.hok b ob e).stay (fun c w' hc q => (hs.2 c ?_).trans q) (fun _ q => q) fun _ _ q => q
    rintro rfl
    rcases hc with rfl | hc
    · rw [hfree] at e; cases e
    · rw [hfree] at hc; cases hc
  rcases hx with hk | hk
  · refine wpAny_storeName_local hk hn (fun h' hn' hs => ?_) hcls
    obtain ⟨oL, _, _, hoL, _⟩ := id hn
    refine h _ ⟨I.ok, I.os, I.bare, ⟨fun b o e n hb hx => ?_, fun b o e n hb hx => ?_, I.base.free, fun b o e hx => ?_, I.base.tups, I.base.frzs, I.base.tbls⟩, ⟨_, hn', fun j y v' e1 e2 e3 => ?_⟩, fun y c e => ?_, I.free, I.freeC, fun p hp => ?_, tracked ⟨oL, hoL, I.free⟩ hs, by simpa using I.len⟩ ⟨_, hs, .inl rfl⟩
    · exact (hs.2 b (Nat.ne_of_lt (Nat.lt_of_lt_of_le (Heap.lt_size e) I.ok.above))).trans (I.base.keep b o e n hb hx)
    · obtain ⟨sl, e1⟩ := I.base.slot b o e n hb hx
      exact ⟨sl, (hs.2 b (Nat.ne_of_lt (Nat.lt_of_lt_of_le (Heap.lt_size e) I.ok.above))).trans e1⟩
    · obtain ⟨o', e1⟩ := I.base.there b o e hx
      exact ⟨o', (hs.2 b (Nat.ne_of_lt (Nat.lt_of_lt_of_le (Heap.lt_size e) I.ok.above))).trans e1⟩
    · by_cases hj : j = i
      · subst hj
        rw [hi] at e1; cases e1
        rw [List.getElem?_set_self hiσ] at e2
        cases e2
        exact ⟨u, r, .inl ⟨hk, by simp⟩⟩
      · rw [List.getElem?_set_ne (Ne.symm hj)] at e2
        obtain ⟨u', r', q⟩ := hl j y v' e1 e2 e3
        refine ⟨u', r', ?_⟩
        rcases q with ⟨k, e⟩ | ⟨k, c, e, z⟩
        · refine .inl ⟨k, ?_⟩
          have : y ≠ x := fun e => hj (nodup_ix hN e1 (e ▸ hi))
          simp [this, e]
        · exact .inr ⟨k, c, e, z.sameBut hs (cne y c e)⟩
    · obtain ⟨w', z⟩ := I.cell y c e
      exact ⟨w', z.sameBut hs (cne y c e)⟩
    · obtain ⟨e, n, ne, nf, d⟩ := I.pin p hp
      exact ⟨(hs.2 p.1 ne).trans e, n, ne, nf, d⟩
  · have hfn : X.fn x = true := by
      rcases hf with z | z
      · exact z
      · rw [z] at hk; cases hk
    obtain ⟨c, hc⟩ := I.ok.has x (.inl hk)
    obtain ⟨w', z⟩ := I.cell x c hc
    refine wpAny_storeName_cell I.ok.kind hk hc z (fun h' hc' hs => ?_)
    obtain ⟨oc, hoc, hocd⟩ := id z
    refine h { s with heap := h' } ⟨I.ok, I.os, I.bare, ⟨fun b o e n hb hx => ?_, fun b o e n hb hx => ?_, I.base.free, fun b o e hx => ?_, I.base.tups, I.base.frzs, I.base.tbls⟩, ⟨m, hn.sameBut hs (Ne.symm (cne x c hc)), fun j y v' e1 e2 e3 => ?_⟩, fun y c' e => ?_, I.free, I.freeC, fun p hp => ?_, tracked ⟨oc, hoc, I.freeC x c hc⟩ hs, by simpa using I.len⟩ ⟨c, hs, .inr hc⟩
    · exact (hs.2 b (Nat.ne_of_lt (Nat.lt_of_lt_of_le (Heap.lt_size e) (I.ok.cab x c hfn hc)))).trans (I.base.keep b o e n hb hx)
    · obtain ⟨sl, e1⟩ := I.base.slot b o e n hb hx
      exact ⟨sl, (hs.2 b (Nat.ne_of_lt (Nat.lt_of_lt_of_le (Heap.lt_size e) (I.ok.cab x c hfn hc)))).trans e1⟩
    · obtain ⟨o', e1⟩ := I.base.there b o e hx
      exact ⟨o', (hs.2 b (Nat.ne_of_lt (Nat.lt_of_lt_of_le (Heap.lt_size e) (I.ok.cab x c hfn hc)))).trans e1⟩
    · by_cases hj : j = i
      · subst hj
        rw [hi] at e1; cases e1
        rw [List.getElem?_set_self hiσ] at e2
        cases e2
        exact ⟨u, r, .inr ⟨.inl hk, c, hc, hc'⟩⟩
      · rw [List.getElem?_set_ne (Ne.symm hj)] at e2
        obtain ⟨u', r', q⟩ := hl j y v' e1 e2 e3
        refine ⟨u', r', ?_⟩
        rcases q with q | ⟨k, c', e, z'⟩
        · exact .inl q
        · refine .inr ⟨k, c', e, z'.sameBut hs ?_⟩
          rintro rfl
          exact hj (nodup_ix hN e1 (I.ok.inj _ _ _ e hc ▸ hi))
    · by_cases hcc : c' = c
      · subst hcc; exact ⟨_, hc'⟩
      · obtain ⟨w2, z2⟩ := I.cell y c' e
        exact ⟨w2, z2.sameBut hs hcc⟩
    · obtain ⟨e, n, ne, nf, d⟩ := I.pin p hp
      refine ⟨(hs.2 p.1 ?_).trans e, n, ne, nf, d⟩
      intro q
      rw [q, hoc] at e
      have q' : oc = p.2 := Option.some.inj e
      exact d w' (by rw [← q']; exact hocd)
theorem store_ok {M : Model} {A : Around} {E : Value → Shared → Prop} {i : Nat} {x : Str} {v : V} {u : Value} {Q : Unit → Shared → Prop} (I : Inv X pins σ H s) (hN : X.N.Nodup) (hi : X.N[i]? = some x) (hx : Loc X.env.scope x) (r : RelV v u)
    (h : ∀ s', Inv X pins (σ.set i (some v)) H s' → Q () s') (hf : X.fn x = true ∨ X.env.scope.names.lookup x = some .local := by first | exact .inl rfl | exact .inr rfl | assumption) : wpAny M A (storeName X.env x u) Q E s :=
  store_ok2 I hN hi hx r (fun s' I' _ => h s' I') hf
/-- behind a call or a block, the state as it is -/
theorem Inv.call' {s' : Shared} {ch : List Addr} (I : Inv X pins σ H s) (ho : s'.os = s.os) (u : Un (frs X.stack) ch H H' s.heap s'.heap) (hok : HOk X.prog X.w H' s'.heap) (hg : AllBare s'.gens)
    (hch : ∀ b ∈ ch, (b ∈ X.ex ∨ X.s_0.heap.objs.size ≤ b) ∧ b ≠ X.env.locals ∧ (∀ x c, X.env.cells.lookup x = some c → c ≠ b) ∧ ∀ p ∈ X.pn ++ pins, p.1 ≠ b) : Inv X pins σ H' s' := by
  obtain ⟨h', g', d', t', o'⟩ := s'
  have e : o' = s.os := ho
  subst e
  exact I.call (g' := g') (t' := t') (d' := d') u hok hg hch
end

/-! ### the judgements -/
/-- an exception: its class, its own dict's address (where it has one), the abstract heap behind it -/
abbrev XK := Value → Option Addr → Hp → Prop
abbrev St := List (Option V)
abbrev VK := V → Hp → Prop
/-- an expression's reading; a test's; an argument list's -/
abbrev TE := St → Hp → VK → Prop
abbrev TT := St → Hp → (Bool → Hp → Prop) → Prop
abbrev TA := St → Hp → (List V → Hp → Prop) → Prop
/-- what is wanted behind a statement -/
structure Ends where
  nx : St → Hp → Prop
  rt : VK
  bk : St → Hp → Prop := fun _ _ => False
  ct : St → Hp → Prop := fun _ _ => False
abbrev TS := Ends → St → Hp → Prop

def EP (X : Cx) (pins : List (Addr × Obj)) (σ : St) (Q : VK) (u : Value) (s' : Shared) : Prop := ∃ v H', Inv X pins σ H' s' ∧ RelV v u ∧ Q v H'
def TP (X : Cx) (pins : List (Addr × Obj)) (σ : St) (Q : Bool → Hp → Prop) (b : Bool) (s' : Shared) : Prop := ∃ H', Inv X pins σ H' s' ∧ Q b H'
def AP (X : Cx) (pins : List (Addr × Obj)) (σ : St) (Q : List V → Hp → Prop) (us : List Value) (s' : Shared) : Prop := ∃ vs H', Inv X pins σ H' s' ∧ Vals vs us ∧ Q vs H'
def SP (X : Cx) (pins : List (Addr × Obj)) (D : Ends) (f : Flow) (s' : Shared) : Prop :=
  match f with
  | .next => ∃ σ' H', Inv X pins σ' H' s' ∧ D.nx σ' H'
  | .brk => ∃ σ' H', Inv X pins σ' H' s' ∧ D.bk σ' H'
  | .cont => ∃ σ' H', Inv X pins σ' H' s' ∧ D.ct σ' H'
  | .ret u => ∃ v σ' H', Inv X pins σ' H' s' ∧ RelV v u ∧ D.rt v H'

def PE (X : Cx) (e : Expr) (t : TE) : Prop :=
  ∀ (pins : List (Addr × Obj)) (s : Shared) (σ : St) (H : Hp) (Q : VK), Inv X pins σ H s → t σ H Q → wpAny (model X.prog X.w) X.A (eval e X.env) (EP X pins σ Q) X.xe s
def PT (X : Cx) (e : Expr) (t : TT) : Prop :=
  ∀ (pins : List (Addr × Obj)) (s : Shared) (σ : St) (H : Hp) (Q : Bool → Hp → Prop), Inv X pins σ H s → t σ H Q → wpAny (model X.prog X.w) X.A (isTrue e X.env (eval e X.env)) (TP X pins σ Q) X.xe s
/-- a test whatever its 'whole' is (and, or) -/
def PW (X : Cx) (e : Expr) (t : TT) : Prop :=
  ∀ (whole : Sem Value) (pins : List (Addr × Obj)) (s : Shared) (σ : St) (H : Hp) (Q : Bool → Hp → Prop), Inv X pins σ H s → t σ H Q → wpAny (model X.prog X.w) X.A (isTrue e X.env whole) (TP X pins σ Q) X.xe s
theorem PW.pt {X : Cx} {e : Expr} {t : TT} (h : PW X e t) : PT X e t := h _
/-- an argument list (no star), from the left -/
def PA (X : Cx) (es : List Expr) (t : TA) : Prop :=
  ∀ (pos : Pos) (pins : List (Addr × Obj)) (s : Shared) (σ : St) (H : Hp) (Q : List V → Hp → Prop), Inv X pins σ H s → t σ H Q → wpAny (model X.prog X.w) X.A (spliced (backTo pos (starEach es X.env))) (AP X pins σ Q) X.xe s
def PS (X : Cx) (st : Stmt) (t : TS) : Prop :=
  ∀ (pins : List (Addr × Obj)) (s : Shared) (σ : St) (H : Hp) (D : Ends), Inv X pins σ H s → t D σ H → wpAny (model X.prog X.w) X.A (exec st X.env) (SP X pins D) X.xe s
def PSs (X : Cx) (st : List Stmt) (t : TS) : Prop :=
  ∀ (pins : List (Addr × Obj)) (s : Shared) (σ : St) (H : Hp) (D : Ends), Inv X pins σ H s → t D σ H → wpAny (model X.prog X.w) X.A (execs st X.env) (SP X pins D) X.xe s
/-- weaken the end -/
theorem thn {α : Type} {t : Sem α} {Q Q' : α → Shared → Prop} {M : Model} {A : Around} {E : Value → Shared → Prop} {s : Shared} (h : wpAny M A t Q E s) (hQ : ∀ a s, Q a s → Q' a s) : wpAny M A t Q' E s := wpAny_mono h hQ fun _ _ x => x
end L2

namespace L2
open PySem PySem.Spec PyProof.Rows
section
variable {X : Cx}

/-- two expressions in a row -/
theorem bin {a b : Expr} {ta tb : TE} (ha : PE X a ta) (hb : PE X b tb) {pins : List (Addr × Obj)} {s : Shared} {σ : St} {H : Hp} {R : V → V → Hp → Prop} (I : Inv X pins σ H s) (h : ta σ H fun x H1 => tb σ H1 fun y H2 => R x y H2)
    {α : Type} {Q : α → Shared → Prop} {f : Value → Value → Sem α}
    (hf : ∀ v u s2 x y H2, Inv X pins σ H2 s2 → RelV x v → RelV y u → R x y H2 → wpAny (model X.prog X.w) X.A (f v u) Q X.xe s2) :
    wpAny (model X.prog X.w) X.A (eval a X.env) (fun v s₁ => wpAny (model X.prog X.w) X.A (eval b X.env) (fun u s₂ => wpAny (model X.prog X.w) X.A (f v u) Q X.xe s₂) X.xe s₁) X.xe s := by
  refine thn (ha pins s σ H _ I h) fun v s1 ⟨x, H1, I1, r1, q1⟩ => ?_
  refine thn (hb pins s1 σ H1 _ I1 q1) fun u s2 ⟨y, H2, I2, r2, q2⟩ => ?_
  exact hf v u s2 x y H2 I2 r1 r2 q2

/-! ### names and constants -/
def tVar (i : Nat) : TE := fun σ H Q => ∃ v, σ[i]? = some (some v) ∧ Q v H
def tC (v : V) : TE := fun _ H Q => Q v H
theorem pe_var {i : Nat} {x : Str} {pos : Pos} (hN : X.N[i]? = some x) (hv : Vis X.env.scope x) (hd : (x == ("__debug__" : Str)) = false := by decide) (hcd : (x == ("__classdict__" : Str)) = false := by decide) : PE X (.Name x pos) (tVar i) := by
  intro pins s σ H Q I h
  obtain ⟨v, e, h⟩ := h
  obtain ⟨m, hn, hl⟩ := I.loc
  obtain ⟨u, r, l⟩ := hl i x v hN e hv
  have fin : EP X pins σ Q u s := ⟨v, H, I, r, h⟩
  rcases l with ⟨hk, hm⟩ | ⟨hk, c, hc, hcell⟩
  · exact wpAny_Name (wpAny_loadName_local I.ok.kind hk hn hm fin) hd
  · rcases hk with hk | hk
    · exact wpAny_Name (wpAny_loadName_cell I.ok.kind hk hc hcell fin) hd
    · exact wpAny_Name (wpAny_loadName_free I.ok.kind hk hc hcell fin hcd) hd
theorem pe_int {i j pos} : PE X (.Constant (.int i) j pos) (tC (.int i)) := fun _ _ _ H _ I h => wpAny_Constant_int ⟨.int i, H, I.tok _, ⟨_, rfl⟩, h⟩
theorem pe_bl {b j pos} : PE X (.Constant (.bool b) j pos) (tC (.bl b)) := fun _ _ _ H _ I h => Constant_bool ⟨.bl b, H, I, rfl, h⟩
theorem pe_non {j pos} : PE X (.Constant .none j pos) (tC .non) := fun _ _ _ H _ I h => Constant_none ⟨.non, H, I, rfl, h⟩
theorem pe_str {x j pos} : PE X (.Constant (.str x) j pos) (tC (.str x)) := fun _ _ _ H _ I h => Calls.Constant_str ⟨.str x, H, I.tok _, ⟨_, rfl⟩, h⟩

/-- a global name of the def -/
def Gl (X : Cx) (x : Str) : Prop := X.env.kindOf x = some .globalImplicit
theorem ld_glob {E : Value → Shared → Prop} {pins : List (Addr × Obj)} {s : Shared} {σ : St} {H : Hp} {x : Str} {u : Value} {pos : Pos} {Q : Value → Shared → Prop} (I : Inv X pins σ H s) (hg : Gl X x) (hm : X.mg x = some u) (h : Q u s)
    (hd : (x == ("__debug__" : Str)) = false := by decide) : wpAny (model X.prog X.w) X.A (eval (.Name x pos) X.env) Q E s :=
  Calls.Name_function_global I.ok.kind hg (Calls.loadGlobal_global (by rw [I.ok.glob]; exact I.mod.glob.keeps I.bk) hm h) hd
theorem ld_blt {E : Value → Shared → Prop} {pins : List (Addr × Obj)} {s : Shared} {σ : St} {H : Hp} {x : Str} {u : Value} {pos : Pos} {Q : Value → Shared → Prop} (I : Inv X pins σ H s) (hg : Gl X x) (hm : X.mg x = none) (hv : bootBuiltins x = some u) (h : Q u s)
    (hn : x ≠ "__name__" := by decide) (hd : (x == ("__debug__" : Str)) = false := by decide) : wpAny (model X.prog X.w) X.A (eval (.Name x pos) X.env) Q E s := by
  obtain ⟨mb, h1, h2⟩ := I.mod.blt
  exact Calls.Name_function_global I.ok.kind hg (Calls.loadGlobal_builtin (by rw [I.ok.glob]; exact I.mod.glob.keeps I.bk) hm (by rw [I.ok.blt]; exact h1.keeps I.bk) ((h2 x hn).trans hv) h) hd
/-- a module's constant, a class, a function, as a value -/
theorem pe_glob {x : Str} {v : V} {u : Value} {pos : Pos} (hg : Gl X x) (hm : X.mg x = some u) (r : RelV v u) (hd : (x == ("__debug__" : Str)) = false := by decide) : PE X (.Name x pos) (tC v) :=
  fun _ _ _ H _ I h => ld_glob I hg hm ⟨v, H, I, r, h⟩ hd
/-! ### arithmetic -/
/-- two ints -/
def t2I (ta tb : TE) (k : Int → Int → Hp → Prop) : St → Hp → Prop := fun σ H => ta σ H fun x H1 => tb σ H1 fun y H2 => ∃ i j, x = .int i ∧ y = .int j ∧ k i j H2
def tAdd (ta tb : TE) : TE := fun σ H Q => t2I ta tb (fun i j H2 => Q (.int (i + j)) H2) σ H
def tSub (ta tb : TE) : TE := fun σ H Q => t2I ta tb (fun i j H2 => Q (.int (i - j)) H2) σ H
/-- the left factor below 2^64 -/
def tMul (ta tb : TE) : TE := fun σ H Q => t2I ta tb (fun i j H2 => (-(2 ^ 64) < i ∧ i < 2 ^ 64) ∧ Q (.int (i * j)) H2) σ H
variable {a b : Expr} {ta tb : TE} {pos : Pos}
/-! ### comparisons -/
def PC (X : Cx) (op : CmpOp) (a b : Expr) (t : TE) : Prop :=
  ∀ (pins : List (Addr × Obj)) (s : Shared) (σ : St) (H : Hp) (Q : VK), Inv X pins σ H s → t σ H Q →
    wpAny (model X.prog X.w) X.A (eval a X.env) (fun v s₁ => wpAny (model X.prog X.w) X.A (eval b X.env) (fun u s₂ => wpAny (model X.prog X.w) X.A (compareOp op v u) (EP X pins σ Q) X.xe s₂) X.xe s₁) X.xe s
theorem nobehind (b : Expr) {op : CmpOp} (h : op ≠ .In) (h2 : op ≠ .NotIn) : behindInMarks op b = false := by
  have e1 : (op == CmpOp.In) = false := by cases op <;> first | rfl | exact absurd rfl h
  have e2 : (op == CmpOp.NotIn) = false := by cases op <;> first | rfl | exact absurd rfl h2
  cases b <;> simp [behindInMarks, e1, e2]
def tCmp (p : Int → Int → Bool) (ta tb : TE) : TE := fun σ H Q => t2I ta tb (fun i j H2 => Q (.bl (p i j)) H2) σ H
abbrev tLt : TE → TE → TE := tCmp fun i j => decide (i < j)
abbrev tLe : TE → TE → TE := tCmp fun i j => decide (i ≤ j)
abbrev tGt : TE → TE → TE := tCmp fun i j => decide (j < i)
abbrev tGe : TE → TE → TE := tCmp fun i j => decide (j ≤ i)
abbrev tEqI : TE → TE → TE := tCmp fun i j => decide (i = j)
abbrev tNeI : TE → TE → TE := tCmp fun i j => !decide (i = j)
/-- is None -/
def tIsN (ta : TE) : TE := fun σ H Q => ta σ H fun x H1 => Q (.bl (decide (x = .non))) H1
def tNotN (ta : TE) : TE := fun σ H Q => ta σ H fun x H1 => Q (.bl (!decide (x = .non))) H1
theorem RelV.none_iff {x : V} {v : Value} (r : RelV x v) : (v == Value.none) = decide (x = .non) := by
  cases x with
  | non => cases r; rfl
  | bl _ => cases r; rfl
  | int _ => obtain ⟨t, rfl⟩ := r; rfl
  | str _ => obtain ⟨t, rfl⟩ := r; rfl
  | byt _ => obtain ⟨t, rfl⟩ := r; rfl
  | flt _ => obtain ⟨t, rfl⟩ := r; rfl
  | ref _ => cases r; rfl
  | ty _ => cases r; rfl
theorem pc_isN {j pos'} (ha : PE X a ta) : PC X .Is a (.Constant .none j pos') (tIsN ta) := by
  intro pins s σ H Q I h
  refine thn (ha pins s σ H _ I h) fun v s1 ⟨x, H1, I1, r1, q1⟩ => ?_
  exact Constant_none (is_none_gen ⟨.bl _, H1, I1, by rw [r1.none_iff]; rfl, q1⟩)
/-- a comparison as a value, as a test -/
def tB (t : TE) : TT := fun σ H Q => t σ H fun x H1 => ∃ c, x = .bl c ∧ Q c H1
theorem pt_cmp {op : CmpOp} {t : TE} (h : PC X op a b t) (h1 : behindInMarks op b = false := by first | exact nobehind _ (by decide) (by decide) | rfl) : PT X (.Compare a [op] [b] pos) (tB t) := by
  intro pins s σ H Q I hw
  refine wpAny_isTrue_Compare1 (thn (h pins s σ H _ I hw) fun v s1 h1 => thn h1 fun u s2 h2 => thn h2 fun c s3 ⟨x, H1, I1, r1, q1⟩ => ?_) h1
  obtain ⟨d, rfl, q⟩ := q1
  cases r1
  exact wpAny_truthy_bool ⟨H1, I1, q⟩
/-- an expression whose value is a bool, as a test -/
theorem pt_val {e : Expr} {t : TE} (h : PE X e t) (he : ∀ whole, isTrue e X.env whole = (do let v ← whole; standAt e.pos; holding [v] (truthy v)) := by intro _; rfl) : PT X e (tB t) := by
  intro pins s σ H Q I hw
  refine isTrue_plain (thn (h pins s σ H _ I hw) fun v s1 ⟨x, H1, I1, r1, q1⟩ => ?_) (he _)
  obtain ⟨d, rfl, q⟩ := q1
  cases r1
  exact wpAny_truthy_bool ⟨H1, I1, q⟩

/-! ### and, or, not -/
variable {tA tB' : TT} {rest : List Expr}
def tAnd (t u : TT) : TT := fun σ H Q => t σ H fun c H1 => if c = true then u σ H1 Q else Q false H1
def tOr (t u : TT) : TT := fun σ H Q => t σ H fun c H1 => if c = true then Q true H1 else u σ H1 Q
def tNot (t : TT) : TT := fun σ H Q => t σ H fun c H1 => Q (!c) H1
theorem pw_and1 (ha : PT X a tA) : PW X (.BoolOp .And [a] pos) tA := by
  intro wh pins s σ H Q I h
  refine isTrue_and (thn (ha pins s σ H Q I h) fun c s1 e => ?_)
  cases c with
  | true => exact isTrue_and_nil e
  | false => exact e
theorem pw_or1 (ha : PT X a tA) : PW X (.BoolOp .Or [a] pos) tA := by
  intro wh pins s σ H Q I h
  refine isTrue_or (thn (ha pins s σ H Q I h) fun c s1 e => ?_)
  cases c with
  | false => exact isTrue_or_nil e
  | true => exact e
theorem pw_and (ha : PT X a tA) (hb : PW X (.BoolOp .And (b :: rest) pos) tB') : PW X (.BoolOp .And (a :: b :: rest) pos) (tAnd tA tB') := by
  intro wh pins s σ H Q I h
  refine isTrue_and (thn (ha pins s σ H _ I h) fun c s1 ⟨H1, I1, q1⟩ => ?_)
  cases c with
  | true => exact hb wh pins s1 σ H1 Q I1 q1
  | false => exact ⟨H1, I1, q1⟩
theorem pw_or (ha : PT X a tA) (hb : PW X (.BoolOp .Or (b :: rest) pos) tB') : PW X (.BoolOp .Or (a :: b :: rest) pos) (tOr tA tB') := by
  intro wh pins s σ H Q I h
  refine isTrue_or (thn (ha pins s σ H _ I h) fun c s1 ⟨H1, I1, q1⟩ => ?_)
  cases c with
  | true => exact ⟨H1, I1, q1⟩
  | false => exact hb wh pins s1 σ H1 Q I1 q1
theorem pt_not (ha : PT X a tA) : PT X (.UnaryOp .Not a pos) (tNot tA) := by
  intro pins s σ H Q I h
  exact isTrue_not (ha pins s σ H (fun c H1 => Q (!c) H1) I h)
/-- .. as values (bools) -/
def tAndV (ta tb : TE) : TE := fun σ H Q => ta σ H fun x H1 => ∃ c, x = .bl c ∧ if c = true then tb σ H1 Q else Q (.bl false) H1
def tOrV (ta tb : TE) : TE := fun σ H Q => ta σ H fun x H1 => ∃ c, x = .bl c ∧ if c = true then Q (.bl true) H1 else tb σ H1 Q
def tNotV (ta : TE) : TE := fun σ H Q => ta σ H fun x H1 => ∃ c, x = .bl c ∧ Q (.bl (!c)) H1
theorem pe_one {op} {t : TE} (h : PE X a t) : PE X (.BoolOp op [a] pos) t := fun pins s σ H Q I hw => BoolOp_one (h pins s σ H Q I hw)
theorem pe_and (ha : PE X a ta) (hb : PE X (.BoolOp .And (b :: rest) pos) tb) : PE X (.BoolOp .And (a :: b :: rest) pos) (tAndV ta tb) := by
  intro pins s σ H Q I h
  refine BoolOp_and (thn (ha pins s σ H _ I h) fun v s1 ⟨x, H1, I1, r1, q1⟩ => ?_)
  obtain ⟨c, rfl, q1⟩ := q1
  cases r1
  refine wpAny_truthy_bool ?_
  cases c with
  | true => exact hb pins s1 σ H1 Q I1 q1
  | false => exact ⟨.bl false, H1, I1, rfl, q1⟩
theorem pe_or (ha : PE X a ta) (hb : PE X (.BoolOp .Or (b :: rest) pos) tb) : PE X (.BoolOp .Or (a :: b :: rest) pos) (tOrV ta tb) := by
  intro pins s σ H Q I h
  refine BoolOp_or (thn (ha pins s σ H _ I h) fun v s1 ⟨x, H1, I1, r1, q1⟩ => ?_)
  obtain ⟨c, rfl, q1⟩ := q1
  cases r1
  refine wpAny_truthy_bool ?_
  cases c with
  | false => exact hb pins s1 σ H1 Q I1 q1
  | true => exact ⟨.bl true, H1, I1, rfl, q1⟩
/-- a if t else b -/
def tIf (t : TT) (ta tb : TE) : TE := fun σ H Q => t σ H fun c H1 => if c = true then ta σ H1 Q else tb σ H1 Q
theorem pe_ifExp {c : Expr} (hc : PT X c tA) (ha : PE X a ta) (hb : PE X b tb) : PE X (.IfExp c a b pos) (tIf tA ta tb) := by
  intro pins s σ H Q I h
  refine wpAny_IfExp (thn (hc pins s σ H _ I h) fun d s1 ⟨H1, I1, q1⟩ => ?_)
  cases d with
  | true => exact ha pins s1 σ H1 Q I1 q1
  | false => exact hb pins s1 σ H1 Q I1 q1
end
end L2

namespace L2
open PySem PySem.Spec PyProof.Rows

/-! ### a list, a tuple that is read: tracked, frozen, or an object of the module -/
def SqL (K : PySem.W.Frag) (H : Hp) (a : Addr) (xs : List V) : Prop :=
  Rd H a (.lst xs) ∨
    ∃ (o : Obj) (its : Array Value) (n : Nat), K.lookup a = some o ∧ o.cls = .type "list" ∧ o.dict = none ∧ o.data = .seq its n ∧ its.size ≤ sizeLine ∧ Vals xs its.toList
def SqT (K : PySem.W.Frag) (H : Hp) (a : Addr) (xs : List V) : Prop :=
  Rd H a (.tup xs) ∨
    ∃ (o : Obj) (its : Array Value) (n : Nat), K.lookup a = some o ∧ o.cls = .type "tuple" ∧ o.data = .seq its n ∧ its.size ≤ sizeLine ∧ Vals xs its.toList
def absV : Value → Option V
  | .none => some .non
  | .bool b => some (.bl b)
  | .int i _ => some (.int i)
  | .str x _ => some (.str x)
  | .bytes b _ => some (.byt b)
  | .float b _ => some (.flt b)
  | .ref a => some (.ref a)
  | .type n => some (.ty n)
  | _ => none
theorem RelV.abs {x : V} {u : Value} (r : RelV x u) : absV u = some x := by
  cases x with
  | non => cases r; rfl
  | bl _ => cases r; rfl
  | int _ => obtain ⟨t, rfl⟩ := r; rfl
  | str _ => obtain ⟨t, rfl⟩ := r; rfl
  | byt _ => obtain ⟨t, rfl⟩ := r; rfl
  | flt _ => obtain ⟨t, rfl⟩ := r; rfl
  | ref _ => cases r; rfl
  | ty _ => cases r; rfl
theorem RelV.inj {x y : V} {u : Value} (r : RelV x u) (q : RelV y u) : x = y := Option.some.inj (r.abs.symm.trans q.abs)
theorem Vals.inj : ∀ {xs ys : List V} {us : List Value}, Vals xs us → Vals ys us → xs = ys
  | _, _, _, .nil, .nil => rfl
  | _, _, _, .cons r t, .cons r' t' => by rw [r.inj r', Vals.inj t t']
section
variable {X : Cx} {pins : List (Addr × Obj)} {σ : St} {H : Hp} {s : Shared} {a : Addr} {xs ys : List V}
theorem SqL.of {K : PySem.W.Frag} (h : H a = some (.lst xs)) : SqL K H a xs := .inl (.inl h)
theorem Inv.list (I : Inv X pins σ H s) (h : SqL X.K H a xs) : ∃ its : List Value, Vals xs its ∧ PlainL s.heap a its.toArray ∧ xs.length ≤ sizeLine := by
  rcases h with h | ⟨o, its, n, hk, hc, hd, hs, hz, r⟩
  · obtain ⟨z, its, n, r, e⟩ := h.ok I.hok
    exact ⟨its, r, ⟨_, n, e, rfl, rfl, rfl⟩, z⟩
  · refine ⟨its.toList, r, ⟨o, n, I.kIn a o hk, hc, hd, by simpa using hs⟩, ?_⟩
    have e := r.length
    simp only [Array.length_toList] at e
    omega
theorem Inv.tuple (I : Inv X pins σ H s) (h : SqT X.K H a xs) : ∃ its : List Value, Vals xs its ∧ IsTup s.heap a its.toArray ∧ xs.length ≤ sizeLine := by
  rcases h with h | ⟨o, its, n, hk, hc, hs, hz, r⟩
  · obtain ⟨z, its, r, p⟩ := h.ok I.hok
    exact ⟨its, r, p, z⟩
  · refine ⟨its.toList, r, ⟨o, I.kIn a o hk, hc, n, by simpa using hs⟩, ?_⟩
    have e := r.length
    simp only [Array.length_toList] at e
    omega
theorem Inv.list_inj (I : Inv X pins σ H s) (h : SqL X.K H a xs) (h' : SqL X.K H a ys) : xs = ys := by
  obtain ⟨its, r, ⟨o, n, e, _, _, d⟩, _⟩ := I.list h
  obtain ⟨its', r', ⟨o', n', e', _, _, d'⟩, _⟩ := I.list h'
  rw [e] at e'; cases e'
  rw [d] at d'
  injection d' with d1 _
  have : its = its' := by simpa using congrArg Array.toList d1
  subst this
  exact r.inj r'
end

/-! ### another wish about exceptions -/
abbrev Cx.wish (X : Cx) (E : Value → Shared → Prop) : Cx := { X with xe := E }
/-- no exception leaves -/
abbrev Cx.nox (X : Cx) : Cx := X.wish fun _ _ => False
theorem Cx.Ok.wish {X : Cx} (ok : X.Ok) (E : Value → Shared → Prop) : (X.wish E).Ok :=
  ⟨ok.mod, ok.kind, ok.glob, ok.blt, ok.above, ok.inj, ok.has, ok.cab, ok.hd, ok.frames, ok.stk, ok.exf, ok.bs, ok.bsz, ok.noex, ok.exfs, ok.funs, ok.frf⟩
theorem Cx.Ok.unwish {X : Cx} {E : Value → Shared → Prop} (ok : (X.wish E).Ok) : X.Ok :=
  ⟨ok.mod, ok.kind, ok.glob, ok.blt, ok.above, ok.inj, ok.has, ok.cab, ok.hd, ok.frames, ok.stk, ok.exf, ok.bs, ok.bsz, ok.noex, ok.exfs, ok.funs, ok.frf⟩
section
variable {X : Cx} {pins : List (Addr × Obj)} {σ : St} {H : Hp} {s : Shared} {E : Value → Shared → Prop}
theorem Inv.wish (I : Inv X pins σ H s) (E : Value → Shared → Prop) : Inv (X.wish E) pins σ H s := ⟨I.ok.wish E, I.os, I.bare, I.base, I.loc, I.cell, I.free, I.freeC, I.pin, I.hok, I.len⟩
theorem Inv.unwish (I : Inv (X.wish E) pins σ H s) : Inv X pins σ H s := ⟨I.ok.unwish, I.os, I.bare, I.base, I.loc, I.cell, I.free, I.freeC, I.pin, I.hok, I.len⟩
theorem SP.unwish {D : Ends} {f : Flow} {s' : Shared} (h : SP (X.wish E) pins D f s') : SP X pins D f s' := by
  cases f with
  | next => obtain ⟨σ', H', I, q⟩ := h; exact ⟨σ', H', I.unwish, q⟩
  | brk => obtain ⟨σ', H', I, q⟩ := h; exact ⟨σ', H', I.unwish, q⟩
  | cont => obtain ⟨σ', H', I, q⟩ := h; exact ⟨σ', H', I.unwish, q⟩
  | ret u => obtain ⟨v, σ', H', I, r, q⟩ := h; exact ⟨v, σ', H', I.unwish, r, q⟩
theorem PSs.nox {st : List Stmt} {t : TS} (h : PSs X.nox st t) : PSs X st t := fun pins s σ H D I hw =>
  wpAny_mono (h pins s σ H D (I.wish _) hw) (fun _ _ q => q.unwish) fun _ _ z => False.elim z
end

/-! ### blocks and small statements -/
section
variable {X : Cx} {st : Stmt} {rest : List Stmt} {t u : TS} {e : Expr} {te : TE} {pos : Pos}
def tNext : TS := fun D σ H => D.nx σ H
def tSeq (t u : TS) : TS := fun D σ H => t { D with nx := u D } σ H
theorem pss_nil : PSs X [] tNext := fun _ _ σ H _ I h => wpAny_execs_nil ⟨σ, H, I, h⟩
theorem pss_cons (h1 : PS X st t) (h2 : PSs X rest u) : PSs X (st :: rest) (tSeq t u) := by
  intro pins s σ H D I h
  refine wpAny_execs_cons (thn (h1 pins s σ H { D with nx := u D } I h) fun f s1 q => ?_)
  cases f with
  | next =>
    obtain ⟨σ', H', I', q⟩ := q
    exact h2 pins s1 σ' H' D I' q
  | ret v => exact q
  | brk => exact q
  | cont => exact q
theorem pss_one (h1 : PS X st t) : PSs X [st] t := by
  intro pins s σ H D I h
  refine wpAny_execs_cons (thn (h1 pins s σ H D I h) fun f s1 q => ?_)
  cases f with
  | next => exact wpAny_execs_nil q
  | ret v => exact q
  | brk => exact q
  | cont => exact q
def tBreak : TS := fun D σ H => D.bk σ H
def tCont : TS := fun D σ H => D.ct σ H
theorem ps_break : PS X (.Break pos) tBreak := fun _ _ σ H _ I h => wpAny_Break ⟨σ, H, I, h⟩
/-- in a def's body nothing is shown -/
theorem Inv.quiet {pins : List (Addr × Obj)} {σ : St} {H : Hp} {s : Shared} (I : Inv X pins σ H s) : interactive X.env = false := by simp [interactive, I.ok.kind]
/-- an expression whose value is dropped -/
def tDrop (te : TE) : TS := fun D σ H => te σ H fun _ H1 => D.nx σ H1
theorem ps_expr (he : PE X e te) (hs : swapsWith e none pos.line X.env = pure false := by rfl) : PS X (.Expr e pos) (tDrop te) := by
  intro pins s σ H D I h
  exact wpAny_Expr_any (thn (he pins s σ H _ I h) fun v s1 ⟨x, H1, I1, r1, q1⟩ => ⟨σ, H1, I1, q1⟩) I.quiet hs
def tRet (te : TE) : TS := fun D σ H => te σ H D.rt
theorem ps_ret (he : PE X e te) : PS X (.Return (some e) pos) (tRet te) := by
  intro pins s σ H D I h
  exact wpAny_Return_some (thn (he pins s σ H _ I h) fun v s1 ⟨x, H1, I1, r1, q1⟩ => ⟨x, σ, H1, I1, r1, q1⟩)
def tRetN : TS := fun D _ H => D.rt .non H
def tIfS (c : TT) (t u : TS) : TS := fun D σ H => c σ H fun b H1 => if b = true then t D σ H1 else u D σ H1
theorem ps_if {c : Expr} {a b : List Stmt} {tc : TT} (hc : PT X c tc) (ha : PSs X a t) (hb : PSs X b u) : PS X (.If c a b pos) (tIfS tc t u) := by
  intro pins s σ H D I h
  refine wpAny_If (thn (hc pins s σ H _ I h) fun d s1 ⟨H1, I1, q1⟩ => ?_)
  cases d with
  | true => exact ha pins s1 σ H1 D I1 q1
  | false => exact hb pins s1 σ H1 D I1 q1
/-- code that the proof never comes to -/
def tNever : TS := fun _ _ _ => False
end

/-! ### targets -/
abbrev TG := V → St → Hp → (St → Hp → Prop) → Prop
abbrev TGs := List V → St → Hp → (St → Hp → Prop) → Prop
def PG (X : Cx) (target : Expr) (t : TG) : Prop :=
  ∀ (pins : List (Addr × Obj)) (s : Shared) (σ : St) (H : Hp) (v : V) (u : Value) (Q : St → Hp → Prop), Inv X pins σ H s → RelV v u → t v σ H Q →
    wpAny (model X.prog X.w) X.A (assign target X.env u) (fun _ s' => ∃ σ' H', Inv X pins σ' H' s' ∧ Q σ' H') X.xe s
/-- several targets, one after another -/
def PGs (X : Cx) (ts : List Expr) (t : TGs) : Prop :=
  ∀ (pins : List (Addr × Obj)) (s : Shared) (σ : St) (H : Hp) (vs : List V) (us : List Value) (Q : St → Hp → Prop), Inv X pins σ H s → Vals vs us → t vs σ H Q →
    wpAny (model X.prog X.w) X.A (assignInOrder ((assignEach ts X.env).map (·.2)) us) (fun _ s' => ∃ σ' H', Inv X pins σ' H' s' ∧ Q σ' H') X.xe s
/-- o[i] = v, by values -/
abbrev TSet := V → V → V → Hp → (Hp → Prop) → Prop
def PSet (X : Cx) (t : TSet) : Prop :=
  ∀ (pins : List (Addr × Obj)) (s : Shared) (σ : St) (H : Hp) (o i v : V) (ov iv u : Value) (Q : Hp → Prop), Inv X pins σ H s → RelV o ov → RelV i iv → RelV v u → t o i v H Q →
    wpAny (model X.prog X.w) X.A (setItem ov iv u) (fun _ s' => ∃ H', Inv X pins σ H' s' ∧ Q H') X.xe s
/-- a op= b, by values -/
abbrev TIp := V → V → Hp → VK → Prop
def PIp (X : Cx) (op : Operator) (t : TIp) : Prop :=
  ∀ (pins : List (Addr × Obj)) (s : Shared) (σ : St) (H : Hp) (x y : V) (v u : Value) (Q : VK), Inv X pins σ H s → RelV x v → RelV y u → t x y H Q →
    wpAny (model X.prog X.w) X.A (inplaceOp op v u) (EP X pins σ Q) X.xe s
section
variable {X : Cx} {pos : Pos}
def gName (i : Nat) : TG := fun v σ H Q => Q (σ.set i (some v)) H
theorem pg_name {i : Nat} {x : Str} (hN : X.N.Nodup) (hi : X.N[i]? = some x) (hx : Loc X.env.scope x) (hf : X.fn x = true ∨ X.env.scope.names.lookup x = some .local := by first | exact .inl rfl | exact .inr rfl | assumption) : PG X (.Name x pos) (gName i) := by
  intro pins s σ H v u Q I r h
  exact wpAny_assign_Name (store_ok I hN hi hx r (fun s' I' => ⟨_, H, I', h⟩) hf)
def gNil : TGs := fun vs σ H Q => vs = [] ∧ Q σ H
def gCons (t : TG) (u : TGs) : TGs := fun vs σ H Q => ∃ v r, vs = v :: r ∧ t v σ H fun σ' H' => u r σ' H' Q
/-- (a, b, ..) = a tuple of that length -/
def gTup (K : PySem.W.Frag) (n : Nat) (t : TGs) : TG := fun v σ H Q => ∃ a xs, v = .ref a ∧ SqT K H a xs ∧ xs.length = n ∧ t xs σ H Q
/-- o[i] = .. -/
def gSub (to ti : TE) (t : TSet) : TG := fun v σ H Q => to σ H fun o H1 => ti σ H1 fun i H2 => t o i v H2 fun H3 => Q σ H3
/-- target = value -/
def tAsg (te : TE) (g : TG) : TS := fun D σ H => te σ H fun x H1 => g x σ H1 D.nx
/-- name = value -/
theorem ps_set {i : Nat} {x : Str} {e : Expr} {te : TE} {pos' : Pos} (hN : X.N.Nodup) (hi : X.N[i]? = some x) (hx : Loc X.env.scope x) (he : PE X e te) (hs : swapsWith e (some (.Name x pos')) pos.line X.env = pure false := by rfl) (hf : X.fn x = true ∨ X.env.scope.names.lookup x = some .local := by first | exact .inl rfl | exact .inr rfl | assumption) :
    PS X (.Assign [.Name x pos'] e pos) (tAsg te (gName i)) := by
  intro pins s σ H D I h
  refine wpAny_Assign_Name (thn (he pins s σ H _ I h) fun v s1 ⟨y, H1, I1, r1, q1⟩ => ?_) hs
  exact store_ok I1 hN hi hx r1 (fun s2 I2 => ⟨_, H1, I2, q1⟩) hf
/-- a, b = x, y with plain local names: stored from the right; the pair itself is not tracked (the opening rows as in PyProof/Rows/TupAssign.lean:23) -/
def tPar (i j : Nat) (ta : TA) : TS := fun D σ H => ta σ H fun vs H1 => ∃ v w, vs = [v, w] ∧ D.nx ((σ.set i (some v)).set j (some w)) H1
/-- name op= e -/
def tAug (i : Nat) (te : TE) (ti : TIp) : TS := fun D σ H => ∃ x, σ[i]? = some (some x) ∧ te σ H fun y H1 => ti x y H1 fun z H2 => D.nx (σ.set i (some z)) H2
theorem ps_aug {i : Nat} {x : Str} {e : Expr} {te : TE} {op : Operator} {ti : TIp} {pos' : Pos} (hN : X.N.Nodup) (hi : X.N[i]? = some x) (hx : Loc X.env.scope x) (he : PE X e te) (ho : PIp X op ti) (hf : X.fn x = true ∨ X.env.scope.names.lookup x = some .local := by first | exact .inl rfl | exact .inr rfl | assumption) :
    PS X (.AugAssign (.Name x pos') op e pos) (tAug i te ti) := by
  intro pins s σ H D I h
  obtain ⟨v, e1, h⟩ := h
  obtain ⟨m, hn, hl⟩ := I.loc
  have vis : Vis X.env.scope x := by rcases hx with k | k; exact .inl k; exact .inr (.inl k)
  obtain ⟨u, r, l⟩ := hl i x v hi e1 vis
  refine wpAny_AugAssign_Name ?_
  have go : wpAny (model X.prog X.w) X.A (eval e X.env) (fun w s₂ => wpAny (model X.prog X.w) X.A (inplaceOp op u w) (fun r s₃ => wpAny (model X.prog X.w) X.A (storeName X.env x r) (fun _ => SP X pins D .next) X.xe s₃) X.xe s₂) X.xe s := by
    refine thn (he pins s σ H _ I h) fun w s1 ⟨y, H1, I1, r1, q1⟩ => ?_
    refine thn (ho pins s1 σ H1 v y u w _ I1 r r1 q1) fun z s2 ⟨zv, H2, I2, r2, q2⟩ => ?_
    exact store_ok I2 hN hi hx r2 (fun s3 I3 => ⟨_, H2, I3, q2⟩) hf
  rcases l with ⟨hk, hm⟩ | ⟨hk, c, hc, hcell⟩
  · exact wpAny_loadName_local I.ok.kind hk hn hm go
  · rcases hk with hk | hk
    · exact wpAny_loadName_cell I.ok.kind hk hc hcell go
    · rcases hx with k | k
      · have : X.env.scope.names.lookup x = some .free := hk
        rw [k] at this; cases this
      · have : X.env.scope.names.lookup x = some .free := hk
        rw [k] at this; cases this
/-- o[i] op= e -/
def tAugS (to ti te : TE) (tget : V → V → Hp → VK → Prop) (tip : TIp) (tset : TSet) : TS := fun D σ H => to σ H fun o H1 => ti σ H1 fun i H2 => tget o i H2 fun x H3 => te σ H3 fun y H4 => tip x y H4 fun z H5 => tset o i z H5 fun H6 => D.nx σ H6
/-- o[i], by values -/
def PGet (X : Cx) (t : V → V → Hp → VK → Prop) : Prop :=
  ∀ (pins : List (Addr × Obj)) (s : Shared) (σ : St) (H : Hp) (o i : V) (ov iv : Value) (Q : VK), Inv X pins σ H s → RelV o ov → RelV i iv → t o i H Q →
    wpAny (model X.prog X.w) X.A (getItem ov iv) (EP X pins σ Q) X.xe s
/-- ints -/
def ipI (f : Int → Int → Int) : TIp := fun x y H Q => ∃ i j, x = .int i ∧ y = .int j ∧ Q (.int (f i j)) H
theorem ip_add : PIp X .Add (ipI fun i j => i + j) := by
  intro pins s σ H x y v u Q I r1 r2 h
  obtain ⟨i, j, e1, e2, q⟩ := h
  subst e1; subst e2
  obtain ⟨t, rfl⟩ := r1
  obtain ⟨t', rfl⟩ := r2
  exact iadd_int ⟨.int _, H, I.tok _, ⟨_, rfl⟩, q⟩
theorem ip_sub : PIp X .Sub (ipI fun i j => i - j) := by
  intro pins s σ H x y v u Q I r1 r2 h
  obtain ⟨i, j, e1, e2, q⟩ := h
  subst e1; subst e2
  obtain ⟨t, rfl⟩ := r1
  obtain ⟨t', rfl⟩ := r2
  exact isub_int ⟨.int _, H, I.tok _, ⟨_, rfl⟩, q⟩
end

/-! ### while -/
section
variable {X : Cx} {pos : Pos}
/-- the invariant W with its measure -/
def tWhile (c : TT) (tb : TS) : TS := fun D σ H => ∃ W : Nat → St → Hp → Prop, (∃ m, W m σ H) ∧ ∀ m σ H, W m σ H →
  c σ H fun b H1 => if b = true then ∃ N : St → Hp → Prop, (∀ σ' H', N σ' H' → ∃ m', m' < m ∧ W m' σ' H') ∧ tb { D with nx := N, ct := N, bk := D.nx } σ H1 else D.nx σ H1
end

/-! ### what a loop or a comprehension walks -/
/-- at turn i: it yields x (the heap may grow), or it stops -/
structure It where
  go : Nat → Hp → Prop
  yld : Nat → Hp → V → Hp → Prop
  stop : Nat → Hp → Prop
/-- the iterator's own objects may turn: they are not the frame's, not pinned, younger than the entry (or a comprehension's own) -/
def FpOk (X : Cx) (pins : List (Addr × Obj)) (H : Hp) (b : Addr) : Prop :=
  H b = none ∧ b ≠ X.env.locals ∧ b ∉ X.fs ∧ (b ∈ X.ex ∨ X.s_0.heap.objs.size ≤ b) ∧ (∀ x c, X.env.cells.lookup x = some c → c ≠ b) ∧ ∀ p ∈ X.pn ++ pins, p.1 ≠ b
theorem Inv.fpOk {X : Cx} {pins : List (Addr × Obj)} {σ : St} {H H' : Hp} {s : Shared} {b : Addr} (I : Inv X pins σ H s) (hb : s.heap.objs.size ≤ b) (hn : H' b = none) : FpOk X pins H' b := by
  refine ⟨hn, Nat.ne_of_gt (Nat.lt_of_lt_of_le I.lt hb), I.nofs hb, .inr (Nat.le_trans I.sz hb), fun x c e z => ?_, fun p hp z => ?_⟩
  · obtain ⟨v, q⟩ := I.cell x c e
    exact absurd (Nat.lt_of_lt_of_le q.lt (by rw [z]; exact hb)) (Nat.lt_irrefl _)
  · exact absurd (Nat.lt_of_lt_of_le (Heap.lt_size (I.pin p hp).1) (by rw [z]; exact hb)) (Nat.lt_irrefl _)
structure Turn (P : Program) (w : World) (K : PySem.W.Frag) (tg : Expr) (J : It) (fp : List Addr) (it : Addr) (tn : Nat → Heap → Prop) : Prop where
  mem : it ∈ fp
  obj : ∀ i h, tn i h → ∀ b ∈ fp, ∃ o, h.get? b = some o ∧ ∀ v, o.data ≠ .cell v
  keep : ∀ i h h', tn i h → (∀ b ∈ fp, ∀ o, h.get? b = some o → h'.get? b = some o) → tn i h'
  item : ∀ (X : Cx), X.prog = P → X.w = w → X.K = K → X.calm = true → ∀ (i : Nat) (pins : List (Addr × Obj)) (s : Shared) (σ : St) (H : Hp) (E : Value → Shared → Prop), Inv X pins σ H s → (∀ b ∈ fp, FpOk X pins H b) → tn i s.heap → J.go i H →
    wpAny (model P w) X.A (pyNext (.ref it)) (fun r s1 => ∃ u, r = some u ∧
      wpAny (model P w) X.A (letOwnedTupleGo tg (.ref it) u) (fun _ s2 => ∃ x H', Inv X pins σ H' s2 ∧ RelV x u ∧ J.yld i H x H' ∧ tn (i + 1) s2.heap ∧ ∀ b ∈ fp, H' b = none) E s1) E s
  done : ∀ (X : Cx), X.prog = P → X.w = w → X.K = K → X.calm = true → ∀ (i : Nat) (pins : List (Addr × Obj)) (s : Shared) (σ : St) (H : Hp) (E : Value → Shared → Prop), Inv X pins σ H s → (∀ b ∈ fp, FpOk X pins H b) → tn i s.heap → J.stop i H →
    wpAny (model P w) X.A (pyNext (.ref it)) (fun r s1 => r = none ∧ Inv X pins σ H s1) E s
  self : ∀ (A : Around) (i : Nat) (s : Shared) (Q : Value → Shared → Prop) (E : Value → Shared → Prop), tn i s.heap → Q (.ref it) s → wpAny (model P w) A (pyIter (.ref it)) Q E s
abbrev TI := St → Hp → (It → Hp → Prop) → Prop
/-- an iterator has come -/
def PIE (X : Cx) (pins : List (Addr × Obj)) (σ : St) (tg : Expr) (R : It → Hp → Prop) (itv : Value) (s2 : Shared) : Prop :=
  ∃ (it : Addr) (fp : List Addr) (tn : Nat → Heap → Prop) (J : It) (H' : Hp), itv = .ref it ∧ Inv X pins σ H' s2 ∧ Turn X.prog X.w X.K tg J fp it tn ∧ tn 0 s2.heap ∧ (∀ b ∈ fp, FpOk X pins H' b) ∧ R J H'
def PI (X : Cx) (tg iter : Expr) (wi : TI) : Prop :=
  ∀ (pins : List (Addr × Obj)) (s : Shared) (σ : St) (H : Hp) (R : It → Hp → Prop), Inv X pins σ H s → wi σ H R →
    wpAny (model X.prog X.w) X.A (eval iter X.env) (fun v s1 => wpAny (model X.prog X.w) X.A (pyIter v) (PIE X pins σ tg R) X.xe s1) X.xe s

/-- the step ahead of the store is nothing for an iterator that keeps no tuple -/
theorem go_of {M : Model} {A : Around} {E : Value → Shared → Prop} {s : Shared} {tg : Expr} {it : Addr} {u : Value} {o : Obj} {n : String} {vs : Array Value} {Q : Unit → Shared → Prop} (ho : s.heap.get? it = some o) (hc : o.cls = .type n) (hd : o.data = .fields vs)
    (hn : ["enumerate", "zip", "dict_itemiterator", "dict_reverseitemiterator", "odict_iterator", "itertools.zip_longest", "itertools.pairwise"].contains n = false) (hQ : Q () s) : wpAny M A (letOwnedTupleGo tg (.ref it) u) Q E s := by
  unfold letOwnedTupleGo
  cases tg <;> first
    | exact wpAny_pure hQ
    | (cases u <;> first
        | exact wpAny_pure hQ
        | (refine wpAny_bind (wpAny_load ho ?_)
           rw [hc, hd]
           show wpAny M A (if (["enumerate", "zip", "dict_itemiterator", "dict_reverseitemiterator", "odict_iterator", "itertools.zip_longest", "itertools.pairwise"].contains n && vs[0]? == some (rawInt _)) = true then _ else _) Q E s
           rw [if_neg (by intro h; rw [hn, Bool.false_and] at h; cases h)]
           exact wpAny_pure hQ))

/-- the list at a, as it stands at each turn (a loop may append to it) -/
def Itl (K : PySem.W.Frag) (a : Addr) : It :=
  ⟨fun i H => ∃ xs x, SqL K H a xs ∧ xs[i]? = some x, fun i H x H' => H' = H ∧ ∀ xs, SqL K H a xs → xs[i]? = some x, fun i H => ∃ xs, SqL K H a xs ∧ xs.length ≤ i⟩
def Itt (K : PySem.W.Frag) (a : Addr) : It :=
  ⟨fun i H => ∃ xs x, SqT K H a xs ∧ xs[i]? = some x, fun i H x H' => H' = H ∧ ∀ xs, SqT K H a xs → xs[i]? = some x, fun i H => ∃ xs, SqT K H a xs ∧ xs.length ≤ i⟩
/-- lo, lo + 1, .. (n of them) -/
def Itr (lo : Int) (n : Nat) : It := ⟨fun i _ => i < n, fun i H x H' => H' = H ∧ x = .int (lo + i), fun i _ => n ≤ i⟩
theorem turn_list {P : Program} {w : World} {K : PySem.W.Frag} {tg : Expr} (a it : Addr) : Turn P w K tg (Itl K a) [it] it (fun i h => h.IsListIter it a i) where
  mem := by simp
  obj := fun i h st b hb => by
    have e : b = it := by simpa using hb
    subst e
    obtain ⟨o, e, c, d⟩ := st
    exact ⟨o, e, fun v z => by rw [d] at z; cases z⟩
  keep := fun i h h' st k => st.at fun o e => k it (by simp) o e
  item := by
    intro X hP hw hK hc i pins s σ H E I hf st hg
    subst hP hw hK
    obtain ⟨xs, x, hq, hx⟩ := hg
    obtain ⟨its, rv, p, hz⟩ := I.list hq
    obtain ⟨u, hu, ru⟩ := rv.get hx
    obtain ⟨f0, f1, f2, f3, f4, f5⟩ := hf it (by simp)
    refine wpAny_pyNext_list_item st p.isList (x := u) (by simpa using hu) fun h' st' sb => ?_
    have I1 : Inv X pins σ H { s with heap := h' } := I.turned (t' := s.toks) (fun b o hb e => (sb.2 b hb).trans e) f0 f1 f3 f4 f5
    obtain ⟨o, e, c, d⟩ := id st'
    exact ⟨u, rfl, go_of (s := { s with heap := h' }) e c d (by decide) ⟨x, H, I1, ru, ⟨rfl, fun ys hy => by rw [I.list_inj hy hq]; exact hx⟩, st', fun b hb => (hf b hb).1⟩⟩
  done := by
    intro X hP hw hK hc i pins s σ H E I hf st hg
    subst hP hw hK
    obtain ⟨xs, hq, hx⟩ := hg
    obtain ⟨its, rv, p, hz⟩ := I.list hq
    obtain ⟨f0, f1, f2, f3, f4, f5⟩ := hf it (by simp)
    have hl := rv.length
    exact wpAny_pyNext_list_end (I.ok.hd hc) st p.isList (by simp; omega) fun h' eb => ⟨rfl, I.turned (t' := s.toks) (fun b o hb e => eb b o hb e) f0 f1 f3 f4 f5⟩
  self := fun _ _ _ _ _ st h => wpAny_pyIter_listiter st h
theorem turn_range {P : Program} {w : World} {K : PySem.W.Frag} {tg : Expr} (it : Addr) (lo : Int) (n : Nat) : Turn P w K tg (Itr lo n) [it] it (fun i h => IsRangeIter h it (lo + (i : Nat) * 1) ((n : Int) - (i : Nat)) 1) where
  mem := by simp
  obj := fun i h st b hb => by
    have e : b = it := by simpa using hb
    subst e
    exact ⟨_, st, fun v z => by
      have z' : Data.fields _ = Data.cell v := z
      cases z'⟩
  keep := fun i h h' st k => k it (by simp) _ st
  item := by
    intro X hP hw hK hc i pins s σ H E I hf st hg
    subst hP hw hK
    obtain ⟨f0, f1, f2, f3, f4, f5⟩ := hf it (by simp)
    have W := Walks.range (prog := X.prog) (w := X.w) (I.ok.hd hc) it lo 1 n
    refine W.item i s _ _ hg st fun v h' tk hv st' kk => ?_
    obtain ⟨t, rfl⟩ := hv
    have I1 : Inv X pins σ H { s with heap := h', toks := tk } := I.turned (fun b o hb e => kk b o (by simpa using hb) e) f0 f1 f3 f4 f5
    refine ⟨_, rfl, go_of (s := { s with heap := h', toks := tk }) (n := "range_iterator") st' rfl rfl (by decide) ⟨.int (lo + i), H, I1, ⟨t, ?_⟩, ⟨rfl, rfl⟩, st', fun b hb => (hf b hb).1⟩⟩
    rw [Int.mul_one]
  done := by
    intro X hP hw hK hc i pins s σ H E I hf st hg
    subst hP hw hK
    obtain ⟨f0, f1, f2, f3, f4, f5⟩ := hf it (by simp)
    exact wpAny_pyNext_range_end (I.ok.hd hc) st (by have : n ≤ i := hg; omega) fun h' eb => ⟨rfl, I.turned (t' := s.toks) (fun b o hb e => eb b o hb e) f0 f1 f3 f4 f5⟩
  self := fun _ _ _ _ _ st h => wpAny_pyIter_rangeiter st h
end L2

namespace L2
open PySem PySem.Spec PyProof.Rows
section
variable {X : Cx} {tg : Expr}
def iList (K : PySem.W.Frag) (tl : TE) : TI := fun σ H R => tl σ H fun x H1 => ∃ a, x = .ref a ∧ (∃ xs, SqL K H1 a xs) ∧ R (Itl K a) H1
def iTup (K : PySem.W.Frag) (tl : TE) : TI := fun σ H R => tl σ H fun x H1 => ∃ a, x = .ref a ∧ (∃ xs, SqT K H1 a xs) ∧ R (Itt K a) H1
theorem pi_list {l : Expr} {tl : TE} (hl : PE X l tl) : PI X tg l (iList X.K tl) := by
  intro pins s σ H R I h
  refine thn (hl pins s σ H _ I h) fun v s1 ⟨x, H1, I1, r1, q1⟩ => ?_
  obtain ⟨a, e, ⟨xs, hq⟩, q⟩ := q1
  subst e
  cases r1
  obtain ⟨its, rv, p, hz⟩ := I1.list hq
  refine wpAny_pyIter_list p.isList ?_
  refine ⟨s1.heap.objs.size, [s1.heap.objs.size], _, _, H1, rfl, I1.kept (t' := s1.toks) fun b o e => Heap.get?_push_of_some _ e, turn_list a _, ⟨_, Heap.get?_push_size _ rfl, rfl, rfl⟩, fun b hb => ?_, q⟩
  have e : b = s1.heap.objs.size := by simpa using hb
  subst e
  exact I1.fpOk (Nat.le_refl _) (I1.hok.fresh (Nat.le_refl _))
/-- a range object just made, walked -/
theorem range_it {pins : List (Addr × Obj)} {σ : St} {H : Hp} {s : Shared} {R : It → Hp → Prop} {E : Value → Shared → Prop} {lo hi : Int} {t u v : Tok} {tk : Nat} (I : Inv X pins σ H s) (h1 : -(2 ^ 62) ≤ lo) (h2 : lo < 2 ^ 62) (h3 : -(2 ^ 62) ≤ hi) (h4 : hi < 2 ^ 62)
    (q : R (Itr lo (hi - lo).toNat) H) : wpAny (model X.prog X.w) X.A (pyIter (.ref s.heap.objs.size)) (PIE X pins σ tg R) E { s with heap := s.heap.push { cls := .type "range", data := .fields #[.int lo t, .int hi u, .int 1 v] }, toks := tk } := by
  refine wpAny_pyIter_range (IsRange.new ..) (small_one h1 h2 h3 h4) ?_
  have I1 : Inv X pins σ H { s with heap := s.heap.push { cls := .type "range", data := .fields #[.int lo t, .int hi u, .int 1 v] }, toks := tk } := I.kept fun b o e => Heap.get?_push_of_some _ e
  refine ⟨(s.heap.push { cls := .type "range", data := .fields #[.int lo t, .int hi u, .int 1 v] }).objs.size, [(s.heap.push { cls := .type "range", data := .fields #[.int lo t, .int hi u, .int 1 v] }).objs.size], _, _, H, rfl,
    I1.kept (t' := tk) fun b o e => Heap.get?_push_of_some _ e, turn_range _ lo (hi - lo).toNat, ?_, fun b hb => ?_, q⟩
  · have e1 : lo + ((0 : Nat) : Int) * 1 = lo := by simp
    have e2 : (((hi - lo).toNat : Nat) : Int) - ((0 : Nat) : Int) = Builtin.Range.rangeSize lo hi 1 := by rw [rangeSize_one]; split <;> omega
    show IsRangeIter _ _ (lo + ((0 : Nat) : Int) * 1) ((((hi - lo).toNat : Nat) : Int) - ((0 : Nat) : Int)) 1
    rw [e1, e2]
    exact Heap.get?_push_size _ rfl
  · have e : b = (s.heap.push { cls := .type "range", data := .fields #[.int lo t, .int hi u, .int 1 v] }).objs.size := by simpa using hb
    subst e
    exact I1.fpOk (Nat.le_refl _) (I1.hok.fresh (Nat.le_refl _))
def iRng1 (ta : TA) : TI := fun σ H R => ta σ H fun vs H1 => ∃ j : Int, vs = [.int j] ∧ -(2 ^ 62) ≤ j ∧ j < 2 ^ 62 ∧ R (Itr 0 j.toNat) H1
def iRng2 (ta : TA) : TI := fun σ H R => ta σ H fun vs H1 => ∃ i j : Int, vs = [.int i, .int j] ∧ (-(2 ^ 62) ≤ i ∧ i < 2 ^ 62 ∧ -(2 ^ 62) ≤ j ∧ j < 2 ^ 62) ∧ R (Itr i (j - i).toNat) H1
theorem pi_range1 {a : Expr} {ta : TA} {p pos : Pos} (hg : Gl X "range") (hm : X.mg "range" = none) (ha : PA X [a] ta) (hs : starEach [a] X.env = [(false, eval a X.env)] := by rfl) : PI X tg (.Call (.Name "range" p) [a] [] pos) (iRng1 ta) := by
  intro pins s σ H R I h
  refine Call_ (ld_blt I hg hm boot_range (PyProof.Rows.callWith_type1 (thn (ha pos pins s σ H _ I h) fun us s1 ⟨vs, H1, I1, r1, q1⟩ => ?_) hs rfl))
  obtain ⟨j, e, q1, q2, q⟩ := q1
  subst e
  cases r1 with
  | cons r rr =>
    cases rr
    obtain ⟨t, rfl⟩ := r
    exact call_range_1 (range_it I1 (by omega) (by omega) q1 q2 (by simpa using q))
theorem pi_range2 {a b : Expr} {ta : TA} {p pos : Pos} (hg : Gl X "range") (hm : X.mg "range" = none) (ha : PA X [a, b] ta) (hs : starEach [a, b] X.env = [(false, eval a X.env), (false, eval b X.env)] := by rfl) (hs2 : starEach [b] X.env = [(false, eval b X.env)] := by rfl) :
    PI X tg (.Call (.Name "range" p) [a, b] [] pos) (iRng2 ta) := by
  intro pins s σ H R I h
  refine Call_ (ld_blt I hg hm boot_range (PyProof.Rows.callWith_type1 (thn (ha pos pins s σ H _ I h) fun us s1 ⟨vs, H1, I1, r1, q1⟩ => ?_) (by rw [hs, hs2]) (by rw [hs2]; rfl)))
  obtain ⟨i, j, e, ⟨q1, q2, q3, q4⟩, q⟩ := q1
  subst e
  cases r1 with
  | cons r rr =>
    cases rr with
    | cons r' rr =>
      cases rr
      obtain ⟨t, rfl⟩ := r
      obtain ⟨t', rfl⟩ := r'
      exact call_range_2 (range_it I1 q1 q2 q3 q4 q)

/-! ### for -/
/-- W: the invariant by the turn and a measure; N: what the body is to reach -/
def tFor (wi : TI) (g : TG) (tb : TS) : TS := fun D σ H => wi σ H fun J H1 => ∃ W : Nat → Nat → St → Hp → Prop, (∃ m, W 0 m σ H1) ∧ ∀ i m σ H, W i m σ H →
  (J.stop i H ∧ D.nx σ H) ∨ (J.go i H ∧ ∃ N : St → Hp → Prop, (∀ σ' H', N σ' H' → ∃ m', m' < m ∧ W (i + 1) m' σ' H') ∧ ∀ x H', J.yld i H x H' → g x σ H' fun σ2 H2 => tb { D with nx := N, ct := N, bk := D.nx } σ2 H2)
/-- the records at fp as they stand -/
def pinsAt (fp : List Addr) (h : Heap) : List (Addr × Obj) := fp.filterMap fun b => (h.get? b).map fun o => (b, o)
theorem mem_pinsAt {fp : List Addr} {h : Heap} {b : Addr} {o : Obj} (hb : b ∈ fp) (e : h.get? b = some o) : (b, o) ∈ pinsAt fp h := List.mem_filterMap.mpr ⟨b, hb, by rw [e]; rfl⟩
theorem of_pinsAt {fp : List Addr} {h : Heap} {p : Addr × Obj} (hp : p ∈ pinsAt fp h) : p.1 ∈ fp ∧ h.get? p.1 = some p.2 := by
  obtain ⟨b, hb, e⟩ := List.mem_filterMap.mp hp
  cases q : h.get? b with
  | none => rw [q] at e; cases e
  | some o =>
    rw [q] at e
    have e' : (b, o) = p := Option.some.inj e
    subst e'
    exact ⟨hb, q⟩
theorem Inv.pinned {pins : List (Addr × Obj)} {σ : St} {H : Hp} {s : Shared} {fp : List Addr} (I : Inv X pins σ H s) (hf : ∀ b ∈ fp, FpOk X pins H b) (ho : ∀ b ∈ fp, ∃ o, s.heap.get? b = some o ∧ ∀ v, o.data ≠ .cell v) : Inv X (pins ++ pinsAt fp s.heap) σ H s :=
  I.pins_of fun p hp => (List.mem_append.mp hp).elim (fun z => I.pin p (List.mem_append_right _ z)) fun z => by
    obtain ⟨hb, e⟩ := of_pinsAt z
    obtain ⟨f0, f1, f2, _⟩ := hf p.1 hb
    obtain ⟨o, e', d⟩ := ho p.1 hb
    rw [e] at e'; cases e'
    exact ⟨e, f0, f1, f2, d⟩
theorem Inv.unpinned {pins pl : List (Addr × Obj)} {σ : St} {H : Hp} {s : Shared} (I : Inv X (pins ++ pl) σ H s) : Inv X pins σ H s := I.pins_of fun p hp => I.pin p (List.mem_append_right _ (List.mem_append_left _ hp))
theorem ps_for {iter : Expr} {body : List Stmt} {wi : TI} {g : TG} {tb : TS} {pos : Pos} (hp : PassesOwn (model X.prog X.w) X.A X.env X.xe) (hc : X.calm = true) (hi : PI X tg iter wi) (hg : PG X tg g) (hb : PSs X body tb)
    (hs : ∀ x, foldedSetIterable iter X.env x = pure x := by intro _; rfl) : PS X (.For tg iter body [] pos) (tFor wi g tb) := by
  intro pins s σ H D I h
  refine wpAny_For (thn (hi pins s σ H _ I h) fun v s1 h1 => thn h1 fun itv s2 h2 => ?_) hs
  obtain ⟨it, fp, tn, J, H2, e, I2, T, st2, f2, W, ⟨m0, w0⟩, turn⟩ := h2
  subst e
  -- what stays true of the iterator's objects through the loop
  have stat : ∀ {H' : Hp}, (∀ b ∈ fp, H' b = none) → ∀ b ∈ fp, FpOk X pins H' b := fun hn b hb => ⟨hn b hb, (f2 b hb).2⟩
  refine codeAny_forLoop_any (fun n s' => ∃ i σ' H', Inv X pins σ' H' s' ∧ tn i s'.heap ∧ (∀ b ∈ fp, H' b = none) ∧ W i n σ' H') ?_ m0 ⟨0, σ, H2, I2, st2, fun b hb => (f2 b hb).1, w0⟩
  rintro n s3 ⟨i, σ3, H3, I3, st3, fr3, w3⟩
  rcases turn i n σ3 H3 w3 with ⟨stop, qn⟩ | ⟨go, N, hN, step⟩
  · refine wpAny_passesOwn hp (thn (T.done X rfl rfl rfl hc i pins s3 σ3 H3 X.xe I3 (stat fr3) st3 stop) fun r s4 ⟨hr, I4⟩ => ?_)
    subst hr
    exact wpAny_execs_nil ⟨σ3, H3, I4, qn⟩
  · refine wpAny_passesOwn hp (thn (T.item X rfl rfl rfl hc i pins s3 σ3 H3 X.xe I3 (stat fr3) st3 go) fun r s4 ⟨u, hr, h4⟩ => ?_)
    subst hr
    refine wpAny_passesOwn hp (thn h4 fun _ s5 ⟨x, H5, I5, r5, y5, st5, fr5⟩ => ?_)
    have I5' := I5.pinned (stat fr5) (T.obj _ _ st5)
    refine wpAny_passesOwn hp (thn (hg _ s5 σ3 H5 x u _ I5' r5 (step x H5 y5)) fun _ s6 ⟨σ6, H6, I6, q6⟩ => ?_)
    refine wpAny_passesOwn hp (thn (hb _ s6 σ6 H6 _ I6 q6) fun f s7 q7 => ?_)
    have again : ∀ {σ7 : St} {H7 : Hp}, Inv X (pins ++ pinsAt fp s5.heap) σ7 H7 s7 → N σ7 H7 → ∃ m, m < n ∧ ∃ i σ' H', Inv X pins σ' H' s7 ∧ tn i s7.heap ∧ (∀ b ∈ fp, H' b = none) ∧ W i m σ' H' := fun {σ7 H7} I7 n7 => by
      obtain ⟨m', hm, w7⟩ := hN σ7 H7 n7
      refine ⟨m', hm, i + 1, σ7, H7, I7.unpinned, T.keep _ _ _ st5 fun b hb o e => (I7.pin (b, o) (List.mem_append_right _ (List.mem_append_right _ (mem_pinsAt hb e)))).1, fun b hb => ?_, w7⟩
      obtain ⟨o, e, d⟩ := T.obj _ _ st5 b hb
      exact (I7.pin (b, o) (List.mem_append_right _ (List.mem_append_right _ (mem_pinsAt hb e)))).2.1
    cases f with
    | next => obtain ⟨σ7, H7, I7, n7⟩ := q7; exact again I7 n7
    | cont => obtain ⟨σ7, H7, I7, n7⟩ := q7; exact again I7 n7
    | brk => obtain ⟨σ7, H7, I7, q7⟩ := q7; exact ⟨σ7, H7, I7.unpinned, q7⟩
    | ret v => obtain ⟨x7, σ7, H7, I7, r7, q7⟩ := q7; exact ⟨x7, σ7, H7, I7.unpinned, r7, q7⟩
end

/-! ### the forms one uses -/
/-- over a list that the body leaves as it is -/
theorem for_list {K : PySem.W.Frag} {a : Addr} {xs : List V} {g : TG} {tb : TS} {D : Ends} {σ : St} {H : Hp} (Pv : Nat → St → Hp → Prop) (h0 : Pv 0 σ H) (hl : ∀ i σ H, i ≤ xs.length → Pv i σ H → SqL K H a xs)
    (hs : ∀ i x σ H, xs[i]? = some x → Pv i σ H → g x σ H fun σ2 H2 => tb { D with nx := Pv (i + 1), ct := Pv (i + 1), bk := D.nx } σ2 H2) (hd : ∀ σ H, Pv xs.length σ H → D.nx σ H) :
    ∃ W : Nat → Nat → St → Hp → Prop, (∃ m, W 0 m σ H) ∧ ∀ i m σ H, W i m σ H →
      ((Itl K a).stop i H ∧ D.nx σ H) ∨ ((Itl K a).go i H ∧ ∃ N : St → Hp → Prop, (∀ σ' H', N σ' H' → ∃ m', m' < m ∧ W (i + 1) m' σ' H') ∧ ∀ x H', (Itl K a).yld i H x H' → g x σ H' fun σ2 H2 => tb { D with nx := N, ct := N, bk := D.nx } σ2 H2) := by
  refine ⟨fun i m σ H => m = xs.length - i ∧ i ≤ xs.length ∧ Pv i σ H, ⟨xs.length, by simp, Nat.zero_le _, h0⟩, ?_⟩
  rintro i m σ H ⟨rfl, hi, p⟩
  have q := hl i σ H hi p
  by_cases hlt : i < xs.length
  · refine .inr ⟨⟨xs, xs[i], q, by simp [hlt]⟩, Pv (i + 1), fun σ' H' p' => ⟨xs.length - (i + 1), by omega, rfl, hlt, p'⟩, fun x H' y => ?_⟩
    obtain ⟨e, y⟩ := y
    subst e
    exact hs i x σ _ (y xs q) p
  · have e : i = xs.length := by omega
    subst e
    exact .inl ⟨⟨xs, q, Nat.le_refl _⟩, hd σ H p⟩
theorem for_range {lo : Int} {n : Nat} {g : TG} {tb : TS} {D : Ends} {σ : St} {H : Hp} (Pv : Nat → St → Hp → Prop) (h0 : Pv 0 σ H)
    (hs : ∀ i σ H, i < n → Pv i σ H → g (.int (lo + i)) σ H fun σ2 H2 => tb { D with nx := Pv (i + 1), ct := Pv (i + 1), bk := D.nx } σ2 H2) (hd : ∀ σ H, Pv n σ H → D.nx σ H) :
    ∃ W : Nat → Nat → St → Hp → Prop, (∃ m, W 0 m σ H) ∧ ∀ i m σ H, W i m σ H →
      ((Itr lo n).stop i H ∧ D.nx σ H) ∨ ((Itr lo n).go i H ∧ ∃ N : St → Hp → Prop, (∀ σ' H', N σ' H' → ∃ m', m' < m ∧ W (i + 1) m' σ' H') ∧ ∀ x H', (Itr lo n).yld i H x H' → g x σ H' fun σ2 H2 => tb { D with nx := N, ct := N, bk := D.nx } σ2 H2) := by
  refine ⟨fun i m σ H => m = n - i ∧ i ≤ n ∧ Pv i σ H, ⟨n, by simp, Nat.zero_le _, h0⟩, ?_⟩
  rintro i m σ H ⟨rfl, hi, p⟩
  by_cases hlt : i < n
  · refine .inr ⟨hlt, Pv (i + 1), fun σ' H' p' => ⟨n - (i + 1), by omega, rfl, hlt, p'⟩, fun x H' y => ?_⟩
    obtain ⟨e, y⟩ := y
    subst e y
    exact hs i σ _ hlt p
  · have e : i = n := by omega
    subst e
    exact .inl ⟨Nat.le_refl _, hd σ H p⟩
end L2

namespace L2
open PySem PySem.Spec PyProof.Rows

abbrev R2 := V → V → Hp → VK → Prop
/-- a two-place operation on values: f is binaryOp op, inplaceOp op or compareOp op -/
def OpR (X : Cx) (f : Value → Value → Sem Value) (r : R2) : Prop :=
  ∀ (pins : List (Addr × Obj)) (s : Shared) (σ : St) (H : Hp) (x y : V) (v u : Value) (Q : VK), Inv X pins σ H s → RelV x v → RelV y u → r x y H Q →
    wpAny (model X.prog X.w) X.A (f v u) (EP X pins σ Q) X.xe s
/-- a one-place operation -/
def UnR (X : Cx) (f : Value → Sem Value) (r : V → Hp → VK → Prop) : Prop :=
  ∀ (pins : List (Addr × Obj)) (s : Shared) (σ : St) (H : Hp) (x : V) (v : Value) (Q : VK), Inv X pins σ H s → RelV x v → r x H Q →
    wpAny (model X.prog X.w) X.A (f v) (EP X pins σ Q) X.xe s
/-- a call of a value that is known (a builtin, a type) with values -/
def CallR (X : Cx) (f : Value) (r : List V → Hp → VK → Prop) : Prop :=
  ∀ (pins : List (Addr × Obj)) (s : Shared) (σ : St) (H : Hp) (xs : List V) (us : List Value) (Q : VK), Inv X pins σ H s → Vals xs us → r xs H Q →
    wpAny (model X.prog X.w) X.A (call f us) (EP X pins σ Q) X.xe s
/-- a value's truth -/
def TruR (X : Cx) (r : V → Hp → (Bool → Hp → Prop) → Prop) : Prop :=
  ∀ (pins : List (Addr × Obj)) (s : Shared) (σ : St) (H : Hp) (x : V) (v : Value) (Q : Bool → Hp → Prop), Inv X pins σ H s → RelV x v → r x H Q →
    wpAny (model X.prog X.w) X.A (truthy v) (TP X pins σ Q) X.xe s

def tOp (r : R2) (ta tb : TE) : TE := fun σ H Q => ta σ H fun x H1 => tb σ H1 fun y H2 => r x y H2 Q
def tUn (r : V → Hp → VK → Prop) (ta : TE) : TE := fun σ H Q => ta σ H fun x H1 => r x H1 Q
/-- ints in, under C, and a value out -/
def rI (C : Int → Int → Prop) (g : Int → Int → V) : R2 := fun x y H Q => ∃ i j, x = .int i ∧ y = .int j ∧ C i j ∧ Q (g i j) H
def rI0 (g : Int → Int → V) : R2 := fun x y H Q => ∃ i j, x = .int i ∧ y = .int j ∧ Q (g i j) H
def rU (g : Int → V) : V → Hp → VK → Prop := fun x H Q => ∃ i, x = .int i ∧ Q (g i) H

section
variable {X : Cx} {a b c : Expr} {ta tb tc : TE} {pos : Pos}

theorem binT (ha : PE X a ta) (hb : PE X b tb) {pins : List (Addr × Obj)} {s : Shared} {σ : St} {H : Hp} {R : V → V → Hp → Prop} (I : Inv X pins σ H s)
    (h : ta σ H fun x H1 => tb σ H1 fun y H2 => R x y H2) {Q : Value → Shared → Prop} {f : Value → Value → Sem Value}
    (hf : ∀ v u s2 x y H2, Inv X pins σ H2 s2 → RelV x v → RelV y u → R x y H2 → wpAny (model X.prog X.w) X.A (f v u) Q X.xe s2) :
    wpAny (model X.prog X.w) X.A (eval a X.env) (fun v s₁ => wpAny (model X.prog X.w) X.A (eval b X.env) (fun u s₂ => wpAny (model X.prog X.w) X.A (f v u) Q X.xe s₂) X.xe s₁) X.xe s := by
  refine thn (ha pins s σ H _ I h) fun v s1 ⟨x, H1, I1, r1, q1⟩ => ?_
  refine thn (hb pins s1 σ H1 _ I1 q1) fun u s2 ⟨y, H2, I2, r2, q2⟩ => ?_
  exact hf v u s2 x y H2 I2 r1 r2 q2

theorem pe_op {op : Operator} {r : R2} (ho : OpR X (binaryOp op) r) (ha : PE X a ta) (hb : PE X b tb) : PE X (.BinOp a op b pos) (tOp r ta tb) := by
  intro pins s σ H Q I h
  exact wpAny_BinOp (binT ha hb I h fun v u s2 x y H2 I2 rx ry q => ho pins s2 σ H2 x y v u Q I2 rx ry q)
theorem pe_un {op : UnaryOp} {r : V → Hp → VK → Prop} (ho : UnR X (unaryOp op) r) (ha : PE X a ta) : PE X (.UnaryOp op a pos) (tUn r ta) := by
  intro pins s σ H Q I h
  exact UnaryOp_ (thn (ha pins s σ H _ I h) fun v s1 ⟨x, H1, I1, r1, q1⟩ => ho pins s1 σ H1 x v Q I1 r1 q1)
/-! ### ints -/
theorem opI {f : Value → Value → Sem Value} {C : Int → Int → Prop} {g : Int → Int → Int}
    (rule : ∀ (i j : Int) (t u : Tok) (s : Shared) (Q : Value → Shared → Prop) (E : Value → Shared → Prop), C i j → Q (.int (g i j) s.toks) { s with toks := s.toks + 1 } → wpAny (model X.prog X.w) X.A (f (.int i t) (.int j u)) Q E s) :
    OpR X f (rI C fun i j => .int (g i j)) := by
  intro pins s σ H x y v u Q I rx ry h
  obtain ⟨i, j, rfl, rfl, hc, q⟩ := h
  obtain ⟨t, rfl⟩ := rx
  obtain ⟨t', rfl⟩ := ry
  exact rule i j t t' s _ _ hc ⟨.int (g i j), H, I.tok _, ⟨_, rfl⟩, q⟩
theorem opI0 {f : Value → Value → Sem Value} {g : Int → Int → Int}
    (rule : ∀ (i j : Int) (t u : Tok) (s : Shared) (Q : Value → Shared → Prop) (E : Value → Shared → Prop), Q (.int (g i j) s.toks) { s with toks := s.toks + 1 } → wpAny (model X.prog X.w) X.A (f (.int i t) (.int j u)) Q E s) :
    OpR X f (rI0 fun i j => .int (g i j)) := by
  intro pins s σ H x y v u Q I rx ry h
  obtain ⟨i, j, rfl, rfl, q⟩ := h
  obtain ⟨t, rfl⟩ := rx
  obtain ⟨t', rfl⟩ := ry
  exact rule i j t t' s _ _ ⟨.int (g i j), H, I.tok _, ⟨_, rfl⟩, q⟩
theorem opB0 {f : Value → Value → Sem Value} {g : Int → Int → Bool}
    (rule : ∀ (i j : Int) (t u : Tok) (s : Shared) (Q : Value → Shared → Prop) (E : Value → Shared → Prop), Q (.bool (g i j)) s → wpAny (model X.prog X.w) X.A (f (.int i t) (.int j u)) Q E s) :
    OpR X f (rI0 fun i j => .bl (g i j)) := by
  intro pins s σ H x y v u Q I rx ry h
  obtain ⟨i, j, rfl, rfl, q⟩ := h
  obtain ⟨t, rfl⟩ := rx
  obtain ⟨t', rfl⟩ := ry
  exact rule i j t t' s _ _ ⟨.bl (g i j), H, I, rfl, q⟩

def CDiv (i j : Int) : Prop := 0 < j ∧ j < 1073741824
def CDivN (i j : Int) : Prop := j ≠ 0 ∧ j.natAbs < 1073741824
def CPow (i j : Int) : Prop := 0 ≤ j ∧ j ≤ 1000000 ∧ i.natAbs < 2 ^ 64
def CMul (i j : Int) : Prop := (-(2 ^ 64) < i ∧ i < 2 ^ 64) ∨ (-(2 ^ 64) < j ∧ j < 2 ^ 64)
theorem CMul.ok {i j : Int} (h : CMul i j) : IntMulOk i j := by
  rcases h with ⟨h1, h2⟩ | ⟨h1, h2⟩
  · exact .of_left (intBits_le_64 h1 h2)
  · exact .of_right (intBits_le_64 h1 h2)
theorem op_add : OpR X (binaryOp .Add) (rI0 fun i j => .int (i + j)) := opI0 fun _ _ _ _ _ _ _ q => add_int q
theorem op_sub : OpR X (binaryOp .Sub) (rI0 fun i j => .int (i - j)) := opI0 fun _ _ _ _ _ _ _ q => sub_int q
theorem op_mul : OpR X (binaryOp .Mult) (rI CMul fun i j => .int (i * j)) := opI fun _ _ _ _ _ _ _ hc q => mul_int q hc.ok
/-- // by a positive divisor -/
theorem op_fdiv : OpR X (binaryOp .FloorDiv) (rI CDiv fun i j => .int (i / j)) := opI fun i j _ _ _ _ _ hc q => by
  have h1 : (0 : Int) < j := hc.1
  have h2 : j < 1073741824 := hc.2
  exact floordiv_int (by omega) (by rw [Int.fdiv_eq_ediv_of_nonneg i (by omega)]; exact q) (.inl (PyProof.noPylong_small (by omega)))
/-- % by a positive divisor of any size -/
theorem op_mod : OpR X (binaryOp .Mod) (rI (fun _ j => 0 < j) fun i j => .int (i % j)) := opI fun i j _ _ _ _ _ hc q => by
  have h1 : (0 : Int) < j := hc
  exact mod_int' (by omega) (by rw [Int.fmod_eq_emod_of_nonneg i (by omega)]; exact q)
theorem iop_mul : OpR X (inplaceOp .Mult) (rI CMul fun i j => .int (i * j)) := opI fun _ _ _ _ _ _ _ hc q => imul_int q hc.ok
theorem unI {f : Value → Sem Value} {g : Int → Int}
    (rule : ∀ (i : Int) (t : Tok) (s : Shared) (Q : Value → Shared → Prop) (E : Value → Shared → Prop), Q (.int (g i) s.toks) { s with toks := s.toks + 1 } → wpAny (model X.prog X.w) X.A (f (.int i t)) Q E s) :
    UnR X f (rU fun i => .int (g i)) := by
  intro pins s σ H x v Q I rx h
  obtain ⟨i, rfl, q⟩ := h
  obtain ⟨t, rfl⟩ := rx
  exact rule i t s _ _ ⟨.int (g i), H, I.tok _, ⟨_, rfl⟩, q⟩
theorem un_neg : UnR X (unaryOp .USub) (rU fun i => .int (-i)) := unI fun _ _ _ _ _ q => neg_int q
/-! ### bools among ints: n += (a < b) -/
end

/-! ### comparisons -/
/-- the scalars that == tells apart as data does -/
def scal : V → V → Bool
  | .non, .non => true | .non, .int _ => true | .int _, .non => true | .non, .bl _ => true | .bl _, .non => true | .non, .str _ => true | .str _, .non => true
  | .int _, .int _ => true | .bl _, .bl _ => true | .str _, .str _ => true | .byt _, .byt _ => true
  | .int _, .str _ => true | .str _, .int _ => true | .bl _, .str _ => true | .str _, .bl _ => true
  | _, _ => false
def rEq : R2 := fun x y H Q => scal x y = true ∧ Q (.bl (decide (x = y))) H
def rNe : R2 := fun x y H Q => scal x y = true ∧ Q (.bl (!decide (x = y))) H

theorem dec_int {i j : Int} : decide (V.int i = V.int j) = (i == j) := by
  rw [Bool.eq_iff_iff]
  simp
theorem dec_bl {i j : Bool} : decide (V.bl i = V.bl j) = (i == j) := by
  rw [Bool.eq_iff_iff]
  simp
theorem dec_str {i j : Str} : decide (V.str i = V.str j) = (i == j) := by
  rw [Bool.eq_iff_iff]
  simp
theorem dec_byt {i j : Array UInt8} : decide (V.byt i = V.byt j) = (i.toList == j.toList) := by
  rw [Bool.eq_iff_iff]
  cases i
  cases j
  simp

section
variable {X : Cx} {a b c : Expr} {ta tb tc : TE} {pos : Pos}
theorem fin_bl {pins : List (Addr × Obj)} {σ : St} {H : Hp} {s : Shared} {Q : VK} {k k' : Bool} (I : Inv X pins σ H s) (q : Q (.bl k) H) (e : k = k') : EP X pins σ Q (.bool k') s := by
  subst e
  exact ⟨.bl k, H, I, rfl, q⟩
theorem op_eq : OpR X (compareOp .Eq) rEq := by
  intro pins s σ H x y v u Q I rx ry h
  obtain ⟨hs, q⟩ := h
  cases x with
  | non =>
    cases rx
    cases y with
    | non => cases ry; exact PySem.EqNone.eq_none_none (fin_bl I q (by simp))
    | bl j => cases ry; exact PySem.EqNone.eq_none_bool (fin_bl I q (by simp))
    | int j => obtain ⟨t', rfl⟩ := ry; exact PySem.EqNone.eq_none_int (fin_bl I q (by simp))
    | str j => obtain ⟨t', rfl⟩ := ry; exact PySem.EqNone.eq_none_str (fin_bl I q (by simp))
    | _ => exact absurd (show false = true from hs) Bool.false_ne_true
  | bl i =>
    cases rx
    cases y with
    | non => cases ry; exact PySem.EqNone.eq_bool_none (fin_bl I q (by simp))
    | bl j => cases ry; exact eq_bool (fin_bl I q dec_bl)
    | str j => obtain ⟨t', rfl⟩ := ry; exact PySem.EqMixed.eq_bool_str (fin_bl I q (by simp))
    | _ => exact absurd (show false = true from hs) Bool.false_ne_true
  | int i =>
    obtain ⟨t, rfl⟩ := rx
    cases y with
    | non => cases ry; exact PySem.EqNone.eq_int_none (fin_bl I q (by simp))
    | int j => obtain ⟨t', rfl⟩ := ry; exact eq_int (fin_bl I q dec_int)
    | str j => obtain ⟨t', rfl⟩ := ry; exact PySem.EqMixed.eq_int_str (fin_bl I q (by simp))
    | _ => exact absurd (show false = true from hs) Bool.false_ne_true
  | str i =>
    obtain ⟨t, rfl⟩ := rx
    cases y with
    | non => cases ry; exact PySem.EqNone.eq_str_none (fin_bl I q (by simp))
    | bl j => cases ry; exact PySem.EqMixed.eq_str_bool (fin_bl I q (by simp))
    | int j => obtain ⟨t', rfl⟩ := ry; exact PySem.EqMixed.eq_str_int (fin_bl I q (by simp))
    | str j => obtain ⟨t', rfl⟩ := ry; exact eq_str (fin_bl I q dec_str)
    | _ => exact absurd (show false = true from hs) Bool.false_ne_true
  | byt i =>
    obtain ⟨t, rfl⟩ := rx
    cases y with
    | byt j => obtain ⟨t', rfl⟩ := ry; exact PySem.W.eq_bytes (fin_bl I q dec_byt)
    | _ => exact absurd (show false = true from hs) Bool.false_ne_true
  | _ => cases y <;> exact absurd (show false = true from hs) Bool.false_ne_true
theorem op_ne : OpR X (compareOp .NotEq) rNe := by
  intro pins s σ H x y v u Q I rx ry h
  obtain ⟨hs, q⟩ := h
  cases x with
  | non =>
    cases rx
    cases y with
    | non => cases ry; exact PySem.EqNone.ne_none_none (fin_bl I q (by simp))
    | bl j => cases ry; exact PySem.EqNone.ne_none_bool (fin_bl I q (by simp))
    | int j => obtain ⟨t', rfl⟩ := ry; exact PySem.EqNone.ne_none_int (fin_bl I q (by simp))
    | str j => obtain ⟨t', rfl⟩ := ry; exact PySem.EqNone.ne_none_str (fin_bl I q (by simp))
    | _ => exact absurd (show false = true from hs) Bool.false_ne_true
  | bl i =>
    cases rx
    cases y with
    | non => cases ry; exact PySem.EqNone.ne_bool_none (fin_bl I q (by simp))
    | bl j => cases ry; exact ne_bool (fin_bl I q (congrArg not dec_bl))
    | str j => obtain ⟨t', rfl⟩ := ry; exact PySem.EqMixed.ne_bool_str (fin_bl I q (by simp))
    | _ => exact absurd (show false = true from hs) Bool.false_ne_true
  | int i =>
    obtain ⟨t, rfl⟩ := rx
    cases y with
    | non => cases ry; exact PySem.EqNone.ne_int_none (fin_bl I q (by simp))
    | int j => obtain ⟨t', rfl⟩ := ry; exact ne_int (fin_bl I q (congrArg not dec_int))
    | str j => obtain ⟨t', rfl⟩ := ry; exact PySem.EqMixed.ne_int_str (fin_bl I q (by simp))
    | _ => exact absurd (show false = true from hs) Bool.false_ne_true
  | str i =>
    obtain ⟨t, rfl⟩ := rx
    cases y with
    | non => cases ry; exact PySem.EqNone.ne_str_none (fin_bl I q (by simp))
    | bl j => cases ry; exact PySem.EqMixed.ne_str_bool (fin_bl I q (by simp))
    | int j => obtain ⟨t', rfl⟩ := ry; exact PySem.EqMixed.ne_str_int (fin_bl I q (by simp))
    | str j => obtain ⟨t', rfl⟩ := ry; exact ne_str (fin_bl I q (congrArg not dec_str))
    | _ => exact absurd (show false = true from hs) Bool.false_ne_true
  | byt i =>
    obtain ⟨t, rfl⟩ := rx
    cases y with
    | byt j => obtain ⟨t', rfl⟩ := ry; exact PySem.W.ne_bytes (fin_bl I q (congrArg not dec_byt))
    | _ => exact absurd (show false = true from hs) Bool.false_ne_true
  | _ => cases y <;> exact absurd (show false = true from hs) Bool.false_ne_true

theorem op_lt : OpR X (compareOp .Lt) (rI0 fun i j => .bl (decide (i < j))) := opB0 fun _ _ _ _ _ _ _ q => lt_int q
theorem op_le : OpR X (compareOp .LtE) (rI0 fun i j => .bl (decide (i ≤ j))) := opB0 fun _ _ _ _ _ _ _ q => le_int q
theorem op_gt : OpR X (compareOp .Gt) (rI0 fun i j => .bl (decide (j < i))) := opB0 fun _ _ _ _ _ _ _ q => gt_int q
theorem op_ge : OpR X (compareOp .GtE) (rI0 fun i j => .bl (decide (j ≤ i))) := opB0 fun _ _ _ _ _ _ _ q => ge_int q
/-- is, is not of two objects that are tracked lists or instances -/
def isObj : HO → Bool
  | .lst _ => true
  | .ins _ _ _ => true
  | _ => false
theorem nomark (b : Expr) {op : CmpOp} (h : op ≠ .In := by decide) (h2 : op ≠ .NotIn := by decide) : behindInMarks op b = false := by
  have e1 : (op == CmpOp.In) = false := by cases op <;> first | rfl | exact absurd rfl h
  have e2 : (op == CmpOp.NotIn) = false := by cases op <;> first | rfl | exact absurd rfl h2
  cases b <;> simp [behindInMarks, e1, e2]
/-- a comparison as a value; hm: nomark b, or (for in, not in) by with_unfolding_all rfl -/
theorem pe_cmpR {op : CmpOp} {r : R2} (ho : OpR X (compareOp op) r) (ha : PE X a ta) (hb : PE X b tb) (hm : behindInMarks op b = false) : PE X (.Compare a [op] [b] pos) (tOp r ta tb) := by
  intro pins s σ H Q I h
  exact wpAny_Compare1 (binT ha hb I h fun v u s2 x y H2 I2 rx ry q => ho pins s2 σ H2 x y v u Q I2 rx ry q) hm
/-- a reading of a value as a test -/
def tTest (t : TE) : TT := fun σ H Q => t σ H fun x H' => ∃ k, x = .bl k ∧ Q k H'
theorem pt_cmpR {op : CmpOp} {r : R2} (ho : OpR X (compareOp op) r) (ha : PE X a ta) (hb : PE X b tb) (hm : behindInMarks op b = false) : PT X (.Compare a [op] [b] pos) (tTest (tOp r ta tb)) := by
  intro pins s σ H Q I h
  refine wpAny_isTrue_Compare1 (thn (ha pins s σ H _ I h) fun v s1 ⟨x, H1, I1, r1, q1⟩ => thn (hb pins s1 σ H1 _ I1 q1) fun u s2 ⟨y, H2, I2, r2, q2⟩ =>
    thn (ho pins s2 σ H2 x y v u _ I2 r1 r2 q2) fun c s3 ⟨z, H3, I3, r3, k, e, q3⟩ => ?_) hm
  subst e
  cases r3
  exact wpAny_truthy_bool ⟨H3, I3, q3⟩
/-- a op1 b op2 c -/
def tChain (r r' : R2) (ta tb tc : TE) : TE := fun σ H Q => ta σ H fun x H1 => tb σ H1 fun y H2 => r x y H2 fun z H3 => ∃ k, z = .bl k ∧
  (if k = true then tc σ H3 fun w' H4 => r' y w' H4 Q else Q (.bl false) H3)
theorem pe_chain {op op' : CmpOp} {r r' : R2} (ho : OpR X (compareOp op) r) (ho' : OpR X (compareOp op') r') (ha : PE X a ta) (hb : PE X b tb) (hc : PE X c tc)
    (hm : lastMarks [op, op'] [b, c] = false := by with_unfolding_all rfl) : PE X (.Compare a [op, op'] [b, c] pos) (tChain r r' ta tb tc) := by
  intro pins s σ H Q I h
  refine Compare_chain (thn (ha pins s σ H _ I h) fun v s1 ⟨x, H1, I1, r1, q1⟩ => chain_link (thn (hb pins s1 σ H1 _ I1 q1) fun u s2 ⟨y, H2, I2, r2, q2⟩ =>
    thn (ho pins s2 σ H2 x y v u _ I2 r1 r2 q2) fun d s3 ⟨z, H3, I3, r3, k, e, q3⟩ => ?_)) hm
  subst e
  cases r3
  refine wpAny_truthy_bool ?_
  cases k with
  | false => exact ite_ff ⟨.bl false, H3, I3, rfl, q3⟩
  | true => exact ite_tt (chain_last (thn (hc pins s3 σ H3 _ I3 q3) fun w' s4 ⟨z', H4, I4, r4, q4⟩ => ho' pins s4 σ H4 y z' u w' Q I4 r2 r4 q4))
theorem pt_chain {op op' : CmpOp} {r r' : R2} (ho : OpR X (compareOp op) r) (ho' : OpR X (compareOp op') r') (ha : PE X a ta) (hb : PE X b tb) (hc : PE X c tc)
    (hm : lastMarks [op, op'] [b, c] = false := by with_unfolding_all rfl) : PT X (.Compare a [op, op'] [b, c] pos) (tTest (tChain r r' ta tb tc)) := by
  intro pins s σ H Q I h
  refine isTrue_chain (thn (ha pins s σ H _ I h) fun v s1 ⟨x, H1, I1, r1, q1⟩ => test_link (thn (hb pins s1 σ H1 _ I1 q1) fun u s2 ⟨y, H2, I2, r2, q2⟩ =>
    thn (ho pins s2 σ H2 x y v u _ I2 r1 r2 q2) fun d s3 ⟨z, H3, I3, r3, k, e, q3⟩ => ?_)) hm
  subst e
  cases r3
  refine wpAny_truthy_bool ?_
  cases k with
  | false =>
    obtain ⟨k', e', q'⟩ := q3
    cases e'
    exact ite_ff ⟨H3, I3, q'⟩
  | true =>
    refine ite_tt (test_last (thn (hc pins s3 σ H3 _ I3 q3) fun w' s4 ⟨z', H4, I4, r4, q4⟩ => thn (ho' pins s4 σ H4 y z' u w' _ I4 r2 r4 q4) fun d' s5 ⟨z2, H5, I5, r5, k2, e2, q5⟩ => ?_))
    subst e2
    cases r5
    exact wpAny_truthy_bool ⟨H5, I5, q5⟩

/-! ### truth -/
/-- a value's truth by the abstract heap -/
def TruV (K : PySem.W.Frag) (x : V) (H : Hp) (k : Bool) : Prop :=
  match x with
  | .non => k = false
  | .bl b => k = b
  | .int i => k = (i != 0)
  | .str y => y.length ≤ sizeLine ∧ k = ((y.length : Int) != 0)
  | .byt y => y.size ≤ sizeLine ∧ k = ((y.size : Int) != 0)
  | .ref p => (∃ xs, SqL K H p xs ∧ k = !xs.isEmpty) ∨ (∃ xs, SqT K H p xs ∧ k = !xs.isEmpty) ∨ ∃ kvs, H p = some (.dK kvs) ∧ k = !kvs.isEmpty
  | _ => False
theorem line63 : (sizeLine : Nat) < 2 ^ 63 := by rw [sizeLine_eq]; decide
/-! ### strs and bytes -/
def PlainIxT (b : Expr) : Prop := ∀ o i, subscripted b false o i = operate [o, i] (getItem o i)
/-! ### scalar builtins, by CallR -/
theorem vals1 {x : V} {us : List Value} (r : Vals [x] us) : ∃ u, us = [u] ∧ RelV x u := by
  cases r with
  | cons r1 r2 => cases r2; exact ⟨_, rfl, r1⟩
/-- len of a str, a bytes, a list, a tuple -/
def LenV (K : PySem.W.Frag) (x : V) (H : Hp) (n : Nat) : Prop :=
  match x with
  | .str y => y.length ≤ sizeLine ∧ n = y.length
  | .byt y => y.size ≤ sizeLine ∧ n = y.size
  | .ref p => (∃ xs, SqL K H p xs ∧ n = xs.length) ∨ ∃ xs, SqT K H p xs ∧ n = xs.length
  | _ => False
end
end L2

namespace L2
open PySem PySem.Spec PyProof.Rows

/-! ### an instance, its attributes a map -/
structure ObjM (h : Heap) (x dx C : Addr) (mA : Str → Option Value) : Prop where
  obj : h.get? x = some (PySem.W.instObj C dx)
  ns : h.Ns1 dx mA
  ne : dx ≠ x

theorem lookIn_ns {h : Heap} {dx : Addr} {mA : Str → Option Value} (n : h.Ns1 dx mA) : ∃ od, h.get? dx = some od ∧ ∀ name, PySem.W.lookIn name od = some (mA name) := by
  obtain ⟨o, es, ep, ho, hd, hk, _, hm⟩ := n
  refine ⟨o, ho, fun name => ?_⟩
  have e := hm name
  unfold nsFind findBy at e
  rw [← Array.find?_toList] at e
  unfold PySem.W.lookIn
  rw [hd]
  dsimp only
  split
  · rename_i y q
    rw [q] at e
    exact congrArg some e
  · rename_i q
    rw [q] at e
    have a : es.toList.any (·.refKey) = false := by
      rw [List.any_eq_false]
      intro y hy
      obtain ⟨z, t, hkey⟩ := hk y (Array.mem_toList_iff.mp hy)
      simp [DictEntry.refKey, hkey]
    have a' : ¬ es.toList.any (·.refKey) = true := by rw [a]; exact Bool.false_ne_true
    rw [if_neg a']
    exact congrArg some e

theorem ObjM.look {h : Heap} {x dx C : Addr} {mA : Str → Option Value} (I : ObjM h x dx C mA) : ∃ od, PySem.W.InstAt h x (PySem.W.instObj C dx) C (some od) ∧ ∀ name, PySem.W.lookIn name od = some (mA name) :=
  let ⟨od, ho, hl⟩ := lookIn_ns I.ns
  ⟨od, ⟨I.obj, rfl, rfl, ho⟩, hl⟩

section
variable {prog : Program} {w : World} {A : Around} {E : Value → Shared → Prop} {s : Shared} {K : PySem.W.Frag} {x dx C f : Addr} {mA : Str → Option Value} {name : Str} {v : Value}

theorem get_map {expr : Bool} {Q : Value → Shared → Prop} (X : K.In s.heap) (I : ObjM s.heap x dx C mA) (hg : PySem.W.plainGet K C name = true) (hh : PySem.W.hasDictIn K C = true)
    (ha : PySem.W.findIn K (.ref C) name = some none) (hv : mA name = some v) (hv' : PySem.W.handedIn v = true) (h : Q v { s with toks := s.toks + 1 }) :
    wpAny (model prog w) A (getAttr (.ref x) name expr) Q E s := by
  obtain ⟨od, J, hl⟩ := I.look
  exact PySem.W.get_value X J (PySem.W.plainGet_of hg).1 (PySem.W.findObj_own hh ha rfl (by rw [hl, hv])) hv' h

theorem set_map {ns : List Str} {Q : Unit → Shared → Prop} (X : K.In s.heap) (I : ObjM s.heap x dx C mA)
    (hs : PySem.W.findIn K (.ref C) "__setattr__" = some (some (.builtin "object.__setattr__"))) (hp : PySem.W.plainOver K C = true) (ht : PySem.W.takerIn K C name = some none) (hh : PySem.W.hasDictIn K C = true)
    (hw : PySem.Within mA ns) (hsz : ns.length ≤ sizeLine)
    (h : ∀ h', ObjM h' x dx C (fun y => if y = name then some v else mA y) → Heap.SameBut dx s.heap h' → Q () { s with heap := h', toks := s.toks + 2 }) :
    wpAny (model prog w) A (setAttr (.ref x) name v) Q E s := by
  obtain ⟨od, J, hl⟩ := I.look
  refine PySem.W.set_plain X J hs (PySem.W.osa_open (s := { s with toks := s.toks + 1 }) (r := none) X J hp ht fun b => ?_)
  obtain ⟨cd, hc, hd'⟩ := PySem.W.any_some hh
  have hx : s.heap.get? x = some ⟨.ref C, some dx, .plain, #[]⟩ := I.obj
  refine wpAny_bind (wpAny_pure (wpAny_bind (wpAny_bind (wpAny_loadPart hx (wpAny_bind (PySem.W.Looks.here (s := { s with toks := s.toks + 1 }) (PySem.W.looks_clsIn X hc) ?_))))))
  rw [hd']
  refine wpAny_pure (a := some dx) (wpAny_bind (wpAny_pure (wpAny_bind ?_)))
  refine wpAny_nsSet1 (s := { s with toks := s.toks + 1 }) I.ns fun h' hn2 hs2 => ?_
  obtain ⟨oD, esD, epD, hoD, hdD, hcD⟩ := hn2.count (PySem.Within.cons name v hw)
  refine wpAny_bind (wpAny_lookBehind hoD (by rw [hdD]; exact pastItsLine_dict (Nat.le_trans hcD (by rw [List.length_cons]; omega))) ?_)
  exact wpAny_pure (h _ ⟨(hs2.2 _ (Ne.symm I.ne)).trans I.obj, hn2, I.ne⟩ hs2)

/-- C(..): the dict at the heap's end, the instance behind it; then its __init__ -/
theorem make_map {R : Result → Shared → Prop} {vs : List Value} {kw : List (Str × Value)} (X : K.In s.heap) (hm : PySem.W.makesIn K C = true)
    (hi : PySem.W.findIn K (.ref C) "__init__" = some (some (.ref f))) (hf : PySem.W.typeIn K (.ref f) = some (.type "function"))
    (h : codeAny (model prog w) (A.under (.builtin "type.__call__" ⟨.ref C :: vs, kw⟩)) (.call (.ref f) ⟨.ref (s.heap.objs.size + 1) :: vs, kw⟩) (PySem.W.InitBack (s.heap.objs.size + 1) R)
      { s with heap := (s.heap.push PySem.W.emptyDict).push (PySem.W.instObj C s.heap.objs.size) }) :
    codeAny (model prog w) A (.call (.ref C) ⟨vs, kw⟩) R s := by
  obtain ⟨hh, g, d, t, os⟩ := s
  exact PySem.W.make_core (PySem.W.makes_of X hm) (PySem.W.looks_findIn X hi) (fun self => PySem.W.bind_fn X self hf) (.inl rfl) h
end

/-! ### the attributes as a list of pairs -/
def putF (f : Str) (v : V) : List (Str × V) → List (Str × V)
  | [] => [(f, v)]
  | (g, x) :: r => if g = f then (g, v) :: r else (g, x) :: putF f v r
theorem lookup_putF (f g : Str) (v : V) : ∀ fs : List (Str × V), (putF f v fs).lookup g = if g = f then some v else fs.lookup g
  | [] => by
    show List.lookup g [(f, v)] = _
    by_cases h : g = f
    · have hb : (g == f) = true := beq_iff_eq.mpr h
      simp only [List.lookup, hb, if_pos h]
    · have hb : (g == f) = false := beq_eq_false_iff_ne.mpr h
      simp only [List.lookup, hb, if_neg h]
  | (k, x) :: r => by
    have ih := lookup_putF f g v r
    rw [show putF f v ((k, x) :: r) = (if k = f then (k, v) :: r else (k, x) :: putF f v r) from rfl]
    by_cases hk : k = f
    · rw [if_pos hk]
      by_cases h : g = k
      · have hb : (g == k) = true := beq_iff_eq.mpr h
        simp only [List.lookup, hb, if_pos (h.trans hk)]
      · have hb : (g == k) = false := beq_eq_false_iff_ne.mpr h
        simp only [List.lookup, hb, if_neg (fun e : g = f => h (e.trans hk.symm))]
    · rw [if_neg hk]
      by_cases h : g = k
      · have hb : (g == k) = true := beq_iff_eq.mpr h
        simp only [List.lookup, hb, if_neg (fun e : g = f => hk (h.symm.trans e))]
      · have hb : (g == k) = false := beq_eq_false_iff_ne.mpr h
        simp only [List.lookup, hb]
        exact ih
theorem keys_putF (f : Str) (v : V) : ∀ fs : List (Str × V), f ∈ (putF f v fs).map (·.1) ∧ ∀ g, g ∈ fs.map (·.1) → g ∈ (putF f v fs).map (·.1)
  | [] => ⟨by simp [putF], fun g h => by simp at h⟩
  | (k, x) :: r => by
    obtain ⟨i1, i2⟩ := keys_putF f v r
    rw [show putF f v ((k, x) :: r) = (if k = f then (k, v) :: r else (k, x) :: putF f v r) from rfl]
    by_cases hk : k = f
    · rw [if_pos hk]
      subst hk
      exact ⟨by simp, fun g h => by simpa using h⟩
    · rw [if_neg hk]
      refine ⟨?_, fun g h => ?_⟩
      · rw [List.map_cons]
        exact List.mem_cons_of_mem _ i1
      · rw [List.map_cons] at h ⊢
        rcases List.mem_cons.mp h with e | e
        · exact List.mem_cons.mpr (.inl e)
        · exact List.mem_cons_of_mem _ (i2 g e)
theorem length_putF (f : Str) (v : V) : ∀ fs : List (Str × V), (putF f v fs).length ≤ fs.length + 1
  | [] => by simp [putF]
  | (k, x) :: r => by
    have ih := length_putF f v r
    rw [show putF f v ((k, x) :: r) = (if k = f then (k, v) :: r else (k, x) :: putF f v r) from rfl]
    by_cases hk : k = f
    · rw [if_pos hk, List.length_cons, List.length_cons]; omega
    · rw [if_neg hk, List.length_cons, List.length_cons]; omega

theorem RelO.some_of {v : V} {o : Option Value} (r : RelO (some v) o) : ∃ u, o = some u ∧ RelV v u := by
  cases o with
  | none => exact (show False from r).elim
  | some u => exact ⟨u, rfl, r⟩
theorem handed_of {v : V} {u : Value} (r : RelV v u) : PySem.W.handedIn u = true := by
  cases v with
  | non => cases (show u = Value.none from r); rfl
  | bl b => cases (show u = Value.bool b from r); rfl
  | int i => obtain ⟨t, e⟩ := (show ∃ t, u = Value.int i t from r); cases e; rfl
  | str x => obtain ⟨t, e⟩ := (show ∃ t, u = Value.str x t from r); cases e; rfl
  | byt b => obtain ⟨t, e⟩ := (show ∃ t, u = Value.bytes b t from r); cases e; rfl
  | flt b => obtain ⟨t, e⟩ := (show ∃ t, u = Value.float b t from r); cases e; rfl
  | ref a => cases (show u = Value.ref a from r); rfl
  | ty n => cases (show u = Value.type n from r); rfl

section
variable {P : Program} {w : World} {H H' : Hp} {h h' : Heap} {a C dx : Addr} {fs fs' : List (Str × V)}
theorem ins_get (hok : HOk P w H h) (e : H a = some (.ins C dx fs)) : ∃ mA, ObjM h a dx C mA ∧ (∀ f, RelO (fs.lookup f) (mA f)) ∧ PySem.Within mA (fs.map (·.1)) ∧ fs.length ≤ 1000 ∧ H dx = some (.own a) := by
  obtain ⟨d, z, ne, ob, mA, n, r, q⟩ := (show ObjOk P w H h a (.ins C dx fs) from hok a _ e)
  exact ⟨mA, ⟨ob, n, ne⟩, r, q, z, d⟩
end

/-! ### what of the text a class must have -/
structure Cls (K : PySem.W.Frag) (C : Addr) : Prop where
  pg : PySem.W.plainGet K C Str.empty = true
  hd : PySem.W.hasDictIn K C = true
  po : PySem.W.plainOver K C = true
  sa : PySem.W.findIn K (.ref C) "__setattr__" = some (some (.builtin "object.__setattr__"))
theorem Cls.get {K : PySem.W.Frag} {C : Addr} (c : Cls K C) (f : Str) : PySem.W.plainGet K C f = true := c.pg
/-- no class of it has the name -/
def NoAttr (K : PySem.W.Frag) (C : Addr) (f : Str) : Prop := PySem.W.findIn K (.ref C) f = some none
theorem NoAttr.taker {K : PySem.W.Frag} {C : Addr} {f : Str} (n : NoAttr K C f) : PySem.W.takerIn K C f = some none := by
  unfold PySem.W.takerIn
  rw [show PySem.W.findIn K (.ref C) f = some none from n]
  rfl
/-- a constant of the class -/
structure Con (K : PySem.W.Frag) (C : Addr) (f : Str) (v : V) (u : Value) : Prop where
  at_ : PySem.W.findIn K (.ref C) f = some (some u)
  rel : RelV v u
  get : PySem.W.specialIn K u "__get__" = some none
  cp : PySem.W.copiedNames.contains f = false
/-- a method: a plain def of the class or of one above it -/
structure Meth (K : PySem.W.Frag) (C : Addr) (m : Str) (f : Addr) : Prop where
  at_ : PySem.W.findIn K (.ref C) m = some (some (.ref f))
  fn : PySem.W.isFn K (.ref f) = true
  kp : PySem.W.keepIn K (.ref f) = true

section
variable {X : Cx} {pins : List (Addr × Obj)} {σ : St} {H : Hp} {s : Shared} {a C dx : Addr} {fs : List (Str × V)} {f : Str} {v : V} {A : Around} {E : Value → Shared → Prop}

theorem getattr_ok {b : Bool} {Q : Value → Shared → Prop} (I : Inv X pins σ H s) (e : H a = some (.ins C dx fs)) (c : Cls X.K C) (n : NoAttr X.K C f) (l : fs.lookup f = some v)
    (h : ∀ u s', Inv X pins σ H s' → RelV v u → Q u s') : wpAny (model X.prog X.w) A (getAttr (.ref a) f b) Q E s := by
  obtain ⟨mA, O, r, _, _, _⟩ := ins_get I.hok e
  obtain ⟨u, hu, ru⟩ := RelO.some_of (v := v) (o := mA f) (by rw [← l]; exact r f)
  exact get_map I.kIn O (c.get f) c.hd n hu (handed_of ru) (h u _ (I.tok _) ru)

theorem setattr_ok {y : V} {u : Value} {Q : Unit → Shared → Prop} (I : Inv X pins σ H s) (e : H a = some (.ins C dx fs)) (c : Cls X.K C) (n : NoAttr X.K C f) (hl : fs.length < 1000) (ry : RelV y u)
    (h : ∀ s', Inv X pins σ (upd H a (.ins C dx (putF f y fs))) s' → Q () s') : wpAny (model X.prog X.w) A (setAttr (.ref a) f u) Q E s := by
  obtain ⟨mA, O, r, wi, _, ho⟩ := ins_get I.hok e
  have hz : (fs.map (·.1)).length ≤ sizeLine := by rw [List.length_map, sizeLine_eq]; omega
  refine set_map I.kIn O c.sa c.po n.taker c.hd wi hz fun h' O' sb => h _ ?_
  have hd : ∃ o, h'.get? dx = some o := let ⟨o, _, _, e', _⟩ := O'.ns; ⟨o, e'⟩
  refine I.write (x := a) (e := dx) (by rw [e]; exact True.intro) (.inr ho) (fun b q hb z => (sb.2 b hb).trans z) hd ?_
  refine ⟨by rw [upd_ne O.ne]; exact ho, ?_, O.ne, O'.obj, _, O'.ns, fun g => ?_, fun g hg => ?_⟩
  · have := length_putF f y fs; omega
  · show RelO ((putF f y fs).lookup g) (if g = f then some u else mA g)
    rw [lookup_putF]
    by_cases q : g = f
    · rw [if_pos q, if_pos q]; exact ry
    · rw [if_neg q, if_neg q]; exact r g
  · by_cases q : g = f
    · rw [q]; exact (keys_putF f y fs).1
    · refine (keys_putF f y fs).2 g (wi g fun z => hg ?_)
      show (if g = f then some u else mA g) = none
      rw [if_neg q]; exact z

/-- a new instance, tracked, without attributes -/
theorem Inv.made (I : Inv X pins σ H s) : Inv X pins σ (upd (upd H s.heap.objs.size (.own (s.heap.objs.size + 1))) (s.heap.objs.size + 1) (.ins C s.heap.objs.size []))
    { s with heap := (s.heap.push PySem.W.emptyDict).push (PySem.W.instObj C s.heap.objs.size) } := by
  have e1 : (s.heap.push PySem.W.emptyDict).get? s.heap.objs.size = some PySem.W.emptyDict := Heap.get?_push_size s.heap rfl
  have e2 : ((s.heap.push PySem.W.emptyDict).push (PySem.W.instObj C s.heap.objs.size)).get? (s.heap.objs.size + 1) = some (PySem.W.instObj C s.heap.objs.size) := by
    have := Heap.get?_push_size (s.heap.push PySem.W.emptyDict) (o := PySem.W.instObj C s.heap.objs.size) rfl
    rwa [Heap.size_push] at this
  have e3 : (s.heap.push PySem.W.emptyDict).Ns s.heap.objs.size (fun _ => none) := ⟨PySem.W.emptyDict, #[], _, e1, rfl, (fun e he => absurd he (by simp)), fun _ => rfl⟩
  have I1 := I.laid (a := s.heap.objs.size) (o := .own (s.heap.objs.size + 1)) (h' := s.heap.push PySem.W.emptyDict) (t' := s.toks) (fun b u q => Heap.get?_push_of_some _ q) (Nat.le_refl _) ⟨_, e1⟩
  refine I1.laid (a := s.heap.objs.size + 1) (o := .ins C s.heap.objs.size []) (t' := s.toks) (fun b u q => Heap.get?_push_of_some _ q) (Nat.le_of_eq (Heap.size_push _ _)) ?_
  have ne : s.heap.objs.size ≠ s.heap.objs.size + 1 := Nat.ne_of_lt (Nat.lt_succ_self _)
  refine ⟨by rw [upd_ne ne, upd_same], Nat.zero_le _, ne, e2, fun _ => none, (Heap.Ns1.of_empty e3).at fun o q => Heap.get?_push_of_some _ q, fun _ => True.intro, fun y hy => absurd rfl hy⟩

/-- e.f where nothing but the object is asked: through attributeBase (super) and the last hold -/
theorem attr_of {prog : Program} {w : World} {env : Env} {e : Expr} {f : Str} {pos : Pos} {s : Shared} {Q : Value → Shared → Prop} (hb : attributeBase e f env (eval e env) = eval e env)
    (h : wpAny (model prog w) A (eval e env) (fun o s₁ => wpAny (model prog w) A (getAttr o f true) Q E s₁) E s) : wpAny (model prog w) A (eval (.Attribute e f pos) env) Q E s :=
  Attribute_any_ h (by rw [arm_eval_Attribute, hb])
end

/-! ### readings and rules -/
/-- e.f, an attribute of the instance -/
def tFld (K : PySem.W.Frag) (ta : TE) (f : Str) : TE := fun σ H Q => ta σ H fun x H1 => ∃ a C dx fs v, x = .ref a ∧ H1 a = some (.ins C dx fs) ∧ Cls K C ∧ NoAttr K C f ∧ fs.lookup f = some v ∧ Q v H1
/-- e.f, a constant of the class -/
def tCon (K : PySem.W.Frag) (ta : TE) (f : Str) : TE := fun σ H Q => ta σ H fun x H1 => ∃ a C dx fs v u, x = .ref a ∧ H1 a = some (.ins C dx fs) ∧ Cls K C ∧ Con K C f v u ∧ fs.lookup f = none ∧ Q v H1
/-- e.f = value -/
def sFld (K : PySem.W.Frag) (ta tv : TE) (f : Str) : TS := fun D σ H => tv σ H fun y H1 => ta σ H1 fun x H2 => ∃ a C dx fs, x = .ref a ∧ H2 a = some (.ins C dx fs) ∧ Cls K C ∧ NoAttr K C f ∧ fs.length < 1000 ∧
  D.nx σ (upd H2 a (.ins C dx (putF f y fs)))
/-- an augmented operator on two values -/
def InOp (X : Cx) (op : Operator) (rd : V → V → Hp → VK → Prop) : Prop :=
  ∀ (pins : List (Addr × Obj)) (s : Shared) (σ : St) (H : Hp) (x y : V) (u v : Value) (Q : VK), Inv X pins σ H s → RelV x u → RelV y v → rd x y H Q → wpAny (model X.prog X.w) X.A (inplaceOp op u v) (EP X pins σ Q) X.xe s
/-- e.f op= value -/
def sFldAug (K : PySem.W.Frag) (ta tv : TE) (rd : V → V → Hp → VK → Prop) (f : Str) : TS := fun D σ H => ta σ H fun x H1 => ∃ a C dx fs v, x = .ref a ∧ H1 a = some (.ins C dx fs) ∧ Cls K C ∧ NoAttr K C f ∧ fs.lookup f = some v ∧
  tv σ H1 fun y H2 => rd v y H2 fun z H3 => ∃ dx' fs', H3 a = some (.ins C dx' fs') ∧ fs'.length < 1000 ∧ D.nx σ (upd H3 a (.ins C dx' (putF f z fs')))

section
variable {X : Cx} {o e value : Expr} {f : Str} {pos pos' tpos : Pos} {ta tv : TE}
theorem pe_fld (he : PE X e ta) (hb : attributeBase e f X.env (eval e X.env) = eval e X.env) : PE X (.Attribute e f pos) (tFld X.K ta f) := by
  intro pins s σ H Q I h
  refine attr_of hb (thn (he pins s σ H _ I h) fun u s1 ⟨x, H1, I1, rx, a, C, dx, fs, v, ex, ea, c, n, l, q⟩ => ?_)
  subst ex
  obtain rfl : u = Value.ref a := rx
  exact getattr_ok I1 ea c n l fun u' s2 I2 ru => ⟨v, H1, I2, ru, q⟩
theorem ps_fld (ha : PE X o ta) (hv : PE X value tv) (hs : swapsWith value (some (.Attribute o f pos')) pos.line X.env = pure false) : PS X (.Assign [.Attribute o f pos'] value pos) (sFld X.K ta tv f) := by
  intro pins s σ H D I h
  refine plainObj_wpAny_Assign_Attribute (thn (hv pins s σ H _ I h) fun u s1 ⟨y, H1, I1, ry, q⟩ => thn (ha pins s1 σ H1 _ I1 q) fun ov s2 ⟨x, H2, I2, rx, a, C, dx, fs, ex, ea, c, n, l, q2⟩ => ?_) hs
  subst ex
  obtain rfl : ov = Value.ref a := rx
  exact setattr_ok I2 ea c n l ry fun s3 I3 => ⟨σ, _, I3, q2⟩
def rAdd : V → V → Hp → VK → Prop := fun x y H Q => ∃ i j, x = .int i ∧ y = .int j ∧ Q (.int (i + j)) H
def rSub : V → V → Hp → VK → Prop := fun x y H Q => ∃ i j, x = .int i ∧ y = .int j ∧ Q (.int (i - j)) H
end

/-! ### isinstance -/
section
variable {X : Cx} {pins : List (Addr × Obj)} {σ : St} {H : Hp} {s : Shared} {A : Around} {E : Value → Shared → Prop} {Q : Value → Shared → Prop} {c : Value} {b : Bool}
/-- the type of a value, as the fragment's deciders take it; for an instance its class -/
inductive TyOf (K : PySem.W.Frag) (H : Hp) : V → Value → Prop where
  | non : TyOf K H .non (.type "NoneType")
  | bl (x : Bool) : TyOf K H (.bl x) (.type "bool")
  | int (i : Int) : TyOf K H (.int i) (.type "int")
  | str (x : Str) : TyOf K H (.str x) (.type "str")
  | flt (x : UInt64) : TyOf K H (.flt x) (.type "float")
  | lst {a : Addr} {xs : List V} (e : H a = some (.lst xs)) : TyOf K H (.ref a) (.type "list")
  | frz {a : Addr} {o : Obj} {xs : List V} (e : H a = some (.frz o (.lst xs))) : TyOf K H (.ref a) (.type "list")
  | tup {a : Addr} {xs : List V} (e : H a = some (.tup xs)) : TyOf K H (.ref a) (.type "tuple")
  | dK {a : Addr} {kvs : List (Key × V)} (e : H a = some (.dK kvs)) : TyOf K H (.ref a) (.type "dict")
  | dT {a : Addr} {kvs : List (List Key × V)} (e : H a = some (.dT kvs)) : TyOf K H (.ref a) (.type "dict")
  | ins {a C dx : Addr} {fs : List (Str × V)} (e : H a = some (.ins C dx fs)) (cl : Cls K C) (ha : PySem.W.findIn K (.ref C) "__class__" = some (some (.builtin "object.__class__")))
      (hn : PySem.W.specialIn K (.builtin "object.__class__") "__get__" = some (some (.builtin "getset_descriptor.__get__"))) (htk : PySem.W.takesIn K (.builtin "object.__class__") = some true)
      (hm : PySem.W.mroIn K C (.type "object") = some true) : TyOf K H (.ref a) (.ref C)
end
end L2

namespace L2
open PySem PySem.Spec PyProof.Rows

/-! ### room -/
structure Room (k : Nat) (A : Around) : Prop where
  hd : A.handled = none
  dp : A.depth + 3 * k + 5 < recursionLimit
  un : A.units + 16 * k + 200 < cLine
theorem Room.mono {j k : Nat} {A : Around} (r : Room k A) (h : j ≤ k) : Room j A := ⟨r.hd, by have := r.dp; omega, by have := r.un; omega⟩
theorem Room.deeper {k : Nat} {A : Around} (r : Room (k + 1) A) (env : Env) : Room k (A.deeper env) :=
  ⟨r.hd, by have := r.dp; show A.depth + 1 + 3 * k + 5 < _; omega, by have := r.un; show A.units + 3 + 16 * k + 200 < _; omega⟩
theorem make_depth {A : Around} {C : Addr} {us : List Value} {kw : List (Str × Value)} : (A.under (.builtin "type.__call__" ⟨.ref C :: us, kw⟩)).depth = A.depth + 1 := by
  first | rfl | simp [Around.under, Code.weight, Code.isCreation, Code.isGuard, Code.isCaller, Code.frames, Code.isFrame, guardIds]
theorem make_units {A : Around} {C : Addr} {us : List Value} {kw : List (Str × Value)} : (A.under (.builtin "type.__call__" ⟨.ref C :: us, kw⟩)).units = A.units + 1 := by
  first | rfl | simp [Around.under, Code.cUnits, Code.frames, Code.isFrame]
theorem Room.make {k : Nat} {A : Around} (r : Room (k + 1) A) (C : Addr) (us : List Value) (kw : List (Str × Value)) : Room k (A.under (.builtin "type.__call__" ⟨.ref C :: us, kw⟩)) :=
  ⟨r.hd, by have := r.dp; rw [make_depth]; omega, by have := r.un; rw [make_units]; omega⟩
theorem Room.depth {k : Nat} {A : Around} (r : Room k A) : A.depth < recursionLimit := by have := r.dp; omega
theorem Room.units {k : Nat} {A : Around} (r : Room k A) : A.units + 64 < cLine := by have := r.un; omega
/-! ### argument lists and displays -/
def tNil : TA := fun _ H Q => Q [] H
def tCons (ta : TE) (tr : TA) : TA := fun σ H Q => ta σ H fun x H1 => tr σ H1 fun xs H2 => Q (x :: xs) H2
section
variable {X : Cx} {e : Expr} {es : List Expr} {te : TE} {t : TA} {pos : Pos}
theorem pa_nil : PA X [] tNil := fun _ _ _ _ H Q I h => Calls.spliced_nil ⟨[], H, I, .nil, h⟩
theorem pa_cons (ha : PE X e te) (hr : PA X es t) (hs : starEach (e :: es) X.env = (false, eval e X.env) :: starEach es X.env := by rfl) : PA X (e :: es) (tCons te t) := by
  intro pos pins s σ H Q I h
  rw [hs]
  show wpAny _ _ (spliced ((false, eval e X.env) :: backTo pos (starEach es X.env))) _ _ s
  refine Calls.spliced_cons (thn (ha pins s σ H _ I h) fun u s1 ⟨x, H1, I1, r1, q1⟩ => ?_)
  exact thn (hr pos pins s1 σ H1 _ I1 q1) fun us s2 ⟨xs, H2, I2, r2, q2⟩ => ⟨x :: xs, H2, I2, .cons r1 r2, q2⟩

/-- a tuple, a list of written items -/
def tTup (t : TA) : TE := fun σ H Q => t σ H fun xs H1 => xs.length ≤ sizeLine ∧ ∀ p, H1 p = none → Q (.ref p) (upd H1 p (.tup xs))
def tLst (t : TA) : TE := fun σ H Q => t σ H fun xs H1 => xs.length ≤ sizeLine ∧ ∀ p, H1 p = none → Q (.ref p) (upd H1 p (.lst xs))
theorem pe_lst (h : PA X es t) : PE X (.List es pos) (tLst t) := by
  intro pins s σ H Q I hq
  refine wpAny_List_spliced (thn (h pos pins s σ H _ I hq) fun us s1 ⟨xs, H1, I1, r, z, q⟩ => ⟨by rw [← r.length]; exact z, ?_⟩)
  have hf : H1 s1.heap.objs.size = none := I1.hok.fresh (Nat.le_refl _)
  refine ⟨.ref s1.heap.objs.size, upd H1 s1.heap.objs.size (.lst xs), I1.laid (t' := s1.toks) (fun b u e => Heap.get?_push_of_some _ e) (Nat.le_refl _) ?_, rfl, q _ hf⟩
  exact ⟨z, us, 0, r, Heap.get?_push_size _ rfl⟩
end

/-! ### what a def promises -/
/-- a def's promise: the bound arguments in the parameters' order, the heap, the wanted end, the wanted exception -/
abbrev Sp := List V → Hp → VK → XK → Prop
/-- how an exception lies behind a call (file 08 gives it): the callers' frames, abstract heap and state ahead of the call, the wish, the exception, the state -/
abbrev CXT := List Env → Hp → Shared → XK → Value → Shared → Prop

/-- the state at a call -/
structure Env0 (P : Program) (w : World) (K : PySem.W.Frag) (mg : Str → Option Value) (base : Heap) (A : Around) (outer : List Env) (s : Shared) (H : Hp) : Prop where
  frames : A.frames = some outer
  mod : Mod K mg base
  bs : ∀ b o, base.get? b = some o → s.heap.get? b = some o ∧ H b = none
  bsz : base.objs.size ≤ s.heap.objs.size
  funs : s.heap.FunFrames base outer
  frf : ∀ b ∈ frs outer, H b = none
  hok : HOk P w H s.heap
  bare : AllBare s.gens
/-- a call's end -/
def CE (outer : List Env) (P : Program) (w : World) (H : Hp) (s : Shared) (Q : VK) (u : Value) (s' : Shared) : Prop :=
  ∃ v H', s'.os = s.os ∧ AllBare s'.gens ∧ Un (frs outer) [] H H' s.heap s'.heap ∧ HOk P w H' s'.heap ∧ RelV v u ∧ Q v H'
def CR (CX : CXT) (outer : List Env) (P : Program) (w : World) (H : Hp) (s : Shared) (Q : VK) (E : XK) (r : Result) (s' : Shared) : Prop :=
  match r with
  | .ok (.ret u) => CE outer P w H s Q u s'
  | .ok _ => False
  | .error e => CX outer H s E e s'
structure FnOk (P : Program) (w : World) (K : PySem.W.Frag) (mg : Str → Option Value) (base : Heap) (CX : CXT) (k : Nat) (f : Addr) (fd : FuncData) (ps : List Str) (sp : Sp) : Prop where
  len : ∀ vs H Q E, sp vs H Q E → vs.length = ps.length
  run : ∀ (A : Around) (outer : List Env) (s : Shared) (H : Hp) (args : Args) (us : List Value) (vs : List V) (Q : VK) (E : XK), Room k A → Env0 P w K mg base A outer s H → BindsTo s fd args (ps.zip us) → Vals vs us → sp vs H Q E →
    codeAny (model P w) A (.call (.ref f) args) (CR CX outer P w H s Q E) s
theorem Env0.make {P : Program} {w : World} {K : PySem.W.Frag} {mg : Str → Option Value} {base : Heap} {A : Around} {outer : List Env} {s : Shared} {H : Hp} (e : Env0 P w K mg base A outer s H) (C : Addr) (us : List Value) (kw : List (Str × Value)) :
    Env0 P w K mg base (A.under (.builtin "type.__call__" ⟨.ref C :: us, kw⟩)) outer s H := ⟨by first | exact e.frames | (simpa [Around.under, Code.envs, Code.isFrame, pushEnvs] using e.frames), e.mod, e.bs, e.bsz, e.funs, e.frf, e.hok, e.bare⟩
section
variable {X : Cx} {pins : List (Addr × Obj)} {σ : St} {H : Hp} {s s' : Shared}
/-- from a body: what a callee wants -/
theorem Inv.env0 (I : Inv X pins σ H s) : Env0 X.prog X.w X.K X.mg X.base X.A X.stack s H :=
  ⟨I.ok.frames, I.ok.mod, I.bs, Nat.le_trans I.ok.bsz I.sz, I.stack, I.stkFree, I.hok, I.bare⟩
/-- behind a call -/
theorem Inv.after {Q : VK} {u : Value} (I : Inv X pins σ H s) (h : CE X.stack X.prog X.w H s Q u s') : EP X pins σ Q u s' := by
  obtain ⟨v, H', os, bare, un, hok, r, q⟩ := h
  obtain ⟨hh, g, d, t, os'⟩ := s'
  obtain rfl : os' = s.os := os
  exact ⟨v, H', I.call (h' := hh) (g' := g) (d' := d) (t' := t) (ch := []) un hok bare (fun b z => absurd z (by simp)), r, q⟩
end

/-! ### calls -/
/-- f(..): the written arguments, then the defaults dvs; E: what is wanted of an exception -/
def tCall (sp : Sp) (dvs : List V) (E : XK) (t : TA) : TE := fun σ H Q => t σ H fun vs H1 => sp (vs ++ dvs) H1 Q E
/-- o.m(..) of an instance of the class at C -/
def tMeth (C : Addr) (m : Str) (sp : Sp) (dvs : List V) (E : XK) (ta : TE) (t : TA) : TE := fun σ H Q => ta σ H fun x H1 => ∃ a dx fs, x = .ref a ∧ H1 a = some (.ins C dx fs) ∧ fs.lookup m = none ∧
  t σ H1 fun vs H2 => sp (x :: (vs ++ dvs)) H2 Q E
/-- C(..): a new instance and its dict, then __init__ -/
def tMake (C : Addr) (sp : Sp) (dvs : List V) (E : XK) (t : TA) : TE := fun σ H Q => t σ H fun vs H1 => ∀ x dx, H1 x = none → H1 dx = none → dx ≠ x →
  sp (.ref x :: (vs ++ dvs)) (upd (upd H1 dx (.own x)) x (.ins C dx [])) (fun v H2 => v = .non ∧ Q (.ref x) H2) E

/-- how the parameters are bound: us the positional arguments, kw the keywords' values by name, ds the defaults that fill up -/
def Binds (K : PySem.W.Frag) (fd : FuncData) (ps : List Str) (ds : List Value) : Prop :=
  ∀ (s : Shared) (us : List Value), K.In s.heap → (us ++ ds).length = ps.length → BindsTo s fd ⟨us, []⟩ (ps.zip (us ++ ds))
/-- every parameter is given -/
theorem Binds.all {K : PySem.W.Frag} {fd : FuncData} {ps : List Str} (h : ∀ us : List Value, us.length = ps.length → bindArgs fd ⟨us, []⟩ = pure (ps.zip us)) : Binds K fd ps [] := fun s us _ hl => by
  rw [List.append_nil] at hl ⊢
  exact .of_eq (h us hl)

/-- an exception of a callee reaches what this body wants of exceptions -/
def Passes (CX : CXT) (X : Cx) (E : XK) : Prop := ∀ (pins : List (Addr × Obj)) (σ : St) (H : Hp) (s : Shared) (e : Value) (s' : Shared), Inv X pins σ H s → CX X.stack H s E e s' → X.xe e s'

section
variable {X : Cx} {CX : CXT} {k : Nat} {f C : Addr} {fd : FuncData} {ps : List Str} {sp : Sp} {dvs : List V} {ds : List Value} {E : XK} {x m : Str} {p pos apos : Pos} {e o : Expr} {es : List Expr} {ta : TE} {t : TA}

/-- the callee runs -/
theorem run_fn {pins : List (Addr × Obj)} {σ : St} {H : Hp} {s : Shared} {Q : VK} {us : List Value} {vs : List V} (F : FnOk X.prog X.w X.K X.mg X.base CX k f fd ps sp) (hr : Room k X.A) (hb : Binds X.K fd ps ds) (hd : Vals dvs ds) (hx : Passes CX X E)
    (I : Inv X pins σ H s) (r : Vals vs us) (h : sp (vs ++ dvs) H Q E) : wpAny (model X.prog X.w) X.A (call (.ref f) us) (EP X pins σ Q) X.xe s := by
  have r2 : Vals (vs ++ dvs) (us ++ ds) := r.append hd
  have hl : (us ++ ds).length = ps.length := by rw [← r2.length]; exact F.len _ _ _ _ h
  refine wpAny_call (codeAny_mono (F.run X.A X.stack s H ⟨us, []⟩ (us ++ ds) (vs ++ dvs) Q E hr I.env0 (hb s us I.kIn hl) r2 h) fun r s' hq => ?_)
  cases r with
  | error e => exact hx pins σ H s e s' I hq
  | ok fl =>
    cases fl with
    | ret u => exact I.after hq
    | next => exact False.elim hq
    | brk => exact False.elim hq
    | cont => exact False.elim hq

theorem pe_call (F : FnOk X.prog X.w X.K X.mg X.base CX k f fd ps sp) (hr : Room k X.A) (hg : Gl X x) (hm : X.mg x = some (.ref f)) (hk : PySem.W.keepIn X.K (.ref f) = true) (hb : Binds X.K fd ps ds) (hd : Vals dvs ds) (hx : Passes CX X E)
    (ha : PA X (e :: es) t) (hdb : (x == ("__debug__" : Str)) = false := by decide) (he : starEach (e :: es) X.env = (false, eval e X.env) :: starEach es X.env := by rfl) (hpl : (backTo pos (starEach es X.env)).any (·.1) = false := by rfl) :
    PE X (.Call (.Name x p) (e :: es) [] pos) (tCall sp dvs E t) := by
  intro pins s σ H Q I h
  refine wpAny_Call_Name_kw (ld_glob I hg hm ?_ hdb)
  refine PySem.W.callWith_K (h₀ := X.base) I.ok.mod.kin hk (thn (ha pos pins s σ H _ I h) fun us s1 ⟨vs, H1, I1, r, q⟩ => ⟨I1.kIn, ?_⟩) he hpl
  exact run_fn F hr hb hd hx I1 r q
/-- what a class must have to be made -/
structure Mk (K : PySem.W.Frag) (C f : Addr) : Prop where
  makes : PySem.W.makesIn K C = true
  init : PySem.W.findIn K (.ref C) "__init__" = some (some (.ref f))
  fn : PySem.W.isFn K (.ref f) = true
  kp : PySem.W.keepIn K (.ref C) = true

theorem run_make {pins : List (Addr × Obj)} {σ : St} {H : Hp} {s : Shared} {Q : VK} {us : List Value} {vs : List V} (M : Mk X.K C f) (F : FnOk X.prog X.w X.K X.mg X.base CX k f fd ps sp) (hr : Room (k + 1) X.A) (hb : Binds X.K fd ps ds) (hd : Vals dvs ds)
    (hx : Passes CX X E) (I : Inv X pins σ H s) (r : Vals vs us)
    (h : ∀ x dx, H x = none → H dx = none → dx ≠ x → sp (.ref x :: (vs ++ dvs)) (upd (upd H dx (.own x)) x (.ins C dx [])) (fun v H2 => v = .non ∧ Q (.ref x) H2) E) :
    wpAny (model X.prog X.w) X.A (call (.ref C) us) (EP X pins σ Q) X.xe s := by
  have hq := h (s.heap.objs.size + 1) s.heap.objs.size (I.hok.fresh (Nat.le_succ _)) (I.hok.fresh (Nat.le_refl _)) (Nat.ne_of_lt (Nat.lt_succ_self _))
  have I2 := Inv.made (C := C) I
  have r2 : Vals (V.ref (s.heap.objs.size + 1) :: (vs ++ dvs)) (Value.ref (s.heap.objs.size + 1) :: (us ++ ds)) := .cons rfl (r.append hd)
  have hl : (Value.ref (s.heap.objs.size + 1) :: us ++ ds).length = ps.length := by
    have e := r2.length
    rw [F.len _ _ _ _ hq] at e
    exact e.symm
  refine wpAny_call (make_map (f := f) I.kIn M.makes M.init (beq_iff_eq.mp M.fn) (codeAny_mono (F.run _ X.stack _ _ ⟨Value.ref (s.heap.objs.size + 1) :: us, []⟩ (Value.ref (s.heap.objs.size + 1) :: (us ++ ds)) _ _ E (hr.make C us [])
    (I2.env0.make C us []) (hb _ (Value.ref (s.heap.objs.size + 1) :: us) I2.kIn hl) r2 hq) fun r s' hq' => ?_))
  cases r with
  | error e => exact hx pins σ _ _ e s' I2 hq'
  | ok fl =>
    cases fl with
    | ret u =>
      obtain ⟨v, H', I3, rv, ev, q3⟩ := I2.after hq'
      subst ev
      exact ⟨rv, ⟨V.ref (s.heap.objs.size + 1), H', I3, rfl, q3⟩⟩
    | next => exact False.elim hq'
    | brk => exact False.elim hq'
    | cont => exact False.elim hq'
theorem pe_make (M : Mk X.K C f) (F : FnOk X.prog X.w X.K X.mg X.base CX k f fd ps sp) (hr : Room (k + 1) X.A) (hg : Gl X x) (hm : X.mg x = some (.ref C)) (hb : Binds X.K fd ps ds) (hd : Vals dvs ds) (hx : Passes CX X E)
    (ha : PA X (e :: es) t) (hdb : (x == ("__debug__" : Str)) = false := by decide) (he : starEach (e :: es) X.env = (false, eval e X.env) :: starEach es X.env := by rfl) (hpl : (backTo pos (starEach es X.env)).any (·.1) = false := by rfl) :
    PE X (.Call (.Name x p) (e :: es) [] pos) (tMake C sp dvs E t) := by
  intro pins s σ H Q I h
  refine wpAny_Call_Name_kw (ld_glob I hg hm ?_ hdb)
  refine PySem.W.callWith_K (h₀ := X.base) I.ok.mod.kin M.kp (thn (ha pos pins s σ H _ I h) fun us s1 ⟨vs, H1, I1, r, q⟩ => ⟨I1.kIn, ?_⟩) he hpl
  exact run_make M F hr hb hd hx I1 r q
end

/-! ### keywords -/
/-- the values of the keywords, from the left -/
def PK (X : Cx) (kws : List Keyword) (t : TA) : Prop :=
  ∀ (pos : Pos) (pins : List (Addr × Obj)) (s : Shared) (σ : St) (H : Hp) (Q : List V → Hp → Prop), Inv X pins σ H s → t σ H Q → wpAny (model X.prog X.w) X.A (evalAll ((backToKw pos (keywordEach kws X.env)).map (·.2))) (AP X pins σ Q) X.xe s
section
variable {X : Cx} {CX : CXT} {k : Nat} {f C : Addr} {fd : FuncData} {ps ks : List Str} {sp : Sp} {E : XK} {x m : Str} {p pos apos kpos : Pos} {e o : Expr} {es : List Expr} {kws : List Keyword} {te ta : TE} {t tk : TA} {nm : Option Str}
/-- how a call with keywords binds: g puts the positional values us and the keywords' values ws (names ks) in the parameters' order, defaults among them -/
structure KBinds (K : PySem.W.Frag) (fd : FuncData) (ps ks : List Str) (g : List Value → List Value → List Value) (gV : List V → List V → List V) : Prop where
  to : ∀ (s : Shared) (us ws : List Value), K.In s.heap → (g us ws).length = ps.length → BindsTo s fd ⟨us, ks.zip ws⟩ (ps.zip (g us ws))
  rel : ∀ {vs : List V} {us : List Value} {zs : List V} {ws : List Value}, Vals vs us → Vals zs ws → Vals (gV vs zs) (g us ws)
def tCallK (sp : Sp) (gV : List V → List V → List V) (E : XK) (t tk : TA) : TE := fun σ H Q => t σ H fun vs H1 => tk σ H1 fun zs H2 => sp (gV vs zs) H2 Q E
variable {g : List Value → List Value → List Value} {gV : List V → List V → List V}
end

/-! ### a def's body keeps its promise -/
/-- names: the parameters first -/
structure FnScope (N P : List Str) (sc : Scope) : Prop where
  kind : sc.kind = .function
  co : sc.isCoroutine = false
  gen : sc.isGenerator = false
  nd : N.Nodup
  pre : N.take P.length = P
  par : ∀ x ∈ P, sc.names.lookup x = some .local ∨ sc.names.lookup x = some .cell
  nofree : ∀ y ∈ sc.names, y.2 ≠ .free

theorem bindL_out {kindOf : Str → Option NameKind} {x : Str} : ∀ {binds : List (Str × Value)} {m : Str → Option Value}, (∀ v, (x, v) ∉ binds) → bindL kindOf binds m x = m x
  | [], _, _ => rfl
  | (n, v) :: r, m, h => by
    unfold bindL
    rw [bindL_out fun w hw => h w (List.mem_cons_of_mem _ hw)]
    split
    · have : x ≠ n := by rintro rfl; exact h v List.mem_cons_self
      simp [this]
    · rfl
theorem bindC_out {kindOf : Str → Option NameKind} {x : Str} : ∀ {binds : List (Str × Value)} {m : Str → Option Value}, (∀ v, (x, v) ∉ binds) → bindC kindOf binds m x = m x
  | [], _, _ => rfl
  | (n, v) :: r, m, h => by
    unfold bindC
    rw [bindC_out fun w hw => h w (List.mem_cons_of_mem _ hw)]
    split
    · rfl
    · have : x ≠ n := by rintro rfl; exact h v List.mem_cons_self
      simp [this]
theorem bindL_get {kindOf : Str → Option NameKind} {x : Str} {v : Value} : ∀ {P : List Str} {vs : List Value} {i : Nat} {m : Str → Option Value}, P.Nodup → P[i]? = some x → vs[i]? = some v → kindOf x = some .local →
    bindL kindOf (P.zip vs) m x = some v
  | [], _, _, _, _, h, _, _ => by simp at h
  | _ :: _, [], _, _, _, _, h, _ => by simp at h
  | p :: P, w :: vs, 0, m, nd, h1, h2, hk => by
    simp at h1 h2; subst h1; subst h2
    show bindL kindOf ((p, w) :: P.zip vs) m p = _
    unfold bindL
    rw [bindL_out fun v hv => (List.nodup_cons.mp nd).1 (List.of_mem_zip hv).1, if_pos hk]
    simp
  | p :: P, w :: vs, i + 1, m, nd, h1, h2, hk => by
    show bindL kindOf ((p, w) :: P.zip vs) m x = _
    unfold bindL
    exact bindL_get (i := i) (List.nodup_cons.mp nd).2 (by simpa using h1) (by simpa using h2) hk
theorem bindC_get {kindOf : Str → Option NameKind} {x : Str} {v : Value} : ∀ {P : List Str} {vs : List Value} {i : Nat} {m : Str → Option Value}, P.Nodup → P[i]? = some x → vs[i]? = some v → kindOf x ≠ some .local →
    bindC kindOf (P.zip vs) m x = some v
  | [], _, _, _, _, h, _, _ => by simp at h
  | _ :: _, [], _, _, _, _, h, _ => by simp at h
  | p :: P, w :: vs, 0, m, nd, h1, h2, hk => by
    simp at h1 h2; subst h1; subst h2
    show bindC kindOf ((p, w) :: P.zip vs) m p = _
    unfold bindC
    rw [bindC_out fun v hv => (List.nodup_cons.mp nd).1 (List.of_mem_zip hv).1, if_neg hk]
    simp
  | p :: P, w :: vs, i + 1, m, nd, h1, h2, hk => by
    show bindC kindOf ((p, w) :: P.zip vs) m x = _
    unfold bindC
    exact bindC_get (i := i) (List.nodup_cons.mp nd).2 (by simpa using h1) (by simpa using h2) hk

/-- the names' values at the entry -/
def start (N : List Str) (vs : List V) : St := vs.map some ++ List.replicate (N.length - vs.length) none

/-- the context of a def's body, at its entry; an exception leaves the frame, then lies as CX says -/
def cxOf (CX : CXT) (P : Program) (w : World) (K : PySem.W.Frag) (mg : Str → Option Value) (base : Heap) (N : List Str) (qual : Str) (scope : Scope) (f : Addr) (cd : Value) (A : Around) (outer : List Env) (s : Shared) (H : Hp) (E : XK) : Cx where
  prog := P
  w := w
  K := K
  mg := mg
  base := base
  A := A.deeper (envOfC qual scope s.heap.objs.size f cd)
  N := N
  s_0 := s
  H_0 := H
  env := envOfC qual scope s.heap.objs.size f cd
  outer := outer
  stack := envOfC qual scope s.heap.objs.size f cd :: outer
  ex := []
  calm := true
  fn := fun _ => true
  pn := []
  xe := fun e s' => wpAny (model P w) (A.deeper (envOfC qual scope s.heap.objs.size f cd)) (leaving (envOfC qual scope s.heap.objs.size f cd) e) (fun _ s'' => CX outer H s E e s'') (fun e' s'' => CX outer H s E e' s'') s'

theorem cell_has {sc : Scope} {n : Nat} {x : Str} (h : sc.names.lookup x = some .cell) : ∃ c, (cellsFrom n sc.names []).lookup x = some c := by
  have q := PySem.W.cellsFrom_some sc.names n [] (.inl h)
  exact Option.isSome_iff_exists.mp q

theorem inv_start {CX : CXT} {P : Program} {w : World} {K : PySem.W.Frag} {mg : Str → Option Value} {base : Heap} {N ps : List Str} {qual : Str} {scope : Scope} {f : Addr} {cd : Value} {A : Around} {outer : List Env} {s s1 : Shared} {H : Hp} {E : XK} {us : List Value} {vs : List V}
    (S : FnScope N ps scope) (hd : A.handled = none) (e0 : Env0 P w K mg base A outer s H) (hl : vs.length = ps.length) (r : Vals vs us)
    (x : InCallC s s.heap.objs.size (bindL (envOfC qual scope s.heap.objs.size f cd).kindOf (ps.zip us) fun _ => none) (cellsFrom (s.heap.objs.size + 1) scope.names []) (bindC (envOfC qual scope s.heap.objs.size f cd).kindOf (ps.zip us) fun _ => none) s1) :
    Inv (cxOf CX P w K mg base N qual scope f cd A outer s H E) [] (start N vs) H s1 := by
  have hpl : ps.length ≤ N.length := by have := congrArg List.length S.pre; rw [List.length_take] at this; omega
  obtain ⟨h1, tk, rfl, hk⟩ := x.done
  have noA : ∀ b : Addr, b ∉ (cxOf CX P w K mg base N qual scope f cd A outer s H E).ex := fun b z => absurd (show b ∈ ([] : List Addr) from z) (by simp)
  refine ⟨⟨e0.mod, S.kind, rfl, rfl, Nat.le_refl _, fun y z c h1 h2 => ?_, fun y hy => ?_, fun y c _ h => ?_, fun _ => hd, Around.frames_deeper e0.frames, .inr ⟨rfl, rfl⟩, fun b z => absurd z (noA b), e0.bs, e0.bsz, fun b _ _ => noA b, fun b z => absurd z (noA b), e0.funs, e0.frf⟩,
    rfl, e0.bare, Un.kept hk, ⟨_, x.toInCall.ns, fun i y v h1 h2 h3 => ?_⟩, fun y c h => ⟨_, x.cell y c h⟩, e0.hok.fresh (Nat.le_refl _), fun y c h => ?_, fun p hp => absurd (show p ∈ ([] : List (Addr × Obj)) from hp) (by simp), e0.hok.kept hk, ?_⟩
  · exact name_of_addr x.apart (PySem.mem_of_lookup h1) (PySem.mem_of_lookup h2)
  · have hy : scope.names.lookup y = some .cell ∨ scope.names.lookup y = some .free := hy
    rcases hy with hy | hy
    · exact cell_has hy
    · exact absurd rfl (S.nofree _ (PySem.mem_of_lookup hy))
  · exact Nat.le_of_lt (x.above y c (PySem.mem_of_lookup h))
  · have hi : i < vs.length := by
      unfold start at h2
      by_cases hi : i < vs.length
      · exact hi
      · rw [List.getElem?_append_right (by simpa using hi)] at h2
        rw [List.getElem?_replicate] at h2
        split at h2 <;> cases h2
    have ha : vs[i]? = some v := by
      unfold start at h2
      rw [List.getElem?_append_left (by simpa using hi), List.getElem?_map] at h2
      cases e : vs[i]? with
      | none => rw [e] at h2; cases h2
      | some a => rw [e] at h2; cases h2; rfl
    obtain ⟨u, hu, rv⟩ := r.get ha
    have hp : ps[i]? = some y := by
      rw [← S.pre, List.getElem?_take_of_lt (by omega)]; exact h1
    have ndP : ps.Nodup := by rw [← S.pre]; exact S.nd.sublist (List.take_sublist _ _)
    refine ⟨u, rv, ?_⟩
    rcases S.par y (List.mem_of_getElem? hp) with k | k
    · exact .inl ⟨k, bindL_get ndP hp hu k⟩
    · obtain ⟨c, e⟩ := cell_has (n := s.heap.objs.size + 1) k
      refine .inr ⟨.inl k, c, e, ?_⟩
      have q := x.cell y c e
      rw [bindC_get ndP hp hu (by show scope.names.lookup y ≠ _; rw [k]; decide)] at q
      exact q
  · exact e0.hok.fresh (Nat.le_of_lt (x.above y c (PySem.mem_of_lookup h)))
  · unfold start
    show _ = N.length
    rw [List.length_append, List.length_map, List.length_replicate]
    omega

/-- THE RULE: a def (or a method) of the text, by its body. The body's reading t is chosen for each entry; it is run at the parameters' values -/
theorem fn_of {CX : CXT} {P : Program} {w : World} {K : PySem.W.Frag} {mg : Str → Option Value} {base : Heap} {k : Nat} {f : Addr} {name qual : Str} {params : Arguments} {body : List Stmt} {scope : Scope} {dV kV doc pm cdv ct oc : Value} {an od : Option Addr}
    {osl : Array (Option Value)} {N ps : List Str} {sp : Sp} (lk : K.lookup f = some ⟨oc, od, .func (PySem.W.fnOf name qual params body scope dV kV doc pm an cdv ct), osl⟩) (hcd : PySem.W.codeIn K cdv qual = true) (S : FnScope N ps scope)
    (len : ∀ vs H Q E, sp vs H Q E → vs.length = ps.length)
    (hbody : ∀ (A : Around) (outer : List Env) (s : Shared) (H : Hp) (vs : List V) (Q : VK) (E : XK), Room k (A.deeper (envOfC qual scope s.heap.objs.size f cdv)) → sp vs H Q E →
      ∃ t, PSs (cxOf CX P w K mg base N qual scope f cdv A outer s H E) body t ∧ t { nx := fun _ H' => Q .non H', rt := Q } (start N vs) H) :
    FnOk P w K mg base CX (k + 1) f (PySem.W.fnOf name qual params body scope dV kV doc pm an cdv ct) ps sp := by
  refine ⟨len, fun A outer s H args us vs Q E hr e0 hb r hsp => ?_⟩
  have hl := len _ _ _ _ hsp
  have KX : K.In s.heap := e0.mod.kin.keeps fun b o e => (e0.bs b o e).1
  have lim : s.heap.NoLimit := e0.mod.nolimit.keeps fun b o e => (e0.bs b o e).1
  have hkind : ∀ y ∈ ps.zip us, scope.names.lookup y.1 = some .local ∨ (scope.names.lookup y.1 = some .cell ∧ ((cellsFrom (s.heap.objs.size + 1) scope.names []).lookup y.1).isSome = true) := fun ⟨n, v⟩ hy => by
    rcases S.par n (List.of_mem_zip hy).1 with q | q
    · exact .inl q
    · exact .inr ⟨q, PySem.W.cellsFrom_some _ _ _ (.inl q)⟩
  refine codeAny_call_function hr.depth (KX _ _ lk) rfl S.co S.gen rfl (PySem.W.codeRec_of KX hcd) (hb _ _ _ _ ?_)
  refine wpAny_newFunctionEnv_cells S.kind hkind fun env he s1 x => ?_
  subst he
  refine ⟨lim.keeps x.toInCall.keep, codeAny_func ?_⟩
  obtain ⟨t, ht, hq⟩ := hbody A outer s H vs Q E (hr.deeper _) hsp
  have I : Inv (cxOf CX P w K mg base N qual scope f cdv A outer s H E) [] (start N vs) H s1 := inv_start S hr.hd e0 hl r x
  refine wpAny_mono (ht [] s1 (start N vs) H _ I hq) (fun fl s' hs => ?_) fun e s' hs => hs
  have fin : ∀ {σ' : St} {H' : Hp} {v : V} {u : Value}, Inv (cxOf CX P w K mg base N qual scope f cdv A outer s H E) [] σ' H' s' → RelV v u → Q v H' → CE outer P w H s Q u s' :=
    fun {σ' H' v u} J rv q => ⟨v, H', J.os, J.bare, J.base, J.hok, rv, q⟩
  cases fl with
  | ret u =>
    obtain ⟨v, σ', H', J, rv, q⟩ := hs
    exact fin J rv q
  | next =>
    obtain ⟨σ', H', J, q⟩ := hs
    exact fin (v := V.non) (u := Value.none) J rfl q
  | brk =>
    obtain ⟨_, _, _, q⟩ := hs
    exact False.elim q
  | cont =>
    obtain ⟨_, _, _, q⟩ := hs
    exact False.elim q
end L2

namespace L2
open PySem PySem.Spec PyProof.Rows
section
variable {X : Cx} {x : Str} {p pos : Pos} {e : Expr} {es : List Expr} {t : TA} {id T : String} {r : List V → Hp → VK → Prop}

def tCB (r : List V → Hp → VK → Prop) (t : TA) : TE := fun σ H Q => t σ H fun vs H1 => r vs H1 Q
/-- f(e, ..), f a built-in function -/
theorem pe_callB (hc : CallR X (.builtin id) r) (hg : Gl X x) (hm : X.mg x = none) (hv : bootBuiltins x = some (.builtin id)) (ha : PA X (e :: es) t) (hn : x ≠ "__name__" := by decide) (hdb : (x == ("__debug__" : Str)) = false := by decide)
    (he : starEach (e :: es) X.env = (false, eval e X.env) :: starEach es X.env := by rfl) (hpl : (backTo pos (starEach es X.env)).any (·.1) = false := by rfl) : PE X (.Call (.Name x p) (e :: es) [] pos) (tCB r t) := by
  intro pins s σ H Q I h
  refine wpAny_Call_Name_kw (ld_blt I hg hm hv ?_ hn hdb)
  exact PyProof.Rows.callWith_builtin1 (thn (ha pos pins s σ H _ I h) fun us s1 ⟨vs, H1, I1, r1, q1⟩ => hc pins s1 σ H1 vs us Q I1 r1 q1) he hpl
/-- T(e, ..), T a built-in type -/
theorem pe_callTy (hc : CallR X (.type T) r) (hg : Gl X x) (hm : X.mg x = none) (hv : bootBuiltins x = some (.type T)) (ha : PA X (e :: es) t) (hn : x ≠ "__name__" := by decide) (hdb : (x == ("__debug__" : Str)) = false := by decide)
    (he : starEach (e :: es) X.env = (false, eval e X.env) :: starEach es X.env := by rfl) (hpl : (backTo pos (starEach es X.env)).any (·.1) = false := by rfl) : PE X (.Call (.Name x p) (e :: es) [] pos) (tCB r t) := by
  intro pins s σ H Q I h
  refine wpAny_Call_Name_kw (ld_blt I hg hm hv ?_ hn hdb)
  exact PyProof.Rows.callWith_type1 (thn (ha pos pins s σ H _ I h) fun us s1 ⟨vs, H1, I1, r1, q1⟩ => hc pins s1 σ H1 vs us Q I1 r1 q1) he hpl
end
end L2

namespace HT
open PySem PyProof.Rows

/-- t < u of tuples of ints -/
def lexLt : List Int → List Int → Bool
  | [], [] => false
  | [], _ :: _ => true
  | _ :: _, [] => false
  | x :: xs, y :: ys => if x = y then lexLt xs ys else decide (x < y)
section
open PySem.SeqAt
open PySem.AutoSeq1 (wpAny_loadPart')
open PySem.MeetsSeq PySem.MeetsSeq2 PySem.MeetsSeq3

end

section
variable {prog : Program} {w : World} {A : Around} {E : Value → Shared → Prop} {s : Shared}

/-! ### t[a:b], not the whole -/
/-- a slice's bound as a place among n (d where it is left out) -/
def sIx (n d : Nat) : Option Int → Nat
  | none => d
  | some v => if v < 0 then (v + (n : Int)).toNat else min v.toNat n
theorem sIx_none (n d : Nat) : sIx n d none = d := rfl
theorem sIx_nat (n d k : Nat) : sIx n d (some (k : Int)) = min k n := by
  show (if (k : Int) < 0 then ((k : Int) + (n : Int)).toNat else min (k : Int).toNat n) = min k n
  rw [if_neg (by omega), Int.toNat_natCast]
end
end HT

namespace L2
open PySem PySem.Spec PyProof.Rows

/-! ### the parts of a slice -/
abbrev TO := St → Hp → (Option Int → Hp → Prop) → Prop
/-- a slice's part (left out, or an int) -/
def PO (X : Cx) (e : Option Expr) (t : TO) : Prop :=
  ∀ (pins : List (Addr × Obj)) (s : Shared) (σ : St) (H : Hp) (Q : Option Int → Hp → Prop), Inv X pins σ H s → t σ H Q →
    wpAny (model X.prog X.w) X.A (evalPart e X.env) (fun u s' => ∃ o H', Inv X pins σ H' s' ∧ IsPart u o ∧ Q o H') X.xe s
def tNoPart : TO := fun _ H Q => Q none H
def tPart (t : TE) : TO := fun σ H Q => t σ H fun x H1 => ∃ i, x = .int i ∧ Q (some i) H1

section
variable {X : Cx} {e : Expr} {te : TE} {lo hi : Option Expr} {tl th : TO} {pos p2 : Pos}

theorem po_none : PO X none tNoPart := by
  intro pins s σ H Q I h
  rw [evalPart_none]
  exact wpAny_pure ⟨none, H, I, .none, h⟩
theorem po_some (h : PE X e te) : PO X (some e) (tPart te) := by
  intro pins s σ H Q I hw
  rw [evalPart_some]
  refine thn (h pins s σ H _ I hw) fun u s1 ⟨x, H1, I1, r1, q1⟩ => ?_
  obtain ⟨i, rfl, q⟩ := q1
  obtain ⟨t, rfl⟩ := r1
  exact ⟨some i, H1, I1, .int i t, q⟩

/-- what a slice of a value is, by values: the slice object stands at sl -/
def SlR (X : Cx) (r : V → Option Int → Option Int → Hp → VK → Prop) : Prop :=
  ∀ (pins : List (Addr × Obj)) (s : Shared) (σ : St) (H : Hp) (x : V) (v vl vu : Value) (lo hi : Option Int) (sl : Addr) (Q : VK), Inv X pins σ H s → RelV x v → s.heap.IsSliceOf sl vl vu .none → IsPart vl lo → IsPart vu hi → r x lo hi H Q →
    ∃ T id, typeLookup (.type T) "__getitem__" = pure (some (.builtin id)) ∧ s.TypeIs v T ∧ wpAny (model X.prog X.w) X.A (getItem v (.ref sl)) (EP X pins σ Q) X.xe s
def tSl (r : V → Option Int → Option Int → Hp → VK → Prop) (te : TE) (tl th : TO) : TE := fun σ H Q => te σ H fun x H1 => tl σ H1 fun l H2 => th σ H2 fun u H3 => r x l u H3 Q
/-- a[lo:hi], any a -/
theorem pe_slice {r : V → Option Int → Option Int → Hp → VK → Prop} (hr : SlR X r) (he : PE X e te) (hl : PO X lo tl) (hu : PO X hi th) : PE X (.Subscript e (.Slice lo hi none p2) pos) (tSl r te tl th) := by
  intro pins s σ H Q I h
  refine Subscript_ (thn (he pins s σ H _ I h) fun v s1 ⟨x, H1, I1, r1, q1⟩ => ?_)
  refine wpAny_Slice (thn (hl pins s1 σ H1 _ I1 q1) fun vl s2 ⟨l, H2, I2, pl, q2⟩ => thn (hu pins s2 σ H2 _ I2 q2) fun vu s3 ⟨u, H3, I3, pu, q3⟩ => ?_)
  rw [evalPart_none]
  refine wpAny_pure ?_
  have I4 : Inv X pins σ H3 { s3 with heap := s3.heap.push { cls := .type "slice", data := .fields #[vl, vu, .none] } } := I3.kept (t' := s3.toks) fun b ob q => Heap.get?_push_of_some _ q
  obtain ⟨T, id, hT, ht, hg⟩ := hr pins { s3 with heap := s3.heap.push { cls := .type "slice", data := .fields #[vl, vu, .none] } } σ H3 x v vl vu l u s3.heap.objs.size Q I4 r1 (Heap.IsSliceOf.new ..) pl pu q3
  show wpAny (model X.prog X.w) X.A (subscriptTail e (.Slice lo hi none p2) v (.ref s3.heap.objs.size)) (EP X pins σ Q) X.xe { s3 with heap := s3.heap.push { cls := .type "slice", data := .fields #[vl, vu, .none] } }
  exact tail_any (ops := [.ref s3.heap.objs.size, v]) ht hT hg (by with_unfolding_all rfl)

/-- the items of xs[lo:hi] -/
def cutV (xs : List V) (lo hi : Option Int) : List V := (xs.drop (HT.sIx xs.length 0 lo)).take (HT.sIx xs.length xs.length hi - HT.sIx xs.length 0 lo)
theorem cutV_length (xs : List V) (lo hi : Option Int) : (cutV xs lo hi).length ≤ xs.length := by
  unfold cutV
  rw [List.length_take, List.length_drop]
  omega
/-- t[lo:hi], not the whole of it (the whole would be t itself) -/
def rSlT (K : PySem.W.Frag) : V → Option Int → Option Int → Hp → VK → Prop := fun x lo hi H Q => ∃ a xs, x = .ref a ∧ SqT K H a xs ∧
  ¬ (HT.sIx xs.length 0 lo = 0 ∧ HT.sIx xs.length xs.length hi = xs.length) ∧ ∀ p, H p = none → Q (.ref p) (upd H p (.tup (cutV xs lo hi)))
/-! ### t < u, t + u -/
def rLtT (K : PySem.W.Frag) : R2 := fun x y H Q => ∃ a b ns ms, x = .ref a ∧ y = .ref b ∧ SqT K H a (ns.map V.int) ∧ SqT K H b (ms.map V.int) ∧ Q (.bl (HT.lexLt ns ms)) H
/-- t + u, t not empty: u empty gives t itself -/
def rCatT (K : PySem.W.Frag) : R2 := fun x y H Q => ∃ a b xs ys, x = .ref a ∧ y = .ref b ∧ SqT K H a xs ∧ SqT K H b ys ∧ xs ≠ [] ∧ xs.length + ys.length ≤ sizeLine ∧
  (ys = [] → Q (.ref a) H) ∧ (ys ≠ [] → ∀ p, H p = none → Q (.ref p) (upd H p (.tup (xs ++ ys))))
end
end L2

namespace L2
open PySem PySem.Spec PyProof.Rows

/-! ### places -/
/-- the place that an index of any sign means -/
def ixN (n : Nat) (i : Int) : Option Nat := if 0 ≤ i then (if i < n then some i.toNat else none) else if -(n : Int) ≤ i then some (i + n).toNat else none
def atI {α : Type} (xs : List α) (i : Int) : Option α := (ixN xs.length i).bind fun j => xs[j]?
theorem ixN_seq {n : Nat} {i : Int} {j : Nat} (h : ixN n i = some j) : seqIndex? i n = some j ∧ j < n ∧ -(n : Int) ≤ i ∧ i < n := by
  unfold ixN at h
  by_cases h0 : 0 ≤ i
  · rw [if_pos h0] at h
    by_cases h1 : i < n
    · rw [if_pos h1] at h
      have e : i.toNat = j := Option.some.inj h
      exact ⟨by rw [seqIndex_of h0 h1, e], by omega, by omega, h1⟩
    · rw [if_neg h1] at h; cases h
  · rw [if_neg h0] at h
    by_cases h1 : -(n : Int) ≤ i
    · rw [if_pos h1] at h
      have e : (i + n).toNat = j := Option.some.inj h
      exact ⟨by rw [seqIndex_neg (by omega) h1, e], by omega, h1, by omega⟩
    · rw [if_neg h1] at h; cases h
theorem atI_get {α : Type} {xs : List α} {i : Int} {v : α} (h : atI xs i = some v) : ∃ j, seqIndex? i xs.length = some j ∧ xs[j]? = some v ∧ j < xs.length ∧ -(xs.length : Int) ≤ i ∧ i < xs.length := by
  unfold atI at h
  cases e : ixN xs.length i with
  | none => rw [e] at h; cases h
  | some j =>
    rw [e] at h
    obtain ⟨h1, h2, h3, h4⟩ := ixN_seq e
    exact ⟨j, h1, h, h2, h3, h4⟩
theorem atI_nat {α : Type} {xs : List α} {j : Nat} {v : α} (h : xs[j]? = some v) : atI xs (j : Int) = some v := by
  have hj : j < xs.length := (List.getElem?_eq_some_iff.mp h).1
  have e : ixN xs.length (j : Int) = some j := by
    unfold ixN
    rw [if_pos (by omega), if_pos (by omega)]; simp
  unfold atI; rw [e]; exact h
theorem atI_last {α : Type} (xs : List α) (v : α) : atI (xs ++ [v]) (-1) = some v := by
  have hl : (xs ++ [v]).length = xs.length + 1 := by simp
  have e : ixN (xs ++ [v]).length (-1) = some xs.length := by
    unfold ixN
    rw [hl, if_neg (by decide), if_pos (by omega)]
    congr 1
    omega
  unfold atI
  rw [e]
  show (xs ++ [v])[xs.length]? = some v
  simp

/-! ### what may be subscripted -/
/-- what stands as an index of a plain subscript -/
def PlainIx (b : Expr) : Prop := ∀ o i, subscripted b false o i = operate [o, i] (getItem o i)
/-- a subscript by values -/
def IxR (X : Cx) (r : R2) : Prop :=
  ∀ (value slice : Expr) (pins : List (Addr × Obj)) (s : Shared) (σ : St) (H : Hp) (x y : V) (v u : Value) (Q : VK), Inv X pins σ H s → RelV x v → RelV y u → r x y H Q →
    subscripted slice false v u = operate [v, u] (getItem v u) → wpAny (model X.prog X.w) X.A (subscriptTail value slice v u) (EP X pins σ Q) X.xe s
/-- a call of a builtin's method by values: the receiver, the arguments -/
def MtR (X : Cx) (id : String) (r : V → List V → Hp → VK → Prop) : Prop :=
  ∀ (pins : List (Addr × Obj)) (s : Shared) (σ : St) (H : Hp) (x : V) (xs : List V) (v : Value) (us : List Value) (Q : VK), Inv X pins σ H s → RelV x v → Vals xs us → r x xs H Q →
    wpAny (model X.prog X.w) X.A (call (.builtin id) (v :: us)) (EP X pins σ Q) X.xe s
section
variable {X : Cx} {a b : Expr} {ta tb : TE} {pos : Pos}
/-- a[b] -/
theorem pe_ix {r : R2} (hr : IxR X r) (ha : PE X a ta) (hb : PE X b tb) (hs : PlainIx b) : PE X (.Subscript a b pos) (tOp r ta tb) := by
  intro pins s σ H Q I h
  exact Subscript_ (binT ha hb I h fun v u s2 x y H2 I2 rx ry q => hr a b pins s2 σ H2 x y v u Q I2 rx ry q (hs _ _))

def rIxL (K : PySem.W.Frag) : R2 := fun x y H Q => ∃ p xs i v, x = .ref p ∧ y = .int i ∧ SqL K H p xs ∧ atI xs i = some v ∧ Q v H
def rIxT (K : PySem.W.Frag) : R2 := fun x y H Q => ∃ p xs i v, x = .ref p ∧ y = .int i ∧ SqT K H p xs ∧ atI xs i = some v ∧ Q v H
def rIxS : R2 := fun x y H Q => ∃ z i c, x = .str z ∧ y = .int i ∧ z.length ≤ sizeLine ∧ atI z.cps.toList i = some c ∧ Q (.str ⟨#[c]⟩) H
theorem ix_list : IxR X (rIxL X.K) := by
  intro value slice pins s σ H x y v u Q I rx ry h hs
  obtain ⟨p, xs, i, z, rfl, rfl, hq, he, q⟩ := h
  cases rx
  obtain ⟨t, rfl⟩ := ry
  obtain ⟨its, r, pl, hz⟩ := I.list hq
  obtain ⟨j, h1, h2, h3, h4, h5⟩ := atI_get he
  obtain ⟨w, ew, rw'⟩ := r.get h2
  have hl := r.length
  have hn := line63
  have fin : EP X pins σ Q w s := ⟨z, H, I, rw', q⟩
  by_cases h0 : 0 ≤ i
  · have hj : i.toNat = j := by
      rw [seqIndex_of h0 h5] at h1
      exact Option.some.inj h1
    exact item_listR pl.isList h0 (by omega) (by rw [hj]; simpa using ew) fin hs
  · have hj : (i + (its.toArray.size : Int)).toNat = j := by
      rw [seqIndex_neg (by omega) h4] at h1
      rw [List.size_toArray, ← hl]
      exact Option.some.inj h1
    exact subscriptTail_builtinR (x := w) pl.isList.typeIs slot_list_getitem.lookup
      (wpAny_getItem_list_neg (Q := fun r s' => r = w ∧ EP X pins σ Q r s') pl.isList (by omega) (by rw [List.size_toArray] <;> omega) (by omega) (by rw [hj]; simpa using ew) ⟨rfl, fin⟩) hs
theorem ix_tup : IxR X (rIxT X.K) := by
  intro value slice pins s σ H x y v u Q I rx ry h hs
  obtain ⟨p, xs, i, z, rfl, rfl, hq, he, q⟩ := h
  cases rx
  obtain ⟨t, rfl⟩ := ry
  obtain ⟨its, r, pl, hz⟩ := I.tuple hq
  obtain ⟨j, h1, h2, h3, h4, h5⟩ := atI_get he
  obtain ⟨w, ew, rw'⟩ := r.get h2
  have hl := r.length
  have hn := line63
  have fin : EP X pins σ Q w s := ⟨z, H, I, rw', q⟩
  exact subscriptTail_builtinR (x := w) pl.typeIs slot_tuple_getitem.lookup
    (getItem_tuple (j := j) (Q := fun r s' => r = w ∧ EP X pins σ Q r s') pl (by omega) (by omega) (by rw [List.size_toArray, ← hl]; exact h1) (by simpa using ew) ⟨rfl, fin⟩) hs
theorem ix_str : IxR X rIxS := by
  intro value slice pins s σ H x y v u Q I rx ry h hs
  obtain ⟨z, i, c, rfl, rfl, hz, he, q⟩ := h
  obtain ⟨t, rfl⟩ := rx
  obtain ⟨t', rfl⟩ := ry
  obtain ⟨j, h1, h2, h3, h4, h5⟩ := atI_get he
  have hl : z.cps.toList.length = z.length := by simp [Str.length]
  rw [hl] at h1 h4 h5
  have hn := line63
  exact tail_any (typeIs_str s z t) slot_str_getitem.lookup (getItem_str (c := c) (by
    have e1 : decide (i < -(2 ^ 63 : Int)) = false := decide_eq_false (by omega)
    have e2 : decide (i ≥ 2 ^ 63) = false := decide_eq_false (by omega)
    rw [e1, e2, Bool.or_false]) (by rw [h1]; simpa using h2) ⟨.str ⟨#[c]⟩, H, I.tok _, ⟨_, rfl⟩, q⟩) hs
/-- list, tuple or str -/
def rIx (K : PySem.W.Frag) : R2 := fun x y H Q => rIxL K x y H Q ∨ rIxT K x y H Q ∨ rIxS x y H Q
/-! ### xs[i] = v, any sign -/
def rSetL : V → V → V → Hp → (Hp → Prop) → Prop := fun o i v H Q => ∃ p xs k j, o = .ref p ∧ i = .int k ∧ H p = some (.lst xs) ∧ ixN xs.length k = some j ∧ Q (upd H p (.lst (xs.set j v)))
/-! ### slices -/
theorem slice_bounds (lo hi : Option Int) (n : Nat) : (sliceBounds lo hi none n).1 = ((HT.sIx n 0 lo : Nat) : Int) ∧ (sliceBounds lo hi none n).2.1 = ((HT.sIx n n hi : Nat) : Int) ∧ (sliceBounds lo hi none n).2.2 = 1 := by
  refine ⟨?_, ?_, rfl⟩
  · cases lo with
    | none => simp [sliceBounds, HT.sIx]
    | some i =>
      simp only [sliceBounds, HT.sIx, Option.getD_none, show (1 : Int) > 0 by decide, if_true]
      by_cases h : i < 0
      · simp only [h, if_true] <;> omega
      · simp only [h, if_false] <;> omega
  · cases hi with
    | none => simp [sliceBounds, HT.sIx]
    | some i =>
      simp only [sliceBounds, HT.sIx, Option.getD_none, show (1 : Int) > 0 by decide, if_true]
      by_cases h : i < 0
      · simp only [h, if_true] <;> omega
      · simp only [h, if_false] <;> omega
theorem slicePick_cut (its : List Value) (lo hi : Option Int) : slicePick its.toArray lo hi none = ((its.drop (HT.sIx its.length 0 lo)).take (HT.sIx its.length its.length hi - HT.sIx its.length 0 lo)).toArray := by
  obtain ⟨h1, h2, h3⟩ := slice_bounds lo hi its.toArray.size
  unfold slicePick
  rw [h1, h2, h3]
  simp only [sliceRange_one, pick_run, List.size_toArray] <;> rfl
/-- xs[lo:hi] of a list: a new list -/
def rSlL (K : PySem.W.Frag) : V → Option Int → Option Int → Hp → VK → Prop := fun x lo hi H Q => ∃ a xs, x = .ref a ∧ SqL K H a xs ∧ ∀ p, H p = none → Q (.ref p) (upd H p (.lst (cutV xs lo hi)))
theorem sl_list : SlR X (rSlL X.K) := by
  intro pins s σ H x v vl vu lo hi sl Q I rx hs pl pu h
  obtain ⟨a, xs, rfl, hx, q⟩ := h
  cases rx
  obtain ⟨its, r, ht, hz⟩ := I.list hx
  have hlen := r.length
  refine ⟨"list", _, slot_list_getitem.lookup, ht.isList.typeIs, ?_⟩
  refine wpAny_getItem_list_slice ht.isList hs pl pu .none (by simp) ?_ (by rw [List.size_toArray] <;> omega)
  rw [slicePick_cut, ← hlen]
  refine ⟨.ref s.heap.objs.size, _, I.laid (t' := s.toks) (o := .lst (cutV xs lo hi)) (fun b ob q => Heap.get?_push_of_some _ q) (Nat.le_refl _) ?_, rfl, q _ (I.hok.fresh (Nat.le_refl _))⟩
  exact ⟨Nat.le_trans (cutV_length xs lo hi) hz, _, 0, (r.drop (HT.sIx xs.length 0 lo)).take (HT.sIx xs.length xs.length hi - HT.sIx xs.length 0 lo), Heap.get?_push_size _ rfl⟩

/-! ### in, not in: flat items -/
def flatV : V → Bool
  | .non => true
  | .bl _ => true
  | .int _ => true
  | .str _ => true
  | _ => false
/-- == of flat values -/
def eqV : V → V → Bool
  | .non, .non => true
  | .bl a, .bl b => a == b
  | .bl a, .int b => (if a then 1 else 0) == b
  | .int a, .bl b => a == (if b then 1 else 0)
  | .int a, .int b => a == b
  | .str a, .str b => a == b
  | _, _ => false
theorem eqAt_V {A : Around} {s : Shared} {y x : V} {u v : Value} (ry : RelV y u) (rx : RelV x v) (fy : flatV y = true) (fx : flatV x = true) : SeqAt.EqAt A s u v (eqV y x) := by
  cases y with
  | non =>
    cases ry
    cases x with
    | non => cases rx; exact SeqAt.EqAt.same _
    | bl b => cases rx; exact SeqAt.EqAt.none_bool b
    | int b => obtain ⟨t, rfl⟩ := rx; exact SeqAt.EqAt.none_int b t
    | str b => obtain ⟨t, rfl⟩ := rx; exact SeqAt.EqAt.none_str b t
    | _ => exact absurd (show false = true from fx) Bool.false_ne_true
  | bl a =>
    cases ry
    cases x with
    | non => cases rx; exact SeqAt.EqAt.bool_none a
    | bl b => cases rx; exact SeqAt.EqAt.bool_bool a b
    | int b => obtain ⟨t, rfl⟩ := rx; exact SeqAt.EqAt.bool_int a b t
    | str b => obtain ⟨t, rfl⟩ := rx; exact SeqAt.EqAt.bool_str a b t
    | _ => exact absurd (show false = true from fx) Bool.false_ne_true
  | int a =>
    obtain ⟨t', rfl⟩ := ry
    cases x with
    | non => cases rx; exact SeqAt.EqAt.int_none a t'
    | bl b => cases rx; exact SeqAt.EqAt.int_bool a t' b
    | int b => obtain ⟨t, rfl⟩ := rx; exact SeqAt.EqAt.int_int a t' b t
    | str b => obtain ⟨t, rfl⟩ := rx; exact SeqAt.EqAt.int_str a t' b t
    | _ => exact absurd (show false = true from fx) Bool.false_ne_true
  | str a =>
    obtain ⟨t', rfl⟩ := ry
    cases x with
    | non => cases rx; exact SeqAt.EqAt.str_none a t'
    | bl b => cases rx; exact SeqAt.EqAt.str_bool a t' b
    | int b => obtain ⟨t, rfl⟩ := rx; exact SeqAt.EqAt.str_int a t' b t
    | str b => obtain ⟨t, rfl⟩ := rx; exact SeqAt.EqAt.str_str a t' b t
    | _ => exact absurd (show false = true from fx) Bool.false_ne_true
  | _ => exact absurd (show false = true from fy) Bool.false_ne_true
/-- the items' answers, read off the values (a value's own answer does not lean on its token) -/
def eqU (x : V) (u : Value) : Bool := match u with
  | .none => eqV .non x
  | .bool b => eqV (.bl b) x
  | .int i _ => eqV (.int i) x
  | .str z _ => eqV (.str z) x
  | _ => false
theorem eqU_of {x y : V} {u : Value} (r : RelV y u) (f : flatV y = true) : eqU x u = eqV y x := by
  cases y with
  | non => cases r; rfl
  | bl b => cases r; rfl
  | int i => obtain ⟨t, rfl⟩ := r; rfl
  | str z => obtain ⟨t, rfl⟩ := r; rfl
  | _ => exact absurd (show false = true from f) Bool.false_ne_true
theorem any_eqU {x : V} : ∀ {xs : List V} {us : List Value}, Vals xs us → xs.all flatV = true → us.any (eqU x) = xs.any fun y => eqV y x
  | _, _, .nil, _ => rfl
  | y :: xs, u :: us, .cons r t, f => by
    rw [List.all_cons, Bool.and_eq_true] at f
    rw [List.any_cons, List.any_cons, eqU_of r f.1, any_eqU t f.2]
theorem mem_eqAt {A : Around} {s : Shared} {x : V} {v : Value} (rx : RelV x v) (fx : flatV x = true) : ∀ {xs : List V} {us : List Value}, Vals xs us → xs.all flatV = true → ∀ u ∈ us, SeqAt.EqAt A s u v (eqU x u)
  | _, _, .nil, _ => fun u hu => by cases hu
  | y :: xs, u :: us, .cons r t, f => fun u' hu => by
    rw [List.all_cons, Bool.and_eq_true] at f
    rcases List.mem_cons.mp hu with rfl | hu
    · rw [eqU_of r f.1]; exact eqAt_V r rx f.1 fx
    · exact mem_eqAt rx fx t f.2 u' hu
def inV (x : V) (xs : List V) : Bool := xs.any fun y => eqV y x
/-- x in a list or tuple of flat items -/
def rIn (K : PySem.W.Frag) (neg : Bool) : R2 := fun x y H Q => ∃ p xs, y = .ref p ∧ (SqL K H p xs ∨ SqT K H p xs) ∧ flatV x = true ∧ xs.all flatV = true ∧ Q (.bl (if neg then !inV x xs else inV x xs)) H
theorem op_in_seq : OpR X (compareOp .In) (rIn X.K false) := by
  intro pins s σ H x y v u Q I rx ry h
  obtain ⟨p, xs, rfl, hq, fx, fs, q⟩ := h
  cases ry
  rcases hq with hq | hq
  · obtain ⟨its, r, pl, hz⟩ := I.list hq
    refine SeqAt.in_listAt (eqU x) pl.isList (fun w hw => mem_eqAt rx fx r fs w (by simpa using hw)) ⟨.bl _, H, I, rfl, ?_⟩
    rw [show its.toArray.any (eqU x) = its.any (eqU x) by simp, any_eqU r fs]
    exact q
  · obtain ⟨its, r, pl, hz⟩ := I.tuple hq
    refine SeqAt.in_tupleAt (eqU x) pl (fun w hw => mem_eqAt rx fx r fs w (by simpa using hw)) ⟨.bl _, H, I, rfl, ?_⟩
    rw [show its.toArray.any (eqU x) = its.any (eqU x) by simp, any_eqU r fs]
    exact q
theorem op_notIn_seq : OpR X (compareOp .NotIn) (rIn X.K true) := by
  intro pins s σ H x y v u Q I rx ry h
  obtain ⟨p, xs, rfl, hq, fx, fs, q⟩ := h
  cases ry
  rcases hq with hq | hq
  · obtain ⟨its, r, pl, hz⟩ := I.list hq
    refine SeqAt.notIn_listAt (eqU x) pl.isList (fun w hw => mem_eqAt rx fx r fs w (by simpa using hw)) ⟨.bl _, H, I, rfl, ?_⟩
    rw [show its.toArray.any (eqU x) = its.any (eqU x) by simp, any_eqU r fs]
    exact q
  · obtain ⟨its, r, pl, hz⟩ := I.tuple hq
    refine SeqAt.notIn_tupleAt (eqU x) pl (fun w hw => mem_eqAt rx fx r fs w (by simpa using hw)) ⟨.bl _, H, I, rfl, ?_⟩
    rw [show its.toArray.any (eqU x) = its.any (eqU x) by simp, any_eqU r fs]
    exact q
/-! ### len, list(x), tuple(x) of any list or tuple that is read -/
theorem call_len_seq : CallR X (.builtin "len") (fun xs H Q => ∃ p ys, xs = [.ref p] ∧ (SqL X.K H p ys ∨ SqT X.K H p ys) ∧ Q (.int ys.length) H) := by
  intro pins s σ H xs us Q I r h
  obtain ⟨p, ys, rfl, hq, q⟩ := h
  obtain ⟨u, rfl, rx⟩ := vals1 r
  cases rx
  have hn := line63
  rcases hq with hq | hq
  · obtain ⟨its, r', pl, hz⟩ := I.list hq
    have hlen := r'.length
    exact Calls.call_len_list pl.isList (by simp only [List.size_toArray] <;> omega) ⟨.int ys.length, H, I.tok _, ⟨s.toks + 1, by rw [List.size_toArray, hlen]⟩, q⟩
  · obtain ⟨its, r', pl, hz⟩ := I.tuple hq
    have hlen := r'.length
    exact len_tuple pl (by simp only [List.size_toArray] <;> omega) ⟨.int ys.length, H, I.tok _, ⟨s.toks + 1, by rw [List.size_toArray, hlen]⟩, q⟩
theorem call_len_str : CallR X (.builtin "len") (fun xs H Q => ∃ z, xs = [.str z] ∧ z.length ≤ sizeLine ∧ Q (.int z.length) H) := by
  intro pins s σ H xs us Q I r h
  obtain ⟨z, rfl, hz, q⟩ := h
  obtain ⟨u, rfl, t, rfl⟩ := vals1 r
  have hn := line63
  exact len_str (by omega) ⟨.int z.length, H, I.tok _, ⟨_, rfl⟩, q⟩
/-! ### the call of a builtin's method: o.m(..) -/
/-- the value is of that builtin type -/
def tyV (K : PySem.W.Frag) (T : String) (x : V) (H : Hp) : Prop := match x with
  | .str _ => T = "str"
  | .int _ => T = "int"
  | .ref p => (T = "list" ∧ ∃ xs, SqL K H p xs) ∨ (T = "tuple" ∧ ∃ o, K.lookup p = some o ∧ o.cls = .type "tuple" ∧ o.dict = none) ∨
      (T = "dict" ∧ ((∃ kvs, H p = some (.dK kvs)) ∨ ∃ kvs, H p = some (.dT kvs))) ∨ (T = "set" ∧ ∃ S n, H p = some (.set S n))
  | _ => False
theorem tyV_is {pins : List (Addr × Obj)} {σ : St} {H : Hp} {s : Shared} {T : String} {x : V} {v : Value} (I : Inv X pins σ H s) (r : RelV x v) (ty : tyV X.K T x H) :
    s.TypeIs v T ∧ ∀ a, v = .ref a → ∃ ob, s.heap.get? a = some ob ∧ ob.dict = none := by
  cases x with
  | str z =>
    obtain ⟨t, rfl⟩ := r
    cases (show T = "str" from ty)
    exact ⟨typeIs_str s z t, fun _ e => nomatch e⟩
  | int i =>
    obtain ⟨t, rfl⟩ := r
    cases (show T = "int" from ty)
    exact ⟨typeIs_int s i t, fun _ e => nomatch e⟩
  | ref p =>
    cases r
    rcases ty with ⟨rfl, xs, hq⟩ | ⟨rfl, o, hk, hc, hd⟩ | ⟨rfl, hk⟩ | ⟨rfl, S, n, hk⟩
    · obtain ⟨its, _, pl, _⟩ := I.list hq
      refine ⟨pl.isList.typeIs, fun a e => ?_⟩
      cases e
      obtain ⟨o, n, e, c, hd, _⟩ := pl
      exact ⟨o, e, hd⟩
    · refine ⟨⟨o, I.kIn p o hk, hc⟩, fun a e => ?_⟩
      cases e
      exact ⟨o, I.kIn _ o hk, hd⟩
    · have z : ∃ o, s.heap.get? p = some o ∧ o.ExactDict := by
        rcases hk with ⟨kvs, hk⟩ | ⟨kvs, hk⟩
        · obtain ⟨_, _, _, _, o, _, _, e, ex, _⟩ := I.hok p _ hk
          exact ⟨o, e, ex⟩
        · obtain ⟨_, _, _, _, o, _, _, e, ex, _⟩ := I.hok p _ hk
          exact ⟨o, e, ex⟩
      obtain ⟨o, e, ex⟩ := z
      refine ⟨⟨o, e, ex.1⟩, fun a e2 => ?_⟩
      cases e2
      exact ⟨o, e, ex.2.1⟩
    · obtain ⟨o, _, _, _, e, ex, _⟩ := I.hok p _ hk
      refine ⟨⟨o, e, ex.1⟩, fun a e2 => ?_⟩
      cases e2
      exact ⟨o, e, ex.2.1⟩
  | _ => exact False.elim ty
def tBM0 (K : PySem.W.Frag) (T : String) (r : V → List V → Hp → VK → Prop) (to : TE) : TE := fun σ H Q => to σ H fun x H1 => tyV K T x H1 ∧ r x [] H1 Q
def tBM (K : PySem.W.Frag) (T : String) (r : V → List V → Hp → VK → Prop) (to : TE) (t : TA) : TE := fun σ H Q => to σ H fun x H1 => tyV K T x H1 ∧ t σ H1 fun xs H2 => r x xs H2 Q
variable {o e : Expr} {es : List Expr} {to : TE} {t : TA} {name : Str} {apos cpos : Pos} {T id : String} {r : V → List V → Hp → VK → Prop}
theorem pe_bm (pa : PlainAttrs T) (slot : Slot T name id) (hty : typeOf (.builtin id) = pure (.type "method_descriptor")) (hm : MtR X id r) (ho : PE X o to) (ha : PA X (e :: es) t)
    (hbase : attributeBase o name X.env (eval o X.env) = eval o X.env := by rfl)
    (hfew : ((backTo cpos (starEach (e :: es) X.env)).all (fun x => !x.1) && (backToKw cpos (keywordEach [] X.env)).all (fun x => x.1.isSome)
      && decide ((e :: es).length + ([] : List Keyword).length + (if ([] : List Keyword).isEmpty then 0 else 1) < 30)) = true := by rfl)
    (hline : (apos.endLine == cpos.line) = true := by rfl) (hs : starEach (e :: es) X.env = (false, eval e X.env) :: starEach es X.env := by rfl) (hplain : (backTo cpos (starEach es X.env)).any (·.1) = false := by rfl) :
    PE X (.Call (.Attribute o name apos) (e :: es) [] cpos) (tBM X.K T r to t) := by
  intro pins s σ H Q I h
  refine wpAny_Call_method_late hbase hfew hline rfl (thn (ho pins s σ H _ I h) fun v s1 ⟨x, H1, I1, r1, ty, q1⟩ => ?_)
  obtain ⟨h1, h2⟩ := tyV_is I1 r1 ty
  refine ⟨T, id, pa, slot, hty, h1, h2, ?_⟩
  have hA := ha cpos pins s1 σ H1 _ I1 q1
  rw [hs] at hA ⊢
  refine Calls.callWith_builtin (by show (false || (backTo cpos (starEach es X.env)).any (·.1)) = false; rw [hplain] <;> rfl) (Calls.evalArgs_plain ?_)
  exact thn hA fun us s2 ⟨vs, H2, I2, r2, q2⟩ => hm pins s2 σ H2 x vs v us Q I2 r1 r2 q2
/- xs.append(e), list.index on a module's tuple .. are MtR facts of 06m -/
end
end L2

namespace L2
open PySem PySem.Spec PyProof.Rows

def MtM (X : Cx) (id : String) (r : V → List V → Hp → VK → Prop) : Prop :=
  ∀ (pins : List (Addr × Obj)) (s : Shared) (σ : St) (H : Hp) (x : V) (xs : List V) (v : Value) (us : List Value) (Q : VK), Inv X pins σ H s → RelV x v → Vals xs us → r x xs H Q →
    wpAny (model X.prog X.w) X.A (call (.builtin id) (v :: us)) (EP X pins σ Q) X.xe s

/-! ### lists of values -/
theorem Vals.one : ∀ {x : V} {us : List Value}, Vals [x] us → ∃ u, us = [u] ∧ RelV x u
  | _, _, .cons r .nil => ⟨_, rfl, r⟩
section
variable {X : Cx} {pins : List (Addr × Obj)} {σ : St} {H : Hp} {s : Shared} {l b : Addr} {xs ys zs : List V}

/-! ### the two steps: a tracked list is rewritten, a new list is laid -/
theorem Inv.lset {its its' : List Value} {n : Nat} {f : Array Value → Array Value} {t' : Nat} (I : Inv X pins σ H s) (hH : H l = some (.lst xs))
    (e : s.heap.get? l = some { cls := .type "list", data := .seq its.toArray n }) (hf : f its.toArray = its'.toArray) (hv : Vals ys its') (hz : ys.length ≤ sizeLine) :
    Inv X pins σ (upd H l (.lst ys)) { s with heap := s.heap.update l (Obj.mapSeq f), toks := t' } := by
  have q := PySem.IsL.update e f
  rw [hf] at q
  refine I.write (x := l) (e := l) (by rw [hH]; exact trivial) (.inl rfl) (fun b' u hb hu => (Heap.get?_update_other s.heap (Obj.mapSeq f) (Ne.symm hb)).trans hu) ⟨_, q⟩ ?_
  exact ⟨hz, its', _, hv, q⟩
theorem Inv.lnew {its : List Value} {t' : Nat} (I : Inv X pins σ H s) (hv : Vals ys its) (hz : ys.length ≤ sizeLine) :
    Inv X pins σ (upd H s.heap.objs.size (.lst ys)) { s with heap := s.heap.push { cls := .type "list", data := .seq its.toArray }, toks := t' } :=
  I.laid (fun _ _ q => Heap.get?_push_of_some _ q) (Nat.le_refl _) ⟨hz, its, 0, hv, Heap.get?_push_size _ rfl⟩
theorem Inv.fresh (I : Inv X pins σ H s) : H s.heap.objs.size = none := I.hok.fresh (Nat.le_refl _)
theorem Inv.lstM (I : Inv X pins σ H s) (hH : H l = some (.lst xs)) : xs.length ≤ sizeLine ∧ ∃ (its : List Value) (n : Nat), Vals xs its ∧ xs.length = its.length ∧ s.heap.get? l = some { cls := .type "list", data := .seq its.toArray n } := by
  obtain ⟨z, its, n, r, e⟩ := I.hok l _ hH
  exact ⟨z, its, n, r, r.length, e⟩

theorem notLongL {n : Nat} (h : n ≤ sizeLine) : Builtin.List.listTooLong n = false := by
  unfold Builtin.List.listTooLong
  exact decide_eq_false (by omega)
end

section
variable {X : Cx}

/-! ### methods -/
def rAppend : V → List V → Hp → VK → Prop := fun x vs H Q => ∃ l xs y, x = .ref l ∧ vs = [y] ∧ H l = some (.lst xs) ∧ xs.length < sizeLine ∧ Q .non (upd H l (.lst (xs ++ [y])))
theorem mt_append : MtM X "list.append" rAppend := by
  intro pins s σ H x vs v us Q I rx rv h
  obtain ⟨l, xs, y, rfl, rfl, hH, hz, q⟩ := h
  cases rx
  obtain ⟨u, rfl, ru⟩ := rv.one
  obtain ⟨z, its, n, r, hl, e⟩ := I.lstM hH
  refine call_meets F.slot_list_append ⟨_, e, rfl⟩ F.entry_list_append (F.args_list_append_2 _ _) (PySem.list_append l its.toArray n u (by rw [List.size_toArray]; omega)) ⟨e, ?_⟩
  refine ⟨.non, _, I.lset (its' := its ++ [u]) hH e (by simp) (r.append (.cons ru .nil)) ?_, rfl, q⟩
  rw [List.length_append, List.length_singleton]
  omega

def rExtend : V → List V → Hp → VK → Prop := fun x vs H Q => ∃ l b xs zs, x = .ref l ∧ vs = [.ref b] ∧ H l = some (.lst xs) ∧ H b = some (.lst zs) ∧ xs.length + zs.length ≤ sizeLine ∧ Q .non (upd H l (.lst (xs ++ zs)))
theorem mt_extend : MtM X "list.extend" rExtend := by
  intro pins s σ H x vs v us Q I rx rv h
  obtain ⟨l, b, xs, zs, rfl, rfl, hH, hB, hz, q⟩ := h
  cases rx
  obtain ⟨u, rfl, ru⟩ := rv.one
  cases ru
  obtain ⟨z, its, n, r, hl, e⟩ := I.lstM hH
  obtain ⟨z2, its2, n2, r2, hl2, e2⟩ := I.lstM hB
  have hsz : its.toArray.size + its2.toArray.size ≤ sizeLine := by rw [List.size_toArray, List.size_toArray]; omega
  have hlong : ¬ (!its.toArray.isEmpty && Builtin.List.listTooLong (its.toArray.size + its2.toArray.size)) = true := by
    rw [notLongL hsz, Bool.and_false]
    exact Bool.false_ne_true
  refine call_meets F.slot_list_extend ⟨_, e, rfl⟩ F.entry_list_extend (F.args_list_extend_2 _ _)
    (AutoSeq1.list_extend_list_list_0 l its.toArray n b its2.toArray n2 hlong (by rw [List.size_toArray]; omega) (by omega)) ⟨e, e2, ?_⟩
  refine ⟨.non, _, I.lset (its' := its ++ its2) hH e (by simp) (r.append r2) ?_, rfl, q⟩
  rw [List.length_append]
  omega

def rPop : V → List V → Hp → VK → Prop := fun x vs H Q => ∃ l xs y, x = .ref l ∧ vs = [] ∧ H l = some (.lst xs) ∧ xs[xs.length - 1]? = some y ∧ Q y (upd H l (.lst xs.dropLast))
def rPopAt : V → List V → Hp → VK → Prop := fun x vs H Q => ∃ l xs i k y, x = .ref l ∧ vs = [.int i] ∧ H l = some (.lst xs) ∧ -(2 ^ 63) ≤ i ∧ i < 2 ^ 63 ∧ seqIndex? i xs.length = some k ∧ xs[k]? = some y ∧ Q y (upd H l (.lst (xs.eraseIdx k)))
def rReverse : V → List V → Hp → VK → Prop := fun x vs H Q => ∃ l xs, x = .ref l ∧ vs = [] ∧ H l = some (.lst xs) ∧ Q .non (upd H l (.lst xs.reverse))
def rClear : V → List V → Hp → VK → Prop := fun x vs H Q => ∃ l xs, x = .ref l ∧ vs = [] ∧ H l = some (.lst xs) ∧ Q .non (upd H l (.lst []))
/-! ### list + list, list += list, list * int -/
def rCat : R2 := fun x y H Q => ∃ l b xs zs, x = .ref l ∧ y = .ref b ∧ H l = some (.lst xs) ∧ H b = some (.lst zs) ∧ xs.length + zs.length ≤ sizeLine ∧ ∀ p, H p = none → Q (.ref p) (upd H p (.lst (xs ++ zs)))
theorem op_cat : OpR X (binaryOp .Add) rCat := by
  intro pins s σ H x y v u Q I rx ry h
  obtain ⟨l, b, xs, zs, rfl, rfl, hH, hB, hz, q⟩ := h
  cases rx
  cases ry
  obtain ⟨z, its, n, r, hl, e⟩ := I.lstM hH
  obtain ⟨z2, its2, n2, r2, hl2, e2⟩ := I.lstM hB
  refine PySem.P.add_list e e2 ?_ (by rw [List.size_toArray, List.size_toArray]; omega)
  have ea : its.toArray ++ its2.toArray = (its ++ its2).toArray := by simp
  rw [ea]
  exact ⟨.ref _, _, I.lnew (t' := s.toks) (r.append r2) (by rw [List.length_append]; omega), rfl, q _ I.fresh⟩
/-- a list times an int (a negative one is nothing) -/
def rRep : R2 := fun x y H Q => ∃ l k xs, x = .ref l ∧ y = .int k ∧ H l = some (.lst xs) ∧ -(2 ^ 63) ≤ k ∧ k < 2 ^ 63 ∧ xs.length * k.toNat ≤ sizeLine ∧
  ∀ p, H p = none → Q (.ref p) (upd H p (.lst (List.replicate k.toNat xs).flatten))
/-! ### del xs[i] -/
end

/-! ### xs[a:b] = ys -/
section
variable {prog : Program} {w : World} {A : Around} {E : Value → Shared → Prop} {s : Shared}
end

section
variable {X : Cx}
end
end L2

namespace L2
open PySem PySem.Spec PyProof.Rows

theorem Vals.bls : ∀ {bs : List Bool} {us : List Value}, Vals (bs.map V.bl) us → us = bs.map Value.bool
  | [], us, h => by
    rw [List.map_nil] at h
    cases h
    rfl
  | b :: bs, us, h => by
    rw [List.map_cons] at h
    cases h with
    | cons r t =>
      cases r
      rw [Vals.bls t, List.map_cons]
theorem Vals.ref1 {a : Addr} {us : List Value} (r : Vals [V.ref a] us) : us = [Value.ref a] := by
  cases r with
  | cons r t =>
    cases t
    cases r
    rfl
/-! ### the library's walks over a list of ints, kept objects alone -/
section
variable {prog : Program} {w : World} {A : Around} {E : Value → Shared → Prop} {s : Shared} {l : Addr} {its : List Value} {ns : List Int} {Q : Value → Shared → Prop}
end

/-! ### the calls, by values (CallR of 03t; MtR of 06l) -/
section
variable {X : Cx}
/-- sum(xs) of a list of ints -/
def rSum (K : PySem.W.Frag) : List V → Hp → VK → Prop := fun vs H Q => ∃ (a : Addr) (ns : List Int), vs = [V.ref a] ∧ SqL K H a (ns.map V.int) ∧ Q (.int ns.sum) H
/-- max(xs), min(xs) of a list of ints -/
def rMax (K : PySem.W.Frag) : List V → Hp → VK → Prop := fun vs H Q => ∃ (a : Addr) (ns : List Int), vs = [V.ref a] ∧ SqL K H a (ns.map V.int) ∧ 0 < ns.length ∧ ∀ m, m ∈ ns → (∀ y, y ∈ ns → y ≤ m) → Q (.int m) H
def rMin (K : PySem.W.Frag) : List V → Hp → VK → Prop := fun vs H Q => ∃ (a : Addr) (ns : List Int), vs = [V.ref a] ∧ SqL K H a (ns.map V.int) ∧ 0 < ns.length ∧ ∀ m, m ∈ ns → (∀ y, y ∈ ns → m ≤ y) → Q (.int m) H
/-! sorted, sort (fewer than 64 items: the library's own bound) -/
def rSorted (K : PySem.W.Frag) : List V → Hp → VK → Prop := fun vs H Q => ∃ (a : Addr) (ns : List Int), vs = [V.ref a] ∧ SqL K H a (ns.map V.int) ∧ ns.length < 64 ∧
  ∀ (ns' : List Int) (p : Addr), ns'.Perm ns → ns'.Pairwise (· ≤ ·) → H p = none → Q (.ref p) (upd H p (.lst (ns'.map V.int)))
def rSortedS (K : PySem.W.Frag) : List V → Hp → VK → Prop := fun vs H Q => ∃ (a : Addr) (xs : List Str), vs = [V.ref a] ∧ SqL K H a (xs.map V.str) ∧ xs.length < 64 ∧
  ∀ (ys : List Str) (p : Addr), ys.Perm xs → sortedS ys = true → H p = none → Q (.ref p) (upd H p (.lst (ys.map V.str)))
/-- xs.sort(), ints -/
def rSort : V → List V → Hp → VK → Prop := fun x xs H Q => ∃ (a : Addr) (ns : List Int), x = V.ref a ∧ xs = [] ∧ H a = some (.lst (ns.map V.int)) ∧ ns.length < 64 ∧
  ∀ ns' : List Int, ns'.Perm ns → ns'.Pairwise (· ≤ ·) → Q .non (upd H a (.lst (ns'.map V.int)))
end

/-! ### list.index, flat items -/
section
variable {X : Cx}
def rIndex (K : PySem.W.Frag) : V → List V → Hp → VK → Prop := fun x xs H Q => ∃ (a : Addr) (ys : List V) (y : V) (j : Nat) (z : V), x = V.ref a ∧ xs = [y] ∧ SqL K H a ys ∧ flatV y = true ∧ ys.all flatV = true ∧ ys[j]? = some z ∧ eqV z y = true ∧
  (∀ (m : Nat) (z' : V), m < j → ys[m]? = some z' → eqV z' y = false) ∧ Q (.int (j : Nat)) H
end

/-! ### type(x) of an own instance; is, is not of a module's class -/
section
variable {X : Cx}
end

/-! ### any(xs), all(xs) of a list of bools -/
theorem iter_any {prog : Program} {w : World} {A : Around} {E : Value → Shared → Prop} {s : Shared} {l : Addr} {items : Array Value} {Q : Value → Shared → Prop} (hl : s.heap.IsList l items)
    (h : ∀ s₂ : Shared, s₂ = { s with heap := s.heap.push { cls := .type "list_iterator", data := .fields #[.ref l, .int 0 0] } } →
      (s₂.heap.IsListIter s.heap.objs.size l 0 ∧ s₂.heap.IsList l items) → l ≠ s.heap.objs.size → Q (.ref s.heap.objs.size) s₂) : wpAny (model prog w) A (pyIter (.ref l)) Q E s := by
  have hlt : l < s.heap.objs.size := by obtain ⟨_, e, _⟩ := hl; exact Heap.lt_size e
  exact wpAny_pyIter_list hl (h _ rfl ⟨⟨_, Heap.get?_push_size _ rfl, rfl, rfl⟩, hl.push _⟩ (Nat.ne_of_lt hlt))
theorem truth_bools {prog : Program} {w : World} {A : Around} {bs : List Bool} {its : List Value} (e : its = bs.map Value.bool) :
    TruthOf prog w A (fun i v => its.toArray[i]? = some v) (fun i => bs.getD i false) := fun i v s Q E hv hq => by
  have hv' : its[i]? = some v := by simpa using hv
  rw [e, List.getElem?_map] at hv'
  obtain ⟨b, hb, rfl⟩ := Option.map_eq_some_iff.mp hv'
  have hg : bs.getD i false = b := by rw [List.getD_eq_getElem?_getD, hb] <;> rfl
  have hq' : Q (bs.getD i false) s := hq
  rw [hg] at hq'
  exact wpAny_truthy_bool hq'
theorem any_range : ∀ bs : List Bool, (List.range bs.length).any (fun i => bs.getD i false) = bs.any id
  | [] => rfl
  | b :: bs => by
    rw [List.length_cons, List.range_succ_eq_map, List.any_cons, List.any_map, List.any_cons, ← any_range bs]
    all_goals rfl
theorem all_range : ∀ bs : List Bool, (List.range bs.length).all (fun i => bs.getD i false) = bs.all id
  | [] => rfl
  | b :: bs => by
    rw [List.length_cons, List.range_succ_eq_map, List.all_cons, List.all_map, List.all_cons, ← all_range bs]
    all_goals rfl
section
variable {X : Cx}
def rAny (K : PySem.W.Frag) : List V → Hp → VK → Prop := fun vs H Q => ∃ (a : Addr) (bs : List Bool), vs = [V.ref a] ∧ SqL K H a (bs.map V.bl) ∧ Q (.bl (bs.any id)) H
def rAll (K : PySem.W.Frag) : List V → Hp → VK → Prop := fun vs H Q => ∃ (a : Addr) (bs : List Bool), vs = [V.ref a] ∧ SqL K H a (bs.map V.bl) ∧ Q (.bl (bs.all id)) H
theorem cr_all (hc : X.calm = true) : CallR X (.builtin "all") (rAll X.K) := by
  intro pins s σ H vs us Q I r h
  obtain ⟨a, bs, rfl, hs, q⟩ := h
  obtain ⟨its, rv, hl, _⟩ := I.list hs
  rw [Vals.ref1 r]
  have hb := rv.bls
  refine call_all_walk (iter_any hl.isList fun s₂ e2 st hne => ?_)
  subst e2
  refine ⟨_, _, _, _, _, _, _, rfl, Walks.list (A := X.A.in1) (I.ok.hd hc) _ a hne its.toArray, st, truth_bools hb, fun h' tk hk => ?_⟩
  refine ⟨.bl _, H, I.kept fun b o eo => hk b o (fun hmem => ?_) (Heap.get?_push_of_some _ eo), ?_, q⟩
  · rcases List.mem_cons.mp hmem with e1 | hmem
    · exact absurd (e1 ▸ Heap.lt_size eo) (Nat.lt_irrefl _)
    · cases hmem
  · show Value.bool _ = Value.bool _
    rw [← all_range, hb, List.size_toArray, List.length_map]
end

/-! ### == and != of data at any depth: none, bools, ints, texts, lists, tuples -/
mutual
inductive Dp (K : PySem.W.Frag) (H : Hp) : V → PyData → Prop
  | non : Dp K H .non .none
  | bl (b : Bool) : Dp K H (.bl b) (.bool b)
  | int (i : Int) : Dp K H (.int i) (.int i)
  | str (x : Str) : Dp K H (.str x) (.str x)
  | lst {a : Addr} {xs : List V} {ds : List PyData} : SqL K H a xs → DpAll K H xs ds → Dp K H (.ref a) (.list ds)
  | tup {a : Addr} {xs : List V} {ds : List PyData} : SqT K H a xs → DpAll K H xs ds → Dp K H (.ref a) (.tuple ds)
inductive DpAll (K : PySem.W.Frag) (H : Hp) : List V → List PyData → Prop
  | nil : DpAll K H [] []
  | cons {v : V} {vs : List V} {d : PyData} {ds : List PyData} : Dp K H v d → DpAll K H vs ds → DpAll K H (v :: vs) (d :: ds)
end
section
variable {X : Cx} {pins : List (Addr × Obj)} {σ : St} {H : Hp} {s : Shared}
mutual
theorem Dp.reads (I : Inv X pins σ H s) : ∀ (d : PyData) (v : V) (u : Value), Dp X.K H v d → RelV v u → ∃ as, Reads s.heap u d as
  | .none, _, _, h, r => by
    cases h
    cases r
    exact ⟨_, Reads.none⟩
  | .bool b, _, _, h, r => by
    cases h
    cases r
    exact ⟨_, Reads.bool b⟩
  | .int i, _, _, h, r => by
    cases h
    obtain ⟨t, rfl⟩ := r
    exact ⟨_, Reads.int i t⟩
  | .str x, _, _, h, r => by
    cases h
    obtain ⟨t, rfl⟩ := r
    exact ⟨_, Reads.str x t⟩
  | .list ds, _, _, h, r => by
    cases h with
    | lst hs ha =>
      cases r
      obtain ⟨its, rv, ⟨o, n, ho, hc, _, hd⟩, _⟩ := I.list hs
      obtain ⟨as, hr⟩ := Dp.readsAll I ds _ its ha rv
      exact ⟨_, Reads.list ho hc hd hr⟩
  | .tuple ds, _, _, h, r => by
    cases h with
    | tup hs ha =>
      cases r
      obtain ⟨its, rv, ⟨o, ho, hc, n, hd⟩, _⟩ := I.tuple hs
      obtain ⟨as, hr⟩ := Dp.readsAll I ds _ its ha rv
      exact ⟨_, Reads.tuple ho hc hd hr⟩
  | .dict _, _, _, h, _ => by cases h
theorem Dp.readsAll (I : Inv X pins σ H s) : ∀ (ds : List PyData) (vs : List V) (us : List Value), DpAll X.K H vs ds → Vals vs us → ∃ as, ReadsAll s.heap us ds as
  | [], _, _, h, r => by
    cases h
    cases r
    exact ⟨_, ReadsAll.nil⟩
  | d :: ds, _, _, h, r => by
    cases h with
    | cons h1 h2 =>
      cases r with
      | cons r1 r2 =>
        obtain ⟨as, q1⟩ := Dp.reads I d _ _ h1 r1
        obtain ⟨bs, q2⟩ := Dp.readsAll I ds _ _ h2 r2
        exact ⟨_, ReadsAll.cons q1 q2⟩
end
end
section
variable {X : Cx}
def rEqD (K : PySem.W.Frag) : R2 := fun x y H Q => ∃ d e, Dp K H x d ∧ Dp K H y e ∧ SeqAt.shaped d = true ∧ SeqAt.shaped e = true ∧ Q (.bl (PyData.eqv d e)) H
def rNeD (K : PySem.W.Frag) : R2 := fun x y H Q => ∃ d e, Dp K H x d ∧ Dp K H y e ∧ SeqAt.shaped d = true ∧ SeqAt.shaped e = true ∧ Q (.bl (!PyData.eqv d e)) H
theorem op_neD (hu : X.A.units + 64 < cLine) : OpR X (compareOp .NotEq) (rNeD X.K) := by
  intro pins s σ H x y v u Q I rx ry h
  obtain ⟨d, e, hd, he, sd, se, q⟩ := h
  obtain ⟨as, r1⟩ := Dp.reads I d x v hd rx
  obtain ⟨bs, r2⟩ := Dp.reads I e y u he ry
  exact SeqAt.compareNe_shaped r1 r2 sd se hu ⟨.bl _, H, I, rfl, q⟩
end
end L2

namespace L2
open PySem PySem.Spec PyProof.Rows
abbrev CellAt (h : Heap) (c : Addr) (v : Option Value) : Prop := h.IsCell c v
def relS (scope sc : Scope) : Scope :=
  { scope with names := scope.names.map fun (n, k) => if (k == .free && sc.kind == .function && sc.names.lookup n == some .cell) then (n, .cell) else (n, k) }

def cloFrom (cells : List (Str × Addr)) : List (Str × NameKind) → List (Str × Addr) → List (Str × Addr)
  | [], acc => acc
  | (n, k) :: r, acc => if k == .free then cloFrom cells r ((n, (cells.lookup n).getD 0) :: acc) else cloFrom cells r acc

theorem closure_loop (env : Env) (f : Str × NameKind → List (Str × Addr) → Sem (ForInStep (List (Str × Addr))))
    (hf : ∀ n k c, f (n, k) c = if k == .free then (do let a ← cellOf env n; pure (.yield ((n, a) :: c))) else pure (.yield c)) :
    ∀ (names : List (Str × NameKind)) (acc : List (Str × Addr)), (∀ y ∈ names, y.2 = .free → ∃ c, env.cells.lookup y.1 = some c) → forIn names acc f = pure (cloFrom env.cells names acc)
  | [], acc, _ => by rw [List.forIn_nil]; rfl
  | (n, k) :: r, acc, h => by
    rw [List.forIn_cons, hf]
    have ih := fun acc => closure_loop env f hf r acc fun y hy => h y (List.mem_cons_of_mem _ hy)
    unfold cloFrom
    by_cases hk : (k == NameKind.free) = true
    · rw [if_pos hk, if_pos hk]
      obtain ⟨c, hc⟩ := h (n, k) List.mem_cons_self (by simpa using hk)
      have e : cellOf env n = pure c := by unfold cellOf; rw [hc]
      rw [e]
      have e2 : (env.cells.lookup n).getD 0 = c := by rw [hc]; rfl
      rw [e2]
      exact ih _
    · rw [if_neg hk, if_neg hk]
      exact ih _
theorem closure_ok {scope : Scope} {env : Env} (h : ∀ y ∈ scope.names, y.2 = .free → ∃ c, env.cells.lookup y.1 = some c) : closureFor scope env = pure (cloFrom env.cells scope.names []) := by
  simp only [closureFor]
  rw [closure_loop env _ (fun n k c => rfl) scope.names [] h]
  rfl

theorem mem_lookup {α : Type} : ∀ {l : List (Str × α)} {n : Str} {c : α}, (n, c) ∈ l → ∃ c', l.lookup n = some c'
  | (k, v) :: r, n, c, h => by
    rw [List.lookup_cons]
    cases hb : n == k with
    | true => exact ⟨_, rfl⟩
    | false =>
      rcases List.mem_cons.mp h with e | h
      · cases e; simp at hb
      · exact mem_lookup h

theorem cloFrom_mem {cells : List (Str × Addr)} : ∀ {names : List (Str × NameKind)} {acc : List (Str × Addr)} {n : Str} {c : Addr}, (n, c) ∈ cloFrom cells names acc → (n, c) ∈ acc ∨ ((n, .free) ∈ names ∧ c = (cells.lookup n).getD 0)
  | [], _, _, _, h => .inl h
  | (m, k) :: r, acc, n, c, h => by
    unfold cloFrom at h
    split at h
    · rename_i hk
      have hk : k = .free := by simpa using hk
      rcases cloFrom_mem h with h | ⟨h1, h2⟩
      · rcases List.mem_cons.mp h with e | h
        · cases e; exact .inr ⟨hk ▸ List.mem_cons_self, rfl⟩
        · exact .inl h
      · exact .inr ⟨List.mem_cons_of_mem _ h1, h2⟩
    · rcases cloFrom_mem h with h | ⟨h1, h2⟩
      · exact .inl h
      · exact .inr ⟨List.mem_cons_of_mem _ h1, h2⟩
theorem cloFrom_acc {cells : List (Str × Addr)} : ∀ {names : List (Str × NameKind)} {acc : List (Str × Addr)} {p : Str × Addr}, p ∈ acc → p ∈ cloFrom cells names acc
  | [], _, _, h => h
  | (m, k) :: r, acc, p, h => by
    unfold cloFrom
    split
    · exact cloFrom_acc (List.mem_cons_of_mem _ h)
    · exact cloFrom_acc h
theorem cloFrom_has {cells : List (Str × Addr)} : ∀ {names : List (Str × NameKind)} {acc : List (Str × Addr)} {n : Str}, (n, .free) ∈ names → (n, (cells.lookup n).getD 0) ∈ cloFrom cells names acc
  | (m, k) :: r, acc, n, h => by
    unfold cloFrom
    rcases List.mem_cons.mp h with e | h
    · cases e
      exact cloFrom_acc List.mem_cons_self
    · split
      · exact cloFrom_has h
      · exact cloFrom_has h

theorem cells_mem : ∀ {names : List (Str × NameKind)} {h : Heap} {acc : List (Str × Addr)} {x : Str} {c : Addr}, (x, c) ∈ cellsFrom h.objs.size names acc →
    (x, c) ∈ acc ∨ ((x, .cell) ∈ names ∧ h.objs.size ≤ c ∧ CellAt (pushCells h names) c none)
  | [], _, _, _, _, h => .inl h
  | (n, k) :: r, h, acc, x, c, hm => by
    unfold cellsFrom at hm
    unfold pushCells
    split at hm
    · rename_i hk
      rw [if_pos hk]
      have hk : k = .cell := by simpa using hk
      rw [← Heap.size_push h { cls := .type "cell", data := .cell none }] at hm
      rcases cells_mem hm with hm | ⟨h1, h2, h3⟩
      · rcases List.mem_cons.mp hm with e | hm
        · cases e
          exact .inr ⟨hk ▸ List.mem_cons_self, Nat.le_refl _, _, pushCells_keeps r _ _ _ (Heap.get?_push_size _ rfl), rfl⟩
        · exact .inl hm
      · rw [Heap.size_push] at h2
        exact .inr ⟨List.mem_cons_of_mem _ h1, Nat.le_of_succ_le h2, h3⟩
    · rename_i hk
      rw [if_neg hk]
      rcases cells_mem hm with hm | ⟨h1, h2, h3⟩
      · exact .inl hm
      · exact .inr ⟨List.mem_cons_of_mem _ h1, h2, h3⟩
theorem cells_acc : ∀ {names : List (Str × NameKind)} {n : Nat} {acc : List (Str × Addr)} {p : Str × Addr}, p ∈ acc → p ∈ cellsFrom n names acc
  | [], _, _, _, h => h
  | (m, k) :: r, n, acc, p, h => by
    unfold cellsFrom
    split
    · exact cells_acc (List.mem_cons_of_mem _ h)
    · exact cells_acc h
theorem cells_has : ∀ {names : List (Str × NameKind)} {n : Nat} {acc : List (Str × Addr)} {x : Str}, (x, .cell) ∈ names → ∃ c, (x, c) ∈ cellsFrom n names acc
  | (m, k) :: r, n, acc, x, h => by
    unfold cellsFrom
    rcases List.mem_cons.mp h with e | h
    · cases e
      exact ⟨n, cells_acc List.mem_cons_self⟩
    · split
      · exact cells_has h
      · exact cells_has h
theorem cells_inj : ∀ {names : List (Str × NameKind)} {h : Heap} {acc : List (Str × Addr)} {x y : Str} {c : Addr}, (∀ p ∈ acc, p.2 < h.objs.size) → (∀ x y c, (x, c) ∈ acc → (y, c) ∈ acc → x = y) →
    (x, c) ∈ cellsFrom h.objs.size names acc → (y, c) ∈ cellsFrom h.objs.size names acc → x = y
  | [], _, _, _, _, _, _, hi, h1, h2 => hi _ _ _ h1 h2
  | (n, k) :: r, h, acc, x, y, c, hl, hi, h1, h2 => by
    unfold cellsFrom at h1 h2
    split at h1
    · rename_i hk
      rw [if_pos hk] at h2
      rw [← Heap.size_push h { cls := .type "cell", data := .cell none }] at h1 h2
      refine cells_inj (h := h.push _) (fun p hp => ?_) (fun x y c a b => ?_) h1 h2
      · rw [Heap.size_push]
        rcases List.mem_cons.mp hp with rfl | hp
        · exact Nat.lt_succ_self _
        · exact Nat.lt_succ_of_lt (hl p hp)
      · rcases List.mem_cons.mp a with e | a <;> rcases List.mem_cons.mp b with e' | b
        · cases e; cases e'; rfl
        · cases e; exact absurd (hl _ b) (Nat.lt_irrefl _)
        · cases e'; exact absurd (hl _ a) (Nat.lt_irrefl _)
        · exact hi _ _ _ a b
    · rename_i hk
      rw [if_neg hk] at h2
      exact cells_inj hl hi h1 h2

theorem newEnv_comp {M : Model} {A : Around} {E : Value → Shared → Prop} {s : Shared} {scope : Scope} {globals : Addr} {closure : List (Str × Addr)} {qual : Str} {func : Option Addr} {code : Value} {around : Env} {builtins : Addr} {Q : Env → Shared → Prop}
    (h : Q (newEnv scope s.heap.objs.size globals (cellsFrom (s.heap.objs.size + 1) scope.names closure) qual func code (some around) builtins)
      { s with heap := pushCells (s.heap.push { cls := .type "dict", data := .dict #[] }) scope.names }) :
    wpAny M A (newFunctionEnv scope globals closure [] qual func code (some around) builtins) Q E s := by
  simp only [newFunctionEnv, Option.isSome_some, if_true]
  refine wpAny_bind (wpAny_alloc ?_)
  refine wpAny_bind (wpAny_layCells _ (fun n k c => rfl) scope.names closure _ _ ?_)
  rw [show ({ s with heap := s.heap.push { cls := .type "dict", data := .dict #[] } } : Shared).heap.objs.size = s.heap.objs.size + 1 from Heap.size_push ..]
  rw [List.forIn_nil]
  exact wpAny_bind (wpAny_pure (wpAny_pure h))

/-- every name of the written scope, in the scope that runs -/
theorem lookup_relS {sc : Scope} : ∀ {names : List (Str × NameKind)} {x : Str} {k : NameKind},
    (names.map fun (n, k) => if (k == NameKind.free && sc.kind == .function && sc.names.lookup n == some .cell) then (n, NameKind.cell) else (n, k)).lookup x = some k →
    ∃ k', names.lookup x = some k' ∧ (k = k' ∨ (k' = .free ∧ k = .cell))
  | [], _, _, h => by simp at h
  | (n, k₀) :: r, x, k, h => by
    have ih := @lookup_relS sc r x k
    have h' : List.lookup x ((if (k₀ == NameKind.free && sc.kind == .function && sc.names.lookup n == some .cell) = true then (n, NameKind.cell) else (n, k₀)) :: (r.map _)) = some k := h
    cases hx : x == n with
    | true =>
      simp only [List.lookup_cons, hx]
      by_cases hc : (k₀ == NameKind.free && sc.kind == .function && sc.names.lookup n == some .cell) = true
      · rw [if_pos hc] at h'
        simp only [List.lookup_cons, hx] at h'
        cases h'
        simp only [Bool.and_eq_true, beq_iff_eq] at hc
        exact ⟨k₀, rfl, .inr ⟨hc.1.1, rfl⟩⟩
      · rw [if_neg hc] at h'
        simp only [List.lookup_cons, hx] at h'
        cases h'
        exact ⟨_, rfl, .inl rfl⟩
    | false =>
      simp only [List.lookup_cons, hx]
      by_cases hc : (k₀ == NameKind.free && sc.kind == .function && sc.names.lookup n == some .cell) = true
      · rw [if_pos hc] at h'
        simp only [List.lookup_cons, hx] at h'
        exact ih h'
      · rw [if_neg hc] at h'
        simp only [List.lookup_cons, hx] at h'
        exact ih h'
/-- the names of a comprehension's block: its own (with their places in N), or captured -/
structure BlkOk (N : List Str) (sc scope : Scope) (own : List (Str × Nat)) : Prop where
  kind : scope.kind = .function
  uniq : ∀ y ∈ scope.names, scope.names.lookup y.1 = some y.2
  ix : ∀ p ∈ own, N[p.2]? = some p.1
  free : ∀ y ∈ scope.names, y.2 = .free → sc.names.lookup y.1 = some .cell ∨ sc.names.lookup y.1 = some .free
  own : ∀ y ∈ scope.names, y.2 = .local ∨ y.2 = .cell → y.1 ∈ own.map (·.1) ∨ y.1 ∉ N
/-- the slots of the block's own names forgotten -/
def wipe (σ : St) : List Nat → St
  | [] => σ
  | v :: vs => (wipe σ vs).set v none
theorem wipe_length (σ : St) : ∀ vs : List Nat, (wipe σ vs).length = σ.length
  | [] => rfl
  | v :: vs => by unfold wipe; rw [List.length_set, wipe_length σ vs]
theorem wipe_some {σ : St} {i : Nat} {x : V} : ∀ {vs : List Nat}, (wipe σ vs)[i]? = some (some x) → σ[i]? = some (some x) ∧ i ∉ vs
  | [], h => ⟨h, by simp⟩
  | v :: vs, h => by
    unfold wipe at h
    by_cases hi : v = i
    · subst hi
      by_cases hv : v < (wipe σ vs).length
      · rw [List.getElem?_set_self hv] at h; cases h
      · rw [List.getElem?_eq_none (by simpa using hv)] at h; cases h
    · rw [List.getElem?_set_ne hi] at h
      obtain ⟨h1, h2⟩ := wipe_some h
      exact ⟨h1, by simp only [List.mem_cons, not_or]; exact ⟨fun e => hi e.symm, h2⟩⟩

/-- the context of a block that starts at s, its iterator's objects at fp -/
abbrev Cx.blk (X : Cx) (s : Shared) (H : Hp) (scope : Scope) (cenv : Env) (fp : List Addr) : Cx := { X with s_0 := s, H_0 := H, env := cenv, outer := X.stack, ex := fp, fn := fun x => scope.names.lookup x == some .cell, pn := [], xe := fun _ _ => False }
section
variable {X : Cx} {pins : List (Addr × Obj)} {σ : St} {H : Hp} {s : Shared}
theorem block_start {scope : Scope} {own : List (Str × Nat)} {fp : List Addr} (I : Inv X pins σ H s) (ok : BlkOk X.N X.env.scope scope own) (hN : X.N.Nodup) (hfp : ∀ b ∈ fp, FpOk X pins H b ∧ b < s.heap.objs.size) :
    Inv (X.blk s H scope (compEnvC scope (cellsFrom (s.heap.objs.size + 1) scope.names (cloFrom X.env.cells scope.names [])) s.heap.objs.size X.env) fp) [] (wipe σ (own.map (·.2))) H { s with heap := pushCells (s.heap.push { cls := .type "dict", data := .dict #[] }) scope.names } := by
  have hfree : ∀ y ∈ scope.names, y.2 = .free → ∃ c, X.env.cells.lookup y.1 = some c := fun y hy e => by
    rcases ok.free y hy e with k | k
    · exact I.ok.has _ (.inl k)
    · exact I.ok.has _ (.inr k)
  generalize hcenv : compEnvC scope (cellsFrom (s.heap.objs.size + 1) scope.names (cloFrom X.env.cells scope.names [])) s.heap.objs.size X.env = cenv
  have kp : ∀ b o, s.heap.get? b = some o → (pushCells (s.heap.push { cls := .type "dict", data := .dict #[] }) scope.names).get? b = some o := fun b o e => pushCells_keeps _ _ _ _ (Heap.get?_push_of_some _ e)
  have hL : cenv.locals = s.heap.objs.size := by rw [← hcenv]; rfl
  have hcl : cenv.cells = cellsFrom (s.heap.objs.size + 1) scope.names (cloFrom X.env.cells scope.names []) := by rw [← hcenv]; rfl
  have hsc : cenv.scope = relS scope X.env.scope := by rw [← hcenv]; rfl
  rw [← Heap.size_push s.heap { cls := .type "dict", data := .dict #[] }] at hcl
  have cm : ∀ {y c}, (y, c) ∈ cloFrom X.env.cells scope.names [] → X.env.cells.lookup y = some c ∧ c < s.heap.objs.size := fun {y c} hm => by
    rcases cloFrom_mem hm with hm | ⟨h1, rfl⟩
    · cases hm
    · obtain ⟨c, hc⟩ := hfree _ h1 rfl
      rw [hc]
      obtain ⟨w, z⟩ := I.cell _ _ hc
      exact ⟨rfl, z.lt⟩
  have mem : ∀ {y c}, cenv.cells.lookup y = some c → (X.env.cells.lookup y = some c ∧ c < s.heap.objs.size) ∨ (s.heap.objs.size + 1 ≤ c ∧ CellAt (pushCells (s.heap.push { cls := .type "dict", data := .dict #[] }) scope.names) c none) := fun {y c} e => by
    rw [hcl] at e
    rcases cells_mem (PySem.mem_of_lookup e) with hm | ⟨_, h2, h3⟩
    · exact .inl (cm hm)
    · rw [Heap.size_push] at h2; exact .inr ⟨h2, h3⟩
  have look : ∀ {y}, scope.names.lookup y = some .free → ∃ c, cenv.cells.lookup y = some c ∧ X.env.cells.lookup y = some c := fun {y} hl => by
    have hy : (y, NameKind.free) ∈ scope.names := PySem.mem_of_lookup hl
    obtain ⟨c', e'⟩ := mem_lookup (cells_acc (names := scope.names) (n := (s.heap.push { cls := .type "dict", data := .dict #[] }).objs.size) (cloFrom_has (cells := X.env.cells) (acc := []) hy))
    rw [← hcl] at e'
    refine ⟨c', e', ?_⟩
    rw [hcl] at e'
    rcases cells_mem (PySem.mem_of_lookup e') with hm | ⟨h1, _, _⟩
    · exact (cm hm).1
    · have := ok.uniq _ h1
      rw [hl] at this; cases this
  have okB : (X.blk s H scope cenv fp).Ok := by
    refine ⟨I.ok.mod, by show cenv.scope.kind = _; rw [hsc]; exact ok.kind, by show cenv.globals = _; rw [← hcenv]; exact I.ok.glob, by show cenv.builtins = _; rw [← hcenv]; exact I.ok.blt, by show s.heap.objs.size ≤ cenv.locals; rw [hL]; exact Nat.le_refl _,
      fun y z c e1 e2 => ?_, fun y hy => ?_, fun y c z e => ?_, I.ok.hd, I.ok.frames, .inl rfl, fun b hb => ⟨?_, fun y c e z => ?_⟩, I.bs, Nat.le_trans I.ok.bsz I.sz, fun b o e hb => ?_, fun b hb z => ?_, I.stack, I.stkFree⟩
    · have e1 : cenv.cells.lookup y = some c := e1
      have e2 : cenv.cells.lookup z = some c := e2
      rw [hcl] at e1 e2
      refine cells_inj (fun p hp => ?_) (fun y z c a b => I.ok.inj y z c (cm a).1 (cm b).1) (PySem.mem_of_lookup e1) (PySem.mem_of_lookup e2)
      rw [Heap.size_push]
      exact Nat.lt_succ_of_lt (cm (y := p.1) (c := p.2) hp).2
    · show ∃ c, cenv.cells.lookup y = some c
      have key : ∀ k, cenv.kindOf y = some k → (k = .cell ∨ k = .free) → ∃ c, cenv.cells.lookup y = some c := fun k hk hk' => by
        unfold Env.kindOf at hk
        rw [hsc] at hk
        obtain ⟨k', e, r⟩ := lookup_relS hk
        have : k' = .cell ∨ k' = .free := by
          rcases r with rfl | ⟨rfl, _⟩
          · exact hk'
          · exact .inr rfl
        rcases this with rfl | rfl
        · obtain ⟨c, hm⟩ := cells_has (n := (s.heap.push { cls := .type "dict", data := .dict #[] }).objs.size) (acc := cloFrom X.env.cells scope.names []) (PySem.mem_of_lookup e)
          obtain ⟨c', e'⟩ := mem_lookup hm
          exact ⟨c', by rw [hcl]; exact e'⟩
        · obtain ⟨c, h1, _⟩ := look e
          exact ⟨c, h1⟩
      rcases hy with hy | hy
      · exact key _ hy (.inl rfl)
      · exact key _ hy (.inr rfl)
    · have z : (scope.names.lookup y == some NameKind.cell) = true := z
      have z : scope.names.lookup y = some .cell := by simpa using z
      have e : cenv.cells.lookup y = some c := e
      rw [hcl] at e
      rcases cells_mem (PySem.mem_of_lookup e) with hm | ⟨_, h2, _⟩
      · rcases cloFrom_mem hm with hm | ⟨h1, _⟩
        · cases hm
        · have q := ok.uniq _ h1
          rw [z] at q; cases q
      · rw [Heap.size_push] at h2
        exact Nat.le_of_succ_le h2
    · show b ≠ cenv.locals
      rw [hL]; exact Nat.ne_of_lt (hfp b hb).2
    · have e : cenv.cells.lookup y = some c := e
      rcases mem e with ⟨h1, _⟩ | ⟨h1, _⟩
      · exact (hfp b hb).1.2.2.2.2.1 y c h1 z
      · have h2 : s.heap.objs.size + 1 ≤ b := by rw [← z]; exact h1
        exact absurd (Nat.lt_of_lt_of_le (hfp b hb).2 (Nat.le_of_succ_le h2)) (Nat.lt_irrefl _)
    · rcases (hfp b hb).1.2.2.2.1 with z | z
      · exact I.ok.noex b o e z
      · exact absurd (Nat.lt_of_lt_of_le (Heap.lt_size e) (Nat.le_trans I.ok.bsz z)) (Nat.lt_irrefl _)
    · rcases List.mem_cons.mp (I.stkSub b z) with z | z
      · exact (hfp b hb).1.2.1 z
      · exact (hfp b hb).1.2.2.1 z
  refine ⟨okB, rfl, I.bare, Un.kept kp, ⟨fun _ => none, ?_, fun i y av e1 e2 e3 => ?_⟩, fun y c e => ?_, ?_, fun y c e => ?_, fun p hp => ?_, I.hok.kept kp, by rw [wipe_length]; exact I.len⟩
  · show Heap.Ns _ cenv.locals _
    rw [hL]
    exact Heap.Ns.keeps (Heap.Ns.new ..) fun b o e => pushCells_keeps _ _ _ _ e
  · obtain ⟨e2, hne⟩ := wipe_some e2
    have hfr : scope.names.lookup y = some .free ∧ (cenv.kindOf y = some .cell ∨ cenv.kindOf y = some .free) := by
      have key : ∀ k, cenv.scope.names.lookup y = some k → k = .local ∨ k = .cell ∨ k = .free → scope.names.lookup y = some .free ∧ (cenv.kindOf y = some .cell ∨ cenv.kindOf y = some .free) := fun k hk hk' => by
        have hk0 := hk
        rw [hsc] at hk
        obtain ⟨k', e, r⟩ := lookup_relS hk
        have no : ¬ (k' = .local ∨ k' = .cell) := fun hh => by
          rcases ok.own _ (PySem.mem_of_lookup e) hh with e' | e'
          · obtain ⟨p, hp, hpy⟩ := List.mem_map.mp e'
            have e3 := ok.ix p hp
            have : p.1 = y := hpy
            rw [this] at e3
            exact hne (List.mem_map.mpr ⟨p, hp, nodup_ix hN e3 e1⟩)
          · exact e' (List.mem_of_getElem? e1)
        rcases r with rfl | ⟨rfl, rfl⟩
        · rcases hk' with rfl | rfl | rfl
          · exact absurd (.inl rfl) no
          · exact absurd (.inr rfl) no
          · exact ⟨e, .inr hk0⟩
        · exact ⟨e, .inl hk0⟩
      have e3 : Vis cenv.scope y := e3
      rcases e3 with e3 | e3 | e3
      · exact key _ e3 (.inl rfl)
      · exact key _ e3 (.inr (.inl rfl))
      · exact key _ e3 (.inr (.inr rfl))
    obtain ⟨m, hn, hl⟩ := I.loc
    have hvis : Vis X.env.scope y := (ok.free _ (PySem.mem_of_lookup hfr.1) rfl).elim (fun k => .inr (.inl k)) (fun k => .inr (.inr k))
    obtain ⟨w, r, q⟩ := hl i y av e1 e2 hvis
    refine ⟨w, r, .inr ⟨hfr.2, ?_⟩⟩
    obtain ⟨c, h1, h2⟩ := look hfr.1
    rcases q with ⟨k, _⟩ | ⟨_, c', e', z⟩
    · have k : X.env.scope.names.lookup y = some .local := k
      rcases ok.free _ (PySem.mem_of_lookup hfr.1) rfl with k' | k' <;> rw [show X.env.scope.names.lookup y = _ from k'] at k <;> cases k
    · rw [h2] at e'; cases e'
      exact ⟨c, h1, z.keeps kp⟩
  · have e : cenv.cells.lookup y = some c := e
    rcases mem e with ⟨h1, _⟩ | ⟨_, z⟩
    · obtain ⟨w, z⟩ := I.cell y c h1
      exact ⟨w, z.keeps kp⟩
    · exact ⟨_, z⟩
  · show H cenv.locals = none
    rw [hL]; exact I.hok.fresh (Nat.le_refl _)
  · have e : cenv.cells.lookup y = some c := e
    rcases mem e with ⟨h1, _⟩ | ⟨h1, _⟩
    · exact I.freeC y c h1
    · exact I.hok.fresh (Nat.le_of_succ_le h1)
  · exact absurd (show p ∈ ([] : List (Addr × Obj)) ++ [] from hp) (by simp)

/-- an item appended to a tracked list -/
theorem app_ok {E : Value → Shared → Prop} {D : Addr} {xs : List V} {y : V} {v : Value} {Q : Value → Shared → Prop} (I : Inv X pins σ H s) (hD : H D = some (.lst xs)) (hz : xs.length < sizeLine) (r : RelV y v)
    (h : ∀ s', Inv X pins σ (upd H D (.lst (xs ++ [y]))) s' → Q .none s') : wpAny (model X.prog X.w) X.A (call (.builtin "list.append") [.ref D, v]) Q E s := by
  obtain ⟨hz', its, n, ri, e⟩ := I.hok D _ hD
  have hl := ri.length
  refine append_at (hsz := by rw [List.size_toArray]; omega) e fun h' sb ho' => ?_
  refine h { s with heap := h' } (I.write (t' := s.toks) (by rw [hD]; trivial) (.inl rfl) (fun b u hb q => (sb.2 b hb).trans q) ⟨_, ho'⟩ ⟨by rw [List.length_append]; exact hz, its ++ [v], n + 1, ri.append (.cons r .nil), ?_⟩)
  rw [ho']
  simp

/-- a clause's tests -/
def PTs (X : Cx) (ifs : List Expr) (t : TT) : Prop :=
  ∀ (pins : List (Addr × Obj)) (s : Shared) (σ : St) (H : Hp) (Q : Bool → Hp → Prop), Inv X pins σ H s → t σ H Q →
    wpAny (model X.prog X.w) X.A (forIn ifs true fun c r => if r = true then do let ok ← isTrue c X.env (eval c X.env); pure (ForInStep.yield ok) else pure (ForInStep.yield r)) (TP X pins σ Q) X.xe s
def tYes : TT := fun _ H Q => Q true H
theorem pts_nil : PTs X [] tYes := fun _ _ _ H _ I h => wpAny_tests_nil ⟨H, I, h⟩
theorem pts_one {c : Expr} {t : TT} (h : PT X c t) : PTs X [c] t := fun pins s σ H Q I hw => wpAny_tests_one (h pins s σ H Q I hw)
end

theorem thnF {α : Type} {t : Sem α} {Q Q' : α → Shared → Prop} {M : Model} {A : Around} {E : Value → Shared → Prop} {s : Shared} (h : wpAny M A t Q (fun _ _ => False) s) (hQ : ∀ a s, Q a s → Q' a s) : wpAny M A t Q' E s := wpAny_mono h hQ fun _ _ z => False.elim z

/-- the loop of a list comprehension's block, the target of any form (codeAny_compLoop_tests asks a target that no tuple goes to; statement and proof follow it, PyProof/CompMap.lean:41-61, with the step letOwnedTupleGo kept) -/
theorem compLoop_any {prog : Program} {w : World} {A : Around} {R : Result → Shared → Prop} {s : Shared} {elt target iter : Expr} {ifs : List Expr} {scope : Scope} {pos : Pos} {it acc : Value} {env : Env} (I : Nat → Shared → Prop)
    (turn : ∀ n s, I n s → wpAny (model prog w) A (pyNext it) (fun r s₁ => match r with
      | none => R (.ok .next) s₁
      | some v => wpAny (model prog w) A (letOwnedTupleGo target it v) (fun _ s₁' => wpAny (model prog w) A (assign target env v) (fun _ s₂ =>
          wpAny (model prog w) A (forIn ifs true fun c r => if r = true then do let ok ← isTrue c env (eval c env); pure (ForInStep.yield ok) else pure (ForInStep.yield r)) (fun ok s₃ =>
            if ok = true then wpAny (model prog w) A (eval elt env) (fun x s₄ =>
              wpAny (model prog w) A (call (.builtin "list.append") [acc, x]) (fun _ s₅ => ∃ m, m < n ∧ I m s₅) (notedBy (model prog w) A env fun e s' => R (.error e) s') s₄) (notedBy (model prog w) A env fun e s' => R (.error e) s') s₃
            else ∃ m, m < n ∧ I m s₃) (notedBy (model prog w) A env fun e s' => R (.error e) s') s₂) (notedBy (model prog w) A env fun e s' => R (.error e) s') s₁') (notedBy (model prog w) A env fun e s' => R (.error e) s') s₁) (notedBy (model prog w) A env fun e s' => R (.error e) s') s)
    (n : Nat) (h : I n s) :
    codeAny (model prog w) A (.compLoop (.ListComp elt [⟨target, iter, ifs, 0⟩] scope pos) 0 it acc env) R s := by
  refine codeAny_loop rfl I (fun n s hI => ?_) n h
  show wpAny _ A ((compTurn (.ListComp elt [⟨target, iter, ifs, 0⟩] scope pos) 0 it acc env).onRaise (fun x => do noteFrame x env; theTreesLotGoes x)) _ _ s
  refine wpAny_noted ?_
  rw [compTurn_list]
  refine wpAny_bind (wpAny_standAt (wpAny_bind (wpAny_mono (turn n s hI) (fun r s₁ h₁ => ?_) fun _ _ h' => h')))
  cases r with
  | none => exact wpAny_pure h₁
  | some v =>
    refine wpAny_bind (wpAny_mono h₁ (fun _ s₁' h₁' => ?_) fun _ _ h' => h')
    refine wpAny_bind (wpAny_mono h₁' (fun _ s₂ h₂ => wpAny_bind (wpAny_mono h₂ (fun ok s₃ h₃ => ?_) fun _ _ h' => h')) fun _ _ h' => h')
    cases ok with
    | false => exact wpAny_pure ⟨rfl, h₃⟩
    | true =>
      exact wpAny_bind (wpAny_bind (wpAny_mono h₃ (fun x s₄ h₄ => wpAny_bind (wpAny_mono h₄ (fun _ s₅ h₅ => wpAny_pure (wpAny_pure ⟨rfl, h₅⟩)) fun _ _ h' => h')) fun _ _ h' => h'))

section
variable {X : Cx}
/-- [elt for target in iter if ..]: D the new list; W by the turn and a measure, Nx what a turn is to reach -/
def tLc (wi : TI) (g : TG) (tt : TT) (te : TE) (vs : List Nat) : TE := fun σ H Q => wi σ H fun J H1 => ∀ D, H1 D = none → ∃ W : Nat → Nat → Hp → Prop, (∃ m, W 0 m (upd H1 D (.lst []))) ∧ ∀ i m H, W i m H →
  (J.stop i H ∧ Q (.ref D) H) ∨ (J.go i H ∧ ∃ Nx : Hp → Prop, (∀ H', Nx H' → ∃ m', m' < m ∧ W (i + 1) m' H') ∧ ∀ x H', J.yld i H x H' → g x (wipe σ vs) H' fun σ2 H2 => wipe σ2 vs = wipe σ vs ∧ tt σ2 H2 fun b H3 =>
    if b = true then te σ2 H3 fun y H4 => ∃ acc, H4 D = some (.lst acc) ∧ acc.length < sizeLine ∧ Nx (upd H4 D (.lst (acc ++ [y]))) else Nx H3)
theorem lc_core {pins : List (Addr × Obj)} {s : Shared} {σ : St} {H : Hp} {Q : VK} {elt tg iter : Expr} {ifs : List Expr} {scope : Scope} {own : List (Str × Nat)} {pos pos' : Pos} {wi : TI} {g : TG} {tt : TT} {te : TE} {use : Option (Value → Sem Unit)} {Qf : Value → Shared → Prop}
    (hc : X.calm = true) (hN : X.N.Nodup) (I : Inv X pins σ H s) (hi : PI X tg iter wi) (ok : BlkOk X.N X.env.scope scope own)
    (hg : ∀ (s : Shared) (H : Hp) (C : Addr) (cl : List (Str × Addr)) (fp : List Addr), PG (X.blk s H scope (compEnvC scope cl C X.env) fp) tg g) (ht : ∀ (s : Shared) (H : Hp) (C : Addr) (cl : List (Str × Addr)) (fp : List Addr), PTs (X.blk s H scope (compEnvC scope cl C X.env) fp) ifs tt)
    (he : ∀ (s : Shared) (H : Hp) (C : Addr) (cl : List (Str × Addr)) (fp : List Addr), PE (X.blk s H scope (compEnvC scope cl C X.env) fp) elt te) (hs : ∀ x, foldedSetIterable iter X.env x = pure x)
    (h : tLc wi g tt te (own.map (·.2)) σ H Q)
    (hRR : ∀ D C s' m H', Inv X pins σ H' s' → Q (.ref D) H' → s'.heap.Ns C m → FpOk X pins H' C → compPost (model X.prog X.w) X.A X.xe use Qf (.ref D) C (.ok .next) s') :
    wpAny (model X.prog X.w) X.A (comprehension (.ListComp elt [⟨tg, iter, ifs, 0⟩] scope pos) scope X.env pos' (newList []) false (eval iter X.env) use) Qf X.xe s := by
  have hfree : ∀ y ∈ scope.names, y.2 = .free → ∃ c, X.env.cells.lookup y.1 = some c := fun y hy e => by
    rcases ok.free y hy e with k | k
    · exact I.ok.has _ (.inl k)
    · exact I.ok.has _ (.inr k)
  refine wpAny_comprehension_free (use := use) rfl hs (closure_ok hfree) ok.kind (fun y hy e => by rw [ok.uniq y hy, e])
    (thn (hi pins s σ H _ I h) fun xv s1 hx => thn hx fun itv s2 h2 => ?_)
  obtain ⟨it, fp, tn, J, H2, e, I2, T, st2, f2, q⟩ := h2
  subst e
  refine wpAny_newObj_type (newEnv_comp ?_) (by show 0 ≤ sizeLine; decide)
  generalize hD : s2.heap.objs.size = D
  have hDn : H2 D = none := I2.hok.fresh (Nat.le_of_eq hD)
  obtain ⟨W, ⟨m0, w0⟩, turn⟩ := q D hDn
  -- the new list
  generalize hs3 : ({ s2 with heap := s2.heap.push { cls := .type "list", data := .seq ([] : List Value).toArray } } : Shared) = s3
  have I3 : Inv X pins σ (upd H2 D (.lst [])) s3 := by
    rw [← hs3]
    refine I2.laid (t' := s2.toks) (fun b o e => Heap.get?_push_of_some _ e) (Nat.le_of_eq hD) ⟨Nat.zero_le _, [], 0, .nil, ?_⟩
    rw [← hD]
    exact Heap.get?_push_size _ rfl
  have h3 : s3.heap = s2.heap.push { cls := .type "list", data := .seq ([] : List Value).toArray } := by rw [← hs3]
  have sz : ∀ b ∈ fp, b < s2.heap.objs.size := fun b hb => by
    obtain ⟨o, e, _⟩ := T.obj _ _ st2 b hb
    exact Heap.lt_size e
  have f3 : ∀ b ∈ fp, FpOk X pins (upd H2 D (.lst [])) b ∧ b < s3.heap.objs.size := fun b hb => by
    have hlt := sz b hb
    refine ⟨⟨?_, (f2 b hb).2⟩, by rw [h3, Heap.size_push]; exact Nat.lt_succ_of_lt hlt⟩
    rw [upd_ne (by rw [← hD]; exact Nat.ne_of_lt hlt)]
    exact (f2 b hb).1
  have st3 : tn 0 s3.heap := T.keep _ _ _ st2 fun b _ o e => by rw [h3]; exact Heap.get?_push_of_some _ e
  have I4 := block_start I3 ok hN f3
  have pg := hg s3 (upd H2 D (.lst [])) s3.heap.objs.size (cellsFrom (s3.heap.objs.size + 1) scope.names (cloFrom X.env.cells scope.names [])) fp
  have pt := ht s3 (upd H2 D (.lst [])) s3.heap.objs.size (cellsFrom (s3.heap.objs.size + 1) scope.names (cloFrom X.env.cells scope.names [])) fp
  have pe := he s3 (upd H2 D (.lst [])) s3.heap.objs.size (cellsFrom (s3.heap.objs.size + 1) scope.names (cloFrom X.env.cells scope.names [])) fp
  show codeAny _ _ (.compStart (.ListComp elt [⟨tg, iter, ifs, 0⟩] scope pos) 0 (.ref it) (.ref D) (compEnvC scope (cellsFrom (s3.heap.objs.size + 1) scope.names (cloFrom X.env.cells scope.names [])) s3.heap.objs.size X.env)) (compPost (model X.prog X.w) X.A X.xe use Qf (.ref D) s3.heap.objs.size) { s3 with heap := pushCells (s3.heap.push { cls := .type "dict", data := .dict #[] }) scope.names }
  have nfp : ∀ b ∈ fp, (upd H2 D (.lst [])) b = none := fun b hb => (f3 b hb).1.1
  generalize hce : compEnvC scope (cellsFrom (s3.heap.objs.size + 1) scope.names (cloFrom X.env.cells scope.names [])) s3.heap.objs.size X.env = ce at I4 pg pt pe ⊢
  have cL : ce.locals = s3.heap.objs.size := by subst hce; rfl
  generalize hH3 : upd H2 D (.lst []) = H3 at I3 I4 pg pt pe w0 nfp f3
  generalize hs4 : ({ s3 with heap := pushCells (s3.heap.push { cls := .type "dict", data := .dict #[] }) scope.names } : Shared) = s4 at I4 ⊢
  have st4 : tn 0 s4.heap := T.keep _ _ _ st3 fun b _ o e => by rw [← hs4]; exact pushCells_keeps _ _ _ _ (Heap.get?_push_of_some _ e)
  have stat : ∀ {σ' : St} {H' : Hp} {s' : Shared}, Inv (X.blk s3 H3 scope ce fp) [] σ' H' s' → (∀ b ∈ fp, H' b = none) → ∀ b ∈ fp, FpOk (X.blk s3 H3 scope ce fp) [] H' b := fun {σ' H' s'} I' hn b hb =>
    ⟨hn b hb, (I'.ok.exf b hb).1, I'.ok.exfs b hb, .inl hb, fun x c e => (I'.ok.exf b hb).2 x c e, fun p hp => absurd (show p ∈ ([] : List (Addr × Obj)) ++ [] from hp) (by simp)⟩
  have loop : codeAny (model X.prog X.w) X.A (.compLoop (.ListComp elt [⟨tg, iter, ifs, 0⟩] scope pos) 0 (.ref it) (.ref D) ce) (compPost (model X.prog X.w) X.A X.xe use Qf (.ref D) s3.heap.objs.size) s4 := by
    refine compLoop_any (fun n s' => ∃ i H', Inv (X.blk s3 H3 scope ce fp) [] (wipe σ (own.map (·.2))) H' s' ∧ tn i s'.heap ∧ (∀ b ∈ fp, H' b = none) ∧ W i n H') ?_ m0 ⟨0, H3, I4, st4, nfp, w0⟩
    rintro n s5 ⟨i, H5, I5, st5, n5, w5⟩
    rcases turn i n H5 w5 with ⟨stop, qq⟩ | ⟨go, Nx, hNx, step⟩
    · have td := T.done (X.blk s3 H3 scope ce fp) rfl rfl rfl hc i [] s5 _ H5 (fun _ _ => False) I5 (stat I5 n5) st5 stop
      refine thnF td fun r s6 ⟨hr, I6⟩ => ?_
      subst hr
      -- back in the def's context
      have I7 : Inv X pins σ H5 s6 := I3.call' (ch := fp) I6.os I6.base I6.hok I6.bare fun b hb => ⟨(f3 b hb).1.2.2.2.1, (f3 b hb).1.2.1, (f3 b hb).1.2.2.2.2.1, (f3 b hb).1.2.2.2.2.2⟩
      have nC : H5 s3.heap.objs.size = none := by
        have z : H5 ce.locals = none := I6.free
        rw [cL] at z
        exact z
      obtain ⟨m, hn, _⟩ := I6.loc
      have hn : s6.heap.Ns ce.locals m := hn
      rw [cL] at hn
      exact hRR D s3.heap.objs.size s6 m H5 I7 qq hn (I3.fpOk (Nat.le_refl _) nC)
    · have ti := T.item (X.blk s3 H3 scope ce fp) rfl rfl rfl hc i [] s5 _ H5 (fun _ _ => False) I5 (stat I5 n5) st5 go
      refine thnF ti fun r s6 ⟨u, hr, h6⟩ => ?_
      subst hr
      refine thnF h6 fun _ s7 ⟨x, H7, I7, r7, y7, st7, n7⟩ => ?_
      have I7' := I7.pinned (stat I7 n7) (T.obj _ _ st7)
      refine thnF (pg _ s7 _ H7 x u _ I7' r7 (step x H7 y7)) fun _ s8 ⟨σ8, H8, I8, hw8, q8⟩ => ?_
      refine thnF (pt _ s8 σ8 H8 _ I8 q8) fun b s9 ⟨H9, I9, q9⟩ => ?_
      -- the turn's end
      have fin : ∀ {s' : Shared} {H' : Hp}, Inv (X.blk s3 H3 scope ce fp) ([] ++ pinsAt fp s7.heap) σ8 H' s' → Nx H' → ∃ m, m < n ∧ ∃ i H', Inv (X.blk s3 H3 scope ce fp) [] (wipe σ (own.map (·.2))) H' s' ∧ tn i s'.heap ∧ (∀ b ∈ fp, H' b = none) ∧ W i m H' := fun {s' H'} I' nx => by
        obtain ⟨m', hm, w'⟩ := hNx H' nx
        have pin' : ∀ b ∈ fp, ∀ o, s7.heap.get? b = some o → s'.heap.get? b = some o ∧ H' b = none := fun b hb o e =>
          let z := I'.pin (b, o) (List.mem_append_right _ (List.mem_append_right _ (mem_pinsAt hb e)))
          ⟨z.1, z.2.1⟩
        have hl : (wipe σ (own.map (·.2))).length = σ8.length := by rw [← hw8, wipe_length]
        refine ⟨m', hm, i + 1, H', (I'.unpinned (pins := [])).weak hl (fun j v e => ?_), T.keep _ _ _ st7 fun b hb o e => (pin' b hb o e).1, fun b hb => ?_, w'⟩
        · rw [← hw8] at e
          exact (wipe_some e).1
        · obtain ⟨o, e, _⟩ := T.obj _ _ st7 b hb
          exact (pin' b hb o e).2
      cases b with
      | false =>
        simp only [Bool.false_eq_true, if_false] at q9 ⊢
        exact fin I9 q9
      | true =>
        simp only [if_true] at q9 ⊢
        refine thnF (pe _ s9 σ8 H9 _ I9 q9) fun z s10 ⟨yv, H10, I10, r10, acc, hD10, hz10, nx⟩ => ?_
        exact app_ok (X := X.blk s3 H3 scope ce fp) I10 hD10 hz10 r10 fun s11 I11 => fin I11 nx
  exact codeAny_compStart_list loop (T.self X.A 0 _ _ _ st4 loop)
/-- as a value -/
theorem pe_lc {elt tg iter : Expr} {ifs : List Expr} {scope : Scope} {own : List (Str × Nat)} {pos : Pos} {wi : TI} {g : TG} {tt : TT} {te : TE} (hc : X.calm = true) (hN : X.N.Nodup) (hi : PI X tg iter wi) (ok : BlkOk X.N X.env.scope scope own)
    (hg : ∀ (s : Shared) (H : Hp) (C : Addr) (cl : List (Str × Addr)) (fp : List Addr), PG (X.blk s H scope (compEnvC scope cl C X.env) fp) tg g) (ht : ∀ (s : Shared) (H : Hp) (C : Addr) (cl : List (Str × Addr)) (fp : List Addr), PTs (X.blk s H scope (compEnvC scope cl C X.env) fp) ifs tt)
    (he : ∀ (s : Shared) (H : Hp) (C : Addr) (cl : List (Str × Addr)) (fp : List Addr), PE (X.blk s H scope (compEnvC scope cl C X.env) fp) elt te) (hs : ∀ x, foldedSetIterable iter X.env x = pure x := by intro _; rfl) :
    PE X (.ListComp elt [⟨tg, iter, ifs, 0⟩] scope pos) (tLc wi g tt te (own.map (·.2))) := by
  intro pins s σ H Q I h
  rw [eval_ListComp]
  refine lc_core hc hN I hi ok hg ht he hs h fun D C s' m H' I' q hn f => ⟨m, hn, fun h'' sb => ?_⟩
  obtain ⟨f0, f1, f2, f3, f4, f5⟩ := f
  exact ⟨.ref D, H', I'.turned (t' := s'.toks) (fun b o hb e => (sb.2 b hb).trans e) f0 f1 f3 f4 f5, rfl, q⟩
/-- name = [..] on one line, the name a local -/
theorem ps_setLc {i : Nat} {y : Str} {py : Pos} {elt tg iter : Expr} {ifs : List Expr} {scope : Scope} {own : List (Str × Nat)} {pos spos : Pos} {wi : TI} {g : TG} {tt : TT} {te : TE} (hc : X.calm = true) (hN : X.N.Nodup) (hy : X.N[i]? = some y) (hyl : X.env.scope.names.lookup y = some .local)
    (hsw : swapsWith (.ListComp elt [⟨tg, iter, ifs, 0⟩] scope pos) (some (.Name y py)) spos.line X.env = pure true) (hi : PI X tg iter wi) (ok : BlkOk X.N X.env.scope scope own)
    (hg : ∀ (s : Shared) (H : Hp) (C : Addr) (cl : List (Str × Addr)) (fp : List Addr), PG (X.blk s H scope (compEnvC scope cl C X.env) fp) tg g) (ht : ∀ (s : Shared) (H : Hp) (C : Addr) (cl : List (Str × Addr)) (fp : List Addr), PTs (X.blk s H scope (compEnvC scope cl C X.env) fp) ifs tt)
    (he : ∀ (s : Shared) (H : Hp) (C : Addr) (cl : List (Str × Addr)) (fp : List Addr), PE (X.blk s H scope (compEnvC scope cl C X.env) fp) elt te) (hs : ∀ x, foldedSetIterable iter X.env x = pure x := by intro _; rfl) :
    PS X (.Assign [.Name y py] (.ListComp elt [⟨tg, iter, ifs, 0⟩] scope pos) spos) (tAsg (tLc wi g tt te (own.map (·.2))) (gName i)) := by
  intro pins s σ H D I h
  rw [exec_Assign_Name_used _ _ _ _ hsw]
  refine wpAny_bind (wpAny_standAt (wpAny_bind ?_))
  show wpAny _ X.A (do let _ ← comprehension (.ListComp elt [⟨tg, iter, ifs, 0⟩] scope pos) scope X.env (firstIterPos [⟨tg, iter, ifs, 0⟩] pos) (newList []) false (eval iter X.env) (some (assign (.Name y py) X.env))) _ _ s
  have h : tLc wi g tt te (own.map (·.2)) σ H (fun x H1 => gName i x σ H1 D.nx) := h
  refine wpAny_bind (thn (lc_core (Qf := fun _ s' => SP X pins D .next s') hc hN I hi ok hg ht he hs h fun L C s' m H' I' q hn f => ?_) fun _ s' hq => wpAny_pure (wpAny_pure hq))
  show wpAny _ _ (assign (.Name y py) X.env (.ref L)) _ _ _
  refine wpAny_assign_Name (store_ok2 (v := V.ref L) I' hN hy (.inl hyl) rfl (fun s2 I2 ⟨a, sb, ha⟩ => ?_) (.inr hyl))
  obtain ⟨f0, f1, f2, f3, f4, f5⟩ := f
  have haC : C ≠ a := by
    rcases ha with z | z
    · rw [z]; exact f1
    · exact fun e => f4 y a z e.symm
  refine ⟨m, hn.sameBut sb haC, fun h3 sb3 => ?_⟩
  exact ⟨_, H', I2.turned (t' := s2.toks) (fun b o hb e => (sb3.2 b hb).trans e) f0 f1 f3 f4 f5, q⟩
theorem sw_true {elt : Expr} {gs : List Comprehension} {scope : Scope} {pos py : Pos} {y : Str} {l : Nat} {env : Env} (hk : env.scope.kind = .function) (hy : env.scope.names.lookup y = some .local) (hl : (py.line == pos.line) = true)
    (ha : (scope.names.any fun (n, k) => n == y && (k == .local || k == .cell)) = false) : swapsWith (.ListComp elt gs scope pos) (some (.Name y py)) l env = pure true := by
  have ky : env.kindOf y = some .local := hy
  have hb : env.blockKind = .function := by unfold Env.blockKind; rw [hk]; rfl
  unfold swapsWith
  simp only [hb, ky, ha, Expr.pos, hl]
  rfl
end

/-! ### the forms one uses -/
def blkC (N : List Str) (sc scope : Scope) (own : List (Str × Nat)) : Bool :=
  (match scope.kind with | .function => true | _ => false) && (scope.names.all fun y => decide (scope.names.lookup y.1 = some y.2)) && (own.all fun p => decide (N[p.2]? = some p.1)) &&
    (scope.names.all fun y => match y.2 with
      | .free => (match sc.names.lookup y.1 with | some .cell => true | some .free => true | _ => false)
      | .local => decide (y.1 ∈ own.map (·.1)) || decide (y.1 ∉ N)
      | .cell => decide (y.1 ∈ own.map (·.1)) || decide (y.1 ∉ N)
      | _ => true)
end L2

namespace L2
open PySem PySem.Spec PyProof.Rows

section
variable {prog : Program} {w : World} {A : Around} {R : Result → Shared → Prop} {s : Shared} {elt t0 i0 t1 i1 : Expr} {ifs0 ifs1 : List Expr} {scope : Scope} {pos : Pos} {it acc : Value} {env : Env}
end

section
variable {X : Cx}
/-- [elt for tg in iter if .. for tg1 in iter1 if ..]: behind the first clause's store and tests the second source's own loop, from which Nx is reached. vs: the block's names; vs1: those of the second target -/
def tLc2 (wi : TI) (g : TG) (tt : TT) (wi1 : TI) (g1 : TG) (tt1 : TT) (te : TE) (vs vs1 : List Nat) : TE := fun σ H Q => wi σ H fun J H1 => ∀ D, H1 D = none → ∃ W : Nat → Nat → Hp → Prop, (∃ m, W 0 m (upd H1 D (.lst []))) ∧ ∀ i m H, W i m H →
  (J.stop i H ∧ Q (.ref D) H) ∨ (J.go i H ∧ ∃ Nx : Hp → Prop, (∀ H', Nx H' → ∃ m', m' < m ∧ W (i + 1) m' H') ∧ ∀ x H', J.yld i H x H' → g x (wipe σ vs) H' fun σ2 H2 => wipe σ2 vs = wipe σ vs ∧ tt σ2 H2 fun b H3 =>
    if b = true then wi1 σ2 H3 fun J1 H4 => ∃ W1 : Nat → Nat → Hp → Prop, (∃ m, W1 0 m H4) ∧ ∀ j k H, W1 j k H →
      (J1.stop j H ∧ Nx H) ∨ (J1.go j H ∧ ∃ Nx1 : Hp → Prop, (∀ H', Nx1 H' → ∃ k', k' < k ∧ W1 (j + 1) k' H') ∧ ∀ x H', J1.yld j H x H' → g1 x (wipe σ2 vs1) H' fun σ3 H5 => wipe σ3 vs1 = wipe σ2 vs1 ∧ tt1 σ3 H5 fun b H6 =>
        if b = true then te σ3 H6 fun y H7 => ∃ acc, H7 D = some (.lst acc) ∧ acc.length < sizeLine ∧ Nx1 (upd H7 D (.lst (acc ++ [y]))) else Nx1 H6)
    else Nx H3)
end
end L2

namespace L2
open PySem PySem.Spec PyProof.Rows

/-! ### lists of pairs as tables -/
section
variable {κ : Type} [DecidableEq κ]
def valV (kvs : List (κ × V)) (k : κ) : Option V := (kvs.find? fun kv => decide (kv.1 = k)).map (·.2)
/-- in its place, or at the end -/
def putK (kvs : List (κ × V)) (k : κ) (v : V) : List (κ × V) :=
  if (kvs.any fun kv => decide (kv.1 = k)) = true then kvs.map (fun kv => if kv.1 = k then (kv.1, v) else kv) else kvs ++ [(k, v)]
def dropK (kvs : List (κ × V)) (k : κ) : List (κ × V) := kvs.filter fun kv => decide (kv.1 ≠ k)

theorem valV_pos {p : κ × V} {r : List (κ × V)} {k : κ} (e : p.1 = k) : valV (p :: r) k = some p.2 := by simp [valV, List.find?_cons, e]
theorem valV_neg {p : κ × V} {r : List (κ × V)} {k : κ} (e : ¬ p.1 = k) : valV (p :: r) k = valV r k := by simp [valV, List.find?_cons, e]
theorem RelO.isSome_eq {o : Option V} {u : Option Value} (r : RelO o u) : o.isSome = u.isSome := by
  cases o with
  | none => cases u with
    | none => rfl
    | some _ => exact (show False from r).elim
  | some _ => cases u with
    | none => exact (show False from r).elim
    | some _ => rfl
/-- raw tables of the same keys -/
theorem KV.val {kvs : List (κ × V)} {vs : List (κ × Value)} (r : KV kvs vs) (k : κ) : RelO (valV kvs k) (valueAt vs k) := by
  unfold KV at r
  induction r with
  | nil => exact True.intro
  | @cons p q ps qs h t ih =>
    obtain ⟨h1, h2⟩ := h
    by_cases e : p.1 = k
    · have e' : q.1 = k := h1.symm.trans e
      have b : valueAt (q :: qs) k = some q.2 := by simp [valueAt, List.find?_cons, e']
      rw [valV_pos e, b]; exact h2
    · have e' : ¬ q.1 = k := fun z => e (h1.trans z)
      have b : valueAt (q :: qs) k = valueAt qs k := by simp [valueAt, List.find?_cons, e']
      rw [valV_neg e, b]; exact ih
end


/-! ### a tracked dict, its keys ints and texts or tuples of these -/
theorem kV_is {P : Program} {w : World} {k : Key} {u : Value} (r : RelV (kV k) u) : (mixKind P w).is k u = true := by
  cases k with
  | inl i => obtain ⟨t, e⟩ := (show ∃ t, u = Value.int i t from r); subst e; exact mixKind_int P w i t
  | inr x => obtain ⟨t, e⟩ := (show ∃ t, u = Value.str x t from r); subst e; exact mixKind_str P w x t
/-- raw entries of a dict with tuple keys -/
abbrev KT (H : Hp) : List (List Key × V) → List (List Key × Addr × Value) → Prop := Paired fun p q => p.1 = q.1 ∧ H q.2.1 = some (.tup (p.1.map kV)) ∧ RelV p.2 q.2.2
section
variable {P : Program} {w : World} {H : Hp} {h : Heap} {a : Addr}
end

/-- what the dict at a holds at the key y -/
def DGet (H : Hp) (a : Addr) (y : V) (r : Option V) : Prop :=
  (∃ kvs k, Rd H a (.dK kvs) ∧ y = kV k ∧ r = valV kvs k) ∨ ∃ kvs k b, Rd H a (.dT kvs) ∧ y = .ref b ∧ H b = some (.tup (k.map kV)) ∧ r = valV kvs k
/-- the heap behind a[y] = v -/
def DPut (H : Hp) (a : Addr) (y v : V) (H' : Hp) : Prop :=
  (∃ kvs k, H a = some (.dK kvs) ∧ y = kV k ∧ kvs.length < sizeLine ∧ H' = upd H a (.dK (putK kvs k v))) ∨
  ∃ kvs k b, H a = some (.dT kvs) ∧ y = .ref b ∧ H b = some (.tup (k.map kV)) ∧ kvs.length < sizeLine ∧ H' = upd H a (.dT (putK kvs k v))
section
variable {X : Cx} {pins : List (Addr × Obj)} {σ : St} {H : Hp} {s : Shared} {a : Addr} {y v : V} {u r : Value} {o : Option V} {A : Around} {E : Value → Shared → Prop}

end

section
variable {X : Cx} {pins : List (Addr × Obj)} {σ : St} {H : Hp} {s : Shared} {a : Addr} {kvs : List (Key × V)} {k : Key} {u : Value} {A : Around} {E : Value → Shared → Prop}
end


/-! ### readings and rules -/
/-- the element of a subscription, not a slice -/
def NoSl (i : Expr) : Prop := ∀ ov iv, subscripted i false ov iv = operate [ov, iv] (getItem ov iv)
theorem subD_of {prog : Program} {w : World} {A : Around} {E : Value → Shared → Prop} {s : Shared} {env : Env} {value slice : Expr} {pos : Pos} {T id : String} {Q : Value → Shared → Prop}
    (hl : typeLookup (.type T) "__getitem__" = pure (some (.builtin id))) (hs : NoSl slice)
    (h : wpAny (model prog w) A (eval value env) (fun o s₁ => wpAny (model prog w) A (eval slice env) (fun i s₂ => s₂.TypeIs o T ∧ wpAny (model prog w) A (getItem o i) Q E s₂) E s₁) E s) :
    wpAny (model prog w) A (eval (.Subscript value slice pos) env) Q E s := by
  refine Subscript_ (wpAny_mono h (fun o s₁ h₁ => wpAny_mono h₁ (fun i s₂ h₂ => ?_) fun _ _ x => x) fun _ _ x => x)
  obtain ⟨hT, h₂⟩ := h₂
  unfold subscriptTail
  refine wpAny_bind ?_
  rw [getitemInPython_of_ne hT.not_modules]
  refine wpAny_bind (wpAny_specialOf hT hl ?_)
  have fin : wpAny (model prog w) A (subscripted slice false o i) (fun r s₃ => wpAny (model prog w) A (letTemporaryGo value o r >>= fun _ => pure r) Q E s₃) E s₂ := by
    rw [hs o i]
    exact wpAny_operating (wpAny_mono h₂ (fun r s₃ h₃ => wpAny_bind (wpAny_letTemporaryGo (wpAny_pure h₃))) fun _ _ x => x)
  first
    | exact wpAny_pure (wpAny_bind fin)
    | exact wpAny_bind (wpAny_pure (wpAny_bind fin))
    | exact wpAny_bind fin

/-- d[y] -/
def tDGet (td ty : TE) : TE := fun σ H Q => td σ H fun x H1 => ty σ H1 fun y H2 => ∃ a v, x = .ref a ∧ DGet H2 a y (some v) ∧ Q v H2
/-- y in d, y not in d -/
def tDIn (ty td : TE) : TE := fun σ H Q => ty σ H fun y H1 => td σ H1 fun x H2 => ∃ a o, x = .ref a ∧ DGet H2 a y o ∧ Q (.bl o.isSome) H2
def tDNotIn (ty td : TE) : TE := fun σ H Q => ty σ H fun y H1 => td σ H1 fun x H2 => ∃ a o, x = .ref a ∧ DGet H2 a y o ∧ Q (.bl (!o.isSome)) H2
/-- d[y] = v -/
def sDPut (td ty tv : TE) : TS := fun D σ H => tv σ H fun v H1 => td σ H1 fun x H2 => ty σ H2 fun y H3 => ∃ a H4, x = .ref a ∧ DPut H3 a y v H4 ∧ D.nx σ H4
/-- d[y] op= v -/
def sDAug (td ty tv : TE) (rd : V → V → Hp → VK → Prop) : TS := fun D σ H => td σ H fun x H1 => ty σ H1 fun y H2 => ∃ a v, x = .ref a ∧ DGet H2 a y (some v) ∧
  tv σ H2 fun y2 H3 => rd v y2 H3 fun z H4 => ∃ H5, DPut H4 a y z H5 ∧ D.nx σ H5
/-- del d[y] -/
def sDDel (td ty : TE) : TS := fun D σ H => td σ H fun x H1 => ty σ H1 fun y H2 => ∃ a kvs k, x = .ref a ∧ H2 a = some (.dK kvs) ∧ y = kV k ∧ (valV kvs k).isSome = true ∧ D.nx σ (upd H2 a (.dK (dropK kvs k)))

section
variable {X : Cx} {o i e value : Expr} {pos pos' tpos : Pos} {td ty tv : TE}
end


/-! ### displays -/
/-- {}, to be a dict of the kind that is wanted -/
def tDNewK : TE := fun _ H Q => ∀ p, H p = none → Q (.ref p) (upd H p (.dK []))
def tDNewT : TE := fun _ H Q => ∀ p, H p = none → Q (.ref p) (upd H p (.dT []))
section
variable {X : Cx} {pos : Pos}
end

/-- the pairs of a display, from the left -/
def tPairs : List (TE × TE) → St → Hp → (List (V × V) → Hp → Prop) → Prop
  | [], _, H, Q => Q [] H
  | (tk, tv) :: r, σ, H, Q => tk σ H fun x H1 => tv σ H1 fun y H2 => tPairs r σ H2 fun ps H3 => Q ((x, y) :: ps) H3
abbrev VV : List (V × V) → List (Value × Value) → Prop := Paired fun p q => RelV p.1 q.1 ∧ RelV p.2 q.2
def PPs (X : Cx) (pos : Pos) (keys : List (Option Expr)) (values : List Expr) (trs : List (TE × TE)) : Prop :=
  ∀ (pins : List (Addr × Obj)) (s : Shared) (σ : St) (H : Hp) (Q : List (V × V) → Hp → Prop), Inv X pins σ H s → tPairs trs σ H Q →
    wpAny (model X.prog X.w) X.A (evalPairs (pairTrees keys values X.env pos)) (fun vs s' => ∃ ps H', Inv X pins σ H' s' ∧ VV ps vs ∧ Q ps H') X.xe s
def mergeK (kvs more : List (Key × V)) : List (Key × V) := more.foldl (fun acc kv => putK acc kv.1 kv.2) kvs
/-- {k: v, ..} with keys ints and texts; the new dict stands empty while the pairs are made -/
def tDisp (trs : List (TE × TE)) : TE := fun σ H Q => ∀ p, H p = none → tPairs trs σ (upd H p (.dK [])) fun ps H2 => H2 p = some (.dK []) ∧ ∃ kvs : List (Key × V), ps = kvs.map (fun kv => (kV kv.1, kv.2)) ∧ kvs.length ≤ 15 ∧ Q (.ref p) (upd H2 p (.dK (mergeK [] kvs)))
/-! ### methods -/
/-- a method call o.m(e) of a built-in, with one argument: what must be seen of the text -/
structure M1 (X : Cx) (o : Expr) (m : Str) (apos : Pos) (e : Expr) (cpos : Pos) : Prop where
  base : attributeBase o m X.env (eval o X.env) = eval o X.env
  few : ((backTo cpos (starEach [e] X.env)).all (fun x => !x.1) && (backToKw cpos (keywordEach [] X.env)).all (fun x => x.1.isSome)
    && decide (([e] : List Expr).length + ([] : List Keyword).length + (if ([] : List Keyword).isEmpty then 0 else 1) < 30)) = true
  line : (apos.endLine == cpos.line) = true
  trees : backTo cpos (starEach [e] X.env) = [(false, eval e X.env)]
structure M2 (X : Cx) (o : Expr) (m : Str) (apos : Pos) (e f : Expr) (cpos : Pos) : Prop where
  base : attributeBase o m X.env (eval o X.env) = eval o X.env
  few : ((backTo cpos (starEach [e, f] X.env)).all (fun x => !x.1) && (backToKw cpos (keywordEach [] X.env)).all (fun x => x.1.isSome)
    && decide (([e, f] : List Expr).length + ([] : List Keyword).length + (if ([] : List Keyword).isEmpty then 0 else 1) < 30)) = true
  line : (apos.endLine == cpos.line) = true
  trees : backTo cpos (starEach [e, f] X.env) = [(false, eval e X.env), (false, eval f X.env)]

/-- a is a dict, whatever its keys -/
def IsD (H : Hp) (a : Addr) : Prop := (∃ kvs, Rd H a (.dK kvs)) ∨ ∃ kvs, Rd H a (.dT kvs)
section
variable {X : Cx} {pins : List (Addr × Obj)} {σ : St} {H : Hp} {s : Shared} {a : Addr} {y d : V} {u r : Value} {o : Option V} {A : Around} {E : Value → Shared → Prop}
end

def tDGet1 (td ty : TE) : TE := fun σ H Q => td σ H fun x H1 => ∃ a, x = .ref a ∧ IsD H1 a ∧ ty σ H1 fun y H2 => ∃ o, DGet H2 a y o ∧ Q (o.getD .non) H2
def tDGet2 (td ty tx : TE) : TE := fun σ H Q => td σ H fun x H1 => ∃ a, x = .ref a ∧ IsD H1 a ∧ ty σ H1 fun y H2 => tx σ H2 fun z H3 => ∃ o, DGet H3 a y o ∧ Q (o.getD z) H3
/-- d.pop(k): there; d.pop(k, x): there or not -/
def tDPop1 (td ty : TE) : TE := fun σ H Q => td σ H fun x H1 => ∃ a, x = .ref a ∧ IsD H1 a ∧ ty σ H1 fun y H2 => ∃ kvs k v, H2 a = some (.dK kvs) ∧ y = kV k ∧ valV kvs k = some v ∧ Q v (upd H2 a (.dK (dropK kvs k)))
def tDPop2 (td ty tx : TE) : TE := fun σ H Q => td σ H fun x H1 => ∃ a, x = .ref a ∧ IsD H1 a ∧ ty σ H1 fun y H2 => tx σ H2 fun z H3 => ∃ kvs k, H3 a = some (.dK kvs) ∧ y = kV k ∧
  (∀ v, valV kvs k = some v → Q v (upd H3 a (.dK (dropK kvs k)))) ∧ (valV kvs k = none → Q z H3)
section
variable {X : Cx} {o e f : Expr} {apos cpos : Pos} {td ty tx : TE}
end

/-! ### dict(d): a copy -/
section
variable {X : Cx} {pins : List (Addr × Obj)} {σ : St} {H : Hp} {s : Shared} {a : Addr} {kvs : List (Key × V)} {A : Around} {E : Value → Shared → Prop}
end


section
variable {X : Cx} {pins : List (Addr × Obj)} {σ : St} {H : Hp} {s : Shared} {a : Addr} {y : V} {u : Value} {A : Around} {E : Value → Shared → Prop}
end
end L2

namespace L2
open PySem PySem.Spec PyProof.Rows

section
variable {prog : Program} {w : World} {A : Around} {E : Value → Shared → Prop}
end

section
variable {X : Cx}
end
end L2

namespace L2
open PySem PySem.Spec PyProof.Rows

section
variable {X : Cx} {pins : List (Addr × Obj)} {σ : St} {H : Hp} {s : Shared} {h' : Heap}
/-! ### locking a thing while a statement runs -/
end
/-- the statement runs while the thing at d is locked (read, not written); d and what stands there are the reading's choice -/
def tLock (t : TS) : TS := fun D σ H => ∃ d u, H d = some u ∧ Mut (some u) ∧ ∀ od, t ⟨fun σ' H' => H' d = some (.frz od u) ∧ D.nx σ' (upd H' d u), fun v H' => H' d = some (.frz od u) ∧ D.rt v (upd H' d u), fun σ' H' => H' d = some (.frz od u) ∧ D.bk σ' (upd H' d u), fun σ' H' => H' d = some (.frz od u) ∧ D.ct σ' (upd H' d u)⟩ σ (upd H d (.frz od u))
def tLockE (t : TE) : TE := fun σ H Q => ∃ d u, H d = some u ∧ Mut (some u) ∧ ∀ od, t σ (upd H d (.frz od u)) fun v H' => H' d = some (.frz od u) ∧ Q v (upd H' d u)
section
variable {X : Cx}
/-! ### one iterator just laid -/
theorem pi_one {tg : Expr} {pins : List (Addr × Obj)} {σ : St} {H : Hp} {s : Shared} {R : It → Hp → Prop} {J : It} {tn : Nat → Heap → Prop} {tk : Nat} (I : Inv X pins σ H s) (o : Obj)
    (T : Turn X.prog X.w X.K tg J [s.heap.objs.size] s.heap.objs.size tn) (st : tn 0 (s.heap.push o)) (q : R J H) : PIE X pins σ tg R (.ref s.heap.objs.size) { s with heap := s.heap.push o, toks := tk } := by
  refine ⟨s.heap.objs.size, [s.heap.objs.size], tn, J, H, rfl, I.kept fun b ob e => Heap.get?_push_of_some _ e, T, st, fun b hb => ?_, q⟩
  have e : b = s.heap.objs.size := by simpa using hb
  subst e
  exact I.fpOk (Nat.le_refl _) (I.hok.fresh (Nat.le_refl _))
end

/-! ### range with a step -/
/-- lo, lo + c, .. (n of them) -/
def Itc (lo c : Int) (n : Nat) : It := ⟨fun i _ => i < n, fun i H x H' => H' = H ∧ x = .int (lo + (i : Nat) * c), fun i _ => n ≤ i⟩
theorem turn_rangeC {P : Program} {w : World} {K : PySem.W.Frag} {tg : Expr} (it : Addr) (lo c : Int) (n : Nat) : Turn P w K tg (Itc lo c n) [it] it (fun i h => IsRangeIter h it (lo + (i : Nat) * c) ((n : Int) - (i : Nat)) c) where
  mem := by simp
  obj := fun i h st b hb => by
    have e : b = it := by simpa using hb
    subst e
    exact ⟨_, st, fun v z => nomatch z⟩
  keep := fun i h h' st k => k it (by simp) _ st
  item := by
    intro X hP hw hK hc i pins s σ H E I hf st hg
    subst hP hw hK
    obtain ⟨f0, f1, f2, f3, f4, f5⟩ := hf it (by simp)
    have W := Walks.range (prog := X.prog) (w := X.w) (I.ok.hd hc) it lo c n
    refine W.item i s _ _ hg st fun v h' tk hv st' kk => ?_
    obtain ⟨t, rfl⟩ := hv
    have I1 : Inv X pins σ H { s with heap := h', toks := tk } := I.turned (fun b o hb e => kk b o (by simpa using hb) e) f0 f1 f3 f4 f5
    exact ⟨_, rfl, go_of (s := { s with heap := h', toks := tk }) (n := "range_iterator") st' rfl rfl (by decide) ⟨.int (lo + (i : Nat) * c), H, I1, ⟨t, rfl⟩, ⟨rfl, rfl⟩, st', fun b hb => (hf b hb).1⟩⟩
  done := by
    intro X hP hw hK hc i pins s σ H E I hf st hg
    subst hP hw hK
    obtain ⟨f0, f1, f2, f3, f4, f5⟩ := hf it (by simp)
    exact wpAny_pyNext_range_end (I.ok.hd hc) st (by have : n ≤ i := hg; omega) fun h' eb => ⟨rfl, I.turned (t' := s.toks) (fun b o hb e => eb b o hb e) f0 f1 f3 f4 f5⟩
  self := fun A i s Q E st h => wpAny_pyIter_rangeiter st h
/-- range(i, j, c): small bounds, n items -/
def RgC (i j c : Int) (n : Nat) : Prop := c ≠ 0 ∧ c.natAbs < 1073741824 ∧ Builtin.Range.small i j c = true ∧ Builtin.Range.rangeSize i j c = n
def iRng3 (ta : TA) : TI := fun σ H R => ta σ H fun vs H1 => ∃ (i j c : Int) (n : Nat), vs = [.int i, .int j, .int c] ∧ RgC i j c n ∧ R (Itc i c n) H1
section
variable {X : Cx} {tg : Expr}
theorem pi_range3 {a b c : Expr} {ta : TA} {p pos : Pos} (hg : Gl X "range") (hm : X.mg "range" = none) (ha : PA X [a, b, c] ta)
    (hs : starEach [a, b, c] X.env = (false, eval a X.env) :: starEach [b, c] X.env := by rfl) (hpl : (backTo pos (starEach [b, c] X.env)).any (·.1) = false := by rfl) :
    PI X tg (.Call (.Name "range" p) [a, b, c] [] pos) (iRng3 ta) := by
  intro pins s σ H R I h
  refine Call_ (ld_blt I hg hm boot_range (PyProof.Rows.callWith_type1 (thn (ha pos pins s σ H _ I h) fun us s1 ⟨vs, H1, I1, r1, q1⟩ => ?_) hs hpl))
  obtain ⟨i, j, k, n, e, ⟨c0, c1, c2, c3⟩, q⟩ := q1
  subst e
  cases r1 with
  | cons r rr =>
    cases rr with
    | cons r' rr =>
      cases rr with
      | cons r'' rr =>
        cases rr
        obtain ⟨t, rfl⟩ := r
        obtain ⟨t', rfl⟩ := r'
        obtain ⟨t'', rfl⟩ := r''
        refine call_range_3 c0 ?_ (.inl (PyProof.noPylong_small c1))
        refine wpAny_pyIter_range (IsRange.new ..) c2 ?_
        have I2 : Inv X pins σ H1 { s1 with heap := s1.heap.push { cls := .type "range", data := .fields #[.int i t, .int j t', .int k t''] } } := I1.kept (t' := s1.toks) fun b o e => Heap.get?_push_of_some _ e
        refine pi_one (tk := s1.toks) I2 _ (turn_rangeC _ i k n) ?_ q
        have e1 : i + ((0 : Nat) : Int) * k = i := by simp
        have e2 : (n : Int) - ((0 : Nat) : Int) = Builtin.Range.rangeSize i j k := by rw [c3]; simp
        show IsRangeIter _ _ (i + ((0 : Nat) : Int) * k) ((n : Int) - ((0 : Nat) : Int)) k
        rw [e1, e2]
        exact Heap.get?_push_size _ rfl
end
/-- the turns of a step range, for the for loop -/
theorem for_rangeC {lo c : Int} {n : Nat} {g : TG} {tb : TS} {D : Ends} {σ : St} {H : Hp} (Pv : Nat → St → Hp → Prop) (h0 : Pv 0 σ H)
    (hs : ∀ i σ H, i < n → Pv i σ H → g (.int (lo + (i : Nat) * c)) σ H fun σ2 H2 => tb { D with nx := Pv (i + 1), ct := Pv (i + 1), bk := D.nx } σ2 H2) (hd : ∀ σ H, Pv n σ H → D.nx σ H) :
    ∃ W : Nat → Nat → St → Hp → Prop, (∃ m, W 0 m σ H) ∧ ∀ i m σ H, W i m σ H →
      ((Itc lo c n).stop i H ∧ D.nx σ H) ∨ ((Itc lo c n).go i H ∧ ∃ N : St → Hp → Prop, (∀ σ' H', N σ' H' → ∃ m', m' < m ∧ W (i + 1) m' σ' H') ∧ ∀ x H', (Itc lo c n).yld i H x H' → g x σ H' fun σ2 H2 => tb { D with nx := N, ct := N, bk := D.nx } σ2 H2) := by
  refine ⟨fun i m σ H => m = n - i ∧ i ≤ n ∧ Pv i σ H, ⟨n, by simp, Nat.zero_le _, h0⟩, ?_⟩
  rintro i m σ H ⟨rfl, hi, p⟩
  by_cases hlt : i < n
  · refine .inr ⟨hlt, Pv (i + 1), fun σ' H' p' => ⟨n - (i + 1), by omega, rfl, hlt, p'⟩, fun x H' y => ?_⟩
    obtain ⟨e, y⟩ := y
    subst e y
    exact hs i σ _ hlt p
  · have e : i = n := by omega
    subst e
    exact .inl ⟨Nat.le_refl _, hd σ H p⟩

/-! ### reversed(list) -/
/-- the list at a (n items at the start, which the loop leaves there), from its end -/
def Itv (K : PySem.W.Frag) (a : Addr) (n : Nat) : It :=
  ⟨fun i H => i < n ∧ ∃ (xs : List V) (x : V), SqL K H a xs ∧ xs[n - 1 - i]? = some x, fun i H x H' => H' = H ∧ ∀ xs, SqL K H a xs → xs[n - 1 - i]? = some x, fun i _ => n ≤ i⟩
def iRev (K : PySem.W.Frag) (ta : TA) : TI := fun σ H R => ta σ H fun vs H1 => ∃ (a : Addr) (xs : List V), vs = [.ref a] ∧ SqL K H1 a xs ∧ R (Itv K a xs.length) H1
section
variable {X : Cx} {tg : Expr}
end

/-! ### a str -/
def Its (x : Str) : It := ⟨fun i _ => i < x.cps.size, fun i H v H' => H' = H ∧ ∃ c, x.cps[i]? = some c ∧ v = .str ⟨#[c]⟩, fun i _ => x.cps.size ≤ i⟩
def iStr (te : TE) : TI := fun σ H R => te σ H fun v H1 => ∃ x, v = .str x ∧ R (Its x) H1
/-! ### a dict's keys: any dict's entries -/
section
variable {prog : Program} {w : World} {A : Around} {E : Value → Shared → Prop} {s : Shared}
theorem iter_keys {d : Addr} {o : Obj} {es : Array DictEntry} {ep : Nat} {Q : Value → Shared → Prop} (hd : (d == sysModules) = false) (ho : s.heap.get? d = some o) (hc : o.ExactDict) (hdat : o.data = .dict es ep)
    (hQ : Q (.ref s.heap.objs.size) { s with heap := s.heap.push { cls := .type "dict_keyiterator", data := .fields #[.ref d, .int 0 0, .int es.size 0, .int ep 0] } }) :
    wpAny (model prog w) A (pyIter (.ref d)) Q E s := by
  have hT : s.TypeIs (.ref d) "dict" := ⟨o, ho, hc.1⟩
  refine wpAny_pyIter_slot hT F.slot_dict_iter (wpAny_call_entry F.slot_dict_iter hT F.entry_dict_iter ?_ (F.args_dict_iter_1 _))
  unfold Builtin.«dict.__iter__»
  refine wpAny_bind ?_
  unfold Builtin.Dict.dictSlotNone
  refine wpAny_bind (wpAny_notOrdered_dict hT ?_)
  show wpAny _ _ (pure (Value.ref d)) _ _ s
  refine wpAny_pure ?_
  show wpAny _ _ (Builtin.Dict.showsAll d >>= _) _ _ s
  unfold Builtin.Dict.showsAll
  rw [if_neg (by rw [hd]; exact Bool.false_ne_true)]
  refine wpAny_bind (wpAny_pure ?_)
  refine wpAny_bind (wpAny_dictEntries ho hdat ?_)
  refine wpAny_bind (wpAny_dictEpoch ho hdat ?_)
  refine wpAny_bind (wpAny_newObj_type (wpAny_pure ⟨_, rfl, "dict_keyiterator", _, ⟨_, Heap.get?_push_size _ rfl, rfl⟩, F.slot_dict_keyiterator_next.lookup, ?_⟩))
  simpa [rawInt] using hQ
end

/-! ### a locked dict -/
theorem kv_get {κ : Type} {kvs : List (κ × V)} {vs : List (κ × Value)} (h : KV kvs vs) : ∀ {i : Nat} {k : κ} {v : V}, kvs[i]? = some (k, v) → ∃ u, vs[i]? = some (k, u) ∧ RelV v u := by
  unfold KV at h
  induction h with
  | nil => intro i k v e; simp at e
  | @cons a b l₁ l₂ r t ih =>
    intro i k v e
    cases i with
    | zero =>
      simp only [List.getElem?_cons_zero, Option.some.injEq] at e
      subst e
      refine ⟨b.2, ?_, r.2⟩
      simp only [List.getElem?_cons_zero]
      exact congrArg some (Prod.ext r.1.symm rfl)
    | succ j =>
      simp only [List.getElem?_cons_succ] at e ⊢
      exact ih e
theorem relV_key {k : Key} {u : Value} (h : keyIs k u = true) : RelV (kV k) u := by
  rcases keyIs_shape h with ⟨i, t, rfl, rfl⟩ | ⟨x, t, rfl, rfl⟩
  · exact ⟨t, rfl⟩
  · exact ⟨t, rfl⟩
section
variable {X : Cx} {pins : List (Addr × Obj)} {σ : St} {H : Hp} {s : Shared} {d : Addr} {o : Obj}
end

/-- the keys of the locked dict at d, in their order -/
def Itk (d : Addr) (o : Obj) (kvs : List (Key × V)) : It :=
  ⟨fun i H => H d = some (.frz o (.dK kvs)) ∧ i < kvs.length, fun i H x H' => H' = H ∧ ∃ k v, kvs[i]? = some (k, v) ∧ x = kV k, fun i H => H d = some (.frz o (.dK kvs)) ∧ kvs.length ≤ i⟩
/-- .. of tuple keys: the key's own tuple -/
def Itkt (d : Addr) (o : Obj) (kvs : List (List Key × V)) : It :=
  ⟨fun i H => H d = some (.frz o (.dT kvs)) ∧ i < kvs.length, fun i H x H' => H' = H ∧ ∃ (k : List Key) (v : V) (q : Addr), kvs[i]? = some (k, v) ∧ x = .ref q ∧ H q = some (.tup (k.map kV)), fun i H => H d = some (.frz o (.dT kvs)) ∧ kvs.length ≤ i⟩
/-- the values -/
def Itd (d : Addr) (o : Obj) (kvs : List (Key × V)) : It :=
  ⟨fun i H => H d = some (.frz o (.dK kvs)) ∧ i < kvs.length, fun i H x H' => H' = H ∧ ∃ k, kvs[i]? = some (k, x), fun i H => H d = some (.frz o (.dK kvs)) ∧ kvs.length ≤ i⟩
/-- the pairs, each a new tuple -/
def Iti (d : Addr) (o : Obj) (kvs : List (Key × V)) : It :=
  ⟨fun i H => H d = some (.frz o (.dK kvs)) ∧ i < kvs.length, fun i H x H' => ∃ T k v, kvs[i]? = some (k, v) ∧ x = .ref T ∧ H T = none ∧ H' = upd H T (.tup [kV k, v]), fun i H => H d = some (.frz o (.dK kvs)) ∧ kvs.length ≤ i⟩
section
variable {P : Program} {w : World} {K : PySem.W.Frag} {tg : Expr} {d : Addr} {o : Obj} {es : Array DictEntry} {ep : Nat}
end

/-! ### for k in d, d.keys(), d.values(), d.items() -/
/-- the dict is locked (tLock, or by the caller) -/
def iKeys (td : TE) : TI := fun σ H R => td σ H fun x H1 => ∃ d o, x = .ref d ∧ ((∃ kvs, H1 d = some (.frz o (.dK kvs)) ∧ R (Itk d o kvs) H1) ∨ ∃ kvs, H1 d = some (.frz o (.dT kvs)) ∧ R (Itkt d o kvs) H1)
def iVals (td : TE) : TI := fun σ H R => td σ H fun x H1 => ∃ d o kvs, x = .ref d ∧ H1 d = some (.frz o (.dK kvs)) ∧ R (Itd d o kvs) H1
def iItems (td : TE) : TI := fun σ H R => td σ H fun x H1 => ∃ d o kvs, x = .ref d ∧ H1 d = some (.frz o (.dK kvs)) ∧ R (Iti d o kvs) H1
def iKeysM (td : TE) : TI := fun σ H R => td σ H fun x H1 => ∃ d o kvs, x = .ref d ∧ H1 d = some (.frz o (.dK kvs)) ∧ R (Itk d o kvs) H1
section
variable {X : Cx} {tg e : Expr} {td : TE} {apos cpos : Pos}
end

/-! ### enumerate(list) -/
/-- the list at a as it stands at each turn, each item in a new pair -/
def Ite (K : PySem.W.Frag) (a : Addr) : It :=
  ⟨fun i H => ∃ (xs : List V) (x : V), SqL K H a xs ∧ xs[i]? = some x, fun i H v H' => ∃ T x, v = .ref T ∧ H T = none ∧ H' = upd H T (.tup [.int (i : Nat), x]) ∧ ∀ xs, SqL K H a xs → xs[i]? = some x, fun i H => ∃ xs : List V, SqL K H a xs ∧ xs.length ≤ i⟩
def iEnum (K : PySem.W.Frag) (ta : TA) : TI := fun σ H R => ta σ H fun vs H1 => ∃ a xs, vs = [.ref a] ∧ SqL K H1 a xs ∧ R (Ite K a) H1
/-! ### zip(list, list) -/
/-- the lists at a and b as they stand at each turn, the items in new pairs -/
def Itz (K : PySem.W.Frag) (a b : Addr) : It :=
  ⟨fun i H => ∃ (xs ys : List V) (x y : V), SqL K H a xs ∧ SqL K H b ys ∧ xs[i]? = some x ∧ ys[i]? = some y,
    fun i H v H' => ∃ T x y, v = .ref T ∧ H T = none ∧ H' = upd H T (.tup [x, y]) ∧ (∀ xs, SqL K H a xs → xs[i]? = some x) ∧ ∀ ys, SqL K H b ys → ys[i]? = some y,
    fun i H => ∃ xs ys : List V, SqL K H a xs ∧ SqL K H b ys ∧ (xs.length ≤ i ∨ ys.length ≤ i)⟩
def iZip (K : PySem.W.Frag) (ta : TA) : TI := fun σ H R => ta σ H fun vs H1 => ∃ a b xs ys, vs = [.ref a, .ref b] ∧ SqL K H1 a xs ∧ SqL K H1 b ys ∧ R (Itz K a b) H1
end L2

section 
namespace Bits
open PySem PyProof.Rows

end Bits
end 

section 
namespace TL
open PySem PySem.Builtin PySem.Builtin.Str PySem.StrLaws

abbrev tl (x : Str) : List Nat := x.cps.toList
theorem len_tl (x : Str) : x.length = (tl x).length := by simp [tl, Str.length]
theorem ext_tl {x y : Str} (h : tl x = tl y) : x = y := Str.ext' (Array.toList_inj.mp h)
theorem tl_append (x y : Str) : tl (x ++ y) = tl x ++ tl y := by
  show (x ++ y).cps.toList = _
  rw [Str.cps_append, Array.toList_append]
theorem map_tl_inj : ∀ {l m : List Str}, l.map tl = m.map tl → l = m
  | [], [], _ => rfl
  | [], _ :: _, h => by simp at h
  | _ :: _, [], h => by simp at h
  | x :: l, y :: m, h => by
    rw [List.map_cons, List.map_cons] at h
    injection h with h1 h2
    rw [ext_tl h1, map_tl_inj h2]
/-! ### the list functions -/
/-- S stands at the head of l -/
def pre (S l : List Nat) : Bool := l.take S.length == S
/-- l cut at each S from the left; k signs are still to be passed over -/
def spl (S : List Nat) : Nat → List Nat → List Nat → List (List Nat)
  | _, acc, [] => [acc]
  | 0, acc, c :: r => if pre S (c :: r) = true then acc :: spl S (S.length - 1) [] r else spl S 0 (acc ++ [c]) r
  | k + 1, acc, _ :: r => spl S k acc r
/-- what stands before the first S, and behind it -/
def par (S : List Nat) : List Nat → List Nat → Option (List Nat × List Nat)
  | _, [] => none
  | acc, c :: r => if pre S (c :: r) = true then some (acc, (c :: r).drop S.length) else par S (acc ++ [c]) r

theorem spl_nil (S : List Nat) (k : Nat) (acc : List Nat) : spl S k acc [] = [acc] := by cases k <;> rfl
theorem spl_hit {S acc r : List Nat} {c : Nat} (h : pre S (c :: r) = true) : spl S 0 acc (c :: r) = acc :: spl S (S.length - 1) [] r := by
  show (if pre S (c :: r) = true then acc :: spl S (S.length - 1) [] r else spl S 0 (acc ++ [c]) r) = _
  rw [if_pos h]
theorem spl_miss {S acc r : List Nat} {c : Nat} (h : pre S (c :: r) = false) : spl S 0 acc (c :: r) = spl S 0 (acc ++ [c]) r := by
  show (if pre S (c :: r) = true then acc :: spl S (S.length - 1) [] r else spl S 0 (acc ++ [c]) r) = _
  rw [if_neg (by rw [h]; exact Bool.false_ne_true)]
theorem spl_pass (S : List Nat) : ∀ (k : Nat) (acc l : List Nat), spl S k acc l = spl S 0 acc (l.drop k)
  | 0, _, _ => by rw [List.drop_zero]
  | k + 1, acc, [] => by rw [List.drop_nil, spl_nil, spl_nil]
  | k + 1, acc, c :: r => by
    show spl S k acc r = spl S 0 acc (r.drop k)
    exact spl_pass S k acc r
theorem pre_nil {S : List Nat} (hS : S ≠ []) : pre S [] = false := by
  cases S with
  | nil => exact absurd rfl hS
  | cons s S => rfl
theorem pre_of_head {s c : Nat} (S r : List Nat) (h : c ≠ s) : pre (s :: S) (c :: r) = false := by
  cases hp : pre (s :: S) (c :: r) with
  | false => rfl
  | true =>
    have e : (c :: r).take (s :: S).length = s :: S := eq_of_beq hp
    rw [List.length_cons, List.take_succ_cons] at e
    injection e with e1 e2
    exact absurd e1 h
theorem pre_self (S r : List Nat) : pre S (S ++ r) = true := by
  show ((S ++ r).take S.length == S) = true
  have e : (S ++ r).take S.length = S := List.take_left
  rw [e] <;> exact beq_self_eq_true S

theorem getElem_drop_cons {L : List Nat} {a : Nat} (h : a < L.length) : ∃ c, L.drop a = c :: L.drop (a + 1) := ⟨L[a], List.drop_eq_getElem_cons h⟩
theorem spl_run (S L : List Nat) : ∀ (m a : Nat) (acc : List Nat), a + m ≤ L.length → (∀ k, a ≤ k → k < a + m → pre S (L.drop k) = false) →
    spl S 0 acc (L.drop a) = spl S 0 (acc ++ (L.drop a).take m) (L.drop (a + m))
  | 0, a, acc, _, _ => by rw [List.take_zero, List.append_nil, Nat.add_zero]
  | m + 1, a, acc, h, hn => by
    have hlt : a < L.length := by omega
    obtain ⟨c, e⟩ := getElem_drop_cons hlt
    have h0 := hn a (Nat.le_refl _) (by omega)
    have ih := spl_run S L m (a + 1) (acc ++ [c]) (by omega) (fun k h1 h2 => hn k (by omega) (by omega))
    have e2 : a + 1 + m = a + (m + 1) := by omega
    rw [e2] at ih
    rw [e] at h0
    rw [e, spl_miss h0, ih, List.take_succ_cons, List.append_assoc] <;> rfl
theorem drop_two (L : List Nat) (a b : Nat) : (L.drop a).drop b = L.drop (a + b) := by
  first
    | rw [List.drop_drop]
    | rw [List.drop_drop, Nat.add_comm]
theorem spl_at {S L : List Nat} (hS : S ≠ []) {c : Nat} {acc : List Nat} (h : pre S (L.drop c) = true) : spl S 0 acc (L.drop c) = acc :: spl S 0 [] (L.drop (c + S.length)) := by
  rw [← drop_two]
  cases e : L.drop c with
  | nil => rw [e, pre_nil hS] at h; cases h
  | cons d r =>
    rw [e] at h
    rw [spl_hit h, spl_pass]
    cases S with
    | nil => exact absurd rfl hS
    | cons s S => rfl
/-! ### the model's split and partition are these -/
theorem at_iff {x y : Str} (hy : tl y ≠ []) (i : Nat) : At x y x.length i ↔ pre (tl y) ((tl x).drop i) = true := by
  have hx := len_tl x
  have hl := len_tl y
  constructor
  · intro h
    have h2 := h.2
    rw [subAt_eq, hl] at h2
    exact h2
  · intro h
    have e : ((tl x).drop i).take (tl y).length = tl y := eq_of_beq h
    have e1 := congrArg List.length e
    rw [List.length_take, List.length_drop] at e1
    have e2 : 0 < (tl y).length := List.length_pos_iff.mpr hy
    refine ⟨by omega, ?_⟩
    rw [subAt_eq, hl]
    exact h
theorem no_at {x y : Str} (hy : tl y ≠ []) {i : Nat} (h : ¬ At x y x.length i) : pre (tl y) ((tl x).drop i) = false := by
  cases hp : pre (tl y) ((tl x).drop i) with
  | false => rfl
  | true => exact absurd ((at_iff hy i).mpr hp) h
theorem len1 {y : Str} (hy : tl y ≠ []) : 1 ≤ y.length := by
  have e2 : 0 < (tl y).length := List.length_pos_iff.mpr hy
  rw [len_tl y]
  exact e2
theorem tl_strSub (x : Str) (i j : Nat) : tl (strSub x i j) = ((tl x).drop i).take (j - i) := strSub_toList x i j
theorem tl_strSub_end (x : Str) (i : Nat) : tl (strSub x i x.length) = (tl x).drop i := by
  rw [tl_strSub, len_tl x]
  exact List.take_of_length_le (by rw [List.length_drop] <;> omega)

theorem parts_spl {x y : Str} (hy : tl y ≠ []) : ∀ (cuts : List Nat) (a f : Nat), a ≤ (tl x).length → ChainG x y x.length a cuts f → (∀ k, f ≤ k → ¬ At x y x.length k) →
    (partsFrom x y.length a cuts).map tl = spl (tl y) 0 [] ((tl x).drop a)
  | [], a, f, ha, h, hn => by
    have e : f = a := h
    subst e
    show [tl (strSub x f x.length)] = _
    have run := spl_run (tl y) (tl x) ((tl x).length - f) f [] (by omega) (fun k h1 _ => no_at hy (hn k h1))
    have e2 : f + ((tl x).length - f) = (tl x).length := by omega
    rw [e2, List.drop_length, spl_nil, List.nil_append, List.take_of_length_le (by rw [List.length_drop] <;> omega)] at run
    rw [run, tl_strSub_end]
  | c :: r, a, f, ha, h, hn => by
    obtain ⟨h1, h2, h3, h4⟩ := h
    have hc : c + y.length ≤ x.length := h2.1
    have hx := len_tl x
    have hl := len_tl y
    have ih := parts_spl hy r (c + y.length) f (by omega) h4 hn
    show tl (strSub x a c) :: (partsFrom x y.length (c + y.length) r).map tl = _
    have run := spl_run (tl y) (tl x) (c - a) a [] (by omega) (fun k k1 k2 => no_at hy (h3 k k1 (by omega)))
    have e2 : a + (c - a) = c := by omega
    rw [e2, List.nil_append, spl_at hy ((at_iff hy c).mp h2)] at run
    rw [run, ih, tl_strSub, hl]

/-- hk: by kind_ok where the separator is plain -/
theorem split_spl (x y : Str) (hy : tl y ≠ []) (hk : ¬ Builtin.Str.strKind x < Builtin.Str.strKind y) : (Txt.split x y).map tl = spl (tl y) 0 [] (tl x) := by
  obtain ⟨f, g, hn⟩ := occ_tight x y (len1 hy)
  have key := parts_spl hy _ 0 f (Nat.zero_le _) g hn
  rw [List.drop_zero] at key
  have none_case : occurrences x y 0 x.length (x.length + 1) = [] → [x].map tl = spl (tl y) 0 [] (tl x) := fun ho => by
    rw [ho] at key
    rw [← key]
    show [tl x] = [tl (strSub x 0 x.length)]
    rw [sub_whole]
  unfold Txt.split
  by_cases h1 : (decide (x.length < y.length) || decide (Builtin.Str.strKind x < Builtin.Str.strKind y)) = true
  · rw [if_pos h1]
    have hlt : x.length < y.length := by
      simp only [Bool.or_eq_true, decide_eq_true_eq] at h1
      rcases h1 with h | h
      · exact h
      · exact absurd h hk
    refine none_case ?_
    cases ho : occurrences x y 0 x.length (x.length + 1) with
    | nil => rfl
    | cons c r =>
      rw [ho] at g
      have hc : c + y.length ≤ x.length := g.2.1.1
      omega
  · rw [if_neg h1]
    by_cases h2 : (occurrences x y 0 x.length (x.length + 1)).isEmpty = true
    · rw [if_pos h2]
      exact none_case (List.isEmpty_iff.mp h2)
    · rw [if_neg h2, partsBetween_eq]
      exact key
theorem kind_ok {x y : Str} (h : y.cps.all (· < 256) = true) : ¬ Builtin.Str.strKind x < Builtin.Str.strKind y := by
  have e : Builtin.Str.strKind y = 1 := by unfold PySem.Builtin.Str.strKind; rw [if_pos h]
  rw [e]
  unfold PySem.Builtin.Str.strKind
  split
  · omega
  · split <;> omega

/-! ### computing spl and par -/
/-- a part that the separator does not begin in, then the separator -/
theorem spl_part {S p rest acc : List Nat} (hS : S ≠ []) (h : ∀ i, i < p.length → pre S ((p ++ (S ++ rest)).drop i) = false) :
    spl S 0 acc (p ++ (S ++ rest)) = (acc ++ p) :: spl S 0 [] rest := by
  have run := spl_run S (p ++ (S ++ rest)) p.length 0 acc (by rw [List.length_append]; omega) (fun k _ k2 => h k (by omega))
  have ed : (p ++ (S ++ rest)).drop p.length = S ++ rest := List.drop_left
  rw [List.drop_zero, Nat.zero_add, List.take_left] at run
  rw [run, spl_at hS (by rw [ed]; exact pre_self S rest), ← drop_two, ed, List.drop_left]
theorem spl_last {S p acc : List Nat} (h : ∀ i, i < p.length → pre S (p.drop i) = false) : spl S 0 acc p = [acc ++ p] := by
  have run := spl_run S p p.length 0 acc (by omega) (fun k _ k2 => h k (by omega))
  rw [List.drop_zero, Nat.zero_add, List.drop_length, spl_nil, List.take_length] at run
  exact run
/-- the separator's first sign is not in the part -/
theorem free_of {s : Nat} {S p q : List Nat} (h : s ∉ p) : ∀ i, i < p.length → pre (s :: S) ((p ++ q).drop i) = false := fun i hi => by
  have hlt : i < (p ++ q).length := by rw [List.length_append]; omega
  have e : (p ++ q).drop i = (p ++ q)[i] :: (p ++ q).drop (i + 1) := List.drop_eq_getElem_cons hlt
  rw [e]
  refine pre_of_head _ _ fun z => h ?_
  have e1 : (p ++ q)[i] = p[i] := List.getElem_append_left hi
  rw [← z, e1]
  exact List.getElem_mem hi
theorem spl_part1 {s : Nat} {S p rest acc : List Nat} (h : s ∉ p) : spl (s :: S) 0 acc (p ++ (s :: S ++ rest)) = (acc ++ p) :: spl (s :: S) 0 [] rest :=
  spl_part (by simp) (free_of h)
theorem spl_last1 {s : Nat} {S p acc : List Nat} (h : s ∉ p) : spl (s :: S) 0 acc p = [acc ++ p] := spl_last fun i hi => by
  have z := free_of (S := S) (q := []) h i hi
  rw [List.append_nil] at z
  exact z
/-- joined lists -/
def joinL (S : List Nat) : List (List Nat) → List Nat
  | [] => []
  | [p] => p
  | p :: q :: r => p ++ (S ++ joinL S (q :: r))
theorem tl_join (y : Str) : ∀ parts : List Str, tl (Str.join y parts) = joinL (tl y) (parts.map tl)
  | [] => rfl
  | [_] => rfl
  | x :: z :: r => by
    show tl (x ++ y ++ Str.join y (z :: r)) = tl x ++ (tl y ++ joinL (tl y) ((z :: r).map tl))
    rw [tl_append, tl_append, tl_join y (z :: r), List.append_assoc]
theorem join_eq (y : Str) (parts : List Str) : Txt.join y parts = Str.join y parts := glued_eq_join y parts
/-! ### digits -/
/-- the signs of a number -/
def numL (n : Nat) : List Nat := (Nat.toDigits 10 n).map Char.toNat
/-! ### words: x.split() -/
def wstep (st : List (List Nat) × List Nat) (c : Nat) : List (List Nat) × List Nat :=
  if Unicode.isSpace c = true then (if st.2 = [] then st else (st.1 ++ [st.2], [])) else (st.1, st.2 ++ [c])
def wfin (st : List (List Nat) × List Nat) : List (List Nat) := if st.2 = [] then st.1 else st.1 ++ [st.2]
end TL
end 

namespace L2
open PySem PySem.Spec PyProof.Rows

/-- a list of texts, of numbered texts -/
theorem vals_strs : ∀ l : List (Str × Tok), Vals ((l.map (·.1)).map V.str) (strValues l)
  | [] => .nil
  | p :: r => .cons ⟨p.2, rfl⟩ (vals_strs r)
theorem strs_of_vals : ∀ {ys : List Str} {us : List Value}, Vals (ys.map V.str) us → StrsAre us ys
  | [], _, .nil => .nil
  | y :: ys, _, .cons r t => by
    obtain ⟨k, rfl⟩ := r
    exact .cons y k (strs_of_vals t)

/-- a new list of texts, tracked -/
def rNewStrs (ys : List Str) : Hp → VK → Prop := fun H Q => ∀ p, H p = none → Q (.ref p) (upd H p (.lst (ys.map V.str)))

section
variable {X : Cx} {pins : List (Addr × Obj)} {σ : St} {H : Hp} {s : Shared} {Q : VK}
theorem laid_strs {l : List (Str × Tok)} {ys : List Str} {k : Nat} (I : Inv X pins σ H s) (e : l.map (·.1) = ys) (hz : ys.length ≤ sizeLine) (h : rNewStrs ys H Q) :
    EP X pins σ Q (.ref s.heap.objs.size) { s with toks := k, heap := s.heap.push { cls := .type "list", data := .seq (strValues l).toArray } } := by
  have hp := I.hok.fresh (Nat.le_refl _)
  refine ⟨.ref s.heap.objs.size, upd H s.heap.objs.size (.lst (ys.map V.str)), I.laid (fun b u q => Heap.get?_push_of_some _ q) (Nat.le_refl _) ⟨by rw [List.length_map]; exact hz, strValues l, _, ?_, Heap.get?_push_size _ rfl⟩, rfl, h _ hp⟩
  rw [← e]
  exact vals_strs l
end

section
variable {X : Cx}

/-- x.split(sep) -/
theorem mt_split : MtR X "str.split" (fun x xs H Q => ∃ a b, x = .str a ∧ xs = [.str b] ∧ (b.length == 0) = false ∧ a.length + 2 ≤ sizeLine ∧ rNewStrs (Txt.split a b) H Q) := by
  intro pins s σ H x xs v us Q I rx rs h
  obtain ⟨a, b, rfl, rfl, hb, hz, h⟩ := h
  obtain ⟨t, rfl⟩ := rx
  cases rs with
  | cons r1 rs =>
    cases rs
    obtain ⟨u, rfl⟩ := r1
    have hl : (Txt.split a b).length ≤ sizeLine := Nat.le_trans (PyProof.Rows.split_le a b) hz
    have hn : (Builtin.Str.partsBetween a (Builtin.Str.occurrences a b 0 a.length (a.length + 1)) b.length).length ≤ sizeLine := by
      have e1 := StrLaws.occ_length_le a b 0 a.length (a.length + 1)
      rw [length_partsBetween]; omega
    cases h1 : (decide (a.length < b.length) || decide (Builtin.Str.strKind a < Builtin.Str.strKind b))
    · cases hf : (Builtin.Str.occurrences a b 0 a.length (a.length + 1)).isEmpty
      · refine call_meets F.slot_str_split (typeIs_str _ _ _) F.entry_str_split (F.args_str_split_2 _ _) (meets_str_split_sep a b t u h1 hb hf (by omega) hn) ?_
        show EP X pins σ Q (.ref s.heap.objs.size) { s with toks := _, heap := s.heap.push { cls := .type "list", data := .seq (strsFrom s.toks (Builtin.Str.partsBetween a (Builtin.Str.occurrences a b 0 a.length (a.length + 1)) b.length)).toArray } }
        rw [strsFrom_eq]
        exact laid_strs (ys := Txt.split a b) I ((numbered_texts _ _).trans ((if_neg (ne_true_of_eq_false h1)).trans (if_neg (ne_true_of_eq_false hf))).symm) hl h
      · refine call_meets F.slot_str_split (typeIs_str _ _ _) F.entry_str_split (F.args_str_split_2 _ _) (meets_str_split_not_found a b t u h1 hb hf) ?_
        exact laid_strs (l := [(a, t)]) (ys := Txt.split a b) (k := s.toks) I ((if_neg (ne_true_of_eq_false h1)).trans (if_pos hf)).symm hl h
    · refine call_meets F.slot_str_split (typeIs_str _ _ _) F.entry_str_split (F.args_str_split_2 _ _) (meets_str_split_cannot_occur a b t u h1) ?_
      exact laid_strs (l := [(a, t)]) (ys := Txt.split a b) (k := s.toks) I (if_pos h1).symm hl h

/-- sep.join(a list | a tuple of texts) -/
theorem mt_join : MtR X "str.join" (fun x xs H Q => ∃ a p, ∃ ys : List Str, x = .str a ∧ xs = [.ref p] ∧ (SqL X.K H p (ys.map V.str) ∨ SqT X.K H p (ys.map V.str)) ∧
    (ys.map (·.length)).sum + ys.length * a.length ≤ 16777216 ∧ Q (.str (Txt.join a ys)) H) := by
  intro pins s σ H x xs v us Q I rx rs h
  obtain ⟨a, p, ys, rfl, rfl, hp, hz, h⟩ := h
  obtain ⟨t, rfl⟩ := rx
  cases rs with
  | cons r1 rs =>
    cases rs
    cases r1
    rcases hp with hp | hp
    · obtain ⟨its, r, ⟨o, n, ho, hc, _, hd⟩, _⟩ := I.list hp
      exact PyProof.Rows.join_list (items := its.toArray) ⟨o, ho, hc, n, hd⟩ (by rw [List.toList_toArray]; exact strs_of_vals r) hz fun t' k => ⟨.str _, H, I.tok k, ⟨t', rfl⟩, h⟩
    · obtain ⟨its, r, ht, _⟩ := I.tuple hp
      exact PyProof.Rows.join_tuple (items := its.toArray) ht (by rw [List.toList_toArray]; exact strs_of_vals r) hz fun t' k => ⟨.str _, H, I.tok k, ⟨t', rfl⟩, h⟩

/-! ### of a text alone -/
theorem mt0 {id : String} {C : Str → Prop} {g : Str → V} (rule : ∀ (a : Str) (t : Tok) (s : Shared) (Q : Value → Shared → Prop), C a → (∀ (u : Value) (k : Nat), RelV (g a) u → Q u { s with toks := k }) →
    wpAny (model X.prog X.w) X.A (call (.builtin id) [.str a t]) Q X.xe s) : MtR X id (fun x xs H Q => ∃ a, x = .str a ∧ xs = [] ∧ C a ∧ Q (g a) H) := by
  intro pins s σ H x xs v us Q I rx rs h
  obtain ⟨a, rfl, rfl, hc, h⟩ := h
  obtain ⟨t, rfl⟩ := rx
  cases rs
  exact rule a t s _ hc fun u k r => ⟨g a, H, I.tok k, r, h⟩
theorem mt_isdigit : MtR X "str.isdigit" (fun x xs H Q => ∃ a, x = .str a ∧ xs = [] ∧ True ∧ Q (.bl (Txt.isdigit a)) H) :=
  mt0 (C := fun _ => True) (g := fun a => .bl (Txt.isdigit a)) fun _ _ s _ _ h => PySem.SC.isdigit (h _ s.toks rfl)
theorem mt_isalpha : MtR X "str.isalpha" (fun x xs H Q => ∃ a, x = .str a ∧ xs = [] ∧ True ∧ Q (.bl (Txt.isalpha a)) H) :=
  mt0 (C := fun _ => True) (g := fun a => .bl (Txt.isalpha a)) fun _ _ s _ _ h => PySem.SC.isalpha (h _ s.toks rfl)
theorem mt_isalnum : MtR X "str.isalnum" (fun x xs H Q => ∃ a, x = .str a ∧ xs = [] ∧ True ∧ Q (.bl (Txt.isalnum a)) H) :=
  mt0 (C := fun _ => True) (g := fun a => .bl (Txt.isalnum a)) fun _ _ s _ _ h => PySem.SC.isalnum (h _ s.toks rfl)
/-! ### of a text and a text -/
/-- int(text) -/
theorem call_int_str : CallR X (.type "int") (fun xs H Q => ∃ a n, xs = [.str a] ∧ PySem.intText? a = some n ∧ a.length ≤ 640 ∧ Q (.int n) H) := by
  intro pins s σ H xs us Q I rs h
  obtain ⟨a, n, rfl, hn, hl, h⟩ := h
  cases rs with
  | cons r1 rs =>
    cases rs
    obtain ⟨t, rfl⟩ := r1
    exact PySem.W.KIN.call_text hn hl ⟨.int n, H, I.tok _, ⟨_, rfl⟩, h⟩
end

section
variable {X : Cx} {o e : Expr} {to te : TE}
def tM0 (r : V → List V → Hp → VK → Prop) (to : TE) : TE := fun σ H Q => to σ H fun x H1 => (∃ a, x = .str a) ∧ r x [] H1 Q
def tM1 (r : V → List V → Hp → VK → Prop) (to te : TE) : TE := fun σ H Q => to σ H fun x H1 => (∃ a, x = .str a) ∧ te σ H1 fun y H2 => r x [y] H2 Q
theorem pe_m0 {id : String} {name : Str} {apos pos : Pos} {r : V → List V → Hp → VK → Prop} (slot : Slot "str" name id) (ty : typeOf (.builtin id) = pure (.type "method_descriptor")) (rule : MtR X id r) (ho : PE X o to)
    (hbase : attributeBase o name X.env (eval o X.env) = eval o X.env := by rfl) (hline : (apos.endLine == pos.line) = true := by rfl) : PE X (.Call (.Attribute o name apos) [] [] pos) (tM0 r to) := by
  intro pins s σ H Q I h
  refine PySem.Call_method0 hbase hline (thn (ho pins s σ H _ I h) fun v s1 ⟨x, H1, I1, r1, q1⟩ => ?_)
  obtain ⟨⟨a, rfl⟩, q1⟩ := q1
  obtain ⟨t, rfl⟩ := _root_.id r1
  exact ⟨"str", _, F.plainAttrs_str, slot, ty, typeIs_str _ _ _, (fun _ e => nomatch e), Calls.callWith_builtin rfl (PySem.evalArgs_none (rule pins s1 σ H1 _ [] _ [] Q I1 r1 .nil q1))⟩
theorem pe_m1 {id : String} {name : Str} {apos pos : Pos} {r : V → List V → Hp → VK → Prop} (slot : Slot "str" name id) (ty : typeOf (.builtin id) = pure (.type "method_descriptor")) (rule : MtR X id r) (ho : PE X o to) (he : PE X e te)
    (hs : starEach [e] X.env = [(false, eval e X.env)] := by rfl) (hbase : attributeBase o name X.env (eval o X.env) = eval o X.env := by rfl) (hline : (apos.endLine == pos.line) = true := by rfl) :
    PE X (.Call (.Attribute o name apos) [e] [] pos) (tM1 r to te) := by
  intro pins s σ H Q I h
  refine PySem.Call_method1 hbase hs hline (thn (ho pins s σ H _ I h) fun v s1 ⟨x, H1, I1, r1, q1⟩ => ?_)
  obtain ⟨⟨a, rfl⟩, q1⟩ := q1
  obtain ⟨t, rfl⟩ := _root_.id r1
  refine ⟨"str", _, F.plainAttrs_str, slot, ty, typeIs_str _ _ _, (fun _ e => nomatch e), Calls.callWith_builtin rfl (Calls.evalArgs_plain (Calls.spliced_cons ?_))⟩
  exact thn (he pins s1 σ H1 _ I1 q1) fun u s2 ⟨y, H2, I2, r2, q2⟩ => Calls.spliced_nil (rule pins s2 σ H2 _ [y] _ [u] Q I2 r1 (.cons r2 .nil) q2)

theorem pe_split {apos pos : Pos} (ho : PE X o to) (he : PE X e te) (hs : starEach [e] X.env = [(false, eval e X.env)] := by rfl) (hbase : attributeBase o "split" X.env (eval o X.env) = eval o X.env := by rfl) (hline : (apos.endLine == pos.line) = true := by rfl) :
    PE X (.Call (.Attribute o "split" apos) [e] [] pos) (tM1 (fun x xs H Q => ∃ a b, x = .str a ∧ xs = [.str b] ∧ (b.length == 0) = false ∧ a.length + 2 ≤ sizeLine ∧ rNewStrs (Txt.split a b) H Q) to te) :=
  pe_m1 F.slot_str_split F.type_str_split mt_split ho he hs hbase hline
theorem pe_join {apos pos : Pos} (ho : PE X o to) (he : PE X e te) (hs : starEach [e] X.env = [(false, eval e X.env)] := by rfl) (hbase : attributeBase o "join" X.env (eval o X.env) = eval o X.env := by rfl) (hline : (apos.endLine == pos.line) = true := by rfl) :
    PE X (.Call (.Attribute o "join" apos) [e] [] pos) (tM1 (fun x xs H Q => ∃ a p, ∃ ys : List Str, x = .str a ∧ xs = [.ref p] ∧ (SqL X.K H p (ys.map V.str) ∨ SqT X.K H p (ys.map V.str)) ∧
      (ys.map (·.length)).sum + ys.length * a.length ≤ 16777216 ∧ Q (.str (Txt.join a ys)) H) to te) :=
  pe_m1 F.slot_str_join F.type_str_join mt_join ho he hs hbase hline
end
end L2

namespace L2
open PySem PySem.Spec PyProof.Rows

section
variable {X : Cx}
end

/-! ### slices of a text -/
/-- a part, clipped, as the text's slice reckons it -/
def clipS (n d : Nat) : Option Int → Int
  | none => (d : Int)
  | some i => max 0 (min (if i < 0 then i + (n : Int) else i) (n : Int))
/-- z[lo:hi] -/
def cutS (z : Str) (lo hi : Option Int) : Str :=
  ⟨((z.cps.toList.drop (HT.sIx z.length 0 lo)).take (HT.sIx z.length z.length hi - HT.sIx z.length 0 lo)).toArray⟩
def rSlS : V → Option Int → Option Int → Hp → VK → Prop := fun x lo hi H Q => ∃ z, x = .str z ∧ z.length ≤ sizeLine ∧ Q (.str (cutS z lo hi)) H
end L2

namespace Att
open PySem PySem.W PySem.Calls PyProof.Rows

/-! ### the script -/
/-! ### the attachment: holds_open's last premise (the goal 'hc' behind k_head) from a wpAny of the law's body -/
/-! ### rules over ANY heap (no ledger) from facts about the written part K: the library's own take a ledger (News) for what they write -/
section
variable {prog : Program} {w : World} {A : Around} {E : Value → Shared → Prop} {s : Shared} {K : Frag}

/-! the whole heap as the ledger: makes every rule that writes through a ledger a rule over any heap -/
def noObjs (h : Heap) : Heap := { h with objs := #[] }
def ledger (h : Heap) (L d : Addr) : List (Addr × Obj) := (List.range h.objs.size).filterMap fun a => if a = L ∨ a = d then none else (h.get? a).map fun o => (a, o)
end
end Att

namespace L2
open PySem PySem.Spec PyProof.Rows

/-- nothing is tracked but the script, known to the object (or it is an object of the module) -/
def Only (H : Hp) : Prop := ∀ b, H b = none ∨ ∃ o xs, H b = some (.frz o (.lst xs))

end L2

namespace L2
open PySem PySem.Spec PyProof.Rows

abbrev KOf {K : PySem.W.Frag} {h : Heap} (_ : K.In h) : PySem.W.Frag := K

end L2

/- THE LAST THEOREM (shape; LID, My.* are yours):
   My.Adr: a structure of the addresses that your layer names (classes, functions); My.Txt K t: a structure (Prop) of the equations over K;
   My.txt_mk : {K} {implicit addresses ..} (e1 : nsIn K mainGlobals "law" = some (some (.ref f))) (e2 : K.lookup f = some ⟨oc, od, .func (fnOf "law" "law" params body scope dV kV doc pm an cdv ct), sl⟩) (e3 : codeIn K cdv "law" = true) .. : ∃ t, My.Txt K t

(the tactic k_is has no namespace: write k_is) -/

/-! SHORT WORDS over the layer: a def of the text, its body, what a loop and a test want. -/
namespace L2
open PySem PySem.Spec PyProof.Rows

/-! ### the text by places -/
/-- the j-th statement of a class's body -/
def inClass (s : Stmt) (j : Nat) : Stmt := match s with
  | .ClassDef _ _ _ body _ _ _ _ _ _ _ => body.getD j (.Pass ⟨0, 0, 0, 0⟩)
  | _ => .Pass ⟨0, 0, 0, 0⟩
def defArgs (s : Stmt) : Arguments := match s with
  | .FunctionDef _ a _ _ _ _ _ _ _ _ => a
  | _ => { posonlyargs := [], args := [], vararg := none, kwonlyargs := [], kw_defaults := [], kwarg := none, defaults := [] }
def defBody (s : Stmt) : List Stmt := match s with
  | .FunctionDef _ _ b _ _ _ _ _ _ _ => b
  | _ => []
def defScope (s : Stmt) : Scope := match s with
  | .FunctionDef _ _ _ _ _ _ sc _ _ _ => sc
  | _ => { kind := .function, names := [], isGenerator := false, isCoroutine := false }

/-! ### no exception leaves a def -/
abbrev CX0 : CXT := fun _ _ _ _ _ _ => False
abbrev E0 : XK := fun _ _ _ => False
theorem pass0 {X : Cx} : Passes CX0 X E0 := fun _ _ _ _ _ _ _ h => h.elim

/-! ### a def (or method) of the text as it stands behind the top -/
structure Fun (K : PySem.W.Frag) (x qual : Str) (st : Stmt) (f : Addr) (fd : FuncData) : Prop where
  ex : ∃ (oc : Value) (od : Option Addr) (kV doc pm : Value) (an : Option Addr) (cdv ct : Value) (osl : Array (Option Value)),
    fd = PySem.W.fnOf x qual (defArgs st) (defBody st) (defScope st) .none kV doc pm an cdv ct ∧ K.lookup f = some ⟨oc, od, .func fd, osl⟩ ∧ PySem.W.codeIn K cdv qual = true
  kp : PySem.W.keepIn K (.ref f) = true
section
variable {P : Program} {w : World} {K : PySem.W.Frag} {mg : Str → Option Value} {base : Heap}
/-- THE RULE for a def: its body as a term of rules, and the reading of that term -/
theorem Fun.ok {x qual : Str} {st : Stmt} {f : Addr} {fd : FuncData} {N ps : List Str} {k : Nat} {sp : Sp} (F : Fun K x qual st f fd) (S : FnScope N ps (defScope st)) (len : ∀ vs H Q E, sp vs H Q E → vs.length = ps.length)
    (hbody : ∀ (cdv : Value) (A : Around) (outer : List Env) (s : Shared) (H : Hp) (vs : List V) (Q : VK) (E : XK), Room k (A.deeper (envOfC qual (defScope st) s.heap.objs.size f cdv)) → sp vs H Q E →
      ∃ t, PSs (cxOf CX0 P w K mg base N qual (defScope st) f cdv A outer s H E).nox (defBody st) t ∧ t { nx := fun _ H' => Q .non H', rt := Q } (start N vs) H) : FnOk P w K mg base CX0 (k + 1) f fd ps sp := by
  obtain ⟨oc, od, kV, doc, pm, an, cdv, ct, osl, rfl, lk, hcd⟩ := F.ex
  refine fn_of lk hcd S len fun A outer s H vs Q E hr hsp => ?_
  obtain ⟨t, h, q⟩ := hbody cdv A outer s H vs Q E hr hsp
  exact ⟨t, h.nox, q⟩
/-- how its arguments bind (no defaults): h is «fun _ _ _ _ _ _ us hl => match us, hl with | [_, _], _ => rfl», one _ a parameter -/
theorem Fun.binds {x qual : Str} {st : Stmt} {f : Addr} {fd : FuncData} {ps : List Str} (F : Fun K x qual st f fd)
    (h : ∀ (kV doc pm : Value) (an : Option Addr) (cdv ct : Value) (us : List Value), us.length = ps.length → bindArgs (PySem.W.fnOf x qual (defArgs st) (defBody st) (defScope st) .none kV doc pm an cdv ct) ⟨us, []⟩ = pure (ps.zip us)) : Binds K fd ps [] := by
  obtain ⟨oc, od, kV, doc, pm, an, cdv, ct, osl, rfl, lk, hcd⟩ := F.ex
  exact .all (h kV doc pm an cdv ct)
theorem fun_mk {x qual : Str} {st : Stmt} {f : Addr} {oc : Value} {od an : Option Addr} {osl : Array (Option Value)} {kV doc pm cdv ct : Value} (l : K.lookup f = some ⟨oc, od, .func (PySem.W.fnOf x qual (defArgs st) (defBody st) (defScope st) .none kV doc pm an cdv ct), osl⟩)
    (c : PySem.W.codeIn K cdv qual = true) (k : PySem.W.keepIn K (.ref f) = true) : Fun K x qual st f (PySem.W.fnOf x qual (defArgs st) (defBody st) (defScope st) .none kV doc pm an cdv ct) := ⟨⟨oc, od, kV, doc, pm, an, cdv, ct, osl, rfl, l, c⟩, k⟩
end
/-! ### expressions in short: the name that stands in the i-th slot -/
section
variable {X : Cx}
theorem pv (i : Nat) {x : Str} {pos : Pos} (hN : X.N[i]? = some x := by rfl) (hv : Vis X.env.scope x := by first | exact Or.inl rfl | exact Or.inr (Or.inl rfl) | exact Or.inr (Or.inr rfl)) (hd : (x == ("__debug__" : Str)) = false := by decide)
    (hcd : (x == ("__classdict__" : Str)) = false := by decide) : PE X (.Name x pos) (tVar i) := pe_var hN hv hd hcd
end

/-! ### tests -/
theorem iteF {A B : Prop} (h : B) : if false = true then A else B := by
  rw [if_neg Bool.false_ne_true]
  exact h
theorem iteT {A B : Prop} (h : A) : if true = true then A else B := by
  rw [if_pos rfl]
  exact h
theorem ite2 {c A B : Prop} [Decidable c] (h1 : c → A) (h2 : ¬ c → B) : if c then A else B := by
  by_cases h : c
  · rw [if_pos h]
    exact h1 h
  · rw [if_neg h]
    exact h2 h
/-! ### heaps -/
/-- all that was tracked is as it was -/
def Same (H H' : Hp) : Prop := ∀ b o, H b = some o → H' b = some o
theorem Same.refl (H : Hp) : Same H H := fun _ _ h => h
theorem Same.trans {H H1 H2 : Hp} (a : Same H H1) (b : Same H1 H2) : Same H H2 := fun c o h => b c o (a c o h)
theorem Same.free {H H' : Hp} (e : Same H H') {l : Addr} (h : H' l = Option.none) : H l = Option.none := by
  cases q : H l with
  | none => rfl
  | some o =>
    rw [e l o q] at h
    cases h
theorem Same.seq {K : PySem.W.Frag} {H H' : Hp} {a : Addr} {xs : List V} (e : Same H H') (h : SqL K H a xs) : SqL K H' a xs := by
  rcases h with (h | ⟨o, h⟩) | h
  · exact .inl (.inl (e _ _ h))
  · exact .inl (.inr ⟨o, e _ _ h⟩)
  · exact .inr h

/-! ### a dict's pairs: keys that differ -/
section
variable {κ : Type} [DecidableEq κ]
end
/-! ### lists -/
/-- a new instance and its __init__ leave all that was tracked as it was -/
theorem Same.made {H H1 : Hp} {x dx C : Addr} (nx : H x = Option.none) (nd : H dx = Option.none) (k : ∀ b o, (upd (upd H dx (.own x)) x (.ins C dx [])) b = some o → b ≠ x → H1 b = some o) : Same H H1 := fun b o e =>
  k b o (by rw [upd_ne (ne_of_none e nx), upd_ne (ne_of_none e nd)]; exact e) (ne_of_none e nx)
end L2
end
section
section
set_option Elab.async false
set_option linter.all false
set_option maxRecDepth 100000
set_option maxHeartbeats 2000000
namespace L2
open PySem PySem.Spec PyProof.Rows
open PySem.W (WData Codec OpenSpec Well WellAll ReadsW ReadsAllW)
/-! ### an answer as data -/
mutual
/-- x stands for the datum d, lists and tuples all the way -/
inductive Dw (K : PySem.W.Frag) (H : Hp) : V → WData → Prop
  | non : Dw K H .non .none
  | bl (b : Bool) : Dw K H (.bl b) (.bool b)
  | int (i : Int) : Dw K H (.int i) (.int i)
  | str (x : Str) : Dw K H (.str x) (.str x)
  | byt (b : Array UInt8) : Dw K H (.byt b) (.bytes b.toList)
  | lst {a : Addr} {xs : List V} {ds : List WData} : SqL K H a xs → DwAll K H xs ds → Dw K H (.ref a) (.list ds)
  | tup {a : Addr} {xs : List V} {ds : List WData} : SqT K H a xs → DwAll K H xs ds → Dw K H (.ref a) (.tuple ds)
inductive DwAll (K : PySem.W.Frag) (H : Hp) : List V → List WData → Prop
  | nil : DwAll K H [] []
  | cons {v : V} {vs : List V} {d : WData} {ds : List WData} : Dw K H v d → DwAll K H vs ds → DwAll K H (v :: vs) (d :: ds)
end
theorem dw_ints {K : PySem.W.Frag} {H : Hp} : ∀ ns : List Int, DwAll K H (ns.map V.int) (ns.map WData.int)
  | [] => .nil
  | n :: r => .cons (.int n) (dw_ints r)
theorem ints_dw {K : PySem.W.Frag} {H : Hp} : ∀ (ns : List Int) (xs : List V), DwAll K H xs (ns.map WData.int) → xs = ns.map V.int
  | [], xs, h => by
    cases h
    rfl
  | n :: r, xs, h => by
    cases h with
    | cons h1 h2 =>
      cases h1
      rw [ints_dw r _ h2] <;> rfl
section
variable {P : Program} {w : World} {K : PySem.W.Frag} {H : Hp} {h : Heap} {R : PySem.W.WRecords} {cl : Str → Option Addr}
theorem sqL_at {a : Addr} {xs : List V} (hok : HOk P w H h) (KX : K.In h) (q : SqL K H a xs) : ∃ (its : List Value) (o : Obj) (n : Nat), Vals xs its ∧ h.get? a = some o ∧ o.cls = .type "list" ∧ o.data = .seq its.toArray n := by
  rcases q with q | ⟨o, its, n, e, hc, _, hd, _, hv⟩
  · obtain ⟨_, its, n, hv, e⟩ := (show ObjOk P w H h a (.lst xs) from q.ok hok)
    exact ⟨its, _, n, hv, e, rfl, rfl⟩
  · exact ⟨its.toList, o, n, hv, KX _ _ e, hc, by simp [hd]⟩
theorem sqT_at {a : Addr} {xs : List V} (hok : HOk P w H h) (KX : K.In h) (q : SqT K H a xs) : ∃ (its : List Value) (o : Obj) (n : Nat), Vals xs its ∧ h.get? a = some o ∧ o.cls = .type "tuple" ∧ o.data = .seq its.toArray n := by
  rcases q with q | ⟨o, its, n, e, hc, hd, _, hv⟩
  · obtain ⟨_, its, hv, o, e, hc, n, hd⟩ := (show ObjOk P w H h a (.tup xs) from q.ok hok)
    exact ⟨its, o, n, hv, e, hc, hd⟩
  · exact ⟨its.toList, o, n, hv, KX _ _ e, hc, by simp [hd]⟩
mutual
theorem Dw.reads (hok : HOk P w H h) (KX : K.In h) : ∀ (d : WData) (v : V) (u : Value), Dw K H v d → RelV v u → ∃ as, ReadsW R cl h u d as
  | .none, _, _, x, r => by
    cases x
    cases r
    exact ⟨_, ReadsW.none⟩
  | .bool b, _, _, x, r => by
    cases x
    cases r
    exact ⟨_, ReadsW.bool b⟩
  | .int i, _, _, x, r => by
    cases x
    obtain ⟨t, rfl⟩ := r
    exact ⟨_, ReadsW.int i t⟩
  | .str s, _, _, x, r => by
    cases x
    obtain ⟨t, rfl⟩ := r
    exact ⟨_, ReadsW.str s t⟩
  | .bytes b, _, _, x, r => by
    cases x
    obtain ⟨t, rfl⟩ := r
    exact ⟨_, ReadsW.bytes _ t⟩
  | .list ds, _, _, x, r => by
    cases x with
    | lst hs ha =>
      cases r
      obtain ⟨its, o, n, rv, ho, hc, hd⟩ := sqL_at hok KX hs
      obtain ⟨as, hr⟩ := Dw.readsAll hok KX ds _ its ha rv
      exact ⟨_, ReadsW.list ho hc hd hr⟩
  | .tuple ds, _, _, x, r => by
    cases x with
    | tup hs ha =>
      cases r
      obtain ⟨its, o, n, rv, ho, hc, hd⟩ := sqT_at hok KX hs
      obtain ⟨as, hr⟩ := Dw.readsAll hok KX ds _ its ha rv
      exact ⟨_, ReadsW.tuple ho hc hd hr⟩
  | .float _, _, _, x, _ => by cases x
  | .dict _, _, _, x, _ => by cases x
  | .bytearray _, _, _, x, _ => by cases x
  | .set _, _, _, x, _ => by cases x
  | .frozenset _, _, _, x, _ => by cases x
  | .obj _ _, _, _, x, _ => by cases x
theorem Dw.readsAll (hok : HOk P w H h) (KX : K.In h) : ∀ (ds : List WData) (vs : List V) (us : List Value), DwAll K H vs ds → Vals vs us → ∃ as, ReadsAllW R cl h us ds as
  | [], _, _, x, r => by
    cases x
    cases r
    exact ⟨_, ReadsAllW.nil⟩
  | d :: ds, _, _, x, r => by
    cases x with
    | cons h1 h2 =>
      cases r with
      | cons r1 r2 =>
        obtain ⟨as, q1⟩ := Dw.reads hok KX d _ _ h1 r1
        obtain ⟨bs, q2⟩ := Dw.readsAll hok KX ds _ _ h2 r2
        exact ⟨_, ReadsAllW.cons q1 q2⟩
end
end
/-! ### the arguments -/
mutual
/-- data that a codec tells -/
def plW : WData → Bool
  | .none => true
  | .bool _ => true
  | .int _ => true
  | .str _ => true
  | .bytes _ => true
  | .list xs => plWs xs
  | .tuple xs => plWs xs
  | _ => false
def plWs : List WData → Bool
  | [] => true
  | x :: r => plW x && plWs r
end
theorem plWs_map {α : Type} {f : α → WData} (h : ∀ a, plW (f a) = true) : ∀ l : List α, plWs (l.map f) = true
  | [] => rfl
  | x :: r => by
    show (plW (f x) && plWs (r.map f)) = true
    rw [h x, plWs_map h r] <;> rfl
theorem pl_enc : ∀ (c : Codec) (a : c.denote), plW (c.enc a) = true
  | .unit, _ => rfl
  | .bool, _ => rfl
  | .int _ _, _ => rfl
  | .nat _ _, _ => rfl
  | .u8, _ => rfl
  | .bytes _ _, _ => rfl
  | .text _ _ _ _, _ => rfl
  | .list _ _ c, a => plWs_map (fun x => pl_enc c x) a
  | .pair c d, a => by
    show (plW (c.enc a.1) && (plW (d.enc a.2) && true)) = true
    rw [pl_enc c a.1, pl_enc d a.2] <;> rfl
  | .triple c d e, a => by
    show (plW (c.enc a.1) && (plW (d.enc a.2.1) && (plW (e.enc a.2.2) && true))) = true
    rw [pl_enc c a.1, pl_enc d a.2.1, pl_enc e a.2.2] <;> rfl
  | .option c, none => rfl
  | .option c, some x => pl_enc c x
theorem pl_encAll : ∀ (cs : List Codec) (a : Codec.denoteAll cs), plWs (Codec.encAll cs a) = true
  | [], _ => rfl
  | c :: cs, a => by
    show (plW (c.enc a.1) && plWs (Codec.encAll cs a.2)) = true
    rw [pl_enc c a.1, pl_encAll cs a.2] <;> rfl
theorem weight_mem : ∀ {xs : List WData} {d : WData}, d ∈ xs → d.weight ≤ WData.weightAll xs
  | [], d, h => absurd h (by simp)
  | x :: r, d, h => by
    show d.weight ≤ x.weight + 1 + WData.weightAll r
    rcases List.mem_cons.mp h with e | m
    · rw [e]
      omega
    · have z := weight_mem m
      omega
def toV : Value → V
  | .none => .non
  | .bool b => .bl b
  | .int i _ => .int i
  | .str x _ => .str x
  | .bytes b _ => .byt b
  | .ref a => .ref a
  | _ => .non
/-- a value of the arguments, its objects among A -/
def OkU (A : List Addr) : Value → Prop
  | .none => True
  | .bool _ => True
  | .int _ _ => True
  | .str _ _ => True
  | .bytes _ _ => True
  | .ref a => a ∈ A
  | _ => False
theorem OkU.mono {A B : List Addr} (h : ∀ a ∈ A, a ∈ B) : ∀ {u : Value}, OkU A u → OkU B u := fun {u} x => by
  cases u with
  | ref a => exact h a x
  | none => trivial
  | bool b => trivial
  | int i t => trivial
  | str s t => trivial
  | bytes b t => trivial
  | _ => exact False.elim x
theorem relV_toV {A : List Addr} {u : Value} (x : OkU A u) : RelV (toV u) u := by
  cases u with
  | ref a => rfl
  | none => rfl
  | bool b => rfl
  | int i t => exact ⟨t, rfl⟩
  | str s t => exact ⟨t, rfl⟩
  | bytes b t => exact ⟨t, rfl⟩
  | _ => exact False.elim x
theorem vals_toV {A : List Addr} : ∀ {vs : List Value}, (∀ u ∈ vs, OkU A u) → Vals (vs.map toV) vs
  | [], _ => .nil
  | u :: r, h => .cons (relV_toV (h u (List.mem_cons_self ..))) (vals_toV fun x hx => h x (List.mem_cons_of_mem _ hx))
/-- an object of the arguments -/
def ArgOb (h : Heap) (A : List Addr) (a : Addr) : Prop := ∃ vs : List Value, vs.length ≤ sizeLine ∧ (∀ u ∈ vs, OkU A u) ∧
  (h.get? a = some { cls := .type "list", data := .seq vs.toArray } ∨ h.get? a = some { cls := .type "tuple", data := .seq vs.toArray })
theorem ArgOb.mono {h : Heap} {A B : List Addr} {a : Addr} (k : ∀ a ∈ A, a ∈ B) (x : ArgOb h A a) : ArgOb h B a := by
  obtain ⟨vs, h1, h2, h3⟩ := x
  exact ⟨vs, h1, fun u hu => (h2 u hu).mono k, h3⟩
theorem wellAll_len {P : Params} {h : Heap} : ∀ {vs : List Value} {ds : List WData}, WellAll P h vs ds → vs.length = ds.length
  | _, _, .nil => rfl
  | _, _, .cons _ b => by
    show _ + 1 = _ + 1
    rw [wellAll_len b]
theorem well_list {P : Params} {h : Heap} {v : Value} {ds : List WData} (x : Well P h v (.list ds)) : ∃ (a : Addr) (vs : List Value), v = .ref a ∧ h.get? a = some { cls := .type "list", data := .seq vs.toArray } ∧ WellAll P h vs ds := by
  cases x with
  | list ho hall => exact ⟨_, _, rfl, ho, hall⟩
theorem well_tuple {P : Params} {h : Heap} {v : Value} {ds : List WData} (x : Well P h v (.tuple ds)) : ∃ (a : Addr) (vs : List Value), v = .ref a ∧ h.get? a = some { cls := .type "tuple", data := .seq vs.toArray } ∧ WellAll P h vs ds := by
  cases x with
  | tuple ho hall => exact ⟨_, _, rfl, ho, hall⟩
theorem well_cons {P : Params} {h : Heap} {us : List Value} {d : WData} {ds : List WData} (x : WellAll P h us (d :: ds)) : ∃ (v : Value) (vs : List Value), us = v :: vs ∧ Well P h v d ∧ WellAll P h vs ds := by
  cases x with
  | cons a b => exact ⟨_, _, rfl, a, b⟩
theorem line_of {n : Nat} (h : n ≤ 1048576) : n ≤ sizeLine := Nat.le_trans h (by decide)
section
variable {P : Params} {h : Heap}
mutual
theorem area_one : ∀ (d : WData) (v : Value), Well P h v d → plW d = true → d.weight ≤ 1048576 → ∃ A : List Addr, OkU A v ∧ ∀ a ∈ A, ArgOb h A a
  | .none, _, x, _, _ => by
    cases x
    exact ⟨[], trivial, fun a m => absurd m (by simp)⟩
  | .bool b, _, x, _, _ => by
    cases x
    exact ⟨[], trivial, fun a m => absurd m (by simp)⟩
  | .int i, _, x, _, _ => by
    cases x
    exact ⟨[], trivial, fun a m => absurd m (by simp)⟩
  | .str s, _, x, _, _ => by
    cases x
    exact ⟨[], trivial, fun a m => absurd m (by simp)⟩
  | .bytes b, _, x, _, _ => by
    cases x
    exact ⟨[], trivial, fun a m => absurd m (by simp)⟩
  | .list ds, _, x, p, z => by
    obtain ⟨a, vs, rfl, ho, hall⟩ := well_list x
    have z2 : WData.weightAll ds ≤ 1048576 := z
    obtain ⟨A, h1, h2⟩ := area_all ds _ hall p fun d hd => Nat.le_trans (weight_mem hd) z2
    have k : ∀ b ∈ A, b ∈ a :: A := fun b hb => List.mem_cons_of_mem _ hb
    refine ⟨a :: A, List.mem_cons_self .., fun b hb => ?_⟩
    rcases List.mem_cons.mp hb with e | m
    · rw [e]
      exact ⟨vs, line_of (by rw [wellAll_len hall]; exact Nat.le_trans (PySem.W.length_le_weightAllW ds) z2), fun u hu => (h1 u hu).mono k, .inl ho⟩
    · exact (h2 b m).mono k
  | .tuple ds, _, x, p, z => by
    obtain ⟨a, vs, rfl, ho, hall⟩ := well_tuple x
    have z2 : WData.weightAll ds ≤ 1048576 := z
    obtain ⟨A, h1, h2⟩ := area_all ds _ hall p fun d hd => Nat.le_trans (weight_mem hd) z2
    have k : ∀ b ∈ A, b ∈ a :: A := fun b hb => List.mem_cons_of_mem _ hb
    refine ⟨a :: A, List.mem_cons_self .., fun b hb => ?_⟩
    rcases List.mem_cons.mp hb with e | m
    · rw [e]
      exact ⟨vs, line_of (by rw [wellAll_len hall]; exact Nat.le_trans (PySem.W.length_le_weightAllW ds) z2), fun u hu => (h1 u hu).mono k, .inr ho⟩
    · exact (h2 b m).mono k
  | .float _, _, _, p, _ => Bool.noConfusion (show false = true from p)
  | .dict _, _, _, p, _ => Bool.noConfusion (show false = true from p)
  | .bytearray _, _, _, p, _ => Bool.noConfusion (show false = true from p)
  | .set _, _, _, p, _ => Bool.noConfusion (show false = true from p)
  | .frozenset _, _, _, p, _ => Bool.noConfusion (show false = true from p)
  | .obj _ _, _, _, p, _ => Bool.noConfusion (show false = true from p)
theorem area_all : ∀ (ds : List WData) (vs : List Value), WellAll P h vs ds → plWs ds = true → (∀ d ∈ ds, d.weight ≤ 1048576) → ∃ A : List Addr, (∀ u ∈ vs, OkU A u) ∧ ∀ a ∈ A, ArgOb h A a
  | [], _, x, _, _ => by
    cases x
    exact ⟨[], fun u m => absurd m (by simp), fun a m => absurd m (by simp)⟩
  | d :: ds, _, x, p, z => by
    obtain ⟨v, vs, rfl, x1, x2⟩ := well_cons x
    have q : plW d = true ∧ plWs ds = true := Bool.and_eq_true_iff.mp p
    obtain ⟨A, a1, a2⟩ := area_one d v x1 q.1 (z d (List.mem_cons_self ..))
    obtain ⟨B, b1, b2⟩ := area_all ds vs x2 q.2 fun e he => z e (List.mem_cons_of_mem _ he)
    have kA : ∀ b ∈ A, b ∈ A ++ B := fun b hb => List.mem_append.mpr (.inl hb)
    have kB : ∀ b ∈ B, b ∈ A ++ B := fun b hb => List.mem_append.mpr (.inr hb)
    refine ⟨A ++ B, fun u hu => ?_, fun b hb => ?_⟩
    · rcases List.mem_cons.mp hu with e | m
      · rw [e]
        exact a1.mono kA
      · exact (b1 u m).mono kB
    · rcases List.mem_append.mp hb with m | m
      · exact (a2 b m).mono kA
      · exact (b2 b m).mono kB
end
end
/-- what is tracked of an argument's object -/
def hoOf (o : Obj) : Option HO := match o.data with
  | .seq vs _ => if (o.cls == Value.type "list") = true then some (.frz o (.lst (vs.toList.map toV))) else some (.frz o (.tup (vs.toList.map toV)))
  | _ => none
def argH (K : PySem.W.Frag) (h : Heap) (A : List Addr) : Hp := fun b => if b ∈ A then (if (K.lookup b).isNone = true then (h.get? b).bind hoOf else none) else none
/-- nothing is tracked but what is known to the object -/
def OnlyF (H : Hp) : Prop := ∀ b, H b = none ∨ ∃ o u, H b = some (.frz o u)
theorem hoOf_lst (vs : List Value) : hoOf { cls := .type "list", data := .seq vs.toArray } = some (.frz { cls := .type "list", data := .seq vs.toArray } (.lst (vs.map toV))) := by
  show (if (Value.type "list" == Value.type "list") = true then some (HO.frz { cls := .type "list", data := .seq vs.toArray } (.lst (vs.toArray.toList.map toV))) else some (HO.frz { cls := .type "list", data := .seq vs.toArray } (.tup (vs.toArray.toList.map toV)))) = _
  rw [if_pos (beq_self_eq_true _)]
theorem hoOf_tup (vs : List Value) : hoOf { cls := .type "tuple", data := .seq vs.toArray } = some (.frz { cls := .type "tuple", data := .seq vs.toArray } (.tup (vs.map toV))) := by
  show (if (Value.type "tuple" == Value.type "list") = true then some (HO.frz { cls := .type "tuple", data := .seq vs.toArray } (.lst (vs.toArray.toList.map toV))) else some (HO.frz { cls := .type "tuple", data := .seq vs.toArray } (.tup (vs.toArray.toList.map toV)))) = _
  rw [if_neg (by decide)]
section
variable {P : Program} {w : World} {K : PySem.W.Frag} {h : Heap} {A : List Addr}
theorem argH_at {b : Addr} {o : Obj} (hb : b ∈ A) (hk : K.lookup b = none) (e : h.get? b = some o) : argH K h A b = hoOf o := by
  unfold argH
  rw [if_pos hb, hk, if_pos (show (none : Option Obj).isNone = true from rfl), e] <;> rfl
theorem of_argH {b : Addr} {u : HO} (q : argH K h A b = some u) : b ∈ A ∧ K.lookup b = none := by
  unfold argH at q
  by_cases hb : b ∈ A
  · rw [if_pos hb] at q
    cases hk : K.lookup b with
    | none => exact ⟨hb, rfl⟩
    | some o =>
      rw [hk, if_neg (by simp)] at q
      cases q
  · rw [if_neg hb] at q
    cases q
/-- what stands tracked -/
theorem argH_is (ar : ∀ a ∈ A, ArgOb h A a) {b : Addr} {u : HO} (q : argH K h A b = some u) : K.lookup b = none ∧ ∃ vs : List Value, vs.length ≤ sizeLine ∧ (∀ u ∈ vs, OkU A u) ∧
    ((h.get? b = some { cls := .type "list", data := .seq vs.toArray } ∧ u = .frz { cls := .type "list", data := .seq vs.toArray } (.lst (vs.map toV))) ∨
     (h.get? b = some { cls := .type "tuple", data := .seq vs.toArray } ∧ u = .frz { cls := .type "tuple", data := .seq vs.toArray } (.tup (vs.map toV)))) := by
  obtain ⟨hb, hk⟩ := of_argH q
  obtain ⟨vs, h1, h2, h3⟩ := ar b hb
  refine ⟨hk, vs, h1, h2, ?_⟩
  rcases h3 with e | e
  · rw [argH_at hb hk e, hoOf_lst] at q
    exact .inl ⟨e, (Option.some.inj q).symm⟩
  · rw [argH_at hb hk e, hoOf_tup] at q
    exact .inr ⟨e, (Option.some.inj q).symm⟩
theorem argH_only (ar : ∀ a ∈ A, ArgOb h A a) : OnlyF (argH K h A) := fun b => by
  cases q : argH K h A b with
  | none => exact .inl rfl
  | some u =>
    obtain ⟨_, vs, _, _, ⟨_, e⟩ | ⟨_, e⟩⟩ := argH_is ar q
    · exact .inr ⟨_, _, by rw [e]⟩
    · exact .inr ⟨_, _, by rw [e]⟩
theorem argH_ok (ar : ∀ a ∈ A, ArgOb h A a) : HOk P w (argH K h A) h := fun b u q => by
  obtain ⟨_, vs, h1, h2, ⟨e, rfl⟩ | ⟨e, rfl⟩⟩ := argH_is ar q
  · exact ⟨e, by rw [List.length_map]; exact h1, vs, _, vals_toV h2, e⟩
  · exact ⟨e, by rw [List.length_map]; exact h1, vs, vals_toV h2, _, e, rfl, _, rfl⟩
theorem seq_inj {c c' : Value} {vs us : List Value} (e : (some { cls := c, data := .seq vs.toArray } : Option Obj) = some { cls := c', data := .seq us.toArray }) : c = c' ∧ vs = us := by
  have e1 := Option.some.inj e
  have e2 : c = c' := congrArg Obj.cls e1
  have e3 : Data.seq vs.toArray = Data.seq us.toArray := congrArg Obj.data e1
  injection e3 with e4
  refine ⟨e2, ?_⟩
  have e5 := congrArg Array.toList e4
  simpa using e5
/-- a list argument -/
theorem argL (KX : K.In h) (ar : ∀ a ∈ A, ArgOb h A a) {a : Addr} {vs : List Value} (ha : a ∈ A) (e : h.get? a = some { cls := .type "list", data := .seq vs.toArray }) : (∀ u ∈ vs, OkU A u) ∧ SqL K (argH K h A) a (vs.map toV) := by
  obtain ⟨us, h1, h2, h3⟩ := ar a ha
  have hu : us = vs := by
    rcases h3 with q | q
    · rw [e] at q
      exact (seq_inj q).2.symm
    · rw [e] at q
      exact absurd (Value.type.inj (seq_inj q).1) (by decide)
  subst hu
  refine ⟨h2, ?_⟩
  cases hk : K.lookup a with
  | none => exact .inl (.inr ⟨_, by rw [argH_at ha hk e, hoOf_lst]⟩)
  | some o =>
    have e2 := KX a o hk
    rw [e] at e2
    obtain rfl := Option.some.inj e2
    exact .inr ⟨_, us.toArray, _, hk, rfl, rfl, rfl, by rw [List.size_toArray]; exact h1, by simpa using vals_toV h2⟩
theorem argT (KX : K.In h) (ar : ∀ a ∈ A, ArgOb h A a) {a : Addr} {vs : List Value} (ha : a ∈ A) (e : h.get? a = some { cls := .type "tuple", data := .seq vs.toArray }) : (∀ u ∈ vs, OkU A u) ∧ SqT K (argH K h A) a (vs.map toV) := by
  obtain ⟨us, h1, h2, h3⟩ := ar a ha
  have hu : us = vs := by
    rcases h3 with q | q
    · rw [e] at q
      exact absurd (Value.type.inj (seq_inj q).1) (by decide)
    · rw [e] at q
      exact (seq_inj q).2.symm
  subst hu
  refine ⟨h2, ?_⟩
  cases hk : K.lookup a with
  | none => exact .inl (.inr ⟨_, by rw [argH_at ha hk e, hoOf_tup]⟩)
  | some o =>
    have e2 := KX a o hk
    rw [e] at e2
    obtain rfl := Option.some.inj e2
    exact .inr ⟨_, us.toArray, _, hk, rfl, rfl, by rw [List.size_toArray]; exact h1, by simpa using vals_toV h2⟩
mutual
theorem dw_one {Pm : Params} (KX : K.In h) (ar : ∀ a ∈ A, ArgOb h A a) : ∀ (d : WData) (v : Value), Well Pm h v d → plW d = true → OkU A v → Dw K (argH K h A) (toV v) d
  | .none, _, x, _, _ => by
    cases x
    exact .non
  | .bool b, _, x, _, _ => by
    cases x
    exact .bl b
  | .int i, _, x, _, _ => by
    cases x
    exact .int i
  | .str s, _, x, _, _ => by
    cases x
    exact .str s
  | .bytes b, _, x, _, _ => by
    cases x
    have z := Dw.byt (K := K) (H := argH K h A) b.toArray
    exact z
  | .list ds, _, x, p, hu => by
    obtain ⟨a, vs, rfl, ho, hall⟩ := well_list x
    obtain ⟨h2, hs⟩ := argL KX ar hu ho
    exact .lst hs (dw_all KX ar ds _ hall p h2)
  | .tuple ds, _, x, p, hu => by
    obtain ⟨a, vs, rfl, ho, hall⟩ := well_tuple x
    obtain ⟨h2, hs⟩ := argT KX ar hu ho
    exact .tup hs (dw_all KX ar ds _ hall p h2)
  | .float _, _, _, p, _ => Bool.noConfusion (show false = true from p)
  | .dict _, _, _, p, _ => Bool.noConfusion (show false = true from p)
  | .bytearray _, _, _, p, _ => Bool.noConfusion (show false = true from p)
  | .set _, _, _, p, _ => Bool.noConfusion (show false = true from p)
  | .frozenset _, _, _, p, _ => Bool.noConfusion (show false = true from p)
  | .obj _ _, _, _, p, _ => Bool.noConfusion (show false = true from p)
theorem dw_all {Pm : Params} (KX : K.In h) (ar : ∀ a ∈ A, ArgOb h A a) : ∀ (ds : List WData) (vs : List Value), WellAll Pm h vs ds → plWs ds = true → (∀ u ∈ vs, OkU A u) → DwAll K (argH K h A) (vs.map toV) ds
  | [], _, x, _, _ => by
    cases x
    exact .nil
  | d :: ds, _, x, p, hu => by
    obtain ⟨v, vs, rfl, x1, x2⟩ := well_cons x
    have q : plW d = true ∧ plWs ds = true := Bool.and_eq_true_iff.mp p
    exact .cons (dw_one KX ar d v x1 q.1 (hu _ (List.mem_cons_self ..))) (dw_all KX ar ds vs x2 q.2 fun u m => hu u (List.mem_cons_of_mem _ m))
end
end
/-! ### the call -/
theorem spec_call {P : Program} {w : World} {K : PySem.W.Frag} {mg mb : Str → Option Value} {CX : CXT} {k : Nat} {fa : Addr} {fd : FuncData} {ps : List Str} {sp : Sp} {s₁ : Shared} {vals : List Value} {ds : List WData} {R : PySem.W.WRecords} {cl : Str → Option Addr} {d0 : WData}
    (KX : K.In s₁.heap) (hns : s₁.heap.Ns mainGlobals mg) (hb : s₁.heap.Ns builtinsNs mb) (hbb : ∀ x : Str, x ≠ "__name__" → mb x = bootBuiltins x) (hlim : s₁.heap.NoLimit) (hg : s₁.gens = #[])
    (hwl : WellAll w.params s₁.heap vals ds) (hpl : plWs ds = true) (hwt : ∀ d ∈ ds, d.weight ≤ 1048576) (hr : Room k callerA)
    (F : ∀ base : Heap, K.In base → base.Ns mainGlobals mg → FnOk P w K mg base CX k fa fd ps sp) (hbind : ∀ (s : Shared) (us : List Value), us.length = ps.length → BindsTo s fd ⟨us, []⟩ (ps.zip us)) (hlen : ds.length = ps.length)
    (hsp : ∀ (H : Hp) (xs : List V), OnlyF H → DwAll K H xs ds → sp xs H (fun v H' => Dw K H' v d0) fun _ _ _ => False)
    (hCX : ∀ H e s', CX [] H s₁ (fun _ _ _ => False) e s' → False) :
    codeAny (model P w) callerA (.call (.ref fa) ⟨vals, []⟩) (fun r s' => ∃ u as, r = .ok (.ret u) ∧ ReadsW R cl s'.heap u d0 as ∧ OldK s₁.heap s'.heap ∧ s'.os = s₁.os ∧ AllBare s'.gens) s₁ := by
  obtain ⟨A, ho, ar⟩ := area_all ds vals hwl hpl hwt
  have hO : OnlyF (argH K s₁.heap A) := argH_only ar
  have hok : HOk P w (argH K s₁.heap A) s₁.heap := argH_ok ar
  have hS := dw_all KX ar ds vals hwl hpl ho
  have hV := vals_toV ho
  have hK : ∀ b u, argH K s₁.heap A b = some u → K.lookup b = none := fun b u q => (argH_is ar q).1
  have noA : ∀ {b : Addr} {o : Obj} {es : Array DictEntry} {ep : Nat}, s₁.heap.get? b = some o → o.data = .dict es ep → argH K s₁.heap A b = none := fun {b o es ep} e d => by
    cases q : argH K s₁.heap A b with
    | none => rfl
    | some u =>
      obtain ⟨_, vs, _, _, ⟨e2, _⟩ | ⟨e2, _⟩⟩ := argH_is ar q
      · rw [e2] at e
        cases e
        have d' : Data.seq vs.toArray _ = Data.dict es ep := d
        cases d'
      · rw [e2] at e
        cases e
        have d' : Data.seq vs.toArray _ = Data.dict es ep := d
        cases d'
  generalize argH K s₁.heap A = H at hO hok hS hK noA
  have base_of : ∀ {b : Addr} {o : Obj}, s₁.heap.get? b = some o → H b = none → (hidT s₁.heap H).get? b = some o := fun e n => hidT_get e n
  have nsK : ∀ {b : Addr} {m : Str → Option Value}, s₁.heap.Ns b m → (hidT s₁.heap H).Ns b m := fun {b m} ⟨o, es, ep, e, d, r⟩ => ⟨o, es, ep, base_of e (noA e d), d, r⟩
  have nK : ∀ b o, K.lookup b = some o → H b = none := fun b o e => by
    cases q : H b with
    | none => rfl
    | some u =>
      rw [hK b u q] at e
      cases e
  have hKb : K.In (hidT s₁.heap H) := fun b o e => base_of (KX b o e) (nK b o e)
  have hM : Mod K mg (hidT s₁.heap H) := ⟨hKb, nsK hns, ⟨mb, nsK hb, hbb⟩, let ⟨mc, h1, h2⟩ := hlim; ⟨mc, nsK h1, h2⟩⟩
  have e0 : Env0 P w K mg (hidT s₁.heap H) callerA [] s₁ H := ⟨rfl, hM, fun b o e => of_hidT e, Nat.le_of_eq (hidT_size _ _), trivial, fun b hb => absurd (show b ∈ ([] : List Addr) from hb) (by simp), hok, .of_eq hg⟩
  have hl : vals.length = ps.length := by rw [wellAll_len hwl]; exact hlen
  refine codeAny_mono ((F _ hKb (nsK hns)).run callerA [] s₁ H ⟨vals, []⟩ vals (vals.map toV) _ _ hr e0 (hbind s₁ vals hl) hV (hsp H _ hO hS)) fun r s' x => ?_
  cases r with
  | error e => exact (hCX H e s' x).elim
  | ok fl =>
    cases fl with
    | next => exact False.elim x
    | brk => exact False.elim x
    | cont => exact False.elim x
    | ret u =>
      obtain ⟨v, H', os, bare, un, hok', r', q⟩ := x
      have kept : ∀ b o, s₁.heap.get? b = some o → s'.heap.get? b = some o := fun b o e => by
        cases q2 : H b with
        | none => exact un.keep b o e q2 (by intro z; exact absurd (show b ∈ ([] : List Addr) from z) (by simp)) (by simp)
        | some u2 =>
          rcases hO b with z | ⟨ob, u3, z⟩
          · rw [q2] at z
            cases z
          · have z2 := un.frzs b ob _ z
            obtain ⟨e1, _⟩ := hok b _ z
            obtain ⟨e2, _⟩ := hok' b _ z2
            rw [e] at e1
            cases e1
            exact e2
      have KX' : K.In s'.heap := fun b o e => kept b o (KX b o e)
      obtain ⟨as, hrd⟩ := Dw.reads (R := R) (cl := cl) hok' KX' d0 v u q r'
      exact ⟨u, as, rfl, hrd, OldK.of_keep kept, os, bare⟩
/-! ### the row -/
theorem layable_weight {ds : List WData} (h : WData.layableAll ds = true) : ∀ d ∈ ds, d.weight ≤ 1048576 := fun d hd =>
  (PySem.W.layableW_iff.mp (List.all_eq_true.mp h d hd)).2.2
theorem encAll_len : ∀ (cs : List Codec) (a : Codec.denoteAll cs), (Codec.encAll cs a).length = cs.length
  | [], _ => rfl
  | c :: cs, a => by
    show (Codec.encAll cs a.2).length + 1 = cs.length + 1
    rw [encAll_len cs a.2]
/-- the goal that k_headS leaves (case hc), from the promise of the row's def: whatever the arguments that the codecs let and the row asks for, the def gives what stands for enc (f ..) -/
theorem walk_spec {r : OpenSpec} {k : Nat} {q : Program} {loose : List Str} {XP : (Str → Option Value) → Heap → Prop} {YP : World → Heap → Prop} {d : DefRec} {K : Params → PySem.W.Frag} {CX : World → CXT} {ps : List Str} {sp : World → Sp}
    (hwell : r.wellSaid = true) (hdf : d.params.defaults = []) (hlen : r.args.length = ps.length) (hr : Room k callerA)
    (hY : ∀ (w : World) (h : Heap), YP w h → (K w.params).In h)
    (F : ∀ (w : World) (mg : Str → Option Value) (fa : Addr) (h : Heap), YP w h → (K w.params).In h → h.Ns mainGlobals mg → mg d.name = some (.ref fa) →
      ∃ fd : FuncData, (∀ (s : Shared) (us : List Value), us.length = ps.length → BindsTo s fd ⟨us, []⟩ (ps.zip us)) ∧
        ∀ base : Heap, (K w.params).In base → base.Ns mainGlobals mg → FnOk r.prog w (K w.params) mg base (CX w) k fa fd ps (sp w))
    (hsp : ∀ (w : World) (H : Hp) (xs : List V) (a : Codec.denoteAll r.args), OnlyF H → Codec.withinAll r.args a = true → Codec.app r.args r.asked a = true → DwAll (K w.params) H xs (Codec.encAll r.args a) →
      sp w xs H (fun v H' => Dw (K w.params) H' v (r.ret.enc (Codec.app r.args r.f a))) fun _ _ _ => False)
    (hCX : ∀ (w : World) (H : Hp) (s : Shared) (e : Value) (s' : Shared), CX w [] H s (fun _ _ _ => False) e s' → False) :
    PySem.W.WalkOS q loose XP YP r d [] (fun f vs => PySem.call f vs) := by
  intro w s_0 s₁ mg mb G Y fa o pm cd doc dV kV ho hd hcd hD hmg hg args vals as hpre hlay hrd hwl hlo
  obtain ⟨a, e1, e2⟩ := PySem.W.os_pre_some hpre
  obtain ⟨e3, hwi⟩ := Codec.encAll_of_decAll r.args args a e1
  subst e3
  have KX := hY w _ Y
  obtain ⟨fd, hb, hF⟩ := F w mg fa _ Y KX G.T.g hmg
  refine PySem.W.enter_call (codeAny_mono (spec_call (R := []) (cl := classAt s_0.heap) (d0 := r.ret.enc (Codec.app r.args r.f a)) KX G.T.g G.T.b G.T.builtins G.T.nolimit hg hwl (pl_encAll _ _) (layable_weight hlay) hr hF hb (by rw [encAll_len]; exact hlen)
    (fun H xs hO hS => hsp w H xs a hO hwi e2 hS) fun H e s' => hCX w H s₁ e s') fun r' s' hq => ?_)
  obtain ⟨u, as', rfl, h1, h2, h3, h4⟩ := hq
  exact ⟨.inl ⟨u, _, as', rfl, fun _ => rfl, h1, (OpenSpec.post_iff hwell hwi _ _).mpr rfl, fun z => Bool.noConfusion (show false = true from z)⟩, h2, h3, h4⟩
/-- the same where the promise hangs on the written part alone -/
theorem walk_specK {r : OpenSpec} {k : Nat} {q : Program} {loose : List Str} {XP : (Str → Option Value) → Heap → Prop} {YP : World → Heap → Prop} {d : DefRec} {K : Params → PySem.W.Frag} {CX : CXT} {ps : List Str} {sp : PySem.W.Frag → Sp}
    (hwell : r.wellSaid = true) (hdf : d.params.defaults = []) (hlen : r.args.length = ps.length) (hr : Room k callerA)
    (hY : ∀ (w : World) (h : Heap), YP w h → (K w.params).In h)
    (F : ∀ (w : World) (mg : Str → Option Value) (fa : Addr) (h : Heap), YP w h → (K w.params).In h → h.Ns mainGlobals mg → mg d.name = some (.ref fa) →
      ∃ fd : FuncData, (∀ (s : Shared) (us : List Value), us.length = ps.length → BindsTo s fd ⟨us, []⟩ (ps.zip us)) ∧
        ∀ base : Heap, (K w.params).In base → base.Ns mainGlobals mg → FnOk r.prog w (K w.params) mg base CX k fa fd ps (sp (K w.params)))
    (hsp : ∀ (K : PySem.W.Frag) (H : Hp) (xs : List V) (a : Codec.denoteAll r.args), OnlyF H → Codec.withinAll r.args a = true → Codec.app r.args r.asked a = true → DwAll K H xs (Codec.encAll r.args a) →
      sp K xs H (fun v H' => Dw K H' v (r.ret.enc (Codec.app r.args r.f a))) fun _ _ _ => False)
    (hCX : ∀ (H : Hp) (s : Shared) (e : Value) (s' : Shared), CX [] H s (fun _ _ _ => False) e s' → False) :
    PySem.W.WalkOS q loose XP YP r d [] (fun f vs => PySem.call f vs) :=
  walk_spec (K := K) (CX := fun _ => CX) (sp := fun w => sp (K w.params)) hwell hdf hlen hr hY F (fun w H xs a h1 h2 h3 h4 => hsp (K w.params) H xs a h1 h2 h3 h4) fun _ H s e s' => hCX H s e s'
end L2
-- rests on (row put in by the clerk, for the bench that shows a file only what it spells): KE.SpHead KE.OsShapes
end
end
section
set_option linter.all false
namespace Tc
open Tote
/-! signs -/
def sgn (n : Nat) : Nat := if (97 ≤ n ∧ n ≤ 122) ∨ (48 ≤ n ∧ n ≤ 57) ∨ n = 32 ∨ n = 10 then n else 63
def cd (c : UInt8) : Nat := sgn c.toNat
def lt (n : Nat) : Bool := decide (97 ≤ n) && decide (n ≤ 122)
def dg (n : Nat) : Bool := decide (48 ≤ n) && decide (n ≤ 57)
def num (w : List Nat) : Nat := w.foldl (fun n c => 10 * n + (c - 48)) 0
def isName (w : List Nat) : Bool := decide (1 ≤ w.length) && (decide (w.length ≤ 12) && (w.all (fun c => lt c || dg c) && (w.head?.map lt).getD false))
def isNum (w : List Nat) (lo hi : Nat) : Bool := !w.isEmpty && (w.all dg && (decide (w.length ≤ 5) && (!(decide (1 < w.length) && decide (w.head? = some 48)) && (decide (lo ≤ num w) && decide (num w ≤ hi)))))
abbrev kRace : List Nat := [114, 97, 99, 101]
abbrev kPool : List Nat := [112, 111, 111, 108]
abbrev kDay : List Nat := [100, 97, 121]
abbrev kCouple : List Nat := [99, 111, 117, 112, 108, 101]
abbrev kFrom : List Nat := [102, 114, 111, 109]
abbrev kTake : List Nat := [116, 97, 107, 101]
abbrev kBreak : List Nat := [98, 114, 101, 97, 107]
abbrev kLeast : List Nat := [108, 101, 97, 115, 116]
abbrev kUnit : List Nat := [117, 110, 105, 116]
abbrev kNone : List Nat := [110, 111, 110, 101]
abbrev kPlace : List Nat := [112, 108, 97, 99, 101]
abbrev kOrder : List Nat := [111, 114, 100, 101, 114]
abbrev kAny : List Nat := [97, 110, 121]
abbrev kLegs : List Nat := [108, 101, 103, 115]
abbrev kRefund : List Nat := [114, 101, 102, 117, 110, 100]
abbrev kCarry : List Nat := [99, 97, 114, 114, 121]
abbrev kFewer : List Nat := [102, 101, 119, 101, 114]

theorem sgn_in {n m : Nat} (h : sgn n = m) (hm : m ≠ 63) : n = m := by
  unfold sgn at h; split at h <;> omega
theorem lt_sgn (n : Nat) : lt (sgn n) = lt n := by
  unfold sgn lt; split
  · rfl
  · rw [Bool.eq_iff_iff]; simp; omega
theorem dg_sgn (n : Nat) : dg (sgn n) = dg n := by
  unfold sgn dg; split
  · rfl
  · rw [Bool.eq_iff_iff]; simp; omega
theorem sgn_dg {n : Nat} (h : dg n = true) : sgn n = n := by
  unfold dg at h; simp at h; unfold sgn; rw [if_pos (by omega)]
theorem sgn_lt {n : Nat} (h : lt n = true) : sgn n = n := by
  unfold lt at h; simp at h; unfold sgn; rw [if_pos (by omega)]
theorem isDigit_cd (c : UInt8) : isDigit c = dg (cd c) := by
  unfold cd; rw [dg_sgn]; unfold isDigit dg; rw [Bool.eq_iff_iff]; simp [UInt8.le_iff_toNat_le]
theorem isSmall_cd (c : UInt8) : isSmall c = lt (cd c) := by
  unfold cd; rw [lt_sgn]; unfold isSmall lt; rw [Bool.eq_iff_iff]; simp [UInt8.le_iff_toNat_le]
theorem cd_ten (c : UInt8) : cd c = 10 ↔ c = 10 := by
  constructor
  · intro h; have := sgn_in h (by decide); exact UInt8.toNat_inj.mp this
  · rintro rfl; decide
theorem cd_blank (c : UInt8) : cd c = 32 ↔ c = 32 := by
  constructor
  · intro h; have := sgn_in h (by decide); exact UInt8.toNat_inj.mp this
  · rintro rfl; decide
/-- a word's codes -/
abbrev cds (w : Bytes) : List Nat := w.map cd
/-- codes of letters and digits alone give the bytes back -/
theorem back : ∀ {w : Bytes} {l : List Nat}, cds w = l → (∀ c ∈ l, c ≠ 63) → w = l.map UInt8.ofNat
  | [], l, h, _ => by subst h; rfl
  | c :: w, [], h, _ => by cases h
  | c :: w, n :: l, h, hl => by
    rw [cds, List.map_cons] at h
    injection h with h1 h2
    have e := sgn_in h1 (hl n (by simp))
    rw [List.map_cons, back h2 (fun c hc => hl c (by simp [hc])), ← e, UInt8.ofNat_toNat]
theorem word_iff {w : Bytes} {s : String} {l : List Nat} (h1 : cds (ascii s) = l) (h2 : ∀ c ∈ l, c ≠ 63) : w = ascii s ↔ cds w = l := by
  constructor
  · rintro rfl; exact h1
  · intro h; rw [back h h2, ← back h1 h2]
theorem name_no {w : List Nat} (h : isName w = true) : ∀ c ∈ w, c ≠ 63 := by
  intro c hc
  unfold isName at h
  simp only [Bool.and_eq_true, List.all_eq_true] at h
  have := h.2.2.1 c hc
  unfold lt dg at this; simp at this; omega
theorem isName_cd (w : Bytes) : Tote.isName w = isName (cds w) := by
  unfold Tote.isName isName NAME
  have e1 : (cds w).length = w.length := List.length_map _
  have e2 : (cds w).all (fun c => lt c || dg c) = w.all (fun c => isSmall c || isDigit c) := by
    rw [cds, List.all_map]; congr 1; funext c; simp [isSmall_cd, isDigit_cd]
  have e3 : (cds w).head?.map lt = w.head?.map isSmall := by
    cases w with
    | nil => rfl
    | cons c r => simp [isSmall_cd]
  rw [e1, e2, e3]
theorem num_cd : ∀ (w : Bytes) (n : Nat), (cds w).all dg = true → w.foldl (fun (n : Nat) (c : UInt8) => 10 * n + (c.toNat - 48)) n = (cds w).foldl (fun n c => 10 * n + (c - 48)) n
  | [], n, _ => rfl
  | c :: w, n, h => by
    rw [cds, List.map_cons, List.all_cons, Bool.and_eq_true] at h
    rw [cds, List.map_cons, List.foldl_cons, List.foldl_cons, num_cd w _ h.2]
    have e : cd c = c.toNat := by
      have := h.1
      unfold cd at this ⊢; rw [dg_sgn] at this; exact sgn_dg this
    rw [e]
/-- digits with no 0 in front: more than five of them are above 20,000 -/
theorem num_ge : ∀ (w : List Nat) (n : Nat), n * 10 ^ w.length ≤ w.foldl (fun n c => 10 * n + (c - 48)) n
  | [], n => by simp
  | c :: w, n => by
    rw [List.foldl_cons]
    have := num_ge w (10 * n + (c - 48))
    refine Nat.le_trans ?_ this
    rw [List.length_cons, Nat.pow_succ, Nat.add_mul]
    have : n * (10 ^ w.length * 10) = 10 * n * 10 ^ w.length := by
      rw [Nat.mul_comm (10 ^ w.length) 10, ← Nat.mul_assoc, Nat.mul_comm n 10]
    omega
theorem num_long {c : Nat} {w : List Nat} (h1 : dg c = true) (h2 : c ≠ 48) (h3 : 5 ≤ w.length) : 100000 ≤ num (c :: w) := by
  unfold num
  rw [List.foldl_cons]
  have := num_ge w (10 * 0 + (c - 48))
  have hp : 10 ^ 5 ≤ 10 ^ w.length := Nat.pow_le_pow_right (by decide) h3
  unfold dg at h1; simp at h1
  have : 1 * 10 ^ w.length ≤ (10 * 0 + (c - 48)) * 10 ^ w.length := Nat.mul_le_mul_right _ (by omega)
  omega
theorem number_iff {w : Bytes} {lo hi : Nat} (hh : hi < 100000) : (∃ n, numberOf w = some n ∧ ¬ (n < lo ∨ hi < n)) ↔ isNum (cds w) lo hi = true := by
  unfold numberOf
  have ea : w.all isDigit = (cds w).all dg := by rw [cds, List.all_map]; congr 1; funext c; simp [isDigit_cd]
  cases w with
  | nil => simp [isNum]
  | cons c r =>
    by_cases hd : ((cds (c :: r)).all dg) = true
    · have e := num_cd (c :: r) 0 hd
      rw [ea, e]
      have ec : c = 48 ↔ cd c = 48 := ⟨by rintro rfl; decide, fun h => UInt8.toNat_inj.mp (sgn_in h (by decide))⟩
      have hl : (cds (c :: r)).length = r.length + 1 := by simp
      by_cases hz : cd c = 48 ∧ r ≠ []
      · rw [if_pos (by right; right; exact ⟨by simp [ec.mpr hz.1], by simp [hz.2]⟩)]
        have : 1 < (cds (c :: r)).length := by
          rw [hl]; cases r with
          | nil => exact absurd rfl hz.2
          | cons _ _ => simp
        simp [isNum, hz.1]
        intro _ _ _ h; exact absurd h hz.2
      · rw [if_neg (by
          rintro (h | h | ⟨h1, h2⟩)
          · simp at h
          · rw [hd] at h; cases h
          · simp at h1 h2; exact hz ⟨ec.mp h1, h2 h1⟩)]
        have hz2 : ¬ (1 < (cds (c :: r)).length ∧ (cds (c :: r)).head? = some 48) := by
          rintro ⟨h1, h2⟩; refine hz ⟨by simpa using h2, ?_⟩; rintro rfl; simp at h1
        have hlong : 5 < (cds (c :: r)).length → 100000 ≤ num (cds (c :: r)) := by
          intro h5
          refine num_long ?_ (fun hc => hz2 ⟨by omega, by simp [hc]⟩) (by simp at h5 ⊢; omega)
          have := hd; simp at this; exact this.1
        have e2 : isNum (cds (c :: r)) lo hi = true ↔ (cds (c :: r)).length ≤ 5 ∧ lo ≤ num (cds (c :: r)) ∧ num (cds (c :: r)) ≤ hi := by
          unfold isNum
          simp only [Bool.and_eq_true, hd, decide_eq_true_eq, true_and, Bool.not_eq_true', Bool.and_eq_false_iff, decide_eq_false_iff_not]
          constructor
          · rintro ⟨_, a, _, b, c⟩; exact ⟨a, b, c⟩
          · rintro ⟨a, b, c⟩; exact ⟨by simp, a, Classical.not_and_iff_not_or_not.mp hz2, b, c⟩
        rw [e2]
        show (∃ n, some (num (cds (c :: r))) = some n ∧ _) ↔ _
        constructor
        · rintro ⟨n, h1, h2⟩; injection h1 with h1; subst h1
          refine ⟨?_, by omega, by omega⟩
          apply Nat.le_of_not_lt; intro h5; have := hlong h5; omega
        · rintro ⟨h1, h2, h3⟩; exact ⟨_, rfl, by omega⟩
    · have hd' : ((cds (c :: r)).all dg) = false := by simpa using hd
      rw [if_pos (by right; left; rw [ea]; exact hd')]
      simp only [isNum, hd']
      simp
theorem number_val {w : Bytes} {n lo hi : Nat} (h : numberOf w = some n) : n = num (cds w) := by
  unfold numberOf at h
  split at h
  · cases h
  · rename_i hn
    have ea : w.all isDigit = (cds w).all dg := by rw [cds, List.all_map]; congr 1; funext c; simp [isDigit_cd]
    have hd : (cds w).all dg = true := by
      cases e : (cds w).all dg with
      | true => rfl
      | false => exact absurd (Or.inr (Or.inl (ea.trans e))) hn
    injection h with h
    rw [← h]; exact num_cd w 0 hd
end Tc
end
section
set_option linter.all false
namespace Tc
open Tote
theorem bind_ok {α β : Type} {x : Except Fault α} {f : α → Except Fault β} {b : β} : (x >>= f) = .ok b ↔ ∃ a, x = .ok a ∧ f a = .ok b := by
  cases x with
  | error e => constructor
               · intro h; cases h
               · rintro ⟨a, h, _⟩; cases h
  | ok a => constructor
            · intro h; exact ⟨a, rfl, h⟩
            · rintro ⟨a', h, h'⟩; cases h; exact h'
theorem pure_ok {α : Type} {x y : α} : (pure x : Except Fault α) = .ok y ↔ x = y := by
  constructor
  · intro h; exact Except.ok.inj h
  · rintro rfl; rfl
abbrev wc (x : Word) : List Nat := cds x.w
theorem next_ok {e : Nat} {l : List Word} {x : Word × List Word} : next e l = .ok x ↔ l = x.1 :: x.2 := by
  cases l with
  | nil => constructor <;> intro h <;> cases h
  | cons w r =>
    show Except.ok (w, r) = .ok x ↔ _
    constructor
    · intro h; cases h; rfl
    · intro h; cases x; cases h; rfl
theorem must_ok {e : Nat} {s : String} {k : List Nat} (h1 : cds (ascii s) = k) (h2 : ∀ c ∈ k, c ≠ 63) {l r : List Word} : must e s l = .ok r ↔ ∃ w, l = w :: r ∧ wc w = k := by
  unfold must
  rw [bind_ok]
  constructor
  · rintro ⟨x, hx, h⟩
    rw [next_ok] at hx
    split at h
    · rename_i hw; rw [pure_ok] at h; exact ⟨x.1, by rw [hx, h], (word_iff h1 h2).mp hw⟩
    · cases h
  · rintro ⟨w, rfl, hw⟩
    refine ⟨(w, r), next_ok.mpr rfl, ?_⟩
    rw [if_pos ((word_iff h1 h2).mpr hw)]; rfl
theorem closed_ok {l : List Word} {u : Unit} : closed l = .ok u ↔ l = [] := by
  cases l with
  | nil => exact ⟨fun _ => rfl, fun _ => rfl⟩
  | cons w r => constructor <;> intro h <;> cases h
theorem holds_ok {b : Bool} {k p : Nat} {u : Unit} : holds b k p = .ok u ↔ b = true := by
  unfold holds
  split
  · rename_i h; exact ⟨fun _ => h, fun _ => rfl⟩
  · rename_i h; constructor
    · intro q; cases q
    · intro q; exact absurd q h
theorem num_ok {e lo hi : Nat} (hh : hi < 100000) {l : List Word} {x : (Nat × Nat) × List Word} : Tote.number e lo hi l = .ok x ↔ ∃ w, l = w :: x.2 ∧ isNum (wc w) lo hi = true ∧ x.1 = (num (wc w), w.at_) := by
  unfold Tote.number
  rw [bind_ok]
  constructor
  · rintro ⟨y, hy, h⟩
    rw [next_ok] at hy
    split at h
    · cases h
    · rename_i n hn
      split at h
      · cases h
      · rename_i hb
        rw [pure_ok] at h
        subst h
        have e := number_val (lo := lo) (hi := hi) hn
        exact ⟨y.1, hy, (number_iff hh).mp ⟨n, hn, hb⟩, by rw [e]⟩
  · rintro ⟨w, rfl, h1, h2⟩
    refine ⟨(w, x.2), next_ok.mpr rfl, ?_⟩
    obtain ⟨n, hn, hb⟩ := (number_iff hh).mpr h1
    have e := number_val (lo := lo) (hi := hi) hn
    simp only [hn, if_neg hb]
    rw [pure_ok, e, ← h2]
theorem name_ok {e : Nat} {had : List Bytes} {l : List Word} {x : Bytes × List Word} : newName e had l = .ok x ↔ ∃ w, l = w :: x.2 ∧ isName (wc w) = true ∧ (wc w).map UInt8.ofNat ∉ had ∧ x.1 = (wc w).map UInt8.ofNat := by
  unfold newName
  rw [bind_ok]
  constructor
  · rintro ⟨y, hy, h⟩
    rw [next_ok] at hy
    split at h
    · cases h
    · rename_i hn
      split at h
      · cases h
      · rename_i hb
        rw [pure_ok] at h
        subst h
        have hn' : isName (wc y.1) = true := by rw [← isName_cd]; simpa using hn
        have e := back (w := y.1.w) rfl (name_no hn')
        refine ⟨y.1, hy, hn', ?_, e⟩
        rw [wc, ← e]; simpa using hb
  · rintro ⟨w, rfl, h1, h2, h3⟩
    refine ⟨(w, x.2), next_ok.mpr rfl, ?_⟩
    have e := back (w := w.w) rfl (name_no h1)
    rw [wc, ← e] at h2 h3
    rw [if_neg (by rw [isName_cd]; simpa using h1), if_neg (by simpa using h2), pure_ok, ← h3]
theorem oneOf_ok {α : Type} {e : Nat} {t : List (α × String)} {l : List Word} {x : (α × Nat) × List Word} : oneOf e t l = .ok x ↔ ∃ w y, l = w :: x.2 ∧ t.find? (fun (y : α × String) => ascii y.2 == w.w) = some y ∧ x.1 = (y.1, w.at_) := by
  unfold oneOf
  rw [bind_ok]
  constructor
  · rintro ⟨y, hy, h⟩
    rw [next_ok] at hy
    split at h
    · cases h
    · rename_i z hz
      rw [pure_ok] at h
      subst h
      exact ⟨y.1, z, hy, hz, rfl⟩
  · rintro ⟨w, y, rfl, h1, h2⟩
    refine ⟨(w, x.2), next_ok.mpr rfl, ?_⟩
    simp only [h1]
    rw [pure_ok, ← h2]

/-! couples -/
def coup (n : Nat) : List Nat → List Nat → List (List Nat) → Bool
  | _, _, [] => true
  | f, s, a :: b :: c :: r => (decide (a = kCouple) && (isNum b 1 n && (isNum c 1 n && decide (num b < num c)))) && (!(s.contains (num b) || (f.contains (num c) || s.contains (num c))) && coup n (f ++ [num b]) (s ++ [num c]) r)
  | _, _, [_] => false
  | _, _, [_, _] => false
def cps : List (Nat × Nat) → List (List Nat) → List (Nat × Nat)
  | had, a :: b :: c :: r => cps (putB (num b, num c) had) r
  | had, _ => had
theorem mem_putB {c x : Nat × Nat} : ∀ {l : List (Nat × Nat)}, x ∈ putB c l ↔ x = c ∨ x ∈ l
  | [] => by simp [putB]
  | y :: l => by
    unfold putB
    split
    · simp
    · rw [List.mem_cons, mem_putB, List.mem_cons]
      constructor
      · rintro (h | h | h) <;> simp [h]
      · rintro (h | h | h) <;> simp [h]
theorem anyB {had : List (Nat × Nat)} {s : List Nat} (h : ∀ x, x ∈ s ↔ ∃ c ∈ had, c.2 = x) (x : Nat) : (had.any fun (y : Nat × Nat) => y.2 == x) = s.contains x := by
  rw [Bool.eq_iff_iff]; simp [h]
theorem anyAB {had : List (Nat × Nat)} {f s : List Nat} (hf : ∀ x, x ∈ f ↔ ∃ c ∈ had, c.1 = x) (h : ∀ x, x ∈ s ↔ ∃ c ∈ had, c.2 = x) (x : Nat) : (had.any fun (y : Nat × Nat) => y.1 == x || y.2 == x) = (f.contains x || s.contains x) := by
  rw [Bool.eq_iff_iff]; simp [h, hf]
  constructor
  · rintro ⟨a, b, h1, h2 | h2⟩
    · subst h2; exact .inl ⟨b, h1⟩
    · subst h2; exact .inr ⟨a, h1⟩
  · rintro (⟨b, h⟩ | ⟨a, h⟩)
    · exact ⟨x, b, h, .inl rfl⟩
    · exact ⟨a, x, h, .inr rfl⟩
theorem couples_ok {e n : Nat} (hn : n < 100000) : ∀ (k : Nat) (had : List (Nat × Nat)) (f s : List Nat) (l : List Word) (cs : List (Nat × Nat)), (∀ x, x ∈ f ↔ ∃ c ∈ had, c.1 = x) → (∀ x, x ∈ s ↔ ∃ c ∈ had, c.2 = x) →
    (couplesIn e n k had l = .ok cs ↔ (l.length ≤ 3 * k ∧ coup n f s (l.map wc) = true) ∧ cs = cps had (l.map wc))
  | 0, had, f, s, l, cs, hf, hs => by
    unfold couplesIn
    cases l with
    | nil => simp [coup, cps]; exact eq_comm
    | cons w r =>
      dsimp only
      constructor
      · intro h; split at h <;> cases h
      · rintro ⟨⟨h, _⟩, _⟩; simp at h
  | k + 1, had, f, s, l, cs, hf, hs => by
    unfold couplesIn
    match l with
    | [] => simp [coup, cps]; exact eq_comm
    | [a] =>
      rw [if_neg (by simp)]
      constructor
      · intro h
        simp only [bind_ok, must_ok (s := "couple") (k := kCouple) (by decide) (by decide), num_ok hn] at h
        obtain ⟨m, ⟨w, h1, _⟩, x, ⟨w2, h2, _⟩, _⟩ := h
        injection h1 with _ h1; rw [h2] at h1; cases h1
      · rintro ⟨⟨_, h⟩, _⟩; simp [coup] at h
    | [a, b] =>
      rw [if_neg (by simp)]
      constructor
      · intro h
        simp only [bind_ok, must_ok (s := "couple") (k := kCouple) (by decide) (by decide), num_ok hn] at h
        obtain ⟨m, ⟨w, h1, _⟩, x, ⟨w2, h2, _⟩, _, _, y, ⟨w3, h3, _⟩, _⟩ := h
        injection h1 with _ h1; rw [h2] at h1; injection h1 with _ h1; rw [h3] at h1; cases h1
      · rintro ⟨⟨_, h⟩, _⟩; simp [coup] at h
    | a :: b :: c :: r =>
      rw [if_neg (by simp)]
      have hf' : ∀ x, x ∈ f ++ [num (wc b)] ↔ ∃ q ∈ putB (num (wc b), num (wc c)) had, q.1 = x := by
        intro x
        simp only [List.mem_append, hf, mem_putB, List.mem_singleton]
        constructor
        · rintro (⟨q, h1, h2⟩ | h)
          · exact ⟨q, .inr h1, h2⟩
          · exact ⟨_, .inl rfl, h.symm⟩
        · rintro ⟨q, h | h, h2⟩
          · subst h; exact .inr h2.symm
          · exact .inl ⟨q, h, h2⟩
      have hs' : ∀ x, x ∈ s ++ [num (wc c)] ↔ ∃ q ∈ putB (num (wc b), num (wc c)) had, q.2 = x := by
        intro x
        simp only [List.mem_append, hs, mem_putB, List.mem_singleton]
        constructor
        · rintro (⟨q, h1, h2⟩ | h)
          · exact ⟨q, .inr h1, h2⟩
          · exact ⟨_, .inl rfl, h.symm⟩
        · rintro ⟨q, h | h, h2⟩
          · subst h; exact .inr h2.symm
          · exact .inl ⟨q, h, h2⟩
      have ih := couples_ok (e := e) hn k (putB (num (wc b), num (wc c)) had) _ _ r cs hf' hs'
      have el : (a :: b :: c :: r).length ≤ 3 * (k + 1) ↔ r.length ≤ 3 * k := by simp; omega
      have ec : cps had ((a :: b :: c :: r).map wc) = cps (putB (num (wc b), num (wc c)) had) (r.map wc) := rfl
      have eo : coup n f s ((a :: b :: c :: r).map wc) = ((decide (wc a = kCouple) && (isNum (wc b) 1 n && (isNum (wc c) 1 n && decide (num (wc b) < num (wc c))))) && (!(s.contains (num (wc b)) || (f.contains (num (wc c)) || s.contains (num (wc c)))) && coup n (f ++ [num (wc b)]) (s ++ [num (wc c)]) (r.map wc))) := rfl
      rw [el, ec, eo]
      simp only [bind_ok, must_ok (s := "couple") (k := kCouple) (by decide) (by decide), num_ok hn, holds_ok]
      constructor
      · rintro ⟨m, ⟨w, h1, h2⟩, x, ⟨w2, h3, h4, h5⟩, _, h6, y, ⟨w3, h7, h8, h9⟩, _, h10, h⟩
        injection h1 with q1 h1; subst q1
        rw [h3] at h1; injection h1 with q1 h1; subst q1
        rw [h7] at h1; injection h1 with q1 h1; subst q1
        rw [h5] at h6 h10 h
        rw [h9] at h10 h
        rw [← h1] at h
        dsimp only at h6 h10 h
        rw [ih] at h
        rw [anyB hs] at h6
        rw [anyAB hf hs] at h10
        obtain ⟨⟨g1, g2⟩, g3⟩ := h
        refine ⟨⟨g1, ?_⟩, g3⟩
        simp only [Bool.and_eq_true, decide_eq_true_eq, h2, h4, h8, g2, true_and, and_true] at h10 ⊢
        refine ⟨h10.1, ?_⟩
        have h11 := h10.2
        simp only [Bool.not_eq_true', Bool.or_eq_false_iff] at h6 h11 ⊢
        exact ⟨h6, h11⟩
      · rintro ⟨⟨g1, g⟩, g3⟩
        simp only [Bool.and_eq_true, decide_eq_true_eq, Bool.not_eq_true', Bool.or_eq_false_iff] at g
        obtain ⟨⟨c1, c2, c3, c4⟩, ⟨c5, c6, c7⟩, c8⟩ := g
        refine ⟨_, ⟨a, rfl, c1⟩, ((num (wc b), b.at_), c :: r), ⟨b, rfl, c2, rfl⟩, (), ?_, ((num (wc c), c.at_), r), ⟨c, rfl, c3, rfl⟩, (), ?_, ?_⟩
        · dsimp only; rw [anyB hs, c5]; rfl
        · dsimp only; rw [anyAB hf hs, c6, c7]; simp [c4]
        · exact ih.mpr ⟨⟨g1, c8⟩, g3⟩
def raceOf (ws : List (List Nat)) : Race := ⟨num (ws.getD 1 []), cps [] (ws.drop 2)⟩
def isRace (ws : List (List Nat)) : Bool := match ws with
  | a :: b :: r => decide (a = kRace) && (isNum b 2 24 && (decide (r.length ≤ 24) && coup (num b) [] [] r))
  | _ => false
theorem race_ok {e : Nat} {a : Word} {l : List Word} {R : Race} (ha : wc a = kRace) : raceIn e l = .ok R ↔ isRace ((a :: l).map wc) = true ∧ R = raceOf ((a :: l).map wc) := by
  unfold raceIn RUNNERS COUPLES
  simp only [bind_ok, num_ok (show 24 < 100000 by decide), pure_ok]
  constructor
  · rintro ⟨x, ⟨w, h1, h2, h3⟩, c, h4, h5⟩
    have hb : num (wc w) ≤ 24 := by unfold isNum at h2; simp only [Bool.and_eq_true, decide_eq_true_eq] at h2; exact h2.2.2.2.2.2
    rw [h3] at h4 h5
    dsimp only at h4 h5
    rw [couples_ok (n := num (wc w)) (by omega) _ _ [] [] _ _ (by simp) (by simp)] at h4
    subst h1
    obtain ⟨⟨g1, g2⟩, g3⟩ := h4
    refine ⟨?_, ?_⟩
    · simp only [List.map_cons, isRace, ha, h2, g2, List.length_map]; simpa using g1
    · rw [← h5, g3]; rfl
  · rintro ⟨h1, h2⟩
    cases l with
    | nil => simp [isRace] at h1
    | cons w r =>
      simp only [List.map_cons, isRace, Bool.and_eq_true, decide_eq_true_eq, List.length_map] at h1
      obtain ⟨_, g2, g3, g4⟩ := h1
      have hb : num (wc w) ≤ 24 := by unfold isNum at g2; simp only [Bool.and_eq_true, decide_eq_true_eq] at g2; exact g2.2.2.2.2.2
      refine ⟨((num (wc w), w.at_), r), ⟨w, rfl, g2, rfl⟩, cps [] (r.map wc), ?_, h2.symm⟩
      rw [couples_ok (n := num (wc w)) (by omega) _ _ [] [] _ _ (by simp) (by simp)]
      exact ⟨⟨by omega, g4⟩, rfl⟩
end Tc
end
section
set_option linter.all false
namespace Tc
open Tote
def kindOf (w : List Nat) : Option Kind := if w = kPlace then some .place else if w = kOrder then some .order else if w = kAny then some .any else if w = kLegs then some .legs else none
def noneOf (w : List Nat) : Option None_ := if w = kRefund then some .refund else if w = kCarry then some .carry else if w = kFewer then some .fewer else none
theorem beq_word {w : Bytes} {s : String} {k : List Nat} (h1 : cds (ascii s) = k) (h2 : ∀ c ∈ k, c ≠ 63) : (ascii s == w) = decide (cds w = k) := by
  rw [Bool.eq_iff_iff]; simp only [beq_iff_eq, decide_eq_true_eq]
  rw [eq_comm, word_iff h1 h2]
theorem find_kind (w : Bytes) : (KINDS.find? (fun (y : Kind × String) => ascii y.2 == w)).map (·.1) = kindOf (cds w) := by
  unfold KINDS kindOf
  simp only [List.find?_cons, List.find?_nil, beq_word (s := "place") (k := kPlace) (by decide) (by decide), beq_word (s := "order") (k := kOrder) (by decide) (by decide), beq_word (s := "any") (k := kAny) (by decide) (by decide), beq_word (s := "legs") (k := kLegs) (by decide) (by decide)]
  by_cases h1 : cds w = kPlace
  · simp [h1]
  by_cases h2 : cds w = kOrder
  · simp [h2]
  by_cases h3 : cds w = kAny
  · simp [h3]
  by_cases h4 : cds w = kLegs
  · simp [h4]
  simp [h1, h2, h3, h4]
theorem find_none (w : Bytes) (p : Prop) [Decidable p] : ((if p then NONES.take 2 else NONES).find? (fun (y : None_ × String) => ascii y.2 == w)).map (·.1) = if p ∧ cds w = kFewer then none else noneOf (cds w) := by
  have e : NONES.take 2 = [(.refund, "refund"), (.carry, "carry")] := rfl
  rw [e]
  unfold NONES noneOf
  by_cases hp : p
  · simp only [if_pos hp, List.find?_cons, List.find?_nil, beq_word (s := "refund") (k := kRefund) (by decide) (by decide), beq_word (s := "carry") (k := kCarry) (by decide) (by decide)]
    by_cases h1 : cds w = kRefund
    · simp [h1]
    by_cases h2 : cds w = kCarry
    · simp [h2]
    by_cases h3 : cds w = kFewer
    · simp [h3, hp]
    simp [h1, h2, h3]
  · simp only [if_neg hp, List.find?_cons, List.find?_nil, beq_word (s := "refund") (k := kRefund) (by decide) (by decide), beq_word (s := "carry") (k := kCarry) (by decide) (by decide), beq_word (s := "fewer") (k := kFewer) (by decide) (by decide)]
    by_cases h1 : cds w = kRefund
    · simp [h1]
    by_cases h2 : cds w = kCarry
    · simp [h2]
    by_cases h3 : cds w = kFewer
    · simp [h3, hp]
    simp [h1, h2, h3]
theorem oneOf_ok' {α : Type} {e : Nat} {t : List (α × String)} {l : List Word} {x : (α × Nat) × List Word} : oneOf e t l = .ok x ↔ ∃ w, l = w :: x.2 ∧ (t.find? (fun (y : α × String) => ascii y.2 == w.w)).map (·.1) = some x.1.1 ∧ x.1.2 = w.at_ := by
  rw [oneOf_ok]
  constructor
  · rintro ⟨w, y, h1, h2, h3⟩
    exact ⟨w, h1, by rw [h2, h3]; rfl, by rw [h3]⟩
  · rintro ⟨w, h1, h2, h3⟩
    rw [Option.map_eq_some_iff] at h2
    obtain ⟨y, h4, h5⟩ := h2
    exact ⟨w, y, h1, h4, by rw [h5, ← h3]⟩
abbrev gw (ws : List (List Nat)) (i : Nat) : List Nat := ws.getD i []
def goodKind (ws : List (List Nat)) : Bool := match kindOf (gw ws 2), noneOf (gw ws 15) with
  | some kd, some z => !(decide (kd = .place) && decide (z = .fewer)) && isNum (gw ws 3) (leastK kd) (mostK kd)
  | _, _ => false
def goodRace (ws : List (List Nat)) (rs : List (List Nat)) : Bool := isNum (gw ws 5) 1 rs.length && (if gw ws 2 = kLegs then decide (num (gw ws 5) + num (gw ws 3) ≤ rs.length + 1) else decide (num (gw ws 3) ≤ (rs.getD (num (gw ws 5) - 1) []).length))
def goodMoney (ws : List (List Nat)) : Bool := isNum (gw ws 7) 0 400 && (isNum (gw ws 9) 1 1000 && (isNum (gw ws 13) 1 10000 && (isNum (gw ws 11) 0 0 || isNum (gw ws 11) (num (gw ws 13)) (2 * num (gw ws 13)))))
def fixedOk (ws : List (List Nat)) : Bool := decide (gw ws 0 = kPool) && (decide (gw ws 4 = kFrom) && (decide (gw ws 6 = kTake) && (decide (gw ws 8 = kBreak) && (decide (gw ws 10 = kLeast) && (decide (gw ws 12 = kUnit) && decide (gw ws 14 = kNone))))))
def isPool (ws : List (List Nat)) (rs : List (List Nat)) : Bool := decide (ws.length = 16) && (isName (gw ws 1) && (fixedOk ws && (goodKind ws && (goodRace ws rs && goodMoney ws))))
def nm (ws : List (List Nat)) : Bytes := (gw ws 1).map UInt8.ofNat
def poolOf (ws : List (List Nat)) : Pool := ⟨nm ws, (kindOf (gw ws 2)).getD .place, num (gw ws 3), num (gw ws 5), (noneOf (gw ws 15)).getD .refund, num (gw ws 7), num (gw ws 9), num (gw ws 11), num (gw ws 13)⟩
theorem isNum_bd {w : List Nat} {lo hi : Nat} (h : isNum w lo hi = true) : lo ≤ num w ∧ num w ≤ hi := by
  unfold isNum at h; simp only [Bool.and_eq_true, decide_eq_true_eq] at h; exact h.2.2.2.2
theorem isNum_of {w : List Nat} {lo hi lo' hi' : Nat} (h : isNum w lo hi = true) (h1 : lo' ≤ num w) (h2 : num w ≤ hi') : isNum w lo' hi' = true := by
  unfold isNum at h ⊢; simp only [Bool.and_eq_true, decide_eq_true_eq] at h ⊢; exact ⟨h.1, h.2.1, h.2.2.1, h.2.2.2.1, h1, h2⟩
theorem money_iff {w : List Nat} {u : Nat} (hu : u ≤ 10000) : (isNum w 0 20000 = true ∧ (num w == 0 || inside u (2 * u) (num w)) = true) ↔ (isNum w 0 0 || isNum w u (2 * u)) = true := by
  unfold inside
  simp only [Bool.or_eq_true, Bool.and_eq_true, decide_eq_true_eq, beq_iff_eq]
  constructor
  · rintro ⟨h1, h | ⟨h2, h3⟩⟩
    · exact .inl (isNum_of h1 (by omega) (by omega))
    · exact .inr (isNum_of h1 h2 h3)
  · rintro (h | h)
    · have := isNum_bd h; exact ⟨isNum_of h (by omega) (by omega), .inl (by omega)⟩
    · have := isNum_bd h; exact ⟨isNum_of h (by omega) (by omega), .inr ⟨by omega, by omega⟩⟩
theorem most_lt (k : Kind) : mostK k < 100000 := by cases k <;> decide
theorem kind_legs {w : List Nat} {kd : Kind} (h : kindOf w = some kd) : kd = .legs ↔ w = kLegs := by
  unfold kindOf at h
  repeat' split at h
  all_goals first | (cases h; done) | (injection h with h; subst h; simp_all)
theorem race_at {C : Card} {i k : Nat} (hi : 1 ≤ i) (hl : i ≤ C.races.length) : ((C.races[i - 1]?).map fun (x : Race) => decide (k ≤ x.heads.length)).getD false = decide (k ≤ ((C.races.map Race.heads).getD (i - 1) []).length) := by
  have h : i - 1 < C.races.length := by omega
  rw [List.getElem?_eq_getElem h, List.getD_eq_getElem?_getD, List.getElem?_map, List.getElem?_eq_getElem h]
  rfl
theorem pool_ok {e : Nat} {C : Card} {a : Word} {l : List Word} {P : Pool} (ha : wc a = kPool) (hC : C.races.length ≤ 16) : poolIn e C l = .ok P ↔
    (isPool ((a :: l).map wc) (C.races.map Race.heads) = true ∧ nm ((a :: l).map wc) ∉ C.pools.map (fun p => p.name)) ∧ P = poolOf ((a :: l).map wc) := by
  unfold poolIn
  simp only [bind_ok, name_ok, oneOf_ok', num_ok (most_lt _), num_ok (show C.races.length < 100000 by omega), num_ok (show 400 < 100000 by decide), num_ok (show 1000 < 100000 by decide), num_ok (show 20000 < 100000 by decide), num_ok (show 10000 < 100000 by decide), holds_ok, closed_ok, pure_ok,
    must_ok (s := "from") (k := kFrom) (by decide) (by decide), must_ok (s := "take") (k := kTake) (by decide) (by decide), must_ok (s := "break") (k := kBreak) (by decide) (by decide), must_ok (s := "least") (k := kLeast) (by decide) (by decide),
    must_ok (s := "unit") (k := kUnit) (by decide) (by decide), must_ok (s := "none") (k := kNone) (by decide) (by decide), find_kind, find_none]
  constructor
  · rintro ⟨n, ⟨w1, h1, n1, n2, n3⟩, kd, ⟨w2, h2, k1, _⟩, k, ⟨w3, h3, k2, k3⟩, l4, ⟨w4, h4, f4⟩, r, ⟨w5, h5, r1, r2⟩, _, c1, _, c2, l6, ⟨w6, h6, f6⟩, t, ⟨w7, h7, t1, t2⟩, l8, ⟨w8, h8, f8⟩, b, ⟨w9, h9, b1, b2⟩, l10, ⟨w10, h10, f10⟩, m, ⟨w11, h11, m1, m2⟩,
      l12, ⟨w12, h12, f12⟩, u, ⟨w13, h13, u1, u2⟩, _, c3, l14, ⟨w14, h14, f14⟩, z, ⟨w15, h15, z1, _⟩, _, hz, rfl⟩
    rw [hz] at h15; rw [h15] at h14; rw [h14] at h13; rw [h13] at h12; rw [h12] at h11; rw [h11] at h10; rw [h10] at h9; rw [h9] at h8; rw [h8] at h7; rw [h7] at h6; rw [h6] at h5; rw [h5] at h4; rw [h4] at h3; rw [h3] at h2; rw [h2] at h1
    subst h1
    obtain ⟨z2, z3⟩ : ¬ (kd.1.1 = .place ∧ wc w15 = kFewer) ∧ noneOf (wc w15) = some z.1.1 := by
      split at z1
      · cases z1
      · rename_i hq; exact ⟨hq, z1⟩
    have hzf : z.1.1 = .fewer → wc w15 = kFewer := by
      intro hq; rw [hq] at z3; unfold noneOf at z3
      repeat' split at z3
      all_goals first | (cases z3; done) | assumption
    rw [k3] at c1 c2; rw [r2] at c1 c2; rw [u2] at c3; rw [m2] at c3
    dsimp only at c1 c2 c3
    have rb := isNum_bd r1
    have ub := isNum_bd u1
    have hk := kind_legs k1
    refine ⟨⟨?_, ?_⟩, ?_⟩
    · unfold isPool fixedOk goodKind goodRace goodMoney
      simp only [List.map_cons, List.map_nil, gw, List.getD_cons_zero, List.getD_cons_succ, List.length_cons, List.length_nil, n1, ha, f4, f6, f8, f10, f12, f14, k1, z3, t1, b1, u1, r1, k2, List.length_map, Bool.and_eq_true, decide_eq_true_eq, true_and, and_true, Bool.not_eq_true']
      refine ⟨?_, ?_, (money_iff ub.2).mp ⟨m1, c3⟩⟩
      · rw [Bool.and_eq_false_iff]
        by_cases hp : kd.1.1 = .place
        · right; rw [decide_eq_false_iff_not]; exact fun hq => z2 ⟨hp, hzf hq⟩
        · left; exact decide_eq_false hp
      · rw [race_at rb.1 rb.2] at c2
        by_cases hl : wc w2 = kLegs
        · rw [if_pos hl]; have := hk.mpr hl; rw [this] at c1; simpa using c1
        · rw [if_neg hl]; have : kd.1.1 ≠ .legs := fun q => hl (hk.mp q); simpa [this] using c2
    · exact n2
    · unfold poolOf nm
      simp only [List.map_cons, List.map_nil, gw, List.getD_cons_zero, List.getD_cons_succ, k1, z3, Option.getD_some, n3, k3, r2, t2, b2, m2, u2]
  · rintro ⟨⟨h, hn⟩, rfl⟩
    unfold isPool at h
    rw [Bool.and_eq_true, decide_eq_true_eq] at h
    obtain ⟨hl, h⟩ := h
    match l, hl with
    | [w1, w2, w3, w4, w5, w6, w7, w8, w9, w10, w11, w12, w13, w14, w15], _ =>
      unfold fixedOk goodKind goodRace goodMoney at h
      simp only [List.map_cons, List.map_nil, gw, List.getD_cons_zero, List.getD_cons_succ, Bool.and_eq_true, decide_eq_true_eq, List.length_map] at h
      obtain ⟨n1, ⟨_, f4, f6, f8, f10, f12, f14⟩, hk, ⟨r1, r2⟩, t1, b1, u1, m1⟩ := h
      have rb := isNum_bd r1
      have ub := isNum_bd u1
      obtain ⟨m1, m2⟩ := (money_iff ub.2).mpr m1
      cases ek : kindOf (wc w2) with
      | none => rw [ek] at hk; cases hk
      | some kd =>
        cases ez : noneOf (wc w15) with
        | none => rw [ek, ez] at hk; cases hk
        | some z =>
          rw [ek, ez] at hk
          simp only [Bool.and_eq_true, Bool.not_eq_true', Bool.and_eq_false_iff, decide_eq_false_iff_not] at hk
          obtain ⟨k1, k2⟩ := hk
          have hkl := kind_legs ek
          refine ⟨(_, _), ⟨w1, rfl, n1, hn, rfl⟩, ((kd, w2.at_), _), ⟨w2, rfl, ek, rfl⟩, ((_, _), _), ⟨w3, rfl, k2, rfl⟩, _, ⟨w4, rfl, f4⟩, ((_, _), _), ⟨w5, rfl, r1, rfl⟩, (), ?_, (), ?_, _, ⟨w6, rfl, f6⟩, ((_, _), _), ⟨w7, rfl, t1, rfl⟩, _, ⟨w8, rfl, f8⟩, ((_, _), _), ⟨w9, rfl, b1, rfl⟩,
            _, ⟨w10, rfl, f10⟩, ((_, _), _), ⟨w11, rfl, m1, rfl⟩, _, ⟨w12, rfl, f12⟩, ((_, _), _), ⟨w13, rfl, u1, rfl⟩, (), m2, _, ⟨w14, rfl, f14⟩, ((z, w15.at_), []), ⟨w15, rfl, ?_, rfl⟩, (), rfl, ?_⟩
          · dsimp only
            by_cases hq : wc w2 = kLegs
            · rw [if_pos hq] at r2; have := hkl.mpr hq; simp [this]; simpa using r2
            · have : kd ≠ .legs := fun q => hq (hkl.mp q); simp [this]
          · dsimp only
            rw [race_at rb.1 rb.2]
            by_cases hq : wc w2 = kLegs
            · have := hkl.mpr hq; simp [this]
            · rw [if_neg hq] at r2; rw [Bool.or_eq_true]; right; exact r2
          · dsimp only
            rw [if_neg, ez]
            rintro ⟨q1, q2⟩
            rcases k1 with k1 | k1
            · exact k1 q1
            · apply k1
              rw [show wc w15 = kFewer from q2] at ez
              have : noneOf kFewer = some .fewer := by decide
              rw [this] at ez; injection ez with ez; exact ez.symm
          · unfold poolOf nm
            simp only [List.map_cons, List.map_nil, gw, List.getD_cons_zero, List.getD_cons_succ, ek, ez, Option.getD_some]
end Tc
end
section
set_option linter.all false
namespace Tc
open Tote
/-! cutting -/
def cut (s : Nat) : List Nat → List (List Nat)
  | [] => [[]]
  | c :: r => if c = s then [] :: cut s r else match cut s r with
    | [] => [[c]]
    | h :: t => (c :: h) :: t
theorem cut_ne (s : Nat) (l : List Nat) : cut s l ≠ [] := by
  cases l with
  | nil => simp [cut]
  | cons c r =>
    unfold cut; split
    · simp
    · split <;> simp
theorem cut_hit (s : Nat) : ∀ (l r : List Nat), s ∉ l → cut s (l ++ s :: r) = l :: cut s r
  | [], r, _ => by simp [cut]
  | c :: l, r, h => by
    simp only [List.mem_cons, not_or] at h
    rw [List.cons_append, cut, if_neg (fun e => h.1 e.symm), cut_hit s l r h.2]
theorem cut_last (s : Nat) : ∀ (l : List Nat), s ∉ l → cut s l = [l]
  | [], _ => by simp [cut]
  | c :: l, h => by
    simp only [List.mem_cons, not_or] at h
    rw [cut, if_neg (fun e => h.1 e.symm), cut_last s l h.2]
theorem cut_free {s : Nat} : ∀ {l : List Nat} {w : List Nat}, w ∈ cut s l → s ∉ w ∧ ∀ c ∈ w, c ∈ l
  | [], w, h => by simp [cut] at h; subst h; simp
  | c :: l, w, h => by
    unfold cut at h
    split at h
    · rename_i e
      rcases List.mem_cons.mp h with h | h
      · subst h; simp
      · have := cut_free h; exact ⟨this.1, fun x hx => by simp [this.2 x hx]⟩
    · rename_i e
      split at h
      · rename_i e2; exact absurd e2 (cut_ne s l)
      · rename_i h' t e2
        rcases List.mem_cons.mp h with h | h
        · subst h
          have := cut_free (s := s) (l := l) (w := h') (by rw [e2]; simp)
          refine ⟨by simp [this.1]; exact fun q => e q.symm, fun x hx => ?_⟩
          rcases List.mem_cons.mp hx with hx | hx
          · simp [hx]
          · simp [this.2 x hx]
        · have := cut_free (s := s) (l := l) (w := w) (by rw [e2]; simp [h]); exact ⟨this.1, fun x hx => by simp [this.2 x hx]⟩
/-- the words of each line; none: the last line isn't ended -/
def linesOf (codes : List Nat) : List (List (List Nat)) := if (cut 10 codes).getLastD [] = [] then (cut 10 codes).dropLast.map (cut 32) else []
theorem upTo_some : ∀ {b l r : Bytes}, upTo b = some (l, r) → b = l ++ 10 :: r ∧ (10 : UInt8) ∉ l
  | [], l, r, h => by simp [upTo] at h
  | c :: b, l, r, h => by
    unfold upTo at h
    split at h
    · rename_i e; injection h with h; injection h with h1 h2; subst h1 h2 e; simp
    · rename_i e
      rw [Option.map_eq_some_iff] at h
      obtain ⟨⟨l', r'⟩, h1, h2⟩ := h
      injection h2 with h2 h3; subst h2 h3
      obtain ⟨q1, q2⟩ := upTo_some h1
      subst q1
      exact ⟨rfl, by simp [q2]; exact fun q => e q.symm⟩
theorem upTo_none : ∀ {b : Bytes}, upTo b = none → (10 : UInt8) ∉ b
  | [], _ => by simp
  | c :: b, h => by
    unfold upTo at h
    split at h
    · cases h
    · rename_i e
      rw [Option.map_eq_none_iff] at h
      simp [upTo_none h]; exact fun q => e q.symm
theorem ten_cds {l : Bytes} : 10 ∈ cds l ↔ (10 : UInt8) ∈ l := by
  simp only [cds, List.mem_map]
  constructor
  · rintro ⟨c, h1, h2⟩; rw [← (cd_ten c).mp h2]; exact h1
  · intro h; exact ⟨10, h, by decide⟩
theorem blank_cds {l : Bytes} : 32 ∈ cds l ↔ (32 : UInt8) ∈ l := by
  simp only [cds, List.mem_map]
  constructor
  · rintro ⟨c, h1, h2⟩; rw [← (cd_blank c).mp h2]; exact h1
  · intro h; exact ⟨32, h, by decide⟩
/-- words from bytes, without a fault: the cut at blanks -/
theorem wordsFrom_cut : ∀ (b : Bytes) (p : Nat) (w : Bytes) (gap : Bool) (q : Nat), (gap = true ↔ w = []) → (32 : UInt8) ∉ w → badByte gap q b = none → (wordsFrom p w b).map wc = cut 32 (cds w ++ cds b) ∧ ∀ x ∈ cut 32 (cds w ++ cds b), x ≠ []
  | [], p, w, gap, q, hg, hw, h => by
    unfold badByte at h
    split at h
    · cases h
    · rename_i hgap
      have hne : w ≠ [] := fun e => hgap (hg.mpr e)
      have hc : cut 32 (cds w ++ cds []) = [cds w] := by simp only [cds, List.map_nil, List.append_nil]; exact cut_last 32 _ (fun e => hw (blank_cds.mp e))
      rw [hc]
      unfold wordsFrom
      rw [if_neg (by simpa using hne)]
      refine ⟨rfl, fun x hx => ?_⟩
      simp at hx; subst hx; simpa using hne
  | c :: b, p, w, gap, q, hg, hw, h => by
    unfold badByte at h
    split at h
    · cases h
    · split at h
      · rename_i hc
        subst hc
        split at h
        · cases h
        · rename_i hgap
          split at h
          · cases h
          · rename_i hb
            have hne : w ≠ [] := fun e => hgap (hg.mpr e)
            have ih := wordsFrom_cut b (p + 1) [] true (q + 1) (by simp) (by simp) h
            have e : cut 32 (cds w ++ cds (32 :: b)) = cds w :: cut 32 (cds b) := cut_hit 32 (cds w) (cds b) (fun e => hw (blank_cds.mp e))
            rw [e]
            unfold wordsFrom
            rw [if_pos rfl]
            refine ⟨?_, fun x hx => ?_⟩
            · rw [List.map_cons, ih.1]; rfl
            · rcases List.mem_cons.mp hx with hx | hx
              · subst hx; simpa using hne
              · exact ih.2 x hx
      · rename_i hc
        have ih := wordsFrom_cut b (p + 1) (w ++ [c]) false (q + 1) (by simp) (by simp [hw]; exact fun q => hc q.symm) h
        have e : cds (w ++ [c]) ++ cds b = cds w ++ cds (c :: b) := by simp [cds]
        rw [e] at ih
        unfold wordsFrom
        rw [if_neg hc]
        exact ih
/-- a word that nothing of a card is -/
def badW (w : List Nat) : Prop := w = [] ∨ 63 ∈ w
theorem cut_head {s : Nat} (h : List Nat) (hs : s ∉ h) (r : List Nat) : ∃ x t, cut s r = x :: t ∧ cut s (h ++ r) = (h ++ x) :: t := by
  induction h with
  | nil =>
    cases e : cut s r with
    | nil => exact absurd e (cut_ne s r)
    | cons x t => exact ⟨x, t, rfl, by simpa using e⟩
  | cons c h ih =>
    simp only [List.mem_cons, not_or] at hs
    obtain ⟨x, t, h1, h2⟩ := ih hs.2
    refine ⟨x, t, h1, ?_⟩
    rw [List.cons_append, cut, if_neg (fun e => hs.1 e.symm), h2]
    rfl
theorem bad_cut : ∀ (b : Bytes) (w : Bytes) (gap : Bool) (q i : Nat), (gap = true ↔ w = []) → (32 : UInt8) ∉ w → (10 : UInt8) ∉ b → badByte gap q b = some i → ∃ x ∈ cut 32 (cds w ++ cds b), badW x
  | [], w, gap, q, i, hg, hw, ht, h => by
    unfold badByte at h
    split at h
    · rename_i hgap
      have e := hg.mp hgap
      subst e
      exact ⟨[], by simp [cut], .inl rfl⟩
    · cases h
  | c :: b, w, gap, q, i, hg, hw, ht, h => by
    simp only [List.mem_cons, not_or] at ht
    unfold badByte at h
    split at h
    · rename_i hc
      have h63 : cd c = 63 := by
        have h10 : c.toNat ≠ 10 := fun e => ht.1 (UInt8.toNat_inj.mp e).symm
        unfold cd sgn
        rw [if_neg]
        simp only [UInt8.lt_iff_toNat_lt] at hc
        have e1 : (32 : UInt8).toNat = 32 := rfl
        have e2 : (126 : UInt8).toNat = 126 := rfl
        omega
      have e : cds w ++ cds (c :: b) = (cds w ++ [63]) ++ cds b := by simp [cds, h63]
      obtain ⟨x, t, h1, h2⟩ := cut_head (s := 32) (cds w ++ [63]) (by simp; exact fun a ha he => hw ((cd_blank a).mp he ▸ ha)) (cds b)
      rw [e, h2]
      exact ⟨_, List.mem_cons_self, .inr (by simp)⟩
    · split at h
      · rename_i hc
        subst hc
        have e : cut 32 (cds w ++ cds (32 :: b)) = cds w :: cut 32 (cds b) := cut_hit 32 (cds w) (cds b) (fun e => hw (blank_cds.mp e))
        rw [e]
        split at h
        · rename_i hgap
          have e := hg.mp hgap
          exact ⟨_, List.mem_cons_self, .inl (by rw [e]; rfl)⟩
        · split at h
          · rename_i hb
            have : b = [] := by simpa using hb
            subst this
            exact ⟨[], by simp [cut], .inl rfl⟩
          · obtain ⟨x, hx, hb⟩ := bad_cut b [] true (q + 1) i (by simp) (by simp) ht.2 h
            exact ⟨x, by simp at hx ⊢; exact .inr hx, hb⟩
      · rename_i hc
        have ih := bad_cut b (w ++ [c]) false (q + 1) i (by simp) (by simp [hw]; exact fun q => hc q.symm) ht.2 h
        have e : cds (w ++ [c]) ++ cds b = cds w ++ cds (c :: b) := by simp [cds]
        rw [e] at ih
        exact ih
/-! what is accepted has no bad word -/
theorem key_good {w k : List Nat} (h : w = k) (hk : k ≠ [] ∧ 63 ∉ k) : ¬ badW w := by
  subst h; rintro (h | h)
  · exact hk.1 h
  · exact hk.2 h
theorem name_good {w : List Nat} (h : isName w = true) : ¬ badW w := by
  rintro (e | e)
  · subst e; simp [isName] at h
  · exact name_no h 63 e rfl
theorem num_good {w : List Nat} {lo hi : Nat} (h : isNum w lo hi = true) : ¬ badW w := by
  unfold isNum at h
  simp only [Bool.and_eq_true, List.all_eq_true] at h
  rintro (e | e)
  · subst e; simp at h
  · have := h.2.1 63 e; revert this; decide
theorem coup_good : ∀ {n : Nat} {f s : List Nat} {l : List (List Nat)}, coup n f s l = true → ∀ w ∈ l, ¬ badW w
  | n, f, s, [], _ => by simp
  | n, f, s, a :: b :: c :: r, h => by
    unfold coup at h
    simp only [Bool.and_eq_true, decide_eq_true_eq] at h
    obtain ⟨⟨h1, h2, h3, _⟩, _, h4⟩ := h
    intro w hw
    simp only [List.mem_cons] at hw
    rcases hw with rfl | rfl | rfl | hw
    · exact key_good h1 (by decide)
    · exact num_good h2
    · exact num_good h3
    · exact coup_good h4 w hw
  | n, f, s, [_], h => by simp [coup] at h
  | n, f, s, [_, _], h => by simp [coup] at h
theorem race_good {ws : List (List Nat)} (h : isRace ws = true) : ∀ w ∈ ws, ¬ badW w := by
  unfold isRace at h
  split at h
  · rename_i a b r
    simp only [Bool.and_eq_true, decide_eq_true_eq] at h
    intro w hw
    simp only [List.mem_cons] at hw
    rcases hw with rfl | rfl | hw
    · exact key_good h.1 (by decide)
    · exact num_good h.2.1
    · exact coup_good h.2.2.2 w hw
  · cases h
theorem kind_good {w : List Nat} {k : Kind} (h : kindOf w = some k) : ¬ badW w := by
  unfold kindOf at h
  repeat' split at h
  all_goals first | (cases h; done) | exact key_good (by assumption) (by decide)
theorem none_good {w : List Nat} {k : None_} (h : noneOf w = some k) : ¬ badW w := by
  unfold noneOf at h
  repeat' split at h
  all_goals first | (cases h; done) | exact key_good (by assumption) (by decide)
theorem pool_good {ws rs : List (List Nat)} (h : isPool ws rs = true) : ∀ w ∈ ws, ¬ badW w := by
  unfold isPool at h
  rw [Bool.and_eq_true, decide_eq_true_eq] at h
  obtain ⟨hl, h⟩ := h
  match ws, hl with
  | [w0, w1, w2, w3, w4, w5, w6, w7, w8, w9, w10, w11, w12, w13, w14, w15], _ =>
    unfold fixedOk goodKind goodRace goodMoney at h
    simp only [gw, List.getD_cons_zero, List.getD_cons_succ, Bool.and_eq_true, decide_eq_true_eq] at h
    obtain ⟨n1, ⟨f0, f4, f6, f8, f10, f12, f14⟩, hk, ⟨r1, r2⟩, t1, b1, u1, m1⟩ := h
    have m2 : ¬ badW w11 := by
      rw [Bool.or_eq_true] at m1
      rcases m1 with m1 | m1 <;> exact num_good m1
    obtain ⟨g2, g15, g3⟩ : ¬ badW w2 ∧ ¬ badW w15 ∧ ¬ badW w3 := by
      split at hk
      · rename_i kd z e1 e2
        rw [Bool.and_eq_true] at hk
        exact ⟨kind_good e1, none_good e2, num_good hk.2⟩
      · cases hk
    intro w hw
    simp only [List.mem_cons, List.not_mem_nil, or_false] at hw
    rcases hw with rfl | rfl | rfl | rfl | rfl | rfl | rfl | rfl | rfl | rfl | rfl | rfl | rfl | rfl | rfl | rfl
    · exact key_good f0 (by decide)
    · exact name_good n1
    · exact g2
    · exact g3
    · exact key_good f4 (by decide)
    · exact num_good r1
    · exact key_good f6 (by decide)
    · exact num_good t1
    · exact key_good f8 (by decide)
    · exact num_good b1
    · exact key_good f10 (by decide)
    · exact m2
    · exact key_good f12 (by decide)
    · exact num_good u1
    · exact key_good f14 (by decide)
    · exact g15
def isDay (ws : List (List Nat)) : Bool := match ws with
  | [a, b] => decide (a = kDay) && isName b
  | _ => false
theorem day_good {ws : List (List Nat)} (h : isDay ws = true) : ∀ w ∈ ws, ¬ badW w := by
  unfold isDay at h
  split at h
  · rename_i a b
    simp only [Bool.and_eq_true, decide_eq_true_eq] at h
    intro w hw
    simp only [List.mem_cons, List.not_mem_nil, or_false] at hw
    rcases hw with rfl | rfl
    · exact key_good h.1 (by decide)
    · exact name_good h.2
  · cases h
end Tc
end
section
set_option linter.all false
namespace Tc
open Tote
/-! a line, by its words' codes -/
def LS (h : Option Card) (ws : List (List Nat)) (h' : Option Card) : Prop := match h with
  | none => isDay ws = true ∧ h' = some { noCard with name := nm ws }
  | some C => (isRace ws = true ∧ C.pools = [] ∧ C.races.length < 16 ∧ h' = some { C with races := C.races ++ [raceOf ws] }) ∨
      (isPool ws (C.races.map Race.heads) = true ∧ C.races ≠ [] ∧ C.pools.length < 64 ∧ nm ws ∉ C.pools.map (fun p => p.name) ∧ h' = some { C with pools := C.pools ++ [poolOf ws] })
def Few (h : Option Card) : Prop := ∀ C, h = some C → C.races.length ≤ 16
theorem LS.few {h h' : Option Card} {ws : List (List Nat)} (f : Few h) (l : LS h ws h') : Few h' := by
  cases h with
  | none => obtain ⟨_, rfl⟩ := l; intro C e; injection e with e; subst e; simp [noCard]
  | some C =>
    rcases l with ⟨_, _, h3, rfl⟩ | ⟨_, _, _, _, rfl⟩
    · intro C' e; injection e with e; subst e; simp; omega
    · intro C' e; injection e with e; subst e; exact f C rfl
theorem race_head {ws : List (List Nat)} (h : isRace ws = true) : ws.head? = some kRace := by
  unfold isRace at h; split at h
  · simp only [Bool.and_eq_true, decide_eq_true_eq] at h; simp [h.1]
  · cases h
theorem pool_head {ws rs : List (List Nat)} (h : isPool ws rs = true) : ws.head? = some kPool := by
  unfold isPool fixedOk at h
  simp only [Bool.and_eq_true, decide_eq_true_eq] at h
  cases ws with
  | nil => simp at h
  | cons a r => have := h.2.2.1.1; simp [gw] at this; simp [this]
theorem map_ok {α β : Type} {x : Except Fault α} {f : α → β} {b : β} : x.map f = .ok b ↔ ∃ a, x = .ok a ∧ f a = b := by
  cases x with
  | error e => constructor
               · intro h; cases h
               · rintro ⟨a, h, _⟩; cases h
  | ok a => constructor
            · intro h; exact ⟨a, rfl, Except.ok.inj h⟩
            · rintro ⟨a', h, h'⟩; cases h; subst h'; rfl
theorem ebind_ok {α β : Type} {x : Except Fault α} {f : α → Except Fault β} {b : β} : x.bind f = .ok b ↔ ∃ a, x = .ok a ∧ f a = .ok b := bind_ok
theorem next_cons {α : Type} {e : Nat} {a : Word} {l : List Word} {G : Word × List Word → Except Fault α} {b : α} : (∃ y, next e (a :: l) = .ok y ∧ G y = .ok b) ↔ G (a, l) = .ok b := by
  constructor
  · rintro ⟨y, h1, h2⟩; rw [next_ok] at h1; injection h1 with h1 h3; subst h1 h3; exact h2
  · intro q; exact ⟨(a, l), next_ok.mpr rfl, q⟩
theorem line_ok {h h' : Option Card} {x : Line} (f : Few h) : lineIn h x = .ok h' ↔ LS h (x.words.map wc) h' := by
  unfold lineIn
  rw [ebind_ok]
  cases hw : x.words with
  | nil =>
    constructor
    · rintro ⟨a, h1, _⟩; rw [next_ok] at h1; cases h1
    · intro q
      cases h with
      | none => obtain ⟨q, _⟩ := q; cases q
      | some C =>
        rcases q with ⟨q, _⟩ | ⟨q, _⟩
        · cases q
        · have := pool_head q; cases this
  | cons a l =>
    rw [next_cons]
    have ed : a.w = ascii "day" ↔ wc a = kDay := word_iff (by decide) (by decide)
    have er : a.w = ascii "race" ↔ wc a = kRace := word_iff (by decide) (by decide)
    have ep : a.w = ascii "pool" ↔ wc a = kPool := word_iff (by decide) (by decide)
    cases h with
    | none =>
      dsimp only
      simp only [ed]
      unfold LS dayIn
      dsimp only
      constructor
      · intro q
        split at q
        · rename_i hd
          simp only [bind_ok, name_ok, closed_ok, pure_ok] at q
          obtain ⟨n, ⟨w, h1, h2, _, h3⟩, _, h4, h5⟩ := q
          rw [h4] at h1; subst h1
          refine ⟨by simp [isDay, hd, h2], ?_⟩
          rw [← h5, h3]; rfl
        · cases q
      · rintro ⟨q, rfl⟩
        unfold isDay at q
        split at q
        · rename_i b c hq
          simp only [Bool.and_eq_true, decide_eq_true_eq] at q
          match l, hq with
          | [w], hq =>
            simp only [List.map_cons, List.map_nil, List.cons.injEq, and_true] at hq
            obtain ⟨q1, q2⟩ := hq
            subst q1 q2
            rw [if_pos q.1]
            simp only [bind_ok, name_ok, closed_ok, pure_ok]
            exact ⟨(_, []), ⟨w, rfl, q.2, by simp, rfl⟩, (), rfl, rfl⟩
        · cases q
    | some C =>
      have fC := f C rfl
      dsimp only
      simp only [er, ep]
      unfold LS withRace withPool RACES POOLS
      dsimp only
      constructor
      · intro q
        split at q
        · rename_i hr
          split at q
          · cases q
          · rename_i hl
            rw [map_ok] at q
            obtain ⟨R, h1, h2⟩ := q
            rw [race_ok (a := a) hr.1] at h1
            exact .inl ⟨h1.1, hr.2, by omega, by rw [← h2, h1.2]⟩
        · split at q
          · rename_i hr hp
            split at q
            · cases q
            · rename_i hl
              rw [map_ok] at q
              obtain ⟨P, h1, h2⟩ := q
              rw [pool_ok (a := a) hp.1 fC] at h1
              exact .inr ⟨h1.1.1, hp.2, by omega, h1.1.2, by rw [← h2, h1.2]⟩
          · cases q
      · rintro (⟨h1, h2, h3, rfl⟩ | ⟨h1, h2, h3, h4, rfl⟩)
        · have hr : wc a = kRace := by have := race_head h1; simpa using this
          rw [if_pos ⟨hr, h2⟩, if_neg (by omega), map_ok]
          exact ⟨_, (race_ok (a := a) hr).mpr ⟨h1, rfl⟩, rfl⟩
        · have hp : wc a = kPool := by have := pool_head h1; simpa using this
          rw [if_neg (by rw [hp]; intro q; exact absurd q.1 (by decide)), if_pos ⟨hp, h2⟩, if_neg (by omega), map_ok]
          exact ⟨_, (pool_ok (a := a) hp fC).mpr ⟨⟨h1, h4⟩, rfl⟩, rfl⟩
theorem LS.good {h h' : Option Card} {ws : List (List Nat)} (l : LS h ws h') : ∀ w ∈ ws, ¬ badW w := by
  cases h with
  | none => exact day_good l.1
  | some C =>
    rcases l with ⟨h, _⟩ | ⟨h, _⟩
    · exact race_good h
    · exact pool_good h
def Run : Option Card → List (List (List Nat)) → Option Card → Prop
  | h, [], h' => h = h'
  | h, l :: ls, h' => ∃ h1, LS h l h1 ∧ Run h1 ls h'
theorem lines_ok : ∀ (k : Nat) (b : Bytes) (p : Nat) (h h' : Option Card), b.length < k → Few h →
    (linesIn lineIn k p h b = .ok h' ↔ (cut 10 (cds b)).getLastD [] = [] ∧ Run h ((cut 10 (cds b)).dropLast.map (cut 32)) h')
  | 0, b, p, h, h', hk, f => by omega
  | k + 1, b, p, h, h', hk, f => by
    unfold linesIn
    by_cases hb : b = []
    · subst hb
      simp only [List.isEmpty_nil, if_true]
      show Except.ok h = .ok h' ↔ _
      constructor
      · intro q; cases q; exact ⟨rfl, rfl⟩
      · rintro ⟨_, q⟩; rw [show h = h' from q]
    · rw [if_neg (by simpa using hb)]
      cases hu : upTo b with
      | none =>
        have hn := upTo_none hu
        have hc : cut 10 (cds b) = [cds b] := cut_last 10 _ (fun e => hn (ten_cds.mp e))
        rw [hc]
        constructor
        · intro q; cases q
        · rintro ⟨q, _⟩
          have : cds b = [] := q
          exact absurd (by simpa using this) hb
      | some x =>
        obtain ⟨l, r⟩ := x
        obtain ⟨hb2, hl⟩ := upTo_some hu
        subst hb2
        have hc : cut 10 (cds (l ++ 10 :: r)) = cds l :: cut 10 (cds r) := by
          have e : cds (l ++ 10 :: r) = cds l ++ 10 :: cds r := by simp [cds]; decide
          rw [e]; exact cut_hit 10 _ _ (fun e => hl (ten_cds.mp e))
        have e1 : (cds l :: cut 10 (cds r)).getLastD [] = (cut 10 (cds r)).getLastD [] := by
          cases e : cut 10 (cds r) with
          | nil => exact absurd e (cut_ne _ _)
          | cons y t => simp [List.getLastD, List.getLast]
        have e2 : (cds l :: cut 10 (cds r)).dropLast = cds l :: (cut 10 (cds r)).dropLast := by
          cases e : cut 10 (cds r) with
          | nil => exact absurd e (cut_ne _ _)
          | cons y t => rfl
        rw [hc, e1, e2, List.map_cons]
        dsimp only
        cases hbb : badByte true 0 l with
        | some i =>
          constructor
          · intro q; cases q
          · rintro ⟨_, h1, q, _⟩
            obtain ⟨w, hw, hbad⟩ := bad_cut l [] true 0 i (by simp) (by simp) hl hbb
            exact absurd hbad (q.good w hw)
        | none =>
          obtain ⟨hw, _⟩ := wordsFrom_cut l p [] true 0 (by simp) (by simp) hbb
          have hw : (wordsFrom p [] l).map wc = cut 32 (cds l) := hw
          have lk := fun h1 => line_ok (h := h) (h' := h1) (x := ⟨wordsFrom p [] l, p + l.length⟩) f
          simp only [hw] at lk
          dsimp only
          cases hli : lineIn h ⟨wordsFrom p [] l, p + l.length⟩ with
          | error e =>
            constructor
            · intro q; cases q
            · rintro ⟨_, h1, q, _⟩
              have := (lk h1).mpr q; rw [hli] at this; cases this
          | ok h1 =>
            have q1 := (lk h1).mp hli
            dsimp only
            rw [lines_ok k r _ h1 h' (by simp at hk; omega) (q1.few f)]
            constructor
            · rintro ⟨g1, g2⟩; exact ⟨g1, h1, q1, g2⟩
            · rintro ⟨g1, h2, g2, g3⟩
              have := (lk h2).mpr g2; rw [hli] at this; cases this; exact ⟨g1, g3⟩
/-! races, then pools -/
theorem LS.some_ {h' : Option Card} {C : Card} {ws : List (List Nat)} (l : LS (some C) ws h') : ∃ C', h' = some C' := by
  rcases l with ⟨_, _, _, rfl⟩ | ⟨_, _, _, _, rfl⟩ <;> exact ⟨_, rfl⟩
def PoolsOk (ps : List (List (List Nat))) (rs : List (List Nat)) : Prop := (∀ l ∈ ps, isPool l rs = true) ∧ (ps.map nm).Nodup ∧ ps.length ≤ 64
theorem pools_run : ∀ (ps : List (List (List Nat))) (C : Card), C.races ≠ [] → ((∀ l ∈ ps, isPool l (C.races.map Race.heads) = true) ∧ ((C.pools.map (fun p => p.name)) ++ ps.map nm).Nodup ∧ C.pools.length + ps.length ≤ 64) →
    Run (some C) ps (some { C with pools := C.pools ++ ps.map poolOf })
  | [], C, _, _ => by show some C = _; simp
  | l :: ps, C, hr, ⟨h1, h2, h3⟩ => by
    refine ⟨_, .inr ⟨h1 l (by simp), hr, by simp at h3; omega, ?_, rfl⟩, ?_⟩
    · intro hm
      rw [List.map_cons, List.nodup_append] at h2
      exact h2.2.2 _ hm _ (by simp) rfl
    · have := pools_run ps { C with pools := C.pools ++ [poolOf l] } hr ⟨fun x hx => h1 x (by simp [hx]), by
        have e : (C.pools ++ [poolOf l]).map (fun p => p.name) ++ ps.map nm = C.pools.map (fun p => p.name) ++ (l :: ps).map nm := by simp [poolOf]
        show ((C.pools ++ [poolOf l]).map (fun p => p.name) ++ ps.map nm).Nodup
        rw [e]; exact h2, by simp at h3 ⊢; omega⟩
      simpa using this
theorem run_pools : ∀ (ps : List (List (List Nat))) (C C' : Card), C.races ≠ [] → C.pools ≠ [] → (C.pools.map (fun p => p.name)).Nodup → C.pools.length ≤ 64 → Run (some C) ps (some C') →
    (∀ l ∈ ps, isPool l (C.races.map Race.heads) = true) ∧ ((C.pools.map (fun p => p.name)) ++ ps.map nm).Nodup ∧ C.pools.length + ps.length ≤ 64 ∧ C' = { C with pools := C.pools ++ ps.map poolOf }
  | [], C, C', _, _, hn, hl, h => by
    have e : C = C' := Option.some.inj h
    subst e
    exact ⟨by simp, by simpa using hn, by simpa using hl, by simp⟩
  | l :: ps, C, C', hr, hp, hn, hl, h => by
    obtain ⟨h1, q, h⟩ := h
    rcases q with ⟨_, h2, _⟩ | ⟨g1, g2, g3, g4, rfl⟩
    · exact absurd h2 hp
    · have e : (C.pools ++ [poolOf l]).map (fun p => p.name) ++ ps.map nm = C.pools.map (fun p => p.name) ++ (l :: ps).map nm := by simp [poolOf]
      have hn' : ((C.pools ++ [poolOf l]).map (fun p => p.name)).Nodup := by
        rw [List.map_append, List.nodup_append]
        refine ⟨hn, by simp, fun x hx y hy => ?_⟩
        simp at hy; subst hy
        intro e; subst e
        exact g4 (by simpa [poolOf] using hx)
      have ih := run_pools ps { C with pools := C.pools ++ [poolOf l] } C' hr (by simp) hn' (by simp; omega) h
      obtain ⟨i1, i2, i3, i4⟩ := ih
      refine ⟨fun x hx => ?_, ?_, ?_, ?_⟩
      · rcases List.mem_cons.mp hx with rfl | hx
        · exact g1
        · exact i1 x hx
      · rw [← e]; exact i2
      · simp at i3 ⊢; omega
      · rw [i4]; simp
theorem races_run : ∀ (rs ps : List (List (List Nat))) (C : Card) (h' : Option Card), C.pools = [] → (∀ l ∈ rs, isRace l = true) → C.races.length + rs.length ≤ 16 → Run (some { C with races := C.races ++ rs.map raceOf }) ps h' → Run (some C) (rs ++ ps) h'
  | [], ps, C, h', _, _, _, h => by simpa using h
  | l :: rs, ps, C, h', hp, h1, h2, h => by
    refine ⟨_, .inl ⟨h1 l (by simp), hp, by simp at h2; omega, rfl⟩, ?_⟩
    exact races_run rs ps { C with races := C.races ++ [raceOf l] } h' hp (fun x hx => h1 x (by simp [hx])) (by simp at h2 ⊢; omega) (by simpa using h)
theorem run_races : ∀ (ls : List (List (List Nat))) (C C' : Card), C.pools = [] → C.races.length ≤ 16 → Run (some C) ls (some C') →
    ∃ rs ps, ls = rs ++ ps ∧ (∀ l ∈ rs, isRace l = true) ∧ C.races.length + rs.length ≤ 16 ∧ (∀ l ∈ ps, isPool l ((C.races ++ rs.map raceOf).map Race.heads) = true) ∧ (ps.map nm).Nodup ∧ ps.length ≤ 64 ∧
      C' = { C with races := C.races ++ rs.map raceOf, pools := ps.map poolOf }
  | [], C, C', hp, hl, h => by
    have e : C = C' := Option.some.inj h
    subst e
    refine ⟨[], [], rfl, by simp, by simpa using hl, by simp, by simp, by simp, ?_⟩
    cases C; simp at hp ⊢; exact hp
  | l :: ls, C, C', hp, hl, h => by
    obtain ⟨h1, q, h⟩ := h
    rcases q with ⟨g1, _, g3, rfl⟩ | ⟨g1, g2, g3, g4, rfl⟩
    · obtain ⟨rs, ps, i1, i2, i3, i4, i5, i6, i7⟩ := run_races ls { C with races := C.races ++ [raceOf l] } C' hp (by simp; omega) h
      refine ⟨l :: rs, ps, by rw [i1]; rfl, fun x hx => ?_, by simp at i3 ⊢; omega, ?_, i5, i6, ?_⟩
      · rcases List.mem_cons.mp hx with rfl | hx
        · exact g1
        · exact i2 x hx
      · simpa using i4
      · rw [i7]; simp
    · have hq := run_pools ls { C with pools := C.pools ++ [poolOf l] } C' g2 (by simp) (by simp [hp]) (by simp; omega) h
      obtain ⟨i1, i2, i3, i4⟩ := hq
      rw [hp] at i2 i3 i4
      refine ⟨[], l :: ls, rfl, by simp, by simpa using hl, fun x hx => ?_, ?_, ?_, ?_⟩
      · rcases List.mem_cons.mp hx with rfl | hx
        · simpa using g1
        · simpa using i1 x hx
      · simpa [poolOf] using i2
      · simp at i3 ⊢; omega
      · rw [i4]; simp
/-! the interests -/
def secs : List (List Nat) → List Nat
  | _ :: _ :: c :: r => num c :: secs r
  | _ => []
def intz (ws : List (List Nat)) : List Nat := ((List.range (num (gw ws 1))).map fun (i : Nat) => i + 1).filter fun n => !(secs (ws.drop 2)).contains n
theorem cps_mem : ∀ (n : Nat) (f s : List Nat) (had : List (Nat × Nat)) (l : List (List Nat)), coup n f s l = true → (∀ c ∈ had, c.1 < c.2) → (∀ c ∈ cps had l, c.1 < c.2) ∧ ∀ x, (∃ c ∈ cps had l, c.2 = x) ↔ (∃ c ∈ had, c.2 = x) ∨ x ∈ secs l
  | n, f, s, had, [], _, hh => by simp [cps, secs]; exact fun a b h => hh _ h
  | n, f, s, had, a :: b :: c :: r, h, hh => by
    unfold coup at h
    simp only [Bool.and_eq_true, decide_eq_true_eq] at h
    obtain ⟨⟨_, _, _, h1⟩, _, h2⟩ := h
    have ih := cps_mem n _ _ (putB (num b, num c) had) r h2 (by
      intro q hq; rcases mem_putB.mp hq with hq | hq
      · subst hq; exact h1
      · exact hh q hq)
    refine ⟨ih.1, fun x => ?_⟩
    show (∃ q ∈ cps (putB (num b, num c) had) r, q.2 = x) ↔ _ ∨ x ∈ num c :: secs r
    rw [ih.2 x, List.mem_cons]
    constructor
    · rintro (⟨q, h3, h4⟩ | h3)
      · rcases mem_putB.mp h3 with h3 | h3
        · subst h3; exact .inr (.inl h4.symm)
        · exact .inl ⟨q, h3, h4⟩
      · exact .inr (.inr h3)
    · rintro (⟨q, h3, h4⟩ | h3 | h3)
      · exact .inl ⟨q, mem_putB.mpr (.inr h3), h4⟩
      · exact .inl ⟨_, mem_putB.mpr (.inl rfl), h3.symm⟩
      · exact .inr h3
  | n, f, s, had, [_], h, _ => by simp [coup] at h
  | n, f, s, had, [_, _], h, _ => by simp [coup] at h
theorem heads_ints {ws : List (List Nat)} (h : isRace ws = true) : (raceOf ws).heads = intz ws := by
  unfold isRace at h
  split at h
  · rename_i a b r
    simp only [Bool.and_eq_true, decide_eq_true_eq] at h
    obtain ⟨_, _, _, h⟩ := h
    obtain ⟨c1, c2⟩ := cps_mem (num b) [] [] [] r h (by simp)
    unfold Race.heads intz raceOf
    show List.filter _ ((List.range (num b)).map _) = List.filter _ ((List.range (num b)).map _)
    apply List.filter_congr
    intro n hn
    show (Race.head ⟨num b, cps [] r⟩ n == n) = !(secs r).contains n
    unfold Race.head
    dsimp only
    cases e : (cps [] r).find? (fun (c : Nat × Nat) => c.2 == n) with
    | none =>
      have : n ∉ secs r := by
        intro hm
        obtain ⟨c, hc, h2⟩ := (c2 n).mpr (.inr hm)
        rw [List.find?_eq_none] at e
        exact e c hc (by simp [h2])
      simp [this]
    | some c =>
      have hc := List.mem_of_find?_eq_some e
      have h2 : c.2 = n := by simpa using List.find?_some e
      have : n ∈ secs r := by
        rcases (c2 n).mp ⟨c, hc, h2⟩ with ⟨q, hq, _⟩ | h
        · simp at hq
        · exact h
      have h1 := c1 c hc
      have hne : c.1 ≠ n := by omega
      simp [this, hne]
  · cases h
/-! the whole card -/
def raceL (ls : List (List (List Nat))) : List (List (List Nat)) := ls.filter fun ws => decide (gw ws 0 = kRace)
def poolL (ls : List (List (List Nat))) : List (List (List Nat)) := ls.filter fun ws => decide (gw ws 0 = kPool)
def laid (ls : List (List (List Nat))) : Bool := match ls with
  | [] => false
  | d :: r => isDay d && (decide (r = raceL ls ++ poolL ls) && (decide (1 ≤ (raceL ls).length) && (decide ((raceL ls).length ≤ 16) && decide ((poolL ls).length ≤ 64))))
def isCard (ls : List (List (List Nat))) : Bool := laid ls && ((raceL ls).all isRace && ((poolL ls).all (fun ws => isPool ws ((raceL ls).map intz)) && decide (((poolL ls).map fun ws => gw ws 1).Nodup)))
theorem gw_head {ws : List (List Nat)} {k : List Nat} (hk : k ≠ []) : gw ws 0 = k ↔ ws.head? = some k := by
  cases ws with
  | nil => simp [gw]; exact fun e => hk e
  | cons a r => simp [gw]
theorem day_head {ws : List (List Nat)} (h : isDay ws = true) : gw ws 0 = kDay := by
  unfold isDay at h; split at h
  · simp only [Bool.and_eq_true, decide_eq_true_eq] at h; simp [gw, h.1]
  · cases h
theorem filter_of {d : List (List Nat)} {rs ps : List (List (List Nat))} {rr : List (List Nat)} (hd : isDay d = true) (hr : ∀ l ∈ rs, isRace l = true) (hp : ∀ l ∈ ps, isPool l rr = true) : raceL (d :: (rs ++ ps)) = rs ∧ poolL (d :: (rs ++ ps)) = ps := by
  have dd := day_head hd
  have er : ∀ l ∈ rs, gw l 0 = kRace := fun l hl => (gw_head (by decide)).mpr (race_head (hr l hl))
  have ep : ∀ l ∈ ps, gw l 0 = kPool := fun l hl => (gw_head (by decide)).mpr (pool_head (hp l hl))
  unfold raceL poolL
  constructor
  · rw [List.filter_cons, if_neg (by rw [dd]; decide), List.filter_append, List.filter_eq_self.mpr (fun l hl => decide_eq_true (er l hl)), List.filter_eq_nil_iff.mpr (fun l hl => by rw [ep l hl]; decide), List.append_nil]
  · rw [List.filter_cons, if_neg (by rw [dd]; decide), List.filter_append, List.filter_eq_nil_iff.mpr (fun l hl => by rw [er l hl]; decide), List.filter_eq_self.mpr (fun l hl => decide_eq_true (ep l hl)), List.nil_append]
theorem nm_inj {a b : List Nat} (ha : isName a = true) (hb : isName b = true) (h : a.map UInt8.ofNat = b.map UInt8.ofNat) : a = b := by
  have key : ∀ l : List Nat, isName l = true → (l.map UInt8.ofNat).map UInt8.toNat = l := by
    intro l hl
    rw [List.map_map]
    conv => rhs; rw [← List.map_id l]
    apply List.map_congr_left
    intro c hc
    unfold isName at hl
    simp only [Bool.and_eq_true, List.all_eq_true] at hl
    have := hl.2.2.1 c hc
    unfold lt dg at this; simp at this
    show (UInt8.ofNat c).toNat = c
    rw [UInt8.toNat_ofNat']; omega
  rw [← key a ha, ← key b hb, h]
theorem nodup_names : ∀ {ps : List (List (List Nat))} {rs : List (List Nat)}, (∀ l ∈ ps, isPool l rs = true) → ((ps.map nm).Nodup ↔ (ps.map fun ws => gw ws 1).Nodup)
  | [], rs, _ => by simp
  | l :: ps, rs, h => by
    rw [List.map_cons, List.map_cons, List.nodup_cons, List.nodup_cons, nodup_names (fun x hx => h x (by simp [hx]))]
    have nmOk : ∀ x ∈ l :: ps, isName (gw x 1) = true := by
      intro x hx; have := h x hx; unfold isPool at this; simp only [Bool.and_eq_true] at this; exact this.2.1
    have e : nm l ∈ ps.map nm ↔ gw l 1 ∈ ps.map fun ws => gw ws 1 := by
      simp only [List.mem_map]
      constructor
      · rintro ⟨x, hx, e⟩; exact ⟨x, hx, nm_inj (nmOk x (by simp [hx])) (nmOk l (by simp)) e⟩
      · rintro ⟨x, hx, e⟩; exact ⟨x, hx, by unfold nm; rw [e]⟩
    rw [e]
theorem map_heads {rs : List (List (List Nat))} (h : ∀ l ∈ rs, isRace l = true) : (rs.map raceOf).map Race.heads = rs.map intz := by
  rw [List.map_map]; apply List.map_congr_left; intro l hl; exact heads_ints (h l hl)
theorem card_ok {b : Bytes} {C : Card} (h : readCard b = .ok C) : isCard (linesOf (cds b)) = true ∧ C.races = (raceL (linesOf (cds b))).map raceOf ∧ C.pools = (poolL (linesOf (cds b))).map poolOf := by
  unfold readCard at h
  cases e : linesIn lineIn (b.length + 1) 0 none b with
  | error _ => rw [e] at h; cases h
  | ok o =>
    rw [e] at h
    cases o with
    | none => cases h
    | some C' =>
      dsimp only at h
      split at h
      · cases h
      · rename_i hr
        cases h
        rw [lines_ok _ _ _ _ _ (Nat.lt_succ_self _) (by intro _ q; cases q)] at e
        obtain ⟨e1, e2⟩ := e
        have el : linesOf (cds b) = (cut 10 (cds b)).dropLast.map (cut 32) := by unfold linesOf; rw [if_pos e1]
        rw [← el] at e2
        cases hls : linesOf (cds b) with
        | nil => rw [hls] at e2; cases e2
        | cons d ls =>
          rw [hls] at e2
          obtain ⟨h1, ⟨hd, rfl⟩, e2⟩ := e2
          obtain ⟨rs, ps, i1, i2, i3, i4, i5, i6, i7⟩ := run_races ls _ _ (by simp [noCard]) (by simp [noCard]) e2
          simp only [noCard, List.nil_append, List.length_nil, Nat.zero_add] at i3 i4 i7
          rw [map_heads i2] at i4
          obtain ⟨f1, f2⟩ := filter_of hd i2 i4
          rw [← i1] at f1 f2
          subst i7
          refine ⟨?_, by rw [f1], by rw [f2]⟩
          unfold isCard laid
          dsimp only
          rw [f1, f2]
          simp only [hd, Bool.and_eq_true, decide_eq_true_eq, List.all_eq_true, true_and]
          refine ⟨⟨i1, ?_, i3, i6⟩, i2, i4, (nodup_names i4).mp i5⟩
          cases rs with
          | nil => simp at hr
          | cons _ _ => simp
theorem ok_card {b : Bytes} (h : isCard (linesOf (cds b)) = true) : ∃ C, readCard b = .ok C := by
  unfold isCard laid at h
  cases hls : linesOf (cds b) with
  | nil => rw [hls] at h; simp at h
  | cons d ls =>
    rw [hls] at h
    simp only [Bool.and_eq_true, decide_eq_true_eq, List.all_eq_true] at h
    obtain ⟨⟨hd, hls2, h1, h16, h64⟩, hr, hp, hn⟩ := h
    generalize raceL (d :: ls) = rs at *
    generalize poolL (d :: ls) = ps at *
    have e1 : (cut 10 (cds b)).getLastD [] = [] := by
      unfold linesOf at hls; split at hls
      · assumption
      · cases hls
    have el : linesOf (cds b) = (cut 10 (cds b)).dropLast.map (cut 32) := by unfold linesOf; rw [if_pos e1]
    have hne : rs.map raceOf ≠ [] := by
      intro e; have : rs.length = 0 := by simpa using e
      omega
    have run : Run none (linesOf (cds b)) (some { name := nm d, races := rs.map raceOf, pools := ps.map poolOf }) := by
      rw [hls]
      refine ⟨_, ⟨hd, rfl⟩, ?_⟩
      rw [hls2]
      refine races_run rs ps _ _ (by simp [noCard]) hr (by simpa [noCard] using h16) ?_
      have := pools_run ps { name := nm d, races := rs.map raceOf, pools := [] } hne ⟨by
        show ∀ l ∈ ps, isPool l ((rs.map raceOf).map Race.heads) = true
        rw [map_heads hr]; exact hp, by simpa using (nodup_names hp).mpr hn, by simpa using h64⟩
      simpa [noCard] using this
    rw [el] at run
    have := (lines_ok (b.length + 1) b 0 none _ (Nat.lt_succ_self _) (by intro _ q; cases q)).mpr ⟨e1, run⟩
    refine ⟨{ name := nm d, races := rs.map raceOf, pools := ps.map poolOf }, ?_⟩
    unfold readCard
    rw [this]
    dsimp only
    rw [if_neg hne]
end Tc
end
section
set_option linter.all false
namespace Tc
open Tote
abbrev codes (ns : List Int) : List Nat := ns.map fun z => sgn z.toNat
theorem cds_text : ∀ {ns : List Int}, (∀ z ∈ ns, 0 ≤ z ∧ z ≤ 255) → cds (ComboNeutral.text ns) = codes ns
  | [], _ => rfl
  | z :: ns, h => by
    have ih := cds_text (ns := ns) (fun x hx => h x (by simp [hx]))
    have hz := h z (by simp)
    show cd (UInt8.ofNat z.toNat) :: cds (ComboNeutral.text ns) = sgn z.toNat :: codes ns
    rw [ih]
    unfold cd
    rw [UInt8.toNat_ofNat']
    congr 2
    omega
theorem text_len (ns : List Int) : (ComboNeutral.text ns).length = ns.length := by simp [ComboNeutral.text, ComboNeutral.nats]
/-- a pool's sets, by its line and the races' interests -/
def setsOf (ws : List (List Nat)) (rr : List (List Nat)) : List (List Nat) := (rr.drop (num (gw ws 5) - 1)).take (if gw ws 2 = kLegs then num (gw ws 3) else 1)
theorem range_take {α : Type} (d : α) (l : List α) : ∀ (n a : Nat), a + n ≤ l.length → (List.range n).map (fun i => l.getD (a + i) d) = (l.drop a).take n
  | 0, a, h => by simp
  | n + 1, a, h => by
    have ha : a < l.length := by omega
    rw [List.range_succ_eq_map, List.map_cons, List.map_map, List.drop_eq_getElem_cons ha, List.take_succ_cons]
    have ih := range_take d l n (a + 1) (by omega)
    rw [← ih]
    congr 1
    · simp [List.getD_eq_getElem?_getD, List.getElem?_eq_getElem ha]
    · apply List.map_congr_left; intro i _; show l.getD (a + (i + 1)) d = l.getD (a + 1 + i) d; congr 1; omega
theorem kind_some {ws : List (List Nat)} {rr : List (List Nat)} (h : isPool ws rr = true) : ∃ kd z, kindOf (gw ws 2) = some kd ∧ noneOf (gw ws 15) = some z := by
  unfold isPool goodKind at h
  simp only [Bool.and_eq_true] at h
  have := h.2.2.2.1
  split at this
  · rename_i kd z h1 h2; exact ⟨kd, z, h1, h2⟩
  · cases this
theorem poolOf_legs {ws : List (List Nat)} {rr : List (List Nat)} (h : isPool ws rr = true) : (poolOf ws).legs = if gw ws 2 = kLegs then num (gw ws 3) else 1 := by
  obtain ⟨kd, z, h1, h2⟩ := kind_some h
  unfold Pool.legs poolOf
  dsimp only
  rw [h1]
  have := kind_legs h1
  by_cases hk : gw ws 2 = kLegs
  · rw [if_pos hk, if_pos (by exact this.mpr hk)]
  · rw [if_neg hk, if_neg (by exact fun q => hk (this.mp q))]
theorem headsOf_eq {C : Card} {rs : List (List (List Nat))} (hr : ∀ l ∈ rs, isRace l = true) (h : C.races = rs.map raceOf) (i : Nat) : C.headsOf i = (rs.map intz).getD (i - 1) [] := by
  unfold Card.headsOf
  rw [h, List.getD_eq_getElem?_getD, List.getElem?_map, List.getElem?_map]
  cases e : rs[i - 1]? with
  | none => rfl
  | some l => simp [heads_ints (hr l (List.mem_of_getElem? e))]
theorem sets_eq {C : Card} {rs : List (List (List Nat))} {ws : List (List Nat)} (hr : ∀ l ∈ rs, isRace l = true) (h : C.races = rs.map raceOf) (hp : isPool ws (rs.map intz) = true) : C.sets (poolOf ws) = setsOf ws (rs.map intz) := by
  unfold Card.sets setsOf
  rw [poolOf_legs hp]
  have hp2 := hp
  unfold isPool goodRace at hp2
  simp only [Bool.and_eq_true] at hp2
  obtain ⟨r1, r2⟩ := hp2.2.2.2.2.1
  have rb := isNum_bd r1
  rw [List.length_map] at rb r2
  have hb : num (gw ws 5) - 1 + (if gw ws 2 = kLegs then num (gw ws 3) else 1) ≤ (rs.map intz).length := by
    rw [List.length_map]
    split
    · rename_i hk; rw [if_pos hk, decide_eq_true_eq] at r2; omega
    · omega
  rw [← range_take [] _ _ _ hb]
  apply List.map_congr_left
  intro i _
  rw [headsOf_eq hr h]
  show (rs.map intz).getD (num (gw ws 5) + i - 1) [] = _
  congr 1
  omega
/-- what is answered of a pool, by its line and the races -/
def ofText (ns : List Int) (pool : Nat) (g : List (List Nat) → List (List Nat) → List Int) : List Int :=
  if 65536 < ns.length then [-2] else if isCard (linesOf (codes ns)) = true then
    match (poolL (linesOf (codes ns)))[pool]? with
    | none => [-4]
    | some ws => g ws ((raceL (linesOf (codes ns))).map intz)
  else [-6]
def shown (a : ToteComboCalls.Ans) : List Int := a.code :: a.nums.map fun (n : Nat) => (n : Int)
theorem ofPool_eq {ns : List Int} {pool : Nat} {f : Card → Pool → ToteComboCalls.Ans} {g : List (List Nat) → List (List Nat) → List Int} (hb : ∀ z ∈ ns, 0 ≤ z ∧ z ≤ 255)
    (hg : ∀ (C : Card) (rs : List (List (List Nat))) (ws : List (List Nat)), (∀ l ∈ rs, isRace l = true) → C.races = rs.map raceOf → isPool ws (rs.map intz) = true → shown (f C (poolOf ws)) = g ws (rs.map intz)) :
    shown (ToteComboCalls.ofPool (ComboNeutral.text ns) pool f) = ofText ns pool g := by
  unfold ToteComboCalls.ofPool ofText TEXT
  rw [text_len]
  by_cases hl : 65536 < ns.length
  · rw [if_pos hl, if_pos hl]; rfl
  · rw [if_neg hl, if_neg hl]
    by_cases hc : isCard (linesOf (codes ns)) = true
    · rw [if_pos hc]
      have hc2 : isCard (linesOf (cds (ComboNeutral.text ns))) = true := by rw [cds_text hb]; exact hc
      obtain ⟨C, hC⟩ := ok_card hc2
      obtain ⟨_, hr, hp⟩ := card_ok hC
      rw [cds_text hb] at hr hp
      rw [hC]
      dsimp only
      rw [hp, List.getElem?_map]
      unfold isCard at hc
      simp only [Bool.and_eq_true, List.all_eq_true] at hc
      cases e : (poolL (linesOf (codes ns)))[pool]? with
      | none => rfl
      | some ws =>
        exact hg C _ ws hc.2.1 hr (hc.2.2.1 ws (List.mem_of_getElem? e))
    · rw [if_neg hc]
      cases e : readCard (ComboNeutral.text ns) with
      | error _ => rfl
      | ok C => have := (card_ok e).1; rw [cds_text hb] at this; exact absurd this hc
def setsAns (l : List (List Nat)) : List Int := 0 :: (l.length : Int) :: l.flatMap fun s => (s.length : Int) :: s.map fun (n : Nat) => (n : Int)
theorem shown_sets (l : List (List Nat)) : shown (ToteComboCalls.tells (l.length :: l.flatMap fun (s : List Nat) => s.length :: s)) = setsAns l := by
  unfold shown ToteComboCalls.tells setsAns
  dsimp only
  rw [List.map_cons, List.map_flatMap]
  rfl
theorem sets_ans {ns : List Int} {pool : Int} (hb : ∀ z ∈ ns, 0 ≤ z ∧ z ≤ 255) : PyWqaqck.sets pool ns = ofText ns pool.toNat fun ws rr => setsAns (setsOf ws rr) := by
  show shown (ToteComboCalls.ofPool (ComboNeutral.text ns) pool.toNat _) = _
  refine ofPool_eq hb fun C rs ws hr h hp => ?_
  rw [sets_eq hr h hp]
  exact shown_sets _
end Tc
end
section
set_option linter.all false
namespace Tc
open Tote
theorem orders_zero (n : Nat) : orders n 0 = 1 := by cases n <;> rfl
theorem orders_ss (n k : Nat) : orders (n + 1) (k + 1) = (n + 1) * orders n k := rfl
theorem orders_zs (k : Nat) : orders 0 (k + 1) = 0 := rfl
theorem orders_step : ∀ (k n : Nat), orders n (k + 1) = orders n k * (n - k)
  | 0, 0 => rfl
  | 0, n + 1 => by rw [orders_ss, orders_zero, orders_zero]; omega
  | k + 1, 0 => by rw [orders_zs, orders_zs]; omega
  | k + 1, n + 1 => by
    rw [orders_ss, orders_step k n, orders_ss, Nat.mul_assoc]
    congr 2
    omega
theorem orders_gt : ∀ (k n : Nat), n < k → orders n k = 0
  | 0, n, h => by omega
  | k + 1, 0, _ => rfl
  | k + 1, n + 1, h => by rw [orders_ss, orders_gt k n (by omega)]; rfl
theorem fact_pos : ∀ k : Nat, 0 < orders k k
  | 0 => by decide
  | k + 1 => by rw [orders_ss]; exact Nat.mul_pos (by omega) (fact_pos k)
def bin : Nat → Nat → Nat
  | _, 0 => 1
  | 0, _ + 1 => 0
  | n + 1, k + 1 => bin n k + bin n (k + 1)
theorem bin_zero (n : Nat) : bin n 0 = 1 := by cases n <;> rfl
theorem bin_ss (n k : Nat) : bin (n + 1) (k + 1) = bin n k + bin n (k + 1) := rfl
theorem bin_fact : ∀ (n k : Nat), bin n k * orders k k = orders n k
  | n, 0 => by rw [bin_zero, orders_zero, orders_zero]
  | 0, k + 1 => by rw [orders_zs]; show 0 * _ = 0; omega
  | n + 1, k + 1 => by
    rw [bin_ss, Nat.add_mul, bin_fact n (k + 1), orders_ss k k, orders_ss n k, orders_step]
    have h := bin_fact n k
    have e : bin n k * ((k + 1) * orders k k) = (k + 1) * orders n k := by rw [← h, Nat.mul_left_comm]
    rw [e, Nat.mul_comm (orders n k), ← Nat.add_mul]
    by_cases hk : k ≤ n
    · congr 1; omega
    · rw [orders_gt k n (by omega)]; omega
theorem choose_bin (n k : Nat) : choose n k = bin n k := by
  unfold choose
  rw [← bin_fact, Nat.mul_div_cancel _ (fact_pos k)]
theorem bin_step (n k : Nat) : bin n (k + 1) * (k + 1) = bin n k * (n - k) := by
  have h1 := bin_fact n (k + 1)
  have h2 := bin_fact n k
  rw [orders_step k n, ← h2, orders_ss] at h1
  have e1 : bin n (k + 1) * ((k + 1) * orders k k) = (bin n (k + 1) * (k + 1)) * orders k k := by rw [Nat.mul_assoc]
  have e2 : bin n k * orders k k * (n - k) = bin n k * (n - k) * orders k k := by rw [Nat.mul_right_comm]
  rw [e1, e2] at h1
  exact Nat.eq_of_mul_eq_mul_right (fact_pos k) h1
theorem bin_gt {n k : Nat} (h : n < k) : bin n k = 0 := by
  have h1 := bin_fact n k
  rw [orders_gt k n h] at h1
  rcases Nat.mul_eq_zero.mp h1 with h2 | h2
  · exact h2
  · have := fact_pos k; omega
/-- one turn of the loop that counts sets -/
theorem bin_turn (n i : Nat) : ((bin n i : Nat) : Int) * ((n : Int) - ((0 : Int) + (i : Nat))) / (((0 : Int) + (i : Nat)) + 1) = ((bin n (i + 1) : Nat) : Int) := by
  have hs := bin_step n i
  by_cases hi : i ≤ n
  · have e : ((n : Int) - ((0 : Int) + (i : Nat))) = ((n - i : Nat) : Int) := by omega
    have e2 : (((0 : Int) + (i : Nat)) + 1) = ((i + 1 : Nat) : Int) := by omega
    rw [e, e2, ← Int.natCast_mul, ← hs, ← Int.natCast_ediv, Nat.mul_div_cancel _ (by omega)]
  · rw [bin_gt (show n < i by omega), bin_gt (show n < i + 1 by omega)]
    simp
theorem orders_turn (n i : Nat) : ((orders n i : Nat) : Int) * ((n : Int) - ((0 : Int) + (i : Nat))) = ((orders n (i + 1) : Nat) : Int) := by
  rw [orders_step]
  by_cases hi : i ≤ n
  · have e : ((n : Int) - ((0 : Int) + (i : Nat))) = ((n - i : Nat) : Int) := by omega
    rw [e, Int.natCast_mul]
  · rw [orders_gt i n (by omega)]; simp
end Tc
end
section
set_option linter.all false
namespace Tc
open Tote
/-! combinations, as the program counts them -/
def fol (kd : Kind) (ls : List (List Nat)) (b : List Nat) : List Nat := match kd with
  | .order => (ls.headD []).filter fun x => !b.contains x
  | .any => (ls.headD []).filter fun x => decide (b.length = 0) || decide (b.getLastD 0 < x)
  | _ => ls.getD b.length []
def lenOf (kd : Kind) (k : Nat) : Nat := if kd = .place then 1 else k
def prod (ls : List (List Nat)) : Nat := ls.foldl (fun a s => a * s.length) 1
def cnt (kd : Kind) (k : Nat) (ls : List (List Nat)) (b : List Nat) : Nat := match kd with
  | .order => orders (fol kd ls b).length (lenOf kd k - b.length)
  | .any => bin (fol kd ls b).length (lenOf kd k - b.length)
  | _ => prod (ls.drop b.length)
/-- a pool's sets as they can be -/
structure WF (kd : Kind) (k : Nat) (ls : List (List Nat)) : Prop where
  k1 : 1 ≤ k
  k6 : k ≤ 6
  len : ls.length = if kd = .legs then k else 1
  small : ∀ s ∈ ls, s.length ≤ 24
  asc : ∀ s ∈ ls, s.Pairwise (· < ·)
  bd : ∀ s ∈ ls, ∀ x ∈ s, x ≤ 24
  few : kd ≠ .legs → kd ≠ .place → k ≤ 4
def kdOf (ws : List (List Nat)) : Kind := (kindOf (gw ws 2)).getD .place
abbrev kOf (ws : List (List Nat)) : Nat := num (gw ws 3)
theorem prod_map : ∀ (ls : List (List Nat)) (a : Nat), ls.foldl (fun a s => a * s.length) a = (ls.map List.length).foldl (fun (a b : Nat) => a * b) a
  | [], _ => rfl
  | s :: r, a => by rw [List.foldl_cons, List.map_cons, List.foldl_cons, prod_map r]
theorem prod_eq (ls : List (List Nat)) : prod ls = product (ls.map List.length) := prod_map ls 1
theorem prod_foldl : ∀ (ls : List (List Nat)) (a : Nat), ls.foldl (fun a s => a * s.length) a = a * prod ls
  | [], a => by simp [prod]
  | s :: r, a => by
    show r.foldl _ (a * s.length) = a * r.foldl _ (1 * s.length)
    rw [prod_foldl r, prod_foldl r (1 * s.length), Nat.one_mul, Nat.mul_assoc]
theorem prod_nil : prod [] = 1 := rfl
theorem prod_cons (s : List Nat) (r : List (List Nat)) : prod (s :: r) = s.length * prod r := by
  show r.foldl _ (1 * s.length) = _
  rw [prod_foldl, Nat.one_mul]
theorem many_cnt {C : Card} {p : Pool} {ls : List (List Nat)} (h : C.sets p = ls) (hw : WF p.kind p.k ls) : C.many p = cnt p.kind p.k ls [] := by
  unfold Card.many
  rw [h]
  have h1 := hw.len
  cases hk : p.kind with
  | place =>
    rw [hk] at h1
    match ls, h1 with
    | [s], _ => show s.length = prod [s]; rw [prod_cons, prod_nil, Nat.mul_one]
  | order =>
    show orders _ _ = orders (fol .order ls []).length (p.k - 0)
    have e : fol .order ls [] = ls.headD [] := by
      show (ls.headD []).filter _ = _
      exact List.filter_eq_self.mpr (fun x _ => by simp)
    rw [e]; rfl
  | any =>
    show choose _ _ = bin (fol .any ls []).length (p.k - 0)
    have e : fol .any ls [] = ls.headD [] := by
      show (ls.headD []).filter _ = _
      exact List.filter_eq_self.mpr (fun x _ => by simp)
    rw [e, choose_bin]; rfl
  | legs =>
    show product (ls.map List.length) = prod (ls.drop 0)
    rw [List.drop_zero, prod_eq]
/-- what stands in a pool's line -/
theorem ints_asc (ws : List (List Nat)) : (intz ws).Pairwise (· < ·) := by
  unfold intz
  refine List.Pairwise.filter _ ?_
  rw [List.pairwise_map]
  exact List.pairwise_lt_range.imp (by intro a b h; omega)
theorem ints_bd {ws : List (List Nat)} (h : isRace ws = true) : (intz ws).length ≤ 24 ∧ ∀ x ∈ intz ws, x ≤ 24 := by
  have hb : num (gw ws 1) ≤ 24 := by
    match ws, h with
    | a :: b :: r, h =>
      unfold isRace at h
      simp only [Bool.and_eq_true] at h
      exact (isNum_bd h.2.1).2
  constructor
  · unfold intz
    refine Nat.le_trans (List.length_filter_le _ _) ?_
    rw [List.length_map, List.length_range]
    exact hb
  · intro x hx
    unfold intz at hx
    obtain ⟨i, hi, rfl⟩ := List.mem_map.mp (List.mem_filter.mp hx).1
    have := List.mem_range.mp hi
    omega
theorem wf_pool {ws : List (List Nat)} {rs : List (List (List Nat))} (hr : ∀ l ∈ rs, isRace l = true) (hp : isPool ws (rs.map intz) = true) : WF (kdOf ws) (kOf ws) (setsOf ws (rs.map intz)) := by
  have hp2 := hp
  unfold isPool goodKind goodRace at hp2
  simp only [Bool.and_eq_true] at hp2
  obtain ⟨kd, z, h1, h2⟩ := kind_some hp
  have hk := hp2.2.2.2.1
  rw [h1, h2] at hk
  simp only [Bool.and_eq_true] at hk
  have hkb := isNum_bd hk.2
  obtain ⟨r1, r2⟩ := hp2.2.2.2.2.1
  have rb := isNum_bd r1
  have ekd : kdOf ws = kd := by unfold kdOf; rw [h1]; rfl
  have hleg := kind_legs h1
  have hmem : ∀ s ∈ setsOf ws (rs.map intz), ∃ l ∈ rs, s = intz l := fun s hs => by
    obtain ⟨l, h3, h4⟩ := List.mem_map.mp (List.mem_of_mem_drop (List.mem_of_mem_take hs))
    exact ⟨l, h3, h4.symm⟩
  have hlen : (setsOf ws (rs.map intz)).length = if kd = .legs then num (gw ws 3) else 1 := by
    unfold setsOf
    rw [List.length_take, List.length_drop]
    by_cases hl : gw ws 2 = kLegs
    · rw [if_pos hl] at r2 ⊢
      rw [if_pos (hleg.mpr hl)]
      have := of_decide_eq_true r2
      omega
    · rw [if_neg hl, if_neg (fun e => hl (hleg.mp e))]
      omega
  rw [ekd]
  refine ⟨?_, ?_, hlen, fun s hs => ?_, fun s hs => ?_, fun s hs => ?_, fun a b => ?_⟩
  · have : 1 ≤ leastK kd := by cases kd <;> decide
    show 1 ≤ num (gw ws 3)
    omega
  · have : mostK kd ≤ 6 := by cases kd <;> decide
    show num (gw ws 3) ≤ 6
    omega
  · obtain ⟨l, h3, rfl⟩ := hmem s hs; exact (ints_bd (hr l h3)).1
  · obtain ⟨l, h3, rfl⟩ := hmem s hs; exact ints_asc l
  · obtain ⟨l, h3, rfl⟩ := hmem s hs; exact (ints_bd (hr l h3)).2
  · have : mostK kd ≤ 4 := by cases kd <;> first | decide | exact absurd rfl a
    show num (gw ws 3) ≤ 4
    omega
def manyAns (n : Nat) : List Int := [0, (n : Int)]
theorem many_ans {ns : List Int} {pool : Int} (hb : ∀ z ∈ ns, 0 ≤ z ∧ z ≤ 255) : PyWqaqck.many pool ns = ofText ns pool.toNat fun ws rr => manyAns (cnt (kdOf ws) (kOf ws) (setsOf ws rr) []) := by
  show shown (ToteComboCalls.ofPool (ComboNeutral.text ns) pool.toNat _) = _
  refine ofPool_eq hb fun C rs ws hr h hp => ?_
  show shown (ToteComboCalls.tells [C.many (poolOf ws)]) = _
  rw [many_cnt (sets_eq hr h hp) (wf_pool hr hp)]
  rfl
end Tc
end
section
set_option linter.all false
namespace Tc
open Tote
/-! a rising list, parted at one of its items -/
theorem part_at {av : List Nat} (h : av.Pairwise (· < ·)) {x : Nat} (hx : x ∈ av) : ∃ l1 l2, av = l1 ++ x :: l2 ∧ (∀ y ∈ l1, y < x) ∧ (∀ y ∈ l2, x < y) := by
  obtain ⟨l1, l2, rfl⟩ := List.append_of_mem hx
  rw [List.pairwise_append] at h
  refine ⟨l1, l2, rfl, fun y hy => h.2.2 y hy x (by simp), fun y hy => ?_⟩
  exact (List.pairwise_cons.mp h.2.1).1 y hy
theorem part_lt {l1 l2 : List Nat} {x : Nat} (h1 : ∀ y ∈ l1, y < x) (h2 : ∀ y ∈ l2, x < y) : (l1 ++ x :: l2).filter (fun y => decide (y < x)) = l1 := by
  rw [List.filter_append, List.filter_eq_self.mpr (fun y hy => decide_eq_true (h1 y hy)), List.filter_cons, if_neg (by simp), List.filter_eq_nil_iff.mpr (fun y hy => by have := h2 y hy; simp; omega), List.append_nil]
theorem part_gt {l1 l2 : List Nat} {x : Nat} (h1 : ∀ y ∈ l1, y < x) (h2 : ∀ y ∈ l2, x < y) : (l1 ++ x :: l2).filter (fun y => decide (x < y)) = l2 := by
  rw [List.filter_append, List.filter_eq_nil_iff.mpr (fun y hy => by have := h1 y hy; simp; omega), List.filter_cons, if_neg (by simp), List.filter_eq_self.mpr (fun y hy => decide_eq_true (h2 y hy)), List.nil_append]
theorem part_ne {l1 l2 : List Nat} {x : Nat} (h1 : ∀ y ∈ l1, y < x) (h2 : ∀ y ∈ l2, x < y) : (l1 ++ x :: l2).filter (fun y => !(y == x)) = l1 ++ l2 := by
  rw [List.filter_append, List.filter_eq_self.mpr (fun y hy => by have := h1 y hy; simp; omega), List.filter_cons, if_neg (by simp), List.filter_eq_self.mpr (fun y hy => by have := h2 y hy; simp; omega)]
theorem part_idx {l1 l2 : List Nat} {x : Nat} (h1 : ∀ y ∈ l1, y < x) : (l1 ++ x :: l2).findIdx (fun y => y == x) = l1.length := by
  induction l1 with
  | nil => simp [List.findIdx_cons]
  | cons a l ih =>
    have ha := h1 a (by simp)
    rw [List.cons_append, List.findIdx_cons]
    have e : (a == x) = false := by simp; omega
    rw [e, ih fun y hy => h1 y (by simp [hy])]
    simp
theorem part_erase {l1 l2 : List Nat} {x : Nat} (h1 : ∀ y ∈ l1, y < x) : (l1 ++ x :: l2).erase x = l1 ++ l2 := by
  rw [List.erase_append_right _ (fun hm => by have := h1 x hm; omega), List.erase_cons_head]
theorem foldl_add : ∀ (l : List Nat) (a : Nat), l.foldl (fun (a b : Nat) => a + b) a = a + l.sum
  | [], a => by simp
  | x :: r, a => by rw [List.foldl_cons, foldl_add r, List.sum_cons]; omega
theorem sum_const {α : Type} (c : Nat) (f : α → Nat) : ∀ (l : List α), (∀ y ∈ l, f y = c) → (l.map f).sum = l.length * c
  | [], _ => by simp
  | x :: r, h => by
    rw [List.map_cons, List.sum_cons, sum_const c f r fun y hy => h y (by simp [hy]), h x (by simp), List.length_cons, Nat.add_mul]
    omega
/-! the number of a row, as the program counts it; which rows are combinations -/
def sb (kd : Kind) (k : Nat) (ls : List (List Nat)) : List Nat → List Nat → Nat
  | _, [] => 0
  | b, x :: r => (((fol kd ls b).filter fun y => decide (y < x)).map fun y => cnt kd k ls (b ++ [y])).sum + sb kd k ls (b ++ [x]) r
def ckB (kd : Kind) (ls : List (List Nat)) : List Nat → List Nat → Bool
  | _, [] => true
  | b, x :: r => (fol kd ls b).contains x && ckB kd ls (b ++ [x]) r
theorem mem_head {kd : Kind} {k : Nat} {ls : List (List Nat)} (hw : WF kd k ls) (hk : kd ≠ .legs) : ls = [ls.headD []] := by
  have h := hw.len
  rw [if_neg hk] at h
  match ls, h with
  | [s], _ => rfl
theorem head_asc {kd : Kind} {k : Nat} {ls : List (List Nat)} (hw : WF kd k ls) : (ls.headD []).Pairwise (· < ·) := by
  cases ls with
  | nil => simp
  | cons s r => exact hw.asc s (by simp)
theorem fol_asc {kd : Kind} {k : Nat} {ls : List (List Nat)} (hw : WF kd k ls) (b : List Nat) : (fol kd ls b).Pairwise (· < ·) := by
  cases kd with
  | order => exact List.Pairwise.filter _ (head_asc hw)
  | any => exact List.Pairwise.filter _ (head_asc hw)
  | place =>
    show (ls.getD b.length []).Pairwise (· < ·)
    rw [List.getD_eq_getElem?_getD]
    cases e : ls[b.length]? with
    | none => simp
    | some s => exact hw.asc s (List.mem_of_getElem? e)
  | legs =>
    show (ls.getD b.length []).Pairwise (· < ·)
    rw [List.getD_eq_getElem?_getD]
    cases e : ls[b.length]? with
    | none => simp
    | some s => exact hw.asc s (List.mem_of_getElem? e)
theorem fol_order_snoc (ls : List (List Nat)) (b : List Nat) (x : Nat) : fol .order ls (b ++ [x]) = (fol .order ls b).filter fun y => !(y == x) := by
  show (ls.headD []).filter _ = ((ls.headD []).filter _).filter _
  rw [List.filter_filter]
  apply List.filter_congr
  intro y _
  rw [List.contains_append]
  cases h1 : b.contains y <;> cases h2 : (y == x) <;> simp_all [List.contains_cons]
theorem fol_any_snoc (ls : List (List Nat)) (b : List Nat) (x : Nat) : fol .any ls (b ++ [x]) = (ls.headD []).filter fun y => decide (x < y) := by
  show (ls.headD []).filter _ = _
  apply List.filter_congr
  intro y _
  simp
theorem fol_any_gt {ls : List (List Nat)} {b : List Nat} {x : Nat} (hx : x ∈ fol .any ls b) : fol .any ls (b ++ [x]) = (fol .any ls b).filter fun y => decide (x < y) := by
  rw [fol_any_snoc]
  show _ = ((ls.headD []).filter _).filter _
  rw [List.filter_filter]
  apply List.filter_congr
  intro y _
  have h := (List.mem_filter.mp hx).2
  simp only [Bool.or_eq_true, decide_eq_true_eq] at h
  by_cases hxy : x < y
  · simp only [hxy, decide_true, Bool.true_and]
    rw [eq_comm, Bool.or_eq_true, decide_eq_true_eq, decide_eq_true_eq]
    rcases h with h | h
    · exact .inl h
    · exact .inr (by omega)
  · simp [hxy]
theorem ckB_cons {kd : Kind} {ls : List (List Nat)} {b : List Nat} {x : Nat} {r : List Nat} (h : ckB kd ls b (x :: r) = true) : x ∈ fol kd ls b ∧ ckB kd ls (b ++ [x]) r = true := by
  unfold ckB at h
  rw [Bool.and_eq_true] at h
  exact ⟨List.contains_iff_mem.mp h.1, h.2⟩
theorem cnt_order {k : Nat} {ls : List (List Nat)} {b : List Nat} {x : Nat} (hw : WF .order k ls) (hx : x ∈ fol .order ls b) : cnt .order k ls (b ++ [x]) = orders ((fol .order ls b).length - 1) (k - (b.length + 1)) := by
  show orders (fol .order ls (b ++ [x])).length (k - (b ++ [x]).length) = _
  obtain ⟨l1, l2, e, h1, h2⟩ := part_at (fol_asc hw b) hx
  rw [fol_order_snoc, e, part_ne h1 h2]
  simp only [List.length_append, List.length_cons, List.length_nil]
  congr 1
theorem rank_order {k : Nat} {ls : List (List Nat)} (hw : WF .order k ls) : ∀ (row b : List Nat), ckB .order ls b row = true → b.length + row.length = k → rankOrder (fol .order ls b) row = sb .order k ls b row
  | [], _, _, _ => rfl
  | x :: r, b, hc, hl => by
    obtain ⟨hx, hr⟩ := ckB_cons hc
    have ih := rank_order hw r (b ++ [x]) hr (by simp at hl ⊢; omega)
    obtain ⟨l1, l2, e, h1, h2⟩ := part_at (fol_asc hw b) hx
    have hsum := sum_const (orders ((fol .order ls b).length - 1) (k - (b.length + 1))) (fun y => cnt .order k ls (b ++ [y])) ((fol .order ls b).filter fun y => decide (y < x)) (fun y hy => cnt_order hw (List.mem_filter.mp hy).1)
    unfold sb
    rw [hsum, ← ih, fol_order_snoc]
    show (fol .order ls b).findIdx _ * orders ((fol .order ls b).length - 1) r.length + rankOrder ((fol .order ls b).erase x) r = _
    rw [e, part_idx h1, part_lt h1 h2, part_ne h1 h2, part_erase h1]
    have : k - (b.length + 1) = r.length := by simp at hl; omega
    rw [this]
theorem sum_any (m : Nat) (x : Nat) (l2 : List Nat) : ∀ (l1 : List Nat), (l1 ++ x :: l2).Pairwise (· < ·) →
    (l1.map fun y => bin ((l1 ++ x :: l2).filter fun z => decide (y < z)).length m).sum = ((List.range l1.length).map fun (j : Nat) => choose ((l1 ++ x :: l2).length - 1 - j) m).foldl (fun (a b : Nat) => a + b) 0
  | [], _ => rfl
  | y :: l1, h => by
    rw [List.cons_append] at h
    obtain ⟨h1, h2⟩ := List.pairwise_cons.mp h
    have ih := sum_any m x l2 l1 h2
    rw [foldl_add, Nat.zero_add] at ih ⊢
    rw [List.map_cons, List.sum_cons, List.length_cons, List.range_succ_eq_map, List.map_cons, List.sum_cons, List.map_map]
    congr 1
    · rw [choose_bin, List.cons_append, List.filter_cons, if_neg (by simp), List.filter_eq_self.mpr (fun z hz => decide_eq_true (h1 z hz))]
      simp
    · have e : (l1.map fun y' => bin (((y :: l1) ++ x :: l2).filter fun z => decide (y' < z)).length m) = l1.map fun y' => bin ((l1 ++ x :: l2).filter fun z => decide (y' < z)).length m := by
        apply List.map_congr_left
        intro y' hy'
        have : y < y' := h1 y' (by simp [hy'])
        rw [List.cons_append, List.filter_cons, if_neg (by simp; omega)]
      rw [e, ih]
      congr 1
      apply List.map_congr_left
      intro j _
      show choose _ m = choose _ m
      congr 1
      simp only [List.length_append, List.length_cons]
      omega
theorem rank_any {k : Nat} {ls : List (List Nat)} (hw : WF .any k ls) : ∀ (row b : List Nat), ckB .any ls b row = true → b.length + row.length = k → rankAny (fol .any ls b) row = sb .any k ls b row
  | [], _, _, _ => rfl
  | x :: r, b, hc, hl => by
    obtain ⟨hx, hr⟩ := ckB_cons hc
    have ih := rank_any hw r (b ++ [x]) hr (by simp at hl ⊢; omega)
    have hasc := fol_asc hw b
    obtain ⟨l1, l2, e, h1, h2⟩ := part_at hasc hx
    have hk : k - (b.length + 1) = r.length := by simp at hl; omega
    have em : (((fol .any ls b).filter fun y => decide (y < x)).map fun y => cnt .any k ls (b ++ [y])) = l1.map fun y => bin ((l1 ++ x :: l2).filter fun z => decide (y < z)).length r.length := by
      rw [e, part_lt h1 h2]
      apply List.map_congr_left
      intro y hy
      show bin (fol .any ls (b ++ [y])).length (k - (b ++ [y]).length) = _
      rw [fol_any_gt (by rw [e]; simp [hy]), e]
      congr 1
      simp only [List.length_append, List.length_cons, List.length_nil]
      exact hk
    unfold sb
    rw [em, sum_any r.length x l2 l1 (by rw [← e]; exact hasc), ← ih, fol_any_gt hx]
    show ((List.range ((fol .any ls b).findIdx fun y => y == x)).map fun (j : Nat) => choose ((fol .any ls b).length - 1 - j) r.length).foldl (fun (a b : Nat) => a + b) 0 + rankAny ((fol .any ls b).drop (((fol .any ls b).findIdx fun y => y == x) + 1)) r = _
    rw [e, part_idx h1, part_gt h1 h2]
    congr 2
    rw [List.drop_append, List.drop_eq_nil_of_le (by omega), List.nil_append]
    have : l1.length + 1 - l1.length = 1 := by omega
    rw [this]
    rfl
theorem rank_legs {k : Nat} {ls : List (List Nat)} (hw : WF .legs k ls) : ∀ (row b : List Nat), ckB .legs ls b row = true → b.length + row.length = k → rankLegs (ls.drop b.length) row = sb .legs k ls b row
  | [], b, _, _ => by unfold sb; cases ls.drop b.length <;> rfl
  | x :: r, b, hc, hl => by
    obtain ⟨hx, hr⟩ := ckB_cons hc
    have ih := rank_legs hw r (b ++ [x]) hr (by simp at hl ⊢; omega)
    have hlen := hw.len
    rw [if_pos rfl] at hlen
    have hbl : b.length < ls.length := by simp at hl; omega
    have ed : ls.drop b.length = fol .legs ls b :: ls.drop (b.length + 1) := by
      rw [List.drop_eq_getElem_cons hbl]
      congr 1
      show _ = ls.getD b.length []
      rw [List.getD_eq_getElem?_getD, List.getElem?_eq_getElem hbl]
      rfl
    obtain ⟨l1, l2, e, h1, h2⟩ := part_at (fol_asc hw b) hx
    have hsum := sum_const (prod (ls.drop (b.length + 1))) (fun y => cnt .legs k ls (b ++ [y])) ((fol .legs ls b).filter fun y => decide (y < x)) (fun y hy => by
      show prod (ls.drop (b ++ [y]).length) = _
      rw [List.length_append]; rfl)
    unfold sb
    rw [hsum, ← ih, ed]
    show (fol .legs ls b).findIdx _ * product ((ls.drop (b.length + 1)).map List.length) + rankLegs (ls.drop (b.length + 1)) r = _
    rw [← prod_eq, e, part_idx h1, part_lt h1 h2]
    congr 2
    simp
theorem rank_place {k : Nat} {ls : List (List Nat)} (hw : WF .place k ls) {row : List Nat} (hc : ckB .place ls [] row = true) (hl : row.length = 1) : rankOrder (ls.headD []) row = sb .place k ls [] row := by
  match row, hl with
  | [x], _ =>
    obtain ⟨hx, _⟩ := ckB_cons hc
    have els := mem_head hw (by decide)
    have ef : fol .place ls [] = ls.headD [] := by rw [els]; rfl
    obtain ⟨l1, l2, e, h1, h2⟩ := part_at (fol_asc hw []) hx
    have hsum := sum_const 1 (fun y => cnt .place k ls ([] ++ [y])) ((fol .place ls []).filter fun y => decide (y < x)) (fun y hy => by
      show prod (ls.drop 1) = 1
      rw [els]; rfl)
    unfold sb
    rw [hsum, ← ef]
    show (fol .place ls []).findIdx _ * orders _ 0 + 0 = _ + 0
    rw [orders_zero, e, part_idx h1, part_lt h1 h2]
end Tc
end
section
set_option linter.all false
namespace Tc
open Tote
/-! the row with a number, as the program finds it -/
/-- the first of ys below whose count the rest of n lies; the rest -/
def pick (f : Nat → Nat) : List Nat → Nat → Option (Nat × Nat)
  | [], _ => none
  | y :: r, n => if n < f y then some (y, n) else pick f r (n - f y)
def rowG (kd : Kind) (k : Nat) (ls : List (List Nat)) : Nat → List Nat → Nat → List Nat
  | 0, _, _ => []
  | d + 1, b, n => match pick (fun y => cnt kd k ls (b ++ [y])) (fol kd ls b) n with
    | none => []
    | some (y, m) => y :: rowG kd k ls d (b ++ [y]) m
theorem pick_const (f : Nat → Nat) (z : Nat) (hz : 0 < z) : ∀ (l : List Nat) (n : Nat), (∀ y ∈ l, f y = z) → n < l.length * z → pick f l n = some (l.getD (n / z) 0, n % z)
  | [], n, _, h => by simp at h
  | y :: r, n, hf, h => by
    have hy := hf y (by simp)
    unfold pick
    rw [hy]
    by_cases hn : n < z
    · rw [if_pos hn, Nat.div_eq_of_lt hn, Nat.mod_eq_of_lt hn]
      rfl
    · rw [if_neg hn]
      have h2 : n - z < r.length * z := by rw [List.length_cons, Nat.add_mul] at h; omega
      have e1 : n / z = (n - z) / z + 1 := Nat.div_eq_sub_div hz (by omega)
      have e2 : n % z = (n - z) % z := Nat.mod_eq_sub_mod (by omega)
      rw [pick_const f z hz r (n - z) (fun y hy => hf y (by simp [hy])) h2, e1, e2]
      rfl
theorem getD_mem {l : List Nat} {i : Nat} (h : i < l.length) : l.getD i 0 ∈ l := by
  rw [List.getD_eq_getElem?_getD, List.getElem?_eq_getElem h]
  exact List.getElem_mem h
theorem row_order {k : Nat} {ls : List (List Nat)} (hw : WF .order k ls) : ∀ (d : Nat) (b : List Nat) (n : Nat), b.length + d = k → n < cnt .order k ls b → rowOrder d (fol .order ls b) n = rowG .order k ls d b n
  | 0, _, _, _, _ => rfl
  | d + 1, b, n, hb, hn => by
    have hc : cnt .order k ls b = orders (fol .order ls b).length (d + 1) := by
      show orders _ (k - b.length) = _
      congr 1
      omega
    rw [hc] at hn
    cases ha : (fol .order ls b).length with
    | zero => rw [ha] at hn; simp [orders_zs] at hn
    | succ m =>
      rw [ha, orders_ss] at hn
      have hz : 0 < orders m d := by
        rcases Nat.eq_zero_or_pos (orders m d) with e | e
        · rw [e] at hn; simp at hn
        · exact e
      have hf : ∀ y ∈ fol .order ls b, cnt .order k ls (b ++ [y]) = orders m d := fun y hy => by
        rw [cnt_order hw hy, ha]
        congr 1
        omega
      have hp := pick_const (fun y => cnt .order k ls (b ++ [y])) (orders m d) hz (fol .order ls b) n hf (by rw [ha]; exact hn)
      have hi : n / orders m d < (fol .order ls b).length := by rw [ha]; exact Nat.div_lt_of_lt_mul (by rw [Nat.mul_comm]; exact hn)
      have hx := getD_mem hi
      unfold rowG
      rw [hp]
      show (fol .order ls b).getD (n / orders ((fol .order ls b).length - 1) d) 0 :: rowOrder d ((fol .order ls b).erase ((fol .order ls b).getD (n / orders ((fol .order ls b).length - 1) d) 0)) (n % orders ((fol .order ls b).length - 1) d) = _
      have e1 : (fol .order ls b).length - 1 = m := by omega
      rw [e1]
      dsimp only
      congr 1
      obtain ⟨l1, l2, e, h1, h2⟩ := part_at (fol_asc hw b) hx
      have ef : (fol .order ls b).erase ((fol .order ls b).getD (n / orders m d) 0) = fol .order ls (b ++ [(fol .order ls b).getD (n / orders m d) 0]) := by
        rw [fol_order_snoc]
        generalize (fol .order ls b).getD (n / orders m d) 0 = x at e h1 h2 ⊢
        rw [e, part_erase h1, part_ne h1 h2]
      rw [ef]
      exact row_order hw d _ _ (by rw [List.length_append]; simp; omega) (by rw [hf _ hx]; exact Nat.mod_lt _ hz)
theorem row_legs {k : Nat} {ls : List (List Nat)} (hw : WF .legs k ls) : ∀ (d : Nat) (b : List Nat) (n : Nat), b.length + d = k → n < cnt .legs k ls b → rowLegs (ls.drop b.length) n = rowG .legs k ls d b n
  | 0, b, n, hb, _ => by
    have hl := hw.len
    rw [if_pos rfl] at hl
    rw [List.drop_eq_nil_of_le (by omega)]
    rfl
  | d + 1, b, n, hb, hn => by
    have hl := hw.len
    rw [if_pos rfl] at hl
    have hbl : b.length < ls.length := by omega
    have ed : ls.drop b.length = fol .legs ls b :: ls.drop (b.length + 1) := by
      rw [List.drop_eq_getElem_cons hbl]
      congr 1
      show _ = ls.getD b.length []
      rw [List.getD_eq_getElem?_getD, List.getElem?_eq_getElem hbl]
      rfl
    have hc : cnt .legs k ls b = (fol .legs ls b).length * prod (ls.drop (b.length + 1)) := by
      show prod (ls.drop b.length) = _
      rw [ed, prod_cons]
    rw [hc] at hn
    have hz : 0 < prod (ls.drop (b.length + 1)) := by
      rcases Nat.eq_zero_or_pos (prod (ls.drop (b.length + 1))) with e | e
      · rw [e] at hn; simp at hn
      · exact e
    have hf : ∀ y ∈ fol .legs ls b, cnt .legs k ls (b ++ [y]) = prod (ls.drop (b.length + 1)) := fun y _ => by
      show prod (ls.drop (b ++ [y]).length) = _
      rw [List.length_append]; rfl
    have hp := pick_const (fun y => cnt .legs k ls (b ++ [y])) _ hz (fol .legs ls b) n hf hn
    have hi : n / prod (ls.drop (b.length + 1)) < (fol .legs ls b).length := Nat.div_lt_of_lt_mul (by rw [Nat.mul_comm]; exact hn)
    have hx := getD_mem hi
    unfold rowG
    rw [hp, ed]
    show (fol .legs ls b).getD (n / product ((ls.drop (b.length + 1)).map List.length)) 0 :: rowLegs (ls.drop (b.length + 1)) (n % product ((ls.drop (b.length + 1)).map List.length)) = _
    rw [← prod_eq]
    dsimp only
    congr 1
    have e2 := row_legs hw d (b ++ [(fol .legs ls b).getD (n / prod (ls.drop (b.length + 1))) 0]) (n % prod (ls.drop (b.length + 1))) (by rw [List.length_append]; simp; omega) (by rw [hf _ hx]; exact Nat.mod_lt _ hz)
    rw [← e2, List.length_append]
    rfl
/-- rowAny without its fuel -/
def rowA : Nat → List Nat → Nat → List Nat
  | _, [], _ => []
  | 0, _ :: _, _ => []
  | j + 1, x :: r, n => if n < choose r.length j then x :: rowA j r n else rowA (j + 1) r (n - choose r.length j)
theorem rowA_zero (l : List Nat) (n : Nat) : rowA 0 l n = [] := by cases l <;> rfl
theorem rowAny_A : ∀ (f j : Nat) (l : List Nat) (n : Nat), l.length < f → rowAny f j l n = rowA j l n
  | 0, _, _, _, h => by omega
  | f + 1, 0, l, n, _ => by rw [rowA_zero]; rfl
  | f + 1, j + 1, [], n, _ => rfl
  | f + 1, j + 1, x :: r, n, h => by
    have h1 := rowAny_A f j r n (by simp at h; omega)
    have h2 := rowAny_A f (j + 1) r (n - choose r.length j) (by simp at h; omega)
    show (if n < choose r.length j then x :: rowAny f j r n else rowAny f (j + 1) r (n - choose r.length j)) = if n < choose r.length j then x :: rowA j r n else rowA (j + 1) r (n - choose r.length j)
    rw [h1, h2]
theorem pick_congr {f g : Nat → Nat} : ∀ (l : List Nat) (n : Nat), (∀ y ∈ l, f y = g y) → pick f l n = pick g l n
  | [], _, _ => rfl
  | y :: r, n, h => by
    unfold pick
    rw [h y (by simp), pick_congr r _ fun z hz => h z (by simp [hz])]
theorem pick_mem {f : Nat → Nat} : ∀ {l : List Nat} {n y m : Nat}, pick f l n = some (y, m) → y ∈ l ∧ m < f y
  | [], _, _, _, h => by cases h
  | x :: r, n, y, m, h => by
    unfold pick at h
    split at h
    · cases h; exact ⟨by simp, by assumption⟩
    · have := pick_mem h; exact ⟨by simp [this.1], this.2⟩
theorem rowA_pick (j : Nat) : ∀ (l : List Nat) (n : Nat), l.Pairwise (· < ·) → rowA (j + 1) l n = match pick (fun y => bin (l.filter fun z => decide (y < z)).length j) l n with
    | none => []
    | some (y, m) => y :: rowA j (l.filter fun z => decide (y < z)) m
  | [], _, _ => rfl
  | x :: r, n, h => by
    obtain ⟨h1, h2⟩ := List.pairwise_cons.mp h
    have ih := rowA_pick j r (n - choose r.length j) h2
    have ex : (x :: r).filter (fun z => decide (x < z)) = r := by
      rw [List.filter_cons, if_neg (by simp), List.filter_eq_self.mpr (fun z hz => decide_eq_true (h1 z hz))]
    have ey : ∀ y ∈ r, (x :: r).filter (fun z => decide (y < z)) = r.filter fun z => decide (y < z) := fun y hy => by
      have := h1 y hy
      rw [List.filter_cons, if_neg (by simp; omega)]
    show (if n < choose r.length j then x :: rowA j r n else rowA (j + 1) r (n - choose r.length j)) = _
    unfold pick
    rw [ex, ← choose_bin]
    by_cases hn : n < choose r.length j
    · rw [if_pos hn, if_pos hn]
      dsimp only
      rw [ex]
    · rw [if_neg hn, if_neg hn, ih, pick_congr r _ (f := fun y => bin ((x :: r).filter fun z => decide (y < z)).length j) (g := fun y => bin (r.filter fun z => decide (y < z)).length j) (fun y hy => by rw [ey y hy])]
      cases hp : pick (fun y => bin (r.filter fun z => decide (y < z)).length j) r (n - choose r.length j) with
      | none => rfl
      | some q =>
        obtain ⟨y, m⟩ := q
        dsimp only
        rw [ey y (pick_mem hp).1]
theorem row_any {k : Nat} {ls : List (List Nat)} (hw : WF .any k ls) : ∀ (d : Nat) (b : List Nat) (n : Nat), b.length + d = k → rowA d (fol .any ls b) n = rowG .any k ls d b n
  | 0, _, _, _ => by rw [rowA_zero]; rfl
  | d + 1, b, n, hb => by
    rw [rowA_pick d _ n (fol_asc hw b)]
    unfold rowG
    have hf : ∀ y ∈ fol .any ls b, bin ((fol .any ls b).filter fun z => decide (y < z)).length d = cnt .any k ls (b ++ [y]) := fun y hy => by
      show _ = bin (fol .any ls (b ++ [y])).length (k - (b ++ [y]).length)
      rw [fol_any_gt hy]
      congr 1
      rw [List.length_append]
      simp
      omega
    rw [pick_congr _ n hf]
    cases hp : pick (fun y => cnt .any k ls (b ++ [y])) (fol .any ls b) n with
    | none => rfl
    | some q =>
      obtain ⟨y, m⟩ := q
      have hy := (pick_mem hp).1
      dsimp only
      rw [← fol_any_gt hy, row_any hw d (b ++ [y]) m (by rw [List.length_append]; simp; omega)]
theorem combo_row {C : Card} {p : Pool} {ls : List (List Nat)} (h : C.sets p = ls) (hw : WF p.kind p.k ls) {n : Nat} (hn : n < cnt p.kind p.k ls []) : C.comboOf p n = rowG p.kind p.k ls (lenOf p.kind p.k) [] n := by
  unfold Card.comboOf
  rw [h]
  cases hk : p.kind with
  | place =>
    rw [hk] at hw hn
    have els := mem_head hw (by decide)
    have ef : fol .place ls [] = ls.headD [] := by rw [els]; rfl
    have hc : cnt .place p.k ls [] = (ls.headD []).length * 1 := by
      show prod ls = _
      rw [els, prod_cons, prod_nil]; rfl
    rw [hc] at hn
    have hp := pick_const (fun y => cnt .place p.k ls ([] ++ [y])) 1 (by decide) (fol .place ls []) n (fun y _ => by show prod (ls.drop 1) = 1; rw [els]; rfl) (by rw [ef]; exact hn)
    show _ = rowG .place p.k ls 1 [] n
    unfold rowG
    rw [hp, ef]
    show (ls.headD []).getD (n / orders ((ls.headD []).length - 1) 0) 0 :: [] = _
    rw [orders_zero]
    rfl
  | order =>
    rw [hk] at hw hn
    have e : fol .order ls [] = ls.headD [] := List.filter_eq_self.mpr (fun x _ => by simp)
    have := row_order hw p.k [] n (by simp) hn
    rw [e] at this
    exact this
  | any =>
    rw [hk] at hw hn
    have e : fol .any ls [] = ls.headD [] := List.filter_eq_self.mpr (fun x _ => by simp)
    have h24 : (ls.headD []).length ≤ 24 := by
      cases ls with
      | nil => simp
      | cons s r => exact hw.small s (by simp)
    have := row_any hw p.k [] n (by simp)
    rw [e] at this
    show rowAny (RUNNERS + 1) p.k (ls.headD []) n = _
    rw [rowAny_A _ _ _ _ (by show _ < 25; omega)]
    exact this
  | legs =>
    rw [hk] at hw hn
    exact row_legs hw p.k [] n (by simp) hn
def ofAns (kd : Kind) (k : Nat) (ls : List (List Nat)) (n : Nat) : List Int := if cnt kd k ls [] ≤ n then [-1] else 0 :: (rowG kd k ls (lenOf kd k) [] n).map fun (m : Nat) => (m : Int)
theorem of_ans {ns : List Int} {pool n : Int} (hb : ∀ z ∈ ns, 0 ≤ z ∧ z ≤ 255) : PyWqaqck.of pool n ns = ofText ns pool.toNat fun ws rr => ofAns (kdOf ws) (kOf ws) (setsOf ws rr) n.toNat := by
  show shown (ToteComboCalls.ofPool (ComboNeutral.text ns) pool.toNat _) = _
  refine ofPool_eq hb fun C rs ws hr h hp => ?_
  have hs := sets_eq hr h hp
  have hw : WF (poolOf ws).kind (poolOf ws).k (setsOf ws (rs.map intz)) := wf_pool hr hp
  have e1 := many_cnt (p := poolOf ws) hs hw
  unfold ofAns
  have ek : cnt (kdOf ws) (kOf ws) (setsOf ws (rs.map intz)) [] = cnt (poolOf ws).kind (poolOf ws).k (setsOf ws (rs.map intz)) [] := rfl
  by_cases hc : cnt (poolOf ws).kind (poolOf ws).k (setsOf ws (rs.map intz)) [] ≤ n.toNat
  · rw [ek, if_pos hc, if_pos (by rw [e1]; exact hc)]
    rfl
  · rw [ek, if_neg hc, if_neg (by rw [e1]; exact hc), combo_row (p := poolOf ws) hs hw (by omega)]
    rfl
/-! every number below how many there are finds its row -/
theorem pick_some {f : Nat → Nat} : ∀ (l : List Nat) (n : Nat), n < (l.map f).sum → ∃ y m, pick f l n = some (y, m)
  | [], n, h => by simp at h
  | x :: r, n, h => by
    unfold pick
    by_cases hn : n < f x
    · exact ⟨x, n, if_pos hn⟩
    · rw [if_neg hn]
      exact pick_some r (n - f x) (by rw [List.map_cons, List.sum_cons] at h; omega)
end Tc
end
section
set_option linter.all false
namespace Tc
open Tote
/-- the sets without a runner -/
def wo (r : Nat) (ls : List (List Nat)) : List (List Nat) := ls.map fun s => s.filter fun x => !decide (x = r)
/-- how many combinations begin so and have the runner in them -/
def cw (kd : Kind) (k : Nat) (ls : List (List Nat)) : Option Nat → List Nat → Int
  | none, b => (cnt kd k ls b : Nat)
  | some r, b => if b.contains r = true then (cnt kd k ls b : Nat) else (cnt kd k ls b : Nat) - ((cnt kd k (wo r ls) b : Nat) : Int)
def sbw (kd : Kind) (k : Nat) (ls : List (List Nat)) (rn : Option Nat) : List Nat → List Nat → Int
  | _, [] => 0
  | b, x :: r => (((fol kd ls b).filter fun y => decide (y < x)).map fun y => cw kd k ls rn (b ++ [y])).sum + sbw kd k ls rn (b ++ [x]) r
theorem WF.wo {kd : Kind} {k : Nat} {ls : List (List Nat)} (h : WF kd k ls) (r : Nat) : WF kd k (wo r ls) := by
  have hm : ∀ s ∈ Tc.wo r ls, ∃ t ∈ ls, s = t.filter fun x => !decide (x = r) := fun s hs => by
    obtain ⟨t, h1, h2⟩ := List.mem_map.mp hs
    exact ⟨t, h1, h2.symm⟩
  refine ⟨h.k1, h.k6, by unfold Tc.wo; rw [List.length_map]; exact h.len, fun s hs => ?_, fun s hs => ?_, fun s hs => ?_, h.few⟩
  · obtain ⟨t, ht, rfl⟩ := hm s hs
    exact Nat.le_trans (List.length_filter_le _ _) (h.small t ht)
  · obtain ⟨t, ht, rfl⟩ := hm s hs
    exact List.Pairwise.filter _ (h.asc t ht)
  · obtain ⟨t, ht, rfl⟩ := hm s hs
    exact fun x hx => h.bd t ht x (List.mem_filter.mp hx).1
theorem sum_cast : ∀ (l : List Nat), ((l.sum : Nat) : Int) = (l.map fun (n : Nat) => (n : Int)).sum
  | [] => rfl
  | x :: r => by rw [List.sum_cons, List.map_cons, List.sum_cons, Int.natCast_add, sum_cast r]
theorem sbw_none (kd : Kind) (k : Nat) (ls : List (List Nat)) : ∀ (row b : List Nat), sbw kd k ls none b row = (sb kd k ls b row : Nat)
  | [], _ => rfl
  | x :: r, b => by
    unfold sbw sb
    rw [sbw_none kd k ls r (b ++ [x]), Int.natCast_add, sum_cast, List.map_map]
    rfl
end Tc
end
section
set_option linter.all false
namespace Tc
open Tote
def pickI (f : Nat → Int) : List Nat → Int → Option (Nat × Int)
  | [], _ => none
  | y :: r, n => if n < f y then some (y, n) else pickI f r (n - f y)
def rowW (kd : Kind) (k : Nat) (ls : List (List Nat)) (rn : Option Nat) : Nat → List Nat → Int → List Nat
  | 0, _, _ => []
  | d + 1, b, n => match pickI (fun y => cw kd k ls rn (b ++ [y])) (fol kd ls b) n with
    | none => []
    | some (y, m) => y :: rowW kd k ls rn d (b ++ [y]) m
theorem pickI_cast (g : Nat → Nat) : ∀ (l : List Nat) (n : Nat), pickI (fun y => ((g y : Nat) : Int)) l (n : Nat) = (pick g l n).map fun q => (q.1, (q.2 : Int))
  | [], _ => rfl
  | y :: r, n => by
    unfold pickI pick
    by_cases h : n < g y
    · rw [if_pos (by omega), if_pos h]; rfl
    · rw [if_neg (by omega), if_neg h]
      have e : ((n : Nat) : Int) - ((g y : Nat) : Int) = ((n - g y : Nat) : Int) := by omega
      rw [e]
      exact pickI_cast g r (n - g y)
theorem rowW_none (kd : Kind) (k : Nat) (ls : List (List Nat)) : ∀ (d : Nat) (b : List Nat) (n : Nat), rowW kd k ls none d b (n : Nat) = rowG kd k ls d b n
  | 0, _, _ => rfl
  | d + 1, b, n => by
    unfold rowW rowG
    have e := pickI_cast (fun y => cnt kd k ls (b ++ [y])) (fol kd ls b) n
    have e2 : (fun y => cw kd k ls none (b ++ [y])) = fun y => ((cnt kd k ls (b ++ [y]) : Nat) : Int) := rfl
    rw [e2, e]
    cases pick (fun y => cnt kd k ls (b ++ [y])) (fol kd ls b) n with
    | none => rfl
    | some q =>
      obtain ⟨y, m⟩ := q
      show y :: rowW kd k ls none d (b ++ [y]) (m : Nat) = y :: rowG kd k ls d (b ++ [y]) m
      rw [rowW_none kd k ls d (b ++ [y]) m]
/-! how many begin so: the sum over what may follow -/
theorem sum_bin (d : Nat) : ∀ (l : List Nat), l.Pairwise (· < ·) → (l.map fun y => bin (l.filter fun z => decide (y < z)).length d).sum = bin l.length (d + 1)
  | [], _ => rfl
  | x :: r, h => by
    obtain ⟨h1, h2⟩ := List.pairwise_cons.mp h
    have ih := sum_bin d r h2
    rw [List.map_cons, List.sum_cons, List.length_cons, bin_ss, List.filter_cons, if_neg (by simp), List.filter_eq_self.mpr (fun z hz => decide_eq_true (h1 z hz)), ← ih]
    congr 2
    apply List.map_congr_left
    intro y hy
    have := h1 y hy
    rw [List.filter_cons, if_neg (by simp; omega)]
theorem cnt_sum {kd : Kind} {k : Nat} {ls : List (List Nat)} (hw : WF kd k ls) {b : List Nat} (hb : b.length < lenOf kd k) : cnt kd k ls b = ((fol kd ls b).map fun y => cnt kd k ls (b ++ [y])).sum := by
  have leg : ∀ (h : kd = .place ∨ kd = .legs), cnt kd k ls b = ((fol kd ls b).map fun y => cnt kd k ls (b ++ [y])).sum := fun h => by
    have hll : b.length < ls.length := by
      rw [hw.len]
      rcases h with rfl | rfl
      · exact hb
      · exact hb
    have ed : ls.drop b.length = ls.getD b.length [] :: ls.drop (b.length + 1) := by
      rw [List.drop_eq_getElem_cons hll]
      congr 1
      rw [List.getD_eq_getElem?_getD, List.getElem?_eq_getElem hll]
      rfl
    have ef : fol kd ls b = ls.getD b.length [] := by rcases h with rfl | rfl <;> rfl
    have ec : ∀ c : List Nat, cnt kd k ls c = prod (ls.drop c.length) := fun c => by rcases h with rfl | rfl <;> rfl
    rw [ec, ef, sum_const (prod (ls.drop (b.length + 1))) _ _ (fun y _ => by rw [ec, List.length_append]; rfl), ed, prod_cons]
  cases kd with
  | place => exact leg (.inl rfl)
  | legs => exact leg (.inr rfl)
  | order =>
    have hb : b.length < k := hb
    rw [sum_const (orders ((fol .order ls b).length - 1) (k - (b.length + 1))) _ _ (fun y hy => cnt_order hw hy)]
    show orders (fol .order ls b).length (k - b.length) = _
    have e : k - b.length = (k - (b.length + 1)) + 1 := by omega
    rw [e]
    cases (fol .order ls b).length with
    | zero => simp [orders_zs]
    | succ m => rw [orders_ss]; rfl
  | any =>
    have hb : b.length < k := hb
    show bin (fol .any ls b).length (k - b.length) = _
    have e : k - b.length = (k - (b.length + 1)) + 1 := by omega
    rw [e, ← sum_bin _ _ (fol_asc hw b)]
    congr 1
    apply List.map_congr_left
    intro y hy
    show _ = bin (fol .any ls (b ++ [y])).length (k - (b ++ [y]).length)
    rw [fol_any_gt hy, List.length_append]
    rfl
theorem rowG_len {kd : Kind} {k : Nat} {ls : List (List Nat)} (hw : WF kd k ls) : ∀ (d : Nat) (b : List Nat) (n : Nat), b.length + d = lenOf kd k → n < cnt kd k ls b → (rowG kd k ls d b n).length = d
  | 0, _, _, _, _ => rfl
  | d + 1, b, n, hb, hn => by
    rw [cnt_sum hw (by omega)] at hn
    obtain ⟨y, m, hp⟩ := pick_some _ _ hn
    unfold rowG
    rw [hp]
    show (rowG kd k ls d (b ++ [y]) m).length + 1 = d + 1
    rw [rowG_len hw d (b ++ [y]) m (by rw [List.length_append]; simp; omega) (pick_mem hp).2]
end Tc
end
section
set_option linter.all false
set_option maxRecDepth 10000
namespace Tc
open Tote
/-! all combinations that begin so, in the order of rows: what stands behind the beginning -/
def enum (kd : Kind) (ls : List (List Nat)) : Nat → List Nat → List (List Nat)
  | 0, _ => [[]]
  | d + 1, b => (fol kd ls b).flatMap fun y => (enum kd ls d (b ++ [y])).map (y :: ·)
def has (rn : Option Nat) (row : List Nat) : Bool := match rn with
  | none => true
  | some r => row.contains r
def eqf (kd : Kind) (ls : List (List Nat)) (rn : Option Nat) (d : Nat) (b : List Nat) : List (List Nat) := (enum kd ls d b).filter fun t => has rn (b ++ t)
theorem cnt_full {kd : Kind} {k : Nat} {ls : List (List Nat)} (hw : WF kd k ls) {b : List Nat} (hb : b.length = lenOf kd k) : cnt kd k ls b = 1 := by
  cases kd with
  | order => show orders _ (k - b.length) = 1; rw [show k - b.length = 0 from by have : b.length = k := hb; omega, orders_zero]
  | any => show bin _ (k - b.length) = 1; rw [show k - b.length = 0 from by have : b.length = k := hb; omega, bin_zero]
  | place =>
    show prod (ls.drop b.length) = 1
    have hl := hw.len
    rw [if_neg (by decide)] at hl
    rw [List.drop_eq_nil_of_le (by have : b.length = 1 := hb; omega)]
    rfl
  | legs =>
    show prod (ls.drop b.length) = 1
    have hl := hw.len
    rw [if_pos rfl] at hl
    rw [List.drop_eq_nil_of_le (by have : b.length = k := hb; omega)]
    rfl
theorem enum_len {kd : Kind} {k : Nat} {ls : List (List Nat)} (hw : WF kd k ls) : ∀ (d : Nat) (b : List Nat), b.length + d = lenOf kd k → (enum kd ls d b).length = cnt kd k ls b
  | 0, b, hb => by rw [cnt_full hw (by omega)]; rfl
  | d + 1, b, hb => by
    unfold enum
    rw [List.length_flatMap, cnt_sum hw (by omega)]
    congr 1
    apply List.map_congr_left
    intro y _
    rw [List.length_map, enum_len hw d (b ++ [y]) (by rw [List.length_append]; simp; omega)]
theorem eqf_succ (kd : Kind) (ls : List (List Nat)) (rn : Option Nat) (d : Nat) (b : List Nat) : eqf kd ls rn (d + 1) b = (fol kd ls b).flatMap fun y => (eqf kd ls rn d (b ++ [y])).map (y :: ·) := by
  unfold eqf
  rw [enum, List.filter_flatMap]
  congr 1
  funext y
  rw [List.filter_map]
  congr 1
  apply List.filter_congr
  intro t _
  show has rn (b ++ y :: t) = has rn (b ++ [y] ++ t)
  rw [List.append_assoc]
  rfl
theorem fol_wo (kd : Kind) (ls : List (List Nat)) (r : Nat) (b : List Nat) : fol kd (wo r ls) b = (fol kd ls b).filter fun x => !decide (x = r) := by
  have hh : (wo r ls).headD [] = (ls.headD []).filter fun x => !decide (x = r) := by cases ls <;> rfl
  have hg : (wo r ls).getD b.length [] = (ls.getD b.length []).filter fun x => !decide (x = r) := by
    unfold wo
    rw [List.getD_eq_getElem?_getD, List.getD_eq_getElem?_getD, List.getElem?_map]
    cases ls[b.length]? <;> rfl
  cases kd with
  | place => exact hg
  | legs => exact hg
  | order =>
    show ((wo r ls).headD []).filter _ = ((ls.headD []).filter _).filter _
    rw [hh, List.filter_filter, List.filter_filter]
    apply List.filter_congr
    intro x _
    exact Bool.and_comm _ _
  | any =>
    show ((wo r ls).headD []).filter _ = ((ls.headD []).filter _).filter _
    rw [hh, List.filter_filter, List.filter_filter]
    apply List.filter_congr
    intro x _
    exact Bool.and_comm _ _
theorem flatMap_filter {α β : Type} (p : α → Bool) (f : α → List β) : ∀ l : List α, (l.filter p).flatMap f = l.flatMap fun y => if p y = true then f y else []
  | [] => rfl
  | x :: r => by
    rw [List.filter_cons, List.flatMap_cons, ← flatMap_filter p f r]
    split
    · rw [List.flatMap_cons]
    · rfl
theorem enum_wo (kd : Kind) (ls : List (List Nat)) (r : Nat) : ∀ (d : Nat) (b : List Nat), enum kd (wo r ls) d b = (enum kd ls d b).filter fun t => !t.contains r
  | 0, _ => rfl
  | d + 1, b => by
    unfold enum
    rw [fol_wo, flatMap_filter, List.filter_flatMap]
    congr 1
    funext y
    rw [List.filter_map]
    by_cases hy : y = r
    · subst hy
      rw [if_neg (by simp), List.filter_eq_nil_iff.mpr (fun t _ => by simp)]
      rfl
    · rw [if_pos (by simp [hy]), enum_wo kd ls r d (b ++ [y])]
      congr 1
      apply List.filter_congr
      intro t _
      show (!t.contains r) = !(y :: t).contains r
      rw [List.contains_cons]
      have : (r == y) = false := by simp; exact fun e => hy e.symm
      rw [this, Bool.false_or]
theorem filter_split {α : Type} (p : α → Bool) : ∀ l : List α, (l.filter p).length + (l.filter fun x => !p x).length = l.length
  | [] => rfl
  | x :: r => by
    have ih := filter_split p r
    rw [List.filter_cons, List.filter_cons]
    cases h : p x <;> simp <;> omega
theorem eqf_len {kd : Kind} {k : Nat} {ls : List (List Nat)} (hw : WF kd k ls) (rn : Option Nat) (d : Nat) (b : List Nat) (hb : b.length + d = lenOf kd k) : ((eqf kd ls rn d b).length : Int) = cw kd k ls rn b := by
  cases rn with
  | none =>
    show (((enum kd ls d b).filter fun _ => true).length : Int) = ((cnt kd k ls b : Nat) : Int)
    rw [List.filter_eq_self.mpr (fun _ _ => rfl), enum_len hw d b hb]
  | some r =>
    have h1 := enum_len hw d b hb
    have h2 := enum_len (hw.wo r) d b hb
    rw [enum_wo] at h2
    show (((enum kd ls d b).filter fun t => (b ++ t).contains r).length : Int) = if b.contains r = true then ((cnt kd k ls b : Nat) : Int) else ((cnt kd k ls b : Nat) : Int) - ((cnt kd k (wo r ls) b : Nat) : Int)
    by_cases hr : b.contains r = true
    · rw [if_pos hr, List.filter_eq_self.mpr (fun t _ => by rw [List.contains_append, hr]; rfl), h1]
    · rw [if_neg hr]
      have e : ((enum kd ls d b).filter fun t => (b ++ t).contains r) = (enum kd ls d b).filter fun t => t.contains r := by
        apply List.filter_congr
        intro t _
        rw [List.contains_append]
        simp only [Bool.not_eq_true] at hr
        rw [hr, Bool.false_or]
      rw [e]
      have h3 := filter_split (fun t : List Nat => t.contains r) (enum kd ls d b)
      rw [← h1, ← h2]
      omega
/-- a place in blocks one behind the other -/
theorem blocks {β : Type} (B : Nat → List β) (f : Nat → Int) : ∀ (l : List Nat), (∀ y ∈ l, ((B y).length : Int) = f y) → ∀ (i : Nat) (t : β), (l.flatMap B)[i]? = some t →
    ∃ (l1 : List Nat) (y : Nat) (l2 : List Nat) (j : Nat), l = l1 ++ y :: l2 ∧ pickI f l (i : Nat) = some (y, (j : Int)) ∧ (B y)[j]? = some t ∧ (l.flatMap B).take i = l1.flatMap B ++ (B y).take j
  | [], _, i, t, h => by simp at h
  | x :: r, hf, i, t, h => by
    have hx := hf x (by simp)
    rw [List.flatMap_cons] at h ⊢
    unfold pickI
    by_cases hi : i < (B x).length
    · rw [List.getElem?_append_left hi] at h
      refine ⟨[], x, r, i, rfl, if_pos (by omega), h, ?_⟩
      rw [List.take_append_of_le_length (by omega)]
      rfl
    · rw [List.getElem?_append_right (by omega)] at h
      obtain ⟨l1, y, l2, j, e, h1, h2, h3⟩ := blocks B f r (fun y hy => hf y (by simp [hy])) (i - (B x).length) t h
      refine ⟨x :: l1, y, l2, j, by rw [e]; rfl, ?_, h2, ?_⟩
      · rw [if_neg (by omega)]
        have e2 : ((i : Nat) : Int) - f x = ((i - (B x).length : Nat) : Int) := by omega
        rw [e2]
        exact h1
      · rw [List.flatMap_cons, List.append_assoc, ← h3, List.take_append, List.take_of_length_le (by omega)]
/-- the row with a number is the enumeration's -/
theorem rowW_at {kd : Kind} {k : Nat} {ls : List (List Nat)} (hw : WF kd k ls) (rn : Option Nat) : ∀ (d : Nat) (b : List Nat) (n : Nat) (t : List Nat), b.length + d = lenOf kd k → (eqf kd ls rn d b)[n]? = some t → rowW kd k ls rn d b (n : Nat) = t
  | 0, b, n, t, _, h => by
    have h1 : t ∈ eqf kd ls rn 0 b := List.mem_of_getElem? h
    have h2 : t ∈ ([[]] : List (List Nat)) := (List.mem_filter.mp h1).1
    have : t = [] := by simpa using h2
    rw [this]
    rfl
  | d + 1, b, n, t, hb, h => by
    rw [eqf_succ] at h
    obtain ⟨l1, y, l2, j, e, h1, h2, h3⟩ := blocks (fun y => (eqf kd ls rn d (b ++ [y])).map (y :: ·)) (fun y => cw kd k ls rn (b ++ [y])) (fol kd ls b) (fun y _ => by rw [List.length_map]; exact eqf_len hw rn d (b ++ [y]) (by rw [List.length_append]; simp; omega)) n t h
    rw [List.getElem?_map] at h2
    cases hq : (eqf kd ls rn d (b ++ [y]))[j]? with
    | none => rw [hq] at h2; cases h2
    | some t' =>
      rw [hq] at h2
      have ht : y :: t' = t := Option.some.inj h2
      unfold rowW
      rw [h1]
      show y :: rowW kd k ls rn d (b ++ [y]) (j : Nat) = t
      rw [rowW_at hw rn d (b ++ [y]) j t' (by rw [List.length_append]; simp; omega) hq, ht]
/-- how many with the runner stand before the row at a place -/
theorem sbw_at {kd : Kind} {k : Nat} {ls : List (List Nat)} (hw : WF kd k ls) (rn : Option Nat) : ∀ (d : Nat) (b : List Nat) (i : Nat) (t : List Nat), b.length + d = lenOf kd k → (enum kd ls d b)[i]? = some t →
    sbw kd k ls rn b t = ((((enum kd ls d b).take i).filter fun u => has rn (b ++ u)).length : Nat)
  | 0, b, i, t, _, h => by
    have h2 : t ∈ ([[]] : List (List Nat)) := List.mem_of_getElem? h
    have e : t = [] := by simpa using h2
    have hi : i = 0 := by
      have := (List.getElem?_eq_some_iff.mp h).1
      have : i < 1 := this
      omega
    rw [e, hi]
    rfl
  | d + 1, b, i, t, hb, h => by
    have h' := h
    rw [enum] at h
    obtain ⟨l1, y, l2, j, e, h1, h2, h3⟩ := blocks (fun y => (enum kd ls d (b ++ [y])).map (y :: ·)) (fun y => ((cnt kd k ls (b ++ [y]) : Nat) : Int)) (fol kd ls b) (fun y _ => by rw [List.length_map, enum_len hw d (b ++ [y]) (by rw [List.length_append]; simp; omega)]) i t h
    rw [List.getElem?_map] at h2
    cases hq : (enum kd ls d (b ++ [y]))[j]? with
    | none => rw [hq] at h2; cases h2
    | some t' =>
      rw [hq] at h2
      have ht : y :: t' = t := Option.some.inj h2
      subst ht
      have hasc := fol_asc hw b
      rw [e] at hasc
      rw [List.pairwise_append] at hasc
      have p1 : ∀ z ∈ l1, z < y := fun z hz => hasc.2.2 z hz y (by simp)
      have p2 : ∀ z ∈ l2, y < z := fun z hz => (List.pairwise_cons.mp hasc.2.1).1 z hz
      have ih := sbw_at hw rn d (b ++ [y]) j t' (by rw [List.length_append]; simp; omega) hq
      unfold sbw
      rw [ih, e, part_lt p1 p2]
      rw [enum, h3, List.filter_append, List.length_append, Int.natCast_add]
      have ef : ∀ z, (((enum kd ls d (b ++ [z])).map (z :: ·)).filter fun u => has rn (b ++ u)) = (eqf kd ls rn d (b ++ [z])).map (z :: ·) := fun z => by
        unfold eqf
        rw [List.filter_map]
        congr 1
        apply List.filter_congr
        intro u _
        show has rn (b ++ z :: u) = has rn (b ++ [z] ++ u)
        rw [List.append_assoc]
        rfl
      congr 1
      · rw [List.filter_flatMap, List.length_flatMap, sum_cast, List.map_map]
        congr 1
        apply List.map_congr_left
        intro z hz
        show cw kd k ls rn (b ++ [z]) = ((((enum kd ls d (b ++ [z])).map (z :: ·)).filter fun u => has rn (b ++ u)).length : Nat)
        rw [ef, List.length_map]
        exact (eqf_len hw rn d (b ++ [z]) (by rw [List.length_append]; simp; omega)).symm
      · rw [← List.map_take, List.filter_map, List.length_map]
        congr 2
        apply List.filter_congr
        intro u _
        show has rn (b ++ [y] ++ u) = has rn (b ++ y :: u)
        rw [List.append_assoc]
        rfl
/-! the next with a runner -/
theorem pick_next {α : Type} (p : α → Bool) : ∀ (E : List α) (s : Nat), ((E.take s).filter p).length < (E.filter p).length →
    ∃ (i : Nat) (t : α), s ≤ i ∧ E[i]? = some t ∧ p t = true ∧ (E.filter p)[((E.take s).filter p).length]? = some t ∧ ∀ (j : Nat) u, s ≤ j → j < i → E[j]? = some u → p u = false
  | [], s, h => by simp at h
  | x :: r, 0, h => by
    by_cases hx : p x = true
    · refine ⟨0, x, Nat.le_refl _, rfl, hx, ?_, fun j u h1 h2 => by omega⟩
      rw [List.filter_cons, if_pos hx]
      rfl
    · have h' : ((r.take 0).filter p).length < (r.filter p).length := by
        rw [List.filter_cons, if_neg hx] at h
        exact h
      obtain ⟨i, t, h1, h2, h3, h4, h5⟩ := pick_next p r 0 h'
      refine ⟨i + 1, t, Nat.zero_le _, by simpa using h2, h3, ?_, fun j u hj1 hj2 hj3 => ?_⟩
      · rw [List.filter_cons, if_neg hx]
        exact h4
      · cases j with
        | zero =>
          have : x = u := by simpa using hj3
          subst this
          simpa using hx
        | succ j => exact h5 j u (Nat.zero_le _) (by omega) (by simpa using hj3)
  | x :: r, s + 1, h => by
    rw [List.take_succ_cons] at h ⊢
    by_cases hx : p x = true
    · rw [List.filter_cons, if_pos hx, List.filter_cons, if_pos hx, List.length_cons, List.length_cons] at h
      obtain ⟨i, t, h1, h2, h3, h4, h5⟩ := pick_next p r s (by omega)
      refine ⟨i + 1, t, by omega, by simpa using h2, h3, ?_, fun j u hj1 hj2 hj3 => ?_⟩
      · rw [List.filter_cons, if_pos hx, List.filter_cons, if_pos hx, List.length_cons]
        simpa using h4
      · cases j with
        | zero => omega
        | succ j => exact h5 j u (by omega) (by omega) (by simpa using hj3)
    · rw [List.filter_cons, if_neg hx, List.filter_cons, if_neg hx] at h
      obtain ⟨i, t, h1, h2, h3, h4, h5⟩ := pick_next p r s h
      refine ⟨i + 1, t, by omega, by simpa using h2, h3, ?_, fun j u hj1 hj2 hj3 => ?_⟩
      · rw [List.filter_cons, if_neg hx, List.filter_cons, if_neg hx]
        exact h4
      · cases j with
        | zero => omega
        | succ j => exact h5 j u (by omega) (by omega) (by simpa using hj3)
theorem pick_none {α : Type} (p : α → Bool) : ∀ (E : List α) (s : Nat), ((E.take s).filter p).length = (E.filter p).length → ∀ (j : Nat) u, s ≤ j → E[j]? = some u → p u = false
  | [], s, _, j, u, _, h => by simp at h
  | x :: r, 0, h, j, u, _, hj => by
    have h0 : (x :: r).filter p = [] := by
      have : ((x :: r).filter p).length = 0 := by rw [← h]; rfl
      exact List.length_eq_zero_iff.mp this
    have hm := List.mem_of_getElem? hj
    cases hp : p u with
    | false => rfl
    | true =>
      have : u ∈ (x :: r).filter p := List.mem_filter.mpr ⟨hm, hp⟩
      rw [h0] at this
      cases this
  | x :: r, s + 1, h, j, u, hs, hj => by
    cases j with
    | zero => omega
    | succ j =>
      refine pick_none p r s ?_ j u (by omega) (by simpa using hj)
      rw [List.take_succ_cons, List.filter_cons, List.filter_cons] at h
      split at h
      · simp at h; exact h
      · exact h
theorem first_none {f : Nat → Bool} : ∀ (m n : Nat), (∀ j, n ≤ j → j < n + m → f j = false) → firstFrom f m n = none
  | 0, _, _ => rfl
  | m + 1, n, h => by
    unfold firstFrom
    rw [h n (Nat.le_refl _) (by omega), if_neg (by simp)]
    exact first_none m (n + 1) fun j h1 h2 => h j (by omega) (by omega)
theorem first_some {f : Nat → Bool} : ∀ (m n i : Nat), n ≤ i → i < n + m → f i = true → (∀ j, n ≤ j → j < i → f j = false) → firstFrom f m n = some i
  | 0, n, i, h1, h2, _, _ => by omega
  | m + 1, n, i, h1, h2, h3, h4 => by
    unfold firstFrom
    by_cases hn : n = i
    · subst hn
      rw [if_pos h3]
    · rw [h4 n (Nat.le_refl _) (by omega), if_neg (by simp)]
      exact first_some m (n + 1) i (by omega) (by omega) h3 fun j g1 g2 => h4 j (by omega) g2
/-- the program's next -/
def nxt (kd : Kind) (k : Nat) (ls : List (List Nat)) (s r : Nat) : Option Int :=
  if cnt kd k ls [] ≤ s then none else
    if sbw kd k ls (some r) [] (rowW kd k ls none (lenOf kd k) [] (s : Nat)) = cw kd k ls (some r) [] then none else
      some (sbw kd k ls none [] (rowW kd k ls (some r) (lenOf kd k) [] (sbw kd k ls (some r) [] (rowW kd k ls none (lenOf kd k) [] (s : Nat)))))
theorem enum_row {kd : Kind} {k : Nat} {ls : List (List Nat)} (hw : WF kd k ls) {n : Nat} (hn : n < cnt kd k ls []) : (enum kd ls (lenOf kd k) [])[n]? = some (rowG kd k ls (lenOf kd k) [] n) := by
  have hl := enum_len hw (lenOf kd k) [] (by simp)
  have h : (enum kd ls (lenOf kd k) [])[n]? = some (enum kd ls (lenOf kd k) [])[n] := List.getElem?_eq_getElem (by omega)
  have he : eqf kd ls none (lenOf kd k) [] = enum kd ls (lenOf kd k) [] := List.filter_eq_self.mpr (fun _ _ => rfl)
  have := rowW_at hw none (lenOf kd k) [] n _ (by simp) (by rw [he]; exact h)
  rw [rowW_none] at this
  rw [this]
  exact h
theorem enum_mem (kd : Kind) (ls : List (List Nat)) : ∀ (d : Nat) (b t : List Nat), t ∈ enum kd ls d b → ∀ x ∈ t, ∃ s ∈ ls, x ∈ s
  | 0, _, t, h, x, hx => by
    have : t = [] := by simpa [enum] using h
    subst this
    cases hx
  | d + 1, b, t, h, x, hx => by
    unfold enum at h
    obtain ⟨y, hy, ht⟩ := List.mem_flatMap.mp h
    obtain ⟨u, hu, rfl⟩ := List.mem_map.mp ht
    rcases List.mem_cons.mp hx with rfl | hx
    · cases kd with
      | order =>
        have h1 := (List.mem_filter.mp hy).1
        cases ls with
        | nil => cases h1
        | cons s r => exact ⟨s, by simp, h1⟩
      | any =>
        have h1 := (List.mem_filter.mp hy).1
        cases ls with
        | nil => cases h1
        | cons s r => exact ⟨s, by simp, h1⟩
      | place =>
        have h1 : x ∈ ls.getD b.length [] := hy
        rw [List.getD_eq_getElem?_getD] at h1
        cases e : ls[b.length]? with
        | none => rw [e] at h1; cases h1
        | some s => rw [e] at h1; exact ⟨s, List.mem_of_getElem? e, h1⟩
      | legs =>
        have h1 : x ∈ ls.getD b.length [] := hy
        rw [List.getD_eq_getElem?_getD] at h1
        cases e : ls[b.length]? with
        | none => rw [e] at h1; cases h1
        | some s => rw [e] at h1; exact ⟨s, List.mem_of_getElem? e, h1⟩
    · exact enum_mem kd ls d (b ++ [y]) u hu x hx
theorem has_eqf (kd : Kind) (ls : List (List Nat)) (rn : Option Nat) (d : Nat) : eqf kd ls rn d [] = (enum kd ls d []).filter fun t => has rn t := rfl
/-- what a start below how many there are finds -/
theorem nxt_facts {kd : Kind} {k : Nat} {ls : List (List Nat)} (hw : WF kd k ls) {s : Nat} (r : Nat) (hs : s < cnt kd k ls []) :
    sbw kd k ls (some r) [] (rowW kd k ls none (lenOf kd k) [] (s : Nat)) = ((((enum kd ls (lenOf kd k) []).take s).filter fun t => t.contains r).length : Nat) ∧ cw kd k ls (some r) [] = (((enum kd ls (lenOf kd k) []).filter fun t => t.contains r).length : Nat) := by
  rw [rowW_none]
  exact ⟨sbw_at hw (some r) (lenOf kd k) [] s _ (by simp) (enum_row hw hs), (eqf_len hw (some r) (lenOf kd k) [] (by simp)).symm⟩
theorem filter_take_le {α : Type} (p : α → Bool) (E : List α) (s : Nat) : ((E.take s).filter p).length ≤ (E.filter p).length := by
  have : (E.filter p) = ((E.take s).filter p) ++ ((E.drop s).filter p) := by rw [← List.filter_append, List.take_append_drop]
  rw [this, List.length_append]
  omega
theorem next_nxt {C : Card} {p : Pool} {ls : List (List Nat)} (h : C.sets p = ls) (hw : WF p.kind p.k ls) (s r : Nat) : (C.nextWith p s r).map (fun (i : Nat) => (i : Int)) = nxt p.kind p.k ls s r := by
  have hmany := many_cnt h hw
  have hcombo : ∀ i, i < cnt p.kind p.k ls [] → (enum p.kind ls (lenOf p.kind p.k) [])[i]? = some (C.comboOf p i) := fun i hi => by rw [combo_row h hw hi]; exact enum_row hw hi
  have hl := enum_len hw (lenOf p.kind p.k) [] (by simp)
  unfold Card.nextWith nxt
  rw [h]
  by_cases hs : cnt p.kind p.k ls [] ≤ s
  · rw [if_pos hs, hmany, show cnt p.kind p.k ls [] - s = 0 from by omega]
    split <;> rfl
  · rw [if_neg hs]
    obtain ⟨f1, f2⟩ := nxt_facts hw r (show s < cnt p.kind p.k ls [] by omega)
    rw [f1, f2]
    by_cases he : (((enum p.kind ls (lenOf p.kind p.k) []).take s).filter fun t => t.contains r).length = ((enum p.kind ls (lenOf p.kind p.k) []).filter fun t => t.contains r).length
    · have hEq : (((((enum p.kind ls (lenOf p.kind p.k) []).take s).filter fun t => t.contains r).length : Nat) : Int) = ((((enum p.kind ls (lenOf p.kind p.k) []).filter fun t => t.contains r).length : Nat) : Int) := by rw [he]
      rw [if_pos hEq]
      have hno := pick_none (fun t : List Nat => t.contains r) _ s he
      have hf : firstFrom (fun i => (C.comboOf p i).contains r) (C.many p - s) s = none := first_none _ _ fun j h1 h2 => hno j _ h1 (hcombo j (by rw [hmany] at h2; omega))
      rw [hf]
      split <;> rfl
    · have hlt := Nat.lt_of_le_of_ne (filter_take_le (fun t : List Nat => t.contains r) (enum p.kind ls (lenOf p.kind p.k) []) s) he
      have hNe : ¬ (((((enum p.kind ls (lenOf p.kind p.k) []).take s).filter fun t => t.contains r).length : Nat) : Int) = ((((enum p.kind ls (lenOf p.kind p.k) []).filter fun t => t.contains r).length : Nat) : Int) := fun e => he (by omega)
      rw [if_neg hNe]
      obtain ⟨i, t, h1, h2, h3, h4, h5⟩ := pick_next (fun t : List Nat => t.contains r) _ s hlt
      have hi : i < cnt p.kind p.k ls [] := by rw [← hl]; exact (List.getElem?_eq_some_iff.mp h2).1
      have hrow := rowW_at hw (some r) (lenOf p.kind p.k) [] _ t (by simp) h4
      rw [hrow, sbw_at hw none (lenOf p.kind p.k) [] i t (by simp) h2]
      have ht : C.comboOf p i = t := Option.some.inj ((hcombo i hi).symm.trans h2)
      have hset : (ls.any fun h => h.contains r) = true := by
        obtain ⟨q, hq1, hq2⟩ := enum_mem p.kind ls _ _ t (List.mem_of_getElem? h2) r (List.contains_iff_mem.mp h3)
        exact List.any_eq_true.mpr ⟨q, hq1, List.contains_iff_mem.mpr hq2⟩
      rw [if_neg (by rw [hset]; simp)]
      have hf : firstFrom (fun i => (C.comboOf p i).contains r) (C.many p - s) s = some i := first_some _ _ i h1 (by rw [hmany]; omega) (by rw [ht]; exact h3) fun j g1 g2 => by
        have hj : j < cnt p.kind p.k ls [] := by omega
        exact h5 j _ g1 g2 (hcombo j hj)
      rw [hf]
      show some ((i : Nat) : Int) = some _
      congr 1
      have ef : ((enum p.kind ls (lenOf p.kind p.k) []).take i).filter (fun u => has none ([] ++ u)) = (enum p.kind ls (lenOf p.kind p.k) []).take i := List.filter_eq_self.mpr (fun _ _ => rfl)
      rw [ef, List.length_take]
      have := (List.getElem?_eq_some_iff.mp h2).1
      omega
def nxAns (kd : Kind) (k : Nat) (ls : List (List Nat)) (s r : Nat) : List Int := if 65536 < cnt kd k ls [] then [-9] else match nxt kd k ls s r with
  | none => [-1]
  | some i => [0, i]
theorem next_ans {ns : List Int} {pool s r : Int} (hb : ∀ z ∈ ns, 0 ≤ z ∧ z ≤ 255) : PyWqaqck.next_of pool s r ns = ofText ns pool.toNat fun ws rr => nxAns (kdOf ws) (kOf ws) (setsOf ws rr) s.toNat r.toNat := by
  show shown (ToteComboCalls.ofPool (ComboNeutral.text ns) pool.toNat _) = _
  refine ofPool_eq hb fun C rs ws hr h hp => ?_
  have hs := sets_eq hr h hp
  have hw : WF (poolOf ws).kind (poolOf ws).k (setsOf ws (rs.map intz)) := wf_pool hr hp
  have e1 := many_cnt (p := poolOf ws) hs hw
  have e2 := next_nxt (p := poolOf ws) hs hw s.toNat r.toNat
  unfold nxAns
  have ek : cnt (kdOf ws) (kOf ws) (setsOf ws (rs.map intz)) [] = cnt (poolOf ws).kind (poolOf ws).k (setsOf ws (rs.map intz)) [] := rfl
  have en : nxt (kdOf ws) (kOf ws) (setsOf ws (rs.map intz)) s.toNat r.toNat = nxt (poolOf ws).kind (poolOf ws).k (setsOf ws (rs.map intz)) s.toNat r.toNat := rfl
  rw [ek, en, ← e2]
  by_cases hc : 65536 < cnt (poolOf ws).kind (poolOf ws).k (setsOf ws (rs.map intz)) []
  · rw [if_pos hc, if_pos (by rw [e1]; exact hc)]
    rfl
  · rw [if_neg hc, if_neg (by rw [e1]; exact hc)]
    cases C.nextWith (poolOf ws) s.toNat r.toNat <;> rfl
end Tc
end
section
set_option Elab.async false
set_option linter.all false
set_option maxRecDepth 100000
set_option maxHeartbeats 2000000
namespace Tp
open PySem PySem.Spec PyProof.Rows L2
/-- a text by its codes -/
abbrev S (w : List Nat) : Str := ⟨w.toArray⟩
theorem S_len (w : List Nat) : (S w).length = w.length := by rw [TL.len_tl]
theorem S_inj {a b : List Nat} (h : S a = S b) : a = b := by
  have e := congrArg TL.tl h
  exact e
theorem S_iff {a b : List Nat} : V.str (S a) = V.str (S b) ↔ a = b := ⟨fun h => S_inj (V.str.inj h), fun h => by rw [h]⟩
theorem spl_cut (s : Nat) : ∀ (n : Nat) (l : List Nat), l.length ≤ n → TL.spl [s] 0 [] l = Tc.cut s l := by
  intro n
  induction n with
  | zero =>
    intro l hl
    have e : l = [] := List.length_eq_zero_iff.mp (by omega)
    subst e
    rfl
  | succ n ih =>
    intro l hl
    by_cases hs : s ∈ l
    · obtain ⟨p, r, hp, rfl⟩ : ∃ p r, s ∉ p ∧ l = p ++ s :: r := by
        clear hl ih
        induction l with
        | nil => cases hs
        | cons c t iht =>
          by_cases hc : c = s
          · subst hc; exact ⟨[], t, by simp, rfl⟩
          · have : s ∈ t := by
              rcases List.mem_cons.mp hs with e | e
              · exact absurd e.symm hc
              · exact e
            obtain ⟨p, r, h1, h2⟩ := iht this
            exact ⟨c :: p, r, by simp [h1, Ne.symm hc], by rw [h2]; rfl⟩
      have e1 := TL.spl_part1 (s := s) (S := []) (p := p) (rest := r) (acc := []) hp
      have e2 : p ++ (s :: ([] : List Nat) ++ r) = p ++ s :: r := rfl
      rw [e2] at e1
      rw [e1, Tc.cut_hit s p r hp, ih r (by simp at hl; omega)]
      rfl
    · rw [TL.spl_last1 hs, Tc.cut_last s l hs]
      rfl
theorem split_cut (l : List Nat) {s : Nat} (hs : s < 256) : Txt.split (S l) (S [s]) = (Tc.cut s l).map S := by
  apply TL.map_tl_inj
  rw [TL.split_spl (S l) (S [s]) (by show [s] ≠ []; simp) (TL.kind_ok (by simp [hs]))]
  show TL.spl [s] 0 [] l = _
  rw [spl_cut s l.length l (Nat.le_refl _), List.map_map]
  exact (List.map_id _).symm.trans (by rfl)
theorem join_flat : ∀ (ys : List (List Nat)), TL.joinL [] ys = ys.flatten
  | [] => rfl
  | [x] => by show x = [x].flatten; simp
  | x :: y :: r => by
    show x ++ ([] ++ TL.joinL [] (y :: r)) = _
    rw [join_flat (y :: r)]
    simp
theorem join_codes (cs : List Nat) : Txt.join (S []) (cs.map fun c => S [c]) = S cs := by
  apply TL.ext_tl
  rw [TL.join_eq, TL.tl_join, List.map_map]
  show TL.joinL [] (cs.map fun c => [c]) = cs
  rw [join_flat]
  induction cs with
  | nil => rfl
  | cons c r ih => simp only [List.map_cons, List.flatten_cons, ih]; rfl
/-- signs of a card's text -/
def Sg (w : List Nat) : Prop := ∀ c ∈ w, c < 128 ∧ Tc.sgn c = c
theorem uni_dec : ∀ c : Nat, c < 128 → Tc.sgn c = c → Unicode.isDigit c = Tc.dg c ∧ Unicode.isAlnum c = (Tc.lt c || Tc.dg c) ∧ Unicode.isAlpha c = Tc.lt c := by decide +kernel
theorem all_arr (w : List Nat) (p : Nat → Bool) : (S w).cps.all p = w.all p := by simp
theorem pos_len (w : List Nat) : decide ((S w).length > 0) = !w.isEmpty := by rw [S_len]; cases w <;> simp
theorem all_congr {w : List Nat} {p q : Nat → Bool} (h : ∀ c ∈ w, p c = q c) : w.all p = w.all q := by
  induction w with
  | nil => rfl
  | cons c r ih => rw [List.all_cons, List.all_cons, h c (by simp), ih fun x hx => h x (by simp [hx])]
theorem isdigit_S {w : List Nat} (h : Sg w) : Txt.isdigit (S w) = (!w.isEmpty && w.all Tc.dg) := by
  unfold Txt.isdigit
  rw [pos_len, all_arr, all_congr fun c hc => (uni_dec c (h c hc).1 (h c hc).2).1]
theorem isalnum_S {w : List Nat} (h : Sg w) : Txt.isalnum (S w) = (!w.isEmpty && w.all fun c => Tc.lt c || Tc.dg c) := by
  unfold Txt.isalnum
  rw [pos_len, all_arr, all_congr fun c hc => (uni_dec c (h c hc).1 (h c hc).2).2.1]
theorem isalpha_S {c : Nat} (h1 : c < 128) (h2 : Tc.sgn c = c) : Txt.isalpha (S [c]) = Tc.lt c := by
  unfold Txt.isalpha
  rw [pos_len, all_arr]
  simp [(uni_dec c h1 h2).2.2]
theorem num_val (w : List Nat) : ∀ a : Nat, w.foldl (fun acc c => acc * 10 + (c - 48)) a = w.foldl (fun n c => 10 * n + (c - 48)) a := by
  induction w with
  | nil => intro a; rfl
  | cons c r ih => intro a; rw [List.foldl_cons, List.foldl_cons, ih, Nat.mul_comm]
theorem int_S {w : List Nat} (h : w.all Tc.dg = true) (h1 : w ≠ []) (h2 : w.length ≤ 640) : intText? (S w) = some ((Tc.num w : Nat) : Int) := by
  have e := PySem.intText_digits (x := S w) (fun c hc => by
    have q := List.all_eq_true.mp h c hc
    unfold Tc.dg at q
    simp only [Bool.and_eq_true, decide_eq_true_eq] at q
    exact q) h1 (by rw [S_len]; omega)
  rw [e]
  congr 2
  exact num_val w 0
theorem sgn_lt (n : Nat) : Tc.sgn n < 128 := by unfold Tc.sgn; split <;> omega
theorem sgn_sgn (n : Nat) : Tc.sgn (Tc.sgn n) = Tc.sgn n := by
  unfold Tc.sgn
  by_cases h : (97 ≤ n ∧ n ≤ 122) ∨ (48 ≤ n ∧ n ≤ 57) ∨ n = 32 ∨ n = 10
  · rw [if_pos h, if_pos h]
  · rw [if_neg h, if_neg (by decide)]
theorem Sg_codes (ns : List Int) : Sg (Tc.codes ns) := fun c hc => by
  obtain ⟨z, _, rfl⟩ := List.mem_map.mp hc
  exact ⟨sgn_lt _, sgn_sgn _⟩
theorem Sg_cut {s : Nat} {l w : List Nat} (h : Sg l) (hw : w ∈ Tc.cut s l) : Sg w := fun c hc => h c ((Tc.cut_free hw).2 c hc)
theorem cut_len {s : Nat} : ∀ {l w : List Nat}, w ∈ Tc.cut s l → w.length ≤ l.length
  | [], w, h => by
    have e : w = [] := by simpa [Tc.cut] using h
    rw [e]; exact Nat.le_refl _
  | c :: r, w, h => by
    unfold Tc.cut at h
    split at h
    · rcases List.mem_cons.mp h with e | e
      · rw [e]; exact Nat.zero_le _
      · exact Nat.le_succ_of_le (cut_len e)
    · split at h
      · have e : w = [c] := by simpa using h
        rw [e]; simp
      · rename_i x t e
        rcases List.mem_cons.mp h with e1 | e1
        · have := cut_len (s := s) (l := r) (w := x) (by rw [e]; simp)
          rw [e1]; simp; exact this
        · exact Nat.le_succ_of_le (cut_len (by rw [e]; simp [e1]))
theorem cut_count (s : Nat) : ∀ l : List Nat, (Tc.cut s l).length ≤ l.length + 1
  | [] => by simp [Tc.cut]
  | c :: r => by
    have ih := cut_count s r
    unfold Tc.cut
    split
    · simp; omega
    · split
      · simp
      · rename_i x t e
        rw [e] at ih
        simp at ih ⊢
        omega
end Tp
end
section
set_option Elab.async false
set_option linter.all false
set_option maxRecDepth 100000
set_option maxHeartbeats 2000000
namespace Tp
open PySem PySem.Spec PyProof.Rows L2
def top (i : Nat) : Stmt := PySem.Challenge.pw_totecombos_s05_next_of.main.body.getD i (.Pass ⟨0, 0, 0, 0⟩)
/-- a global that holds an int, a text -/
def GI (mg : Str → Option Value) (x : Str) (n : Int) : Prop := ∃ t, mg x = some (Value.int n t)
def GS (mg : Str → Option Value) (x z : Str) : Prop := ∃ t, mg x = some (Value.str z t)
theorem pgi {X : Cx} {x : Str} {n : Int} {pos : Pos} (h : GI X.mg x n) (hg : Gl X x := by rfl) (hd : (x == ("__debug__" : Str)) = false := by decide) : PE X (.Name x pos) (tC (.int n)) :=
  let ⟨t, e⟩ := h
  pe_glob (v := V.int n) hg e ⟨t, rfl⟩ hd
theorem pgs {X : Cx} {x z : Str} {pos : Pos} (h : GS X.mg x z) (hg : Gl X x := by rfl) (hd : (x == ("__debug__" : Str)) = false := by decide) : PE X (.Name x pos) (tC (.str z)) :=
  let ⟨t, e⟩ := h
  pe_glob (v := V.str z) hg e ⟨t, rfl⟩ hd
/-- a def of the text, with its promise -/
structure Dfn (P : Program) (w : World) (K : PySem.W.Frag) (mg : Str → Option Value) (base : Heap) (k : Nat) (x : Str) (ps : List Str) (ds : List Value) (sp : Sp) : Prop where
  ex : ∃ f fd, mg x = some (.ref f) ∧ PySem.W.keepIn K (.ref f) = true ∧ Binds K fd ps ds ∧ FnOk P w K mg base CX0 k f fd ps sp
theorem pcall {X : Cx} {k : Nat} {x : Str} {ps : List Str} {sp : Sp} {p pos : Pos} {e : Expr} {es : List Expr} {t : TA} (D : Dfn X.prog X.w X.K X.mg X.base k x ps [] sp) {j : Nat} (hr : Room j X.A) (ha : PA X (e :: es) t) (hj : k ≤ j := by decide) (hg : Gl X x := by rfl)
    (hdb : (x == ("__debug__" : Str)) = false := by decide) (he : starEach (e :: es) X.env = (false, eval e X.env) :: starEach es X.env := by rfl) (hpl : (backTo pos (starEach es X.env)).any (·.1) = false := by rfl) :
    PE X (.Call (.Name x p) (e :: es) [] pos) (tCall sp [] E0 t) := by
  obtain ⟨f, fd, h1, h2, h3, h4⟩ := D.ex
  exact pe_call h4 (hr.mono hj) hg h1 h2 h3 .nil pass0 ha hdb he hpl
abbrev sSign : Stmt := top 6
abbrev sLines : Stmt := top 7
abbrev sName : Stmt := top 8
abbrev sNumber : Stmt := top 9
structure Gw (mg : Str → Option Value) : Prop where
  letters : GS mg "LETTERS" "abcdefghijklmnopqrstuvwxyz"
  digits : GS mg "DIGITS" "0123456789"
  foreign : GS mg "FOREIGN" "?"
  mostName : GI mg "MOST_NAME_BYTES" 12
  mostDigits : GI mg "MOST_DIGITS" 5
  len : mg "len" = none
  int : mg "int" = none
  range : mg "range" = none
  all : mg "all" = none
  set : mg "set" = none
section
variable {P : Program} {w : World} {K : PySem.W.Frag} {mg : Str → Option Value} {base : Heap}
def spSign : Sp := fun vs H Q _ => ∃ b : Int, vs = [.int b] ∧ 0 ≤ b ∧ b ≤ 255 ∧ Q (.str (S [Tc.sgn b.toNat])) H
theorem scSign : FnScope ["byte"] ["byte"] (defScope sSign) := ⟨rfl, rfl, rfl, by decide +kernel, rfl, by decide +kernel, by decide +kernel⟩
theorem let_at : ∀ j : Nat, j < 26 → (("abcdefghijklmnopqrstuvwxyz" : Str).cps.toList)[j]? = some (97 + j) := by decide +kernel
theorem dig_at : ∀ j : Nat, j < 10 → (("0123456789" : Str).cps.toList)[j]? = some (48 + j) := by decide +kernel
theorem atg {α : Type} {xs : List α} {z : Int} {j : Nat} {v : α} (e : z = (j : Int)) (h : xs[j]? = some v) : atI xs z = some v := by
  rw [e]
  exact atI_nat h
/-- a reading that yields a value and leaves the heap -/
def Yv (t : TE) (σ : L2.St) (H : Hp) (v : V) : Prop := ∀ R : VK, R v H → t σ H R
theorem yv_c {v : V} {σ : L2.St} {H : Hp} : Yv (tC v) σ H v := fun _ r => r
theorem yv_v {i : Nat} {v : V} {σ : L2.St} {H : Hp} (h : σ[i]? = some (some v)) : Yv (tVar i) σ H v := fun _ r => ⟨v, h, r⟩
theorem rd_ch {ta tb tc : TE} {σ : L2.St} {H : Hp} {Q : VK} {a b c : Int} (h1 : Yv ta σ H (.int a)) (h2 : Yv tb σ H (.int b)) (h3 : Yv tc σ H (.int c)) (q : Q (.bl (decide (a ≤ b) && decide (b ≤ c))) H) :
    tChain (rI0 fun i j => .bl (decide (i ≤ j))) (rI0 fun i j => .bl (decide (i ≤ j))) ta tb tc σ H Q := by
  refine h1 _ (h2 _ ⟨_, _, rfl, rfl, _, rfl, ?_⟩)
  by_cases z : a ≤ b
  · rw [decide_eq_true z, Bool.true_and] at q
    rw [if_pos (decide_eq_true z)]
    exact h3 _ ⟨_, _, rfl, rfl, q⟩
  · rw [decide_eq_false z, Bool.false_and] at q
    rw [if_neg (by rw [decide_eq_false z]; exact Bool.false_ne_true)]
    exact q
/-- a test whose outcome is known as a Bool -/
theorem iteB {b : Bool} {A B : Prop} (h1 : b = true → A) (h2 : b = false → B) : if b = true then A else B := by
  cases b with
  | true => rw [if_pos rfl]; exact h1 rfl
  | false => rw [if_neg Bool.false_ne_true]; exact h2 rfl
theorem ok_sign {f : Addr} {fd : FuncData} (F : Fun K "sign_of" "sign_of" sSign f fd) (G : Gw mg) : FnOk P w K mg base CX0 1 f fd ["byte"] spSign := by
  refine F.ok scSign (fun vs H Q E h => ?_) (fun cdv A outer s H vs Q E hr h => ?_)
  · obtain ⟨b, rfl, _⟩ := h
    rfl
  · obtain ⟨b, rfl, h0, h1, q⟩ := h
    refine ⟨_, pss_cons (ps_if (pt_chain op_le op_le pe_int (pv 0) pe_int) (pss_one (ps_ret (pe_ix ix_str (pgs G.letters) (pe_op op_sub (pv 0) pe_int) (fun _ _ => rfl)))) pss_nil)
      (pss_cons (ps_if (pt_chain op_le op_le pe_int (pv 0) pe_int) (pss_one (ps_ret (pe_ix ix_str (pgs G.digits) (pe_op op_sub (pv 0) pe_int) (fun _ _ => rfl)))) pss_nil)
      (pss_cons (ps_if (pt_cmpR op_eq (pv 0) pe_int (nomark _)) (pss_one (ps_ret pe_str)) pss_nil)
      (pss_cons (ps_if (pt_cmpR op_eq (pv 0) pe_int (nomark _)) (pss_one (ps_ret pe_str)) pss_nil)
      (pss_one (ps_ret (pgs G.foreign)))))), ?_⟩
    have key : ∀ n : Nat, Tc.sgn b.toNat = n → Q (.str (S [n])) H := fun n e => by rw [← e]; exact q
    refine rd_ch yv_c (yv_v rfl) yv_c ⟨_, rfl, iteB (fun z => ?_) (fun z => ?_)⟩
    · simp only [Bool.and_eq_true, decide_eq_true_eq] at z
      have e : atI ("abcdefghijklmnopqrstuvwxyz" : Str).cps.toList (b - 97) = some (97 + (b - 97).toNat) := atg (z := b - 97) (j := (b - 97).toNat) (by omega) (let_at (b - 97).toNat (by omega))
      refine ⟨_, rfl, _, _, rfl, rfl, _, _, _, rfl, rfl, (by decide +kernel), e, ?_⟩
      exact key _ (by unfold Tc.sgn; rw [if_pos (by omega)]; omega)
    refine rd_ch yv_c (yv_v rfl) yv_c ⟨_, rfl, iteB (fun z2 => ?_) (fun z2 => ?_)⟩
    · simp only [Bool.and_eq_true, decide_eq_true_eq] at z2
      have e : atI ("0123456789" : Str).cps.toList (b - 48) = some (48 + (b - 48).toNat) := atg (z := b - 48) (j := (b - 48).toNat) (by omega) (dig_at (b - 48).toNat (by omega))
      refine ⟨_, rfl, _, _, rfl, rfl, _, _, _, rfl, rfl, (by decide +kernel), e, ?_⟩
      exact key _ (by unfold Tc.sgn; rw [if_pos (by omega)]; omega)
    refine ⟨_, rfl, rfl, _, rfl, ite2 (fun z3 => ?_) (fun z3 => ?_)⟩
    · have e : b = 32 := V.int.inj (of_decide_eq_true z3)
      subst e
      exact key 32 rfl
    refine ⟨_, rfl, rfl, _, rfl, ite2 (fun z4 => ?_) (fun z4 => ?_)⟩
    · have e : b = 10 := V.int.inj (of_decide_eq_true z4)
      subst e
      exact key 10 rfl
    · have n3 : ¬ b = 32 := fun e => z3 (decide_eq_true (by rw [e]))
      have n4 : ¬ b = 10 := fun e => z4 (decide_eq_true (by rw [e]))
      have n1 : ¬ (97 ≤ b ∧ b ≤ 122) := fun e => by simp [e.1, e.2] at z
      have n2 : ¬ (48 ≤ b ∧ b ≤ 57) := fun e => by simp [e.1, e.2] at z2
      exact key 63 (by unfold Tc.sgn; rw [if_neg (by omega)])
/-! is_name, is_number -/
def spName : Sp := fun vs H Q _ => ∃ u : List Nat, vs = [.str (S u)] ∧ Sg u ∧ u.length ≤ 70000 ∧ Q (.bl (Tc.isName u)) H
theorem scName : FnScope ["word"] ["word"] (defScope sName) := ⟨rfl, rfl, rfl, by decide +kernel, rfl, by decide +kernel, by decide +kernel⟩
theorem name_val (u : List Nat) : Tc.isName u = ((decide ((1 : Int) ≤ (u.length : Nat)) && decide (((u.length : Nat) : Int) ≤ 12)) && ((!u.isEmpty && u.all fun c => Tc.lt c || Tc.dg c) && (u.head?.map Tc.lt).getD false)) := by
  unfold Tc.isName
  have e1 : decide ((1 : Int) ≤ (u.length : Nat)) = decide (1 ≤ u.length) := by rw [decide_eq_decide]; omega
  have e2 : decide (((u.length : Nat) : Int) ≤ 12) = decide (u.length ≤ 12) := by rw [decide_eq_decide]; omega
  rw [e1, e2]
  cases u with
  | nil => rfl
  | cons c r => simp [Bool.and_assoc]
theorem ok_name {f : Addr} {fd : FuncData} (F : Fun K "is_name" "is_name" sName f fd) (G : Gw mg) : FnOk P w K mg base CX0 1 f fd ["word"] spName := by
  refine F.ok scName (fun vs H Q E h => ?_) (fun cdv A outer s H vs Q E hr h => ?_)
  · obtain ⟨u, rfl, _⟩ := h
    rfl
  · obtain ⟨u, rfl, hs, hl, q⟩ := h
    refine ⟨_, pss_one (ps_ret (pe_and (pe_chain op_le op_le pe_int (pe_callB call_len_str rfl G.len PySem.boot_len (pa_cons (pv 0) pa_nil)) (pgi G.mostName))
      (pe_and (pe_m0 PySem.F.slot_str_isalnum PySem.F.type_str_isalnum mt_isalnum (pv 0)) (pe_one (pe_m0 PySem.F.slot_str_isalpha PySem.F.type_str_isalpha mt_isalpha (pe_ix ix_str (pv 0) pe_int (fun _ _ => rfl))))))), ?_⟩
    have hz : (S u).length ≤ sizeLine := by rw [S_len]; exact Nat.le_trans hl (by decide)
    rw [name_val] at q
    have yl : Yv (tCB (fun xs H Q => ∃ z, xs = [V.str z] ∧ z.length ≤ sizeLine ∧ Q (.int z.length) H) (tCons (tVar 0) tNil)) (start ["word"] [V.str (S u)]) H (.int (u.length : Nat)) := fun R r => ⟨_, rfl, _, rfl, hz, by rw [S_len]; exact r⟩
    refine rd_ch yv_c yl yv_c ⟨_, rfl, iteB (fun z => ?_) (fun z => ?_)⟩
    · rw [z, Bool.true_and] at q
      refine ⟨_, rfl, ⟨_, rfl⟩, _, rfl, rfl, trivial, _, rfl, ?_⟩
      rw [isalnum_S hs]
      refine iteB (fun z2 => ?_) (fun z2 => ?_)
      · rw [z2, Bool.true_and] at q
        cases u with
        | nil => cases z2
        | cons c r =>
          refine ⟨_, rfl, _, _, c, rfl, rfl, hz, atg (j := 0) rfl rfl, ⟨_, rfl⟩, _, rfl, rfl, trivial, ?_⟩
          rw [isalpha_S (hs c (by simp)).1 (hs c (by simp)).2]
          exact q
      · rw [z2, Bool.false_and] at q
        exact q
    · rw [z, Bool.false_and] at q
      exact q
def spNumber : Sp := fun vs H Q _ => ∃ (u : List Nat) (lo hi : Nat), vs = [.str (S u), .int lo, .int hi] ∧ Sg u ∧ u.length ≤ 70000 ∧ Q (.bl (Tc.isNum u lo hi)) H
theorem scNumber : FnScope ["word", "low", "high"] ["word", "low", "high"] (defScope sNumber) := ⟨rfl, rfl, rfl, by decide +kernel, rfl, by decide +kernel, by decide +kernel⟩
theorem num_false {u : List Nat} {lo hi : Nat} (h : (!u.isEmpty && u.all Tc.dg) = false ∨ 5 < u.length) : Tc.isNum u lo hi = false := by
  unfold Tc.isNum
  rcases h with h | h
  · rw [← Bool.and_assoc, h]; rfl
  · rw [decide_eq_false (by omega : ¬ u.length ≤ 5)]; simp
theorem ok_number {f : Addr} {fd : FuncData} (F : Fun K "is_number" "is_number" sNumber f fd) (G : Gw mg) : FnOk P w K mg base CX0 1 f fd ["word", "low", "high"] spNumber := by
  refine F.ok scNumber (fun vs H Q E h => ?_) (fun cdv A outer s H vs Q E hr h => ?_)
  · obtain ⟨u, lo, hi, rfl, _⟩ := h
    rfl
  · obtain ⟨u, lo, hi, rfl, hs, hl, q⟩ := h
    refine ⟨_, pss_cons (ps_if (PW.pt (pw_or (pt_not (pt_val (pe_m0 PySem.F.slot_str_isdigit PySem.F.type_str_isdigit mt_isdigit (pv 0)))) (pw_or1 (pt_cmpR op_gt (pe_callB call_len_str rfl G.len PySem.boot_len (pa_cons (pv 0) pa_nil)) (pgi G.mostDigits) (nomark _))))) (pss_one (ps_ret pe_bl)) pss_nil)
      (pss_cons (ps_if (PW.pt (pw_and (pt_cmpR op_gt (pe_callB call_len_str rfl G.len PySem.boot_len (pa_cons (pv 0) pa_nil)) pe_int (nomark _)) (pw_and1 (pt_cmpR op_eq (pe_ix ix_str (pv 0) pe_int (fun _ _ => rfl)) pe_str (nomark _))))) (pss_one (ps_ret pe_bl)) pss_nil)
      (pss_one (ps_ret (pe_chain op_le op_le (pv 1) (pe_callTy call_int_str rfl G.int PyProof.Rows.boot_int (pa_cons (pv 0) pa_nil)) (pv 2))))), ?_⟩
    have hz : (S u).length ≤ sizeLine := by rw [S_len]; exact Nat.le_trans hl (by decide)
    refine ⟨_, rfl, ⟨_, rfl⟩, _, rfl, rfl, trivial, _, rfl, ?_⟩
    rw [isdigit_S hs]
    refine iteB (fun z => ?_) (fun z => ?_)
    · have z : (!u.isEmpty && u.all Tc.dg) = false := by rw [Bool.not_eq_true'] at z; exact z
      rw [num_false (.inl z)] at q
      exact q
    have z : (!u.isEmpty && u.all Tc.dg) = true := by rw [Bool.not_eq_false'] at z; exact z
    refine ⟨_, rfl, _, rfl, hz, _, _, rfl, rfl, _, rfl, ite2 (fun z2 => ?_) (fun z2 => ?_)⟩
    · rw [S_len] at z2
      have z2 : (5 : Int) < ((u.length : Nat) : Int) := of_decide_eq_true z2
      rw [num_false (.inr (by omega))] at q
      exact q
    rw [S_len] at z2
    have z2 : ¬ (5 : Int) < ((u.length : Nat) : Int) := fun e => z2 (decide_eq_true e)
    rw [Bool.and_eq_true] at z
    obtain ⟨z0, z1⟩ := z
    cases u with
    | nil => cases z0
    | cons c r =>
      have hlen : (c :: r).length ≤ 5 := by omega
      have hnum : Tc.isNum (c :: r) lo hi = (!(decide (1 < (c :: r).length) && decide (c = 48)) && (decide ((lo : Int) ≤ ((Tc.num (c :: r) : Nat) : Int)) && decide (((Tc.num (c :: r) : Nat) : Int) ≤ (hi : Int)))) := by
        unfold Tc.isNum
        rw [z1, decide_eq_true hlen]
        have e1 : decide ((c :: r).head? = some 48) = decide (c = 48) := by rw [decide_eq_decide]; simp
        have e2 : decide ((lo : Int) ≤ ((Tc.num (c :: r) : Nat) : Int)) = decide (lo ≤ Tc.num (c :: r)) := by rw [decide_eq_decide]; omega
        have e3 : decide (((Tc.num (c :: r) : Nat) : Int) ≤ (hi : Int)) = decide (Tc.num (c :: r) ≤ hi) := by rw [decide_eq_decide]; omega
        rw [e1, e2, e3]
        rfl
      rw [hnum] at q
      have fin : (!(decide (1 < (c :: r).length) && decide (c = 48))) = true → tChain (rI0 fun i j => .bl (decide (i ≤ j))) (rI0 fun i j => .bl (decide (i ≤ j))) (tVar 1) (tCB (fun xs H Q => ∃ a n, xs = [V.str a] ∧ PySem.intText? a = some n ∧ a.length ≤ 640 ∧ Q (.int n) H) (tCons (tVar 0) tNil)) (tVar 2) (start ["word", "low", "high"] [V.str (S (c :: r)), V.int lo, V.int hi]) H Q := fun zz => by
        rw [zz, Bool.true_and] at q
        exact rd_ch (yv_v rfl) (fun R r' => ⟨_, rfl, _, _, rfl, int_S z1 (by simp) (by omega), by rw [S_len]; omega, r'⟩) (yv_v rfl) q
      refine ⟨_, rfl, _, rfl, hz, _, _, rfl, rfl, _, rfl, ite2 (fun z3 => ?_) (fun z3 => ?_)⟩
      · rw [S_len] at z3
        have z3 : (1 : Int) < (((c :: r).length : Nat) : Int) := of_decide_eq_true z3
        refine ⟨_, rfl, _, _, c, rfl, rfl, hz, atg (j := 0) rfl rfl, rfl, _, rfl, ite2 (fun z4 => ?_) (fun z4 => ?_)⟩
        · have z4 : c = 48 := by
            have e := S_inj (V.str.inj (of_decide_eq_true z4) : S [c] = S [48])
            simpa using e
          rw [decide_eq_true (by omega : 1 < (c :: r).length), decide_eq_true z4] at q
          exact q
        · have z4 : ¬ c = 48 := fun e => z4 (decide_eq_true (by rw [e]; rfl))
          exact fin (by rw [decide_eq_false z4]; simp)
      · rw [S_len] at z3
        have z3 : ¬ (1 : Int) < (((c :: r).length : Nat) : Int) := fun e => z3 (decide_eq_true e)
        exact fin (by rw [decide_eq_false (by omega : ¬ 1 < (c :: r).length)]; rfl)
end
end Tp
end
section
set_option Elab.async false
set_option linter.all false
set_option maxRecDepth 100000
set_option maxHeartbeats 2000000
namespace Tp
open PySem PySem.Spec PyProof.Rows L2
/-! heaps -/
theorem Same.new {H : Hp} {D : Addr} {o : HO} (h : H D = none) : Same H (upd H D o) := fun b u e => by
  rw [upd_ne (ne_of_none e h)]
  exact e
theorem Same.put {H1 H : Hp} {D : Addr} {o : HO} (h : H1 D = none) (s : Same H1 H) : Same H1 (upd H D o) := fun b u e => by
  rw [upd_ne (ne_of_none e h)]
  exact s b u e
theorem Same.tup {K : PySem.W.Frag} {H H' : Hp} {a : Addr} {xs : List V} (e : Same H H') (h : SqT K H a xs) : SqT K H' a xs := by
  rcases h with (h | ⟨o, h⟩) | h
  · exact .inl (.inl (e _ _ h))
  · exact .inl (.inr ⟨o, e _ _ h⟩)
  · exact .inr h
def off (D : Addr) (H : Hp) : Hp := fun b => if b = D then none else H b
theorem off_same {D : Addr} {H : Hp} : Same (off D H) H := fun b o e => by
  unfold off at e
  split at e
  · cases e
  · exact e
theorem off_get {D b : Addr} {H : Hp} {o : HO} (h : H b = some o) (hb : b ≠ D) : off D H b = some o := by
  unfold off
  rw [if_neg hb]
  exact h
theorem off_put {D : Addr} {H : Hp} {o : HO} : Same (off D H) (off D (upd H D o)) := fun b u e => by
  unfold off at e ⊢
  split at e
  · cases e
  · rename_i hb
    rw [if_neg hb, upd_ne hb]
    exact e
theorem off_mono {D : Addr} {H H' : Hp} (s : Same H H') : Same (off D H) (off D H') := fun b u e => by
  unfold off at e ⊢
  split at e
  · cases e
  · rename_i hb
    rw [if_neg hb]
    exact s b u e
/-- what stood before a fresh place is told without it, too -/
theorem off_old {D : Addr} {H1 H : Hp} (h : H1 D = none) (s : Same H1 H) : Same H1 (off D H) := fun b o e => off_get (s b o e) (ne_of_none e h)
theorem pair_get {α β : Type} {R : α → β → Prop} {as : List α} {bs : List β} (h : Paired R as bs) : ∀ (i : Nat) (b : β), bs[i]? = some b → ∃ a, as[i]? = some a ∧ R a b := by
  induction h with
  | nil => intro i b e; simp at e
  | @cons x y xs ys hxy _ ih =>
    intro i b e
    cases i with
    | zero =>
      have e : y = b := by simpa using e
      subst e
      exact ⟨x, rfl, hxy⟩
    | succ i => exact ih i b (by simpa using e)
theorem pair_get2 {α β : Type} {R : α → β → Prop} {as : List α} {bs : List β} (h : Paired R as bs) : ∀ (i : Nat) (a : α), as[i]? = some a → ∃ b, bs[i]? = some b ∧ R a b := by
  induction h with
  | nil => intro i b e; simp at e
  | @cons x y xs ys hxy _ ih =>
    intro i b e
    cases i with
    | zero =>
      have e : x = b := by simpa using e
      subst e
      exact ⟨y, rfl, hxy⟩
    | succ i => exact ih i b (by simpa using e)
theorem pair_snoc {α β : Type} {R : α → β → Prop} {as : List α} {bs : List β} (h : Paired R as bs) {a : α} {b : β} (r : R a b) : Paired R (as ++ [a]) (bs ++ [b]) := by
  induction h with
  | nil => exact .cons r .nil
  | cons hxy _ ih => exact .cons hxy ih
theorem pair_eq {α β : Type} {f : β → α} {as : List α} {bs : List β} (h : Paired (fun a b => a = f b) as bs) : as = bs.map f := by
  induction h with
  | nil => rfl
  | cons hxy _ ih => rw [List.map_cons, ← ih, hxy]
theorem pair_len {α β : Type} {R : α → β → Prop} {as : List α} {bs : List β} (h : Paired R as bs) : as.length = bs.length := Paired.length h
theorem pair_imp {α β : Type} {R R' : α → β → Prop} (f : ∀ a b, R a b → R' a b) {as : List α} {bs : List β} (h : Paired R as bs) : Paired R' as bs := Paired.mapP h f
theorem pair_take {α β : Type} {R : α → β → Prop} {as : List α} {bs : List β} (h : Paired R as bs) : ∀ n : Nat, Paired R (as.take n) (bs.take n) := by
  induction h with
  | nil => intro n; simp; exact .nil
  | cons hxy _ ih =>
    intro n
    cases n with
    | zero => exact .nil
    | succ n => exact .cons hxy (ih n)
theorem pair_drop {α β : Type} {R : α → β → Prop} {as : List α} {bs : List β} (h : Paired R as bs) : ∀ n : Nat, Paired R (as.drop n) (bs.drop n) := by
  induction h with
  | nil => intro n; simp; exact .nil
  | @cons a b as bs hxy t ih =>
    intro n
    cases n with
    | zero => exact .cons hxy t
    | succ n => exact ih n
theorem take_snoc {α : Type} : ∀ {l : List α} {i : Nat} {x : α}, l[i]? = some x → l.take (i + 1) = l.take i ++ [x]
  | [], i, x, h => by simp at h
  | a :: l, 0, x, h => by
    have e : a = x := by simpa using h
    subst e
    rfl
  | a :: l, i + 1, x, h => by
    have ih := take_snoc (l := l) (i := i) (x := x) (by simpa using h)
    show a :: l.take (i + 1) = a :: l.take i ++ [x]
    rw [ih]
    rfl
/-! a comprehension's block -/
def blkB (N : List Str) (sc scope : Scope) (own : List (Str × Nat)) : Bool :=
  (scope.kind == .function) && (scope.names.all fun y => scope.names.lookup y.1 == some y.2) && (own.all fun p => N[p.2]? == some p.1) &&
  (scope.names.all fun y => !(y.2 == .free) || (sc.names.lookup y.1 == some .cell || sc.names.lookup y.1 == some .free)) &&
  (scope.names.all fun y => !(y.2 == .local || y.2 == .cell) || ((own.map (·.1)).contains y.1 || !N.contains y.1))
theorem blk {N : List Str} {sc scope : Scope} {own : List (Str × Nat)} (h : blkB N sc scope own = true) : BlkOk N sc scope own := by
  unfold blkB at h
  simp only [Bool.and_eq_true, List.all_eq_true, beq_iff_eq, Bool.or_eq_true, Bool.not_eq_true', List.contains_iff_mem, beq_eq_false_iff_ne] at h
  obtain ⟨⟨⟨⟨h1, h2⟩, h3⟩, h4⟩, h5⟩ := h
  refine ⟨h1, h2, h3, fun y hy e => ?_, fun y hy e => ?_⟩
  · exact (h4 y hy).resolve_left (fun z => z e)
  · rcases h5 y hy with z | z | z
    · rw [Bool.or_eq_false_iff] at z
      rcases e with e | e
      · rw [e] at z; exact absurd z.1 (by decide)
      · rw [e] at z; exact absurd z.2 (by decide)
    · exact .inl z
    · exact .inr (fun m => by rw [List.contains_iff_mem.mpr m] at z; cases z)
/-! a comprehension: what is walked yields as many values as ds has items -/
theorem lc_gen {δ β : Type} {J : It} {g : TG} {tt : TT} {te : TE} {σ : L2.St} {vs : List Nat} {Q : VK} {H1 : Hp} {D : Addr} (it : Nat → V)
    (ds : List δ) (p : δ → Bool) (F : δ → β) (Rl : Hp → V → β → Prop) (mono : ∀ H H' v b, Same H H' → Rl H v b → Rl H' v b)
    (hgo : ∀ i H, i < ds.length → Same H1 H → J.go i H) (hyl : ∀ i H x H', i < ds.length → Same H1 H → J.yld i H x H' → H' = H ∧ x = it i) (hst : ∀ H, Same H1 H → J.stop ds.length H)
    (hz : ds.length ≤ sizeLine) (hD : H1 D = none)
    (hs : ∀ (i : Nat) d H acc (Yes : VK) (No : Hp → Prop), ds[i]? = some d → Same H1 H → H D = some (.lst acc) → (p d = true → ∀ H' y, Same H H' → Rl (off D H') y (F d) → Yes y H') → (p d = false → ∀ H', Same H H' → No H') →
      g (it i) (wipe σ vs) H fun σ2 H2 => wipe σ2 vs = wipe σ vs ∧ tt σ2 H2 fun b H3 => if b = true then te σ2 H3 Yes else No H3)
    (hd : ∀ H' ys, Same H1 H' → H' D = some (.lst ys) → Paired (Rl H') ys ((ds.filter p).map F) → Q (.ref D) H') :
    ∃ W : Nat → Nat → Hp → Prop, (∃ m, W 0 m (upd H1 D (.lst []))) ∧ ∀ i m H, W i m H →
      (J.stop i H ∧ Q (.ref D) H) ∨ (J.go i H ∧ ∃ Nx : Hp → Prop, (∀ H', Nx H' → ∃ m', m' < m ∧ W (i + 1) m' H') ∧ ∀ x H', J.yld i H x H' → g x (wipe σ vs) H' fun σ2 H2 => wipe σ2 vs = wipe σ vs ∧ tt σ2 H2 fun b H3 =>
        if b = true then te σ2 H3 fun y H4 => ∃ acc, H4 D = some (.lst acc) ∧ acc.length < sizeLine ∧ Nx (upd H4 D (.lst (acc ++ [y]))) else Nx H3) := by
  let Pv : Nat → Hp → Prop := fun i H => Same H1 H ∧ ∃ ys, H D = some (.lst ys) ∧ ys.length ≤ i ∧ Paired (Rl (off D H)) ys (((ds.take i).filter p).map F)
  refine ⟨fun i m H => m = ds.length - i ∧ i ≤ ds.length ∧ Pv i H, ⟨ds.length, by simp, Nat.zero_le _, Same.new hD, [], upd_same, Nat.le_refl _, by simp; exact .nil⟩, ?_⟩
  rintro i m H ⟨rfl, hi, s1, ys, hy, hyn, hp⟩
  by_cases hlt : i < ds.length
  · refine .inr ⟨hgo i H hlt s1, Pv (i + 1), fun H' p' => ⟨ds.length - (i + 1), by omega, rfl, hlt, p'⟩, fun x H' y => ?_⟩
    obtain ⟨rfl, rfl⟩ := hyl i H x H' hlt s1 y
    have hdi : ds[i]? = some ds[i] := List.getElem?_eq_getElem hlt
    refine hs i ds[i] H' ys _ _ hdi s1 hy (fun pt H4 y s4 r4 => ?_) (fun pf H4 s4 => ?_)
    · refine ⟨ys, s4 _ _ hy, by omega, Same.put hD (s1.trans s4), ys ++ [y], upd_same, by simp; omega, ?_⟩
      rw [take_snoc hdi, List.filter_append, List.map_append]
      have e : (([ds[i]] : List δ).filter p).map F = [F ds[i]] := by simp [pt]
      rw [e]
      exact pair_snoc (pair_imp (fun v b r => mono _ _ v b ((off_mono s4).trans off_put) r) hp) (mono _ _ _ _ off_put r4)
    · refine ⟨s1.trans s4, ys, s4 _ _ hy, by omega, ?_⟩
      rw [take_snoc hdi, List.filter_append, List.map_append]
      have e : (([ds[i]] : List δ).filter p).map F = [] := by simp [pf]
      rw [e, List.append_nil]
      exact pair_imp (fun v b r => mono _ _ v b (off_mono s4) r) hp
  · have e : i = ds.length := by omega
    subst e
    rw [List.take_length] at hp
    exact .inl ⟨hst H s1, hd H ys s1 hy (pair_imp (fun v b r => mono _ _ v b off_same r) hp)⟩
/-- .. over a list -/
theorem lc_list {δ β : Type} {K : PySem.W.Frag} {a : Addr} {xs : List V} {g : TG} {tt : TT} {te : TE} {σ : L2.St} {vs : List Nat} {Q : VK} {H1 : Hp} {D : Addr}
    (ds : List δ) (p : δ → Bool) (F : δ → β) (Rl : Hp → V → β → Prop) (mono : ∀ H H' v b, Same H H' → Rl H v b → Rl H' v b)
    (hx : SqL K H1 a xs) (hn : xs.length = ds.length) (hz : ds.length ≤ sizeLine) (hD : H1 D = none)
    (hs : ∀ (i : Nat) x d H acc (Yes : VK) (No : Hp → Prop), xs[i]? = some x → ds[i]? = some d → Same H1 H → H D = some (.lst acc) → (p d = true → ∀ H' y, Same H H' → Rl (off D H') y (F d) → Yes y H') → (p d = false → ∀ H', Same H H' → No H') →
      g x (wipe σ vs) H fun σ2 H2 => wipe σ2 vs = wipe σ vs ∧ tt σ2 H2 fun b H3 => if b = true then te σ2 H3 Yes else No H3)
    (hd : ∀ H' ys, Same H1 H' → H' D = some (.lst ys) → Paired (Rl H') ys ((ds.filter p).map F) → Q (.ref D) H') :
    ∃ W : Nat → Nat → Hp → Prop, (∃ m, W 0 m (upd H1 D (.lst []))) ∧ ∀ i m H, W i m H →
      ((Itl K a).stop i H ∧ Q (.ref D) H) ∨ ((Itl K a).go i H ∧ ∃ Nx : Hp → Prop, (∀ H', Nx H' → ∃ m', m' < m ∧ W (i + 1) m' H') ∧ ∀ x H', (Itl K a).yld i H x H' → g x (wipe σ vs) H' fun σ2 H2 => wipe σ2 vs = wipe σ vs ∧ tt σ2 H2 fun b H3 =>
        if b = true then te σ2 H3 fun y H4 => ∃ acc, H4 D = some (.lst acc) ∧ acc.length < sizeLine ∧ Nx (upd H4 D (.lst (acc ++ [y]))) else Nx H3) := by
  refine lc_gen (fun i => xs.getD i .non) ds p F Rl mono (fun i H hi s => ⟨xs, xs.getD i .non, s.seq hx, ?_⟩) (fun i H x H' hi s y => ⟨y.1, ?_⟩) (fun H s => ⟨xs, s.seq hx, by omega⟩) hz hD (fun i d H acc Yes No hdi s hacc hy hn' => ?_) hd
  · rw [List.getD_eq_getElem?_getD, List.getElem?_eq_getElem (by omega : i < xs.length)]; rfl
  · have e := y.2 xs (s.seq hx)
    rw [List.getD_eq_getElem?_getD, e]; rfl
  · have hlt : i < xs.length := by rw [hn]; exact (List.getElem?_eq_some_iff.mp hdi).1
    exact hs i _ d H acc Yes No (by rw [List.getD_eq_getElem?_getD, List.getElem?_eq_getElem hlt]; rfl) hdi s hacc hy hn'
/-- .. over range -/
theorem lc_range {δ β : Type} {lo : Int} {n : Nat} {g : TG} {tt : TT} {te : TE} {σ : L2.St} {vs : List Nat} {Q : VK} {H1 : Hp} {D : Addr}
    (ds : List δ) (p : δ → Bool) (F : δ → β) (Rl : Hp → V → β → Prop) (mono : ∀ H H' v b, Same H H' → Rl H v b → Rl H' v b)
    (hn : n = ds.length) (hz : ds.length ≤ sizeLine) (hD : H1 D = none)
    (hs : ∀ (i : Nat) d H acc (Yes : VK) (No : Hp → Prop), ds[i]? = some d → Same H1 H → H D = some (.lst acc) → (p d = true → ∀ H' y, Same H H' → Rl (off D H') y (F d) → Yes y H') → (p d = false → ∀ H', Same H H' → No H') →
      g (.int (lo + (i : Nat))) (wipe σ vs) H fun σ2 H2 => wipe σ2 vs = wipe σ vs ∧ tt σ2 H2 fun b H3 => if b = true then te σ2 H3 Yes else No H3)
    (hd : ∀ H' ys, Same H1 H' → H' D = some (.lst ys) → Paired (Rl H') ys ((ds.filter p).map F) → Q (.ref D) H') :
    ∃ W : Nat → Nat → Hp → Prop, (∃ m, W 0 m (upd H1 D (.lst []))) ∧ ∀ i m H, W i m H →
      ((Itr lo n).stop i H ∧ Q (.ref D) H) ∨ ((Itr lo n).go i H ∧ ∃ Nx : Hp → Prop, (∀ H', Nx H' → ∃ m', m' < m ∧ W (i + 1) m' H') ∧ ∀ x H', (Itr lo n).yld i H x H' → g x (wipe σ vs) H' fun σ2 H2 => wipe σ2 vs = wipe σ vs ∧ tt σ2 H2 fun b H3 =>
        if b = true then te σ2 H3 fun y H4 => ∃ acc, H4 D = some (.lst acc) ∧ acc.length < sizeLine ∧ Nx (upd H4 D (.lst (acc ++ [y]))) else Nx H3) :=
  lc_gen (fun i => .int (lo + (i : Nat))) ds p F Rl mono (fun i H hi s => by show i < n; omega) (fun i H x H' hi s y => ⟨y.1, y.2⟩) (fun H s => by show n ≤ ds.length; omega) hz hD hs hd
/-- the readings themselves -/
theorem lcl {δ β : Type} {K : PySem.W.Frag} {a : Addr} {xs : List V} {wi : TI} {g : TG} {tt : TT} {te : TE} {σ : L2.St} {vs : List Nat} {Q : VK} {H H1 : Hp} (hi : ∀ R : It → Hp → Prop, R (Itl K a) H1 → wi σ H R)
    (ds : List δ) (p : δ → Bool) (F : δ → β) (Rl : Hp → V → β → Prop) (mono : ∀ H H' v b, Same H H' → Rl H v b → Rl H' v b)
    (hx : SqL K H1 a xs) (hn : xs.length = ds.length) (hz : ds.length ≤ sizeLine)
    (hs : ∀ D, H1 D = none → ∀ (i : Nat) x d H acc (Yes : VK) (No : Hp → Prop), xs[i]? = some x → ds[i]? = some d → Same H1 H → H D = some (.lst acc) → (p d = true → ∀ H' y, Same H H' → Rl (off D H') y (F d) → Yes y H') → (p d = false → ∀ H', Same H H' → No H') →
      g x (wipe σ vs) H fun σ2 H2 => wipe σ2 vs = wipe σ vs ∧ tt σ2 H2 fun b H3 => if b = true then te σ2 H3 Yes else No H3)
    (hd : ∀ D, H1 D = none → ∀ H' ys, Same H1 H' → H' D = some (.lst ys) → Paired (Rl H') ys ((ds.filter p).map F) → Q (.ref D) H') : tLc wi g tt te vs σ H Q :=
  hi _ fun D hD => lc_list ds p F Rl mono hx hn hz hD (hs D hD) (hd D hD)
theorem lcr {δ β : Type} {lo : Int} {n : Nat} {wi : TI} {g : TG} {tt : TT} {te : TE} {σ : L2.St} {vs : List Nat} {Q : VK} {H H1 : Hp} (hi : ∀ R : It → Hp → Prop, R (Itr lo n) H1 → wi σ H R)
    (ds : List δ) (p : δ → Bool) (F : δ → β) (Rl : Hp → V → β → Prop) (mono : ∀ H H' v b, Same H H' → Rl H v b → Rl H' v b)
    (hn : n = ds.length) (hz : ds.length ≤ sizeLine)
    (hs : ∀ D, H1 D = none → ∀ (i : Nat) d H acc (Yes : VK) (No : Hp → Prop), ds[i]? = some d → Same H1 H → H D = some (.lst acc) → (p d = true → ∀ H' y, Same H H' → Rl (off D H') y (F d) → Yes y H') → (p d = false → ∀ H', Same H H' → No H') →
      g (.int (lo + (i : Nat))) (wipe σ vs) H fun σ2 H2 => wipe σ2 vs = wipe σ vs ∧ tt σ2 H2 fun b H3 => if b = true then te σ2 H3 Yes else No H3)
    (hd : ∀ D, H1 D = none → ∀ H' ys, Same H1 H' → H' D = some (.lst ys) → Paired (Rl H') ys ((ds.filter p).map F) → Q (.ref D) H') : tLc wi g tt te vs σ H Q :=
  hi _ fun D hD => lc_range ds p F Rl mono hn hz hD (hs D hD) (hd D hD)
theorem lclC {δ β : Type} {K : PySem.W.Frag} {xs : List V} {wi : TI} {g : TG} {tt : TT} {te : TE} {σ : L2.St} {vs : List Nat} {Q : VK} {H : Hp} (C : Addr → Hp → Prop) (hi : ∀ R : It → Hp → Prop, (∀ a H1, C a H1 → R (Itl K a) H1) → wi σ H R)
    (ds : List δ) (p : δ → Bool) (F : δ → β) (Rl : Hp → V → β → Prop) (mono : ∀ H H' v b, Same H H' → Rl H v b → Rl H' v b)
    (hx : ∀ a H1, C a H1 → SqL K H1 a xs) (hn : xs.length = ds.length) (hz : ds.length ≤ sizeLine)
    (hs : ∀ a H1, C a H1 → ∀ D, H1 D = none → ∀ (i : Nat) x d H acc (Yes : VK) (No : Hp → Prop), xs[i]? = some x → ds[i]? = some d → Same H1 H → H D = some (.lst acc) → (p d = true → ∀ H' y, Same H H' → Rl (off D H') y (F d) → Yes y H') → (p d = false → ∀ H', Same H H' → No H') →
      g x (wipe σ vs) H fun σ2 H2 => wipe σ2 vs = wipe σ vs ∧ tt σ2 H2 fun b H3 => if b = true then te σ2 H3 Yes else No H3)
    (hd : ∀ a H1, C a H1 → ∀ D, H1 D = none → ∀ H' ys, Same H1 H' → H' D = some (.lst ys) → Paired (Rl H') ys ((ds.filter p).map F) → Q (.ref D) H') : tLc wi g tt te vs σ H Q :=
  hi _ fun a H1 c D hD => lc_list ds p F Rl mono (hx a H1 c) hn hz hD (hs a H1 c D hD) (hd a H1 c D hD)
end Tp
end
section
set_option Elab.async false
set_option linter.all false
set_option maxRecDepth 100000
set_option maxHeartbeats 2000000
namespace Tp
open PySem PySem.Spec PyProof.Rows L2
/-- the words of a line stand at a -/
def WL (K : PySem.W.Frag) (H : Hp) (a : Addr) (ws : List (List Nat)) : Prop := SqL K H a (ws.map fun u => V.str (S u))
/-- v is the list of things that stand for the data -/
def RL {β : Type} (R : Hp → Addr → β → Prop) (H : Hp) (v : V) (b : β) : Prop := ∃ a, v = .ref a ∧ R H a b
/-- the list at l holds lists that stand for the data -/
def LL {β : Type} (R : Hp → Addr → β → Prop) (K : PySem.W.Frag) (H : Hp) (l : Addr) (bs : List β) : Prop := ∃ as : List Addr, SqL K H l (as.map V.ref) ∧ Paired (R H) as bs
theorem WL.mono {K : PySem.W.Frag} {H H' : Hp} {a : Addr} {ws : List (List Nat)} (s : Same H H') (h : WL K H a ws) : WL K H' a ws := s.seq h
theorem LL.mono {β : Type} {R : Hp → Addr → β → Prop} {K : PySem.W.Frag} (mono : ∀ H H' a b, Same H H' → R H a b → R H' a b) {H H' : Hp} {l : Addr} {bs : List β} (s : Same H H') (h : LL R K H l bs) : LL R K H' l bs :=
  let ⟨as, h1, h2⟩ := h
  ⟨as, s.seq h1, pair_imp (fun _ _ r => mono _ _ _ _ s r) h2⟩
theorem pair_ref {β : Type} {R : Hp → Addr → β → Prop} {H : Hp} {ys : List V} {bs : List β} (h : Paired (RL R H) ys bs) : ∃ as : List Addr, ys = as.map V.ref ∧ Paired (R H) as bs := by
  induction h with
  | nil => exact ⟨[], rfl, .nil⟩
  | cons hxy _ ih =>
    obtain ⟨a, rfl, r⟩ := hxy
    obtain ⟨as, rfl, q⟩ := ih
    exact ⟨a :: as, rfl, .cons r q⟩
theorem RL.mono {β : Type} {R : Hp → Addr → β → Prop} (mono : ∀ H H' a b, Same H H' → R H a b → R H' a b) : ∀ H H' v b, Same H H' → RL R H v b → RL R H' v b := fun H H' v b s ⟨a, e, r⟩ => ⟨a, e, mono H H' a b s r⟩
section
variable {P : Program} {w : World} {K : PySem.W.Frag} {mg : Str → Option Value} {base : Heap}
def spLines (K : PySem.W.Frag) : Sp := fun vs H Q _ => ∃ (a : Addr) (ns : List Int), vs = [.ref a] ∧ SqL K H a (ns.map V.int) ∧ (∀ z ∈ ns, 0 ≤ z ∧ z ≤ 255) ∧ ns.length ≤ 65536 ∧
  ∀ (H' : Hp) (l : Addr), Same H H' → LL (WL K) K H' l (Tc.linesOf (Tc.codes ns)) → Q (.ref l) H'
theorem scLines : FnScope ["text", "rows", "byte", "row"] ["text"] (defScope sLines) := ⟨rfl, rfl, rfl, by decide +kernel, rfl, by decide +kernel, by decide +kernel⟩
theorem sum_ones : ∀ cs : List Nat, ((cs.map fun c => S [c]).map (·.length)).sum = cs.length
  | [] => rfl
  | c :: r => by
    rw [List.map_cons, List.map_cons, List.sum_cons, sum_ones r, S_len, List.length_cons]
    simp; omega
theorem last_of {α : Type} (xs : List α) (d : α) (h : xs ≠ []) : atI xs (-1) = some (xs.getLastD d) := by
  obtain ⟨ys, y, rfl⟩ : ∃ ys y, xs = ys ++ [y] := ⟨xs.dropLast, xs.getLast h, (List.dropLast_concat_getLast h).symm⟩
  rw [atI_last]
  simp
theorem cut_init (xs : List V) : cutV xs none (some (-1)) = xs.dropLast := by
  unfold cutV HT.sIx
  simp only [List.drop_zero, Nat.sub_zero]
  rw [List.dropLast_eq_take]
  congr 1
  split <;> omega
theorem ok_lines {f : Addr} {fd : FuncData} (F : Fun K "lines_of" "lines_of" sLines f fd) (G : Gw mg) (D1 : Dfn P w K mg base 1 "sign_of" ["byte"] [] spSign) : FnOk P w K mg base CX0 2 f fd ["text"] (spLines K) := by
  refine F.ok scLines (fun vs H Q E h => ?_) (fun cdv A outer s H vs Q E hr h => ?_)
  · obtain ⟨a, ns, rfl, _⟩ := h
    rfl
  · obtain ⟨a, ns, rfl, ha, hb, hl, q⟩ := h
    refine ⟨_, pss_cons (ps_set (i := 1) scLines.nd rfl (Or.inl rfl) (pe_split (pe_join pe_str (pe_lc (own := [("byte", 2)]) rfl scLines.nd (pi_list (pv 0)) (blk (N := ["text", "rows", "byte", "row"]) (sc := defScope sLines) (by decide +kernel))
        (fun _ _ _ _ _ => pg_name (i := 2) scLines.nd rfl (Or.inl rfl)) (fun _ _ _ _ _ => pts_nil) (fun _ _ _ _ _ => pcall D1 hr (pa_cons (pv 2) pa_nil)))) pe_str))
      (pss_cons (ps_if (pt_cmpR op_ne (pe_ix ix_list (pv 1) (pe_un un_neg pe_int) (fun _ _ => rfl)) pe_str (nomark _)) (pss_one (ps_ret (pe_lst pa_nil))) pss_nil)
      (pss_one (ps_ret (pe_lc (own := [("row", 3)]) rfl scLines.nd (pi_list (pe_slice sl_list (pv 1) po_none (po_some (pe_un un_neg pe_int)))) (blk (N := ["text", "rows", "byte", "row"]) (sc := defScope sLines) (by decide +kernel))
        (fun _ _ _ _ _ => pg_name (i := 3) scLines.nd rfl (Or.inl rfl)) (fun _ _ _ _ _ => pts_nil) (fun _ _ _ _ _ => pe_split (pv 3) pe_str))))), ?_⟩
    have hsz : sizeLine = 16777216 := by decide
    refine ⟨⟨_, rfl⟩, ?_⟩
    refine lcl (K := K) (a := a) (fun R r => ⟨_, rfl, a, rfl, ⟨_, ha⟩, r⟩) ns (fun _ => true) (fun z => S [Tc.sgn z.toNat]) (fun _ v b => v = V.str b) (fun _ _ _ _ _ r => r) ha (by simp) (by omega) (fun D hD i x d H2 acc Yes No hx hd s2 hacc hy hn => ?_) (fun D hD H2 ys s2 hD2 hp => ?_)
    · have e : x = V.int d := by
        rw [List.getElem?_map, hd] at hx
        exact (Option.some.inj hx).symm
      subst e
      have hz := hb d (List.mem_of_getElem? hd)
      exact ⟨rfl, ⟨_, rfl, d, rfl, hz.1, hz.2, hy rfl _ _ (Same.refl _) rfl⟩⟩
    · have ey : ys = ((Tc.codes ns).map fun c => S [c]).map V.str := by
        have e := pair_eq (f := V.str) hp
        rw [e]
        congr 1
        rw [List.filter_eq_self.mpr (fun _ _ => rfl)]
        simp [Tc.codes]
      subst ey
      refine ⟨_, D, _, rfl, rfl, .inl (SqL.of hD2), ?_, ⟨_, rfl⟩, ?_⟩
      · have e1 : (((Tc.codes ns).map fun c => S [c]).map (·.length)).sum = ns.length := by
          rw [sum_ones]
          simp [Tc.codes]
        rw [e1]
        have : ("" : Str).length = 0 := by decide +kernel
        rw [this]
        omega
      · have ej : Txt.join (Str.ofString "") ((Tc.codes ns).map fun c => S [c]) = S (Tc.codes ns) := join_codes _
        rw [ej]
        refine ⟨_, _, rfl, rfl, rfl, by rw [S_len]; simp [Tc.codes]; omega, fun p hp2 => ?_⟩
        have es : Txt.split (S (Tc.codes ns)) (Str.ofString "\n") = (Tc.cut 10 (Tc.codes ns)).map S := split_cut _ (by decide)
        rw [es]
        have s3 : Same H (upd H2 p (.lst (((Tc.cut 10 (Tc.codes ns)).map S).map V.str))) := s2.trans (Same.new hp2)
        have hne := Tc.cut_ne 10 (Tc.codes ns)
        have hel : atI (((Tc.cut 10 (Tc.codes ns)).map S).map V.str) (-1) = some (V.str (S ((Tc.cut 10 (Tc.codes ns)).getLastD []))) := by
          obtain ⟨ys, y, e⟩ : ∃ ys y, Tc.cut 10 (Tc.codes ns) = ys ++ [y] := ⟨_, _, (List.dropLast_concat_getLast hne).symm⟩
          rw [e, List.map_append, List.map_append]
          refine (atI_last _ _).trans ?_
          simp
        refine ⟨_, rfl, _, rfl, p, _, _, _, rfl, rfl, SqL.of upd_same, hel, rfl, _, rfl, iteB (fun z => ?_) (fun z => ?_)⟩
        · have z : ¬ (Tc.cut 10 (Tc.codes ns)).getLastD [] = [] := fun e => by
            rw [e] at z
            exact absurd z (by decide)
          refine ⟨Nat.zero_le _, fun l hl2 => q _ l (s3.trans (Same.new hl2)) ?_⟩
          unfold Tc.linesOf
          rw [if_neg z]
          exact ⟨[], SqL.of upd_same, .nil⟩
        · have z : (Tc.cut 10 (Tc.codes ns)).getLastD [] = [] := by
            rw [Bool.not_eq_false'] at z
            exact S_inj (V.str.inj (of_decide_eq_true z) : S _ = S [])
          have hcc := cut_count 10 (Tc.codes ns)
          have hcl : (Tc.codes ns).length = ns.length := by simp [Tc.codes]
          have hlo : Tc.linesOf (Tc.codes ns) = (Tc.cut 10 (Tc.codes ns)).dropLast.map (Tc.cut 32) := by
            unfold Tc.linesOf
            rw [if_pos z]
          rw [hlo] at q
          dsimp only [tNext, tRet]
          refine lclC (K := K) (xs := ((Tc.cut 10 (Tc.codes ns)).dropLast.map fun u => V.str (S u))) (fun p2 H3 => Same H H3 ∧ H3 p2 = some (.lst ((Tc.cut 10 (Tc.codes ns)).dropLast.map fun u => V.str (S u))))
            (fun R r => ⟨_, rfl, _, rfl, _, rfl, p, _, rfl, SqL.of upd_same, fun p2 hp3 => ⟨p2, rfl, ⟨_, SqL.of upd_same⟩, r p2 _ ⟨s3.trans (Same.new hp3), ?_⟩⟩⟩)
            (Tc.cut 10 (Tc.codes ns)).dropLast (fun _ => true) (Tc.cut 32) (RL (WL K)) (RL.mono fun _ _ _ _ s r => WL.mono s r)
            (fun p2 H3 c => SqL.of c.2) (by simp) (by rw [List.length_dropLast]; omega) (fun p2 H3 c D hD i x d H4 acc Yes No hx hd s4 hacc hy hn => ?_) (fun p2 H3 c D hD H4 ys s4 hD2 hp => ?_)
          · rw [upd_same]
            have e : cutV (((Tc.cut 10 (Tc.codes ns)).map S).map V.str) none (some (-1)) = (Tc.cut 10 (Tc.codes ns)).dropLast.map fun u => V.str (S u) := by
              rw [cut_init, List.map_map, List.map_dropLast]
              rfl
            exact congrArg (fun z => some (HO.lst z)) e
          · have e : x = V.str (S d) := by
              rw [List.getElem?_map, hd] at hx
              exact (Option.some.inj hx).symm
            subst e
            have hdl := cut_len (List.dropLast_subset _ (List.mem_of_getElem? hd))
            refine ⟨rfl, _, rfl, ⟨_, rfl⟩, _, _, rfl, rfl, rfl, by rw [S_len]; omega, fun p5 hp5 => hy rfl _ _ (Same.new hp5) ?_⟩
            have es2 : Txt.split (S d) (Str.ofString " ") = (Tc.cut 32 d).map S := split_cut _ (by decide)
            rw [es2, List.map_map]
            exact ⟨p5, rfl, SqL.of (off_get upd_same (ne_of_none hacc hp5).symm)⟩
          · obtain ⟨as, rfl, hp6⟩ := pair_ref hp
            rw [List.filter_eq_self.mpr (fun _ _ => rfl)] at hp6
            exact q _ D (c.1.trans s4) ⟨as, SqL.of hD2, hp6⟩
end
end Tp
end
section
set_option Elab.async false
set_option linter.all false
set_option maxRecDepth 100000
set_option maxHeartbeats 2000000
namespace Tp
open PySem PySem.Spec PyProof.Rows L2
/-! readings that leave the heap: values (Yv), tests (Yt), arguments (Ya) -/
def Yt (t : TT) (σ : L2.St) (H : Hp) (b : Bool) : Prop := ∀ R : Bool → Hp → Prop, R b H → t σ H R
def Ya (t : TA) (σ : L2.St) (H : Hp) (vs : List V) : Prop := ∀ R : List V → Hp → Prop, R vs H → t σ H R
section
variable {σ : L2.St} {H : Hp} {ta tb tc : TE} {tA tB' : TT} {x y v u : V} {a b : Bool} {i j : Int} {K : PySem.W.Frag}
theorem ya_nil : Ya tNil σ H [] := fun _ r => r
theorem ya_cons {t : TA} {vs : List V} (h1 : Yv ta σ H v) (h2 : Ya t σ H vs) : Ya (tCons ta t) σ H (v :: vs) := fun R r => h1 _ (h2 _ r)
theorem ya1 (h1 : Yv ta σ H v) : Ya (tCons ta tNil) σ H [v] := ya_cons h1 ya_nil
theorem ya2 (h1 : Yv ta σ H v) (h2 : Yv tb σ H u) : Ya (tCons ta (tCons tb tNil)) σ H [v, u] := ya_cons h1 (ya1 h2)
theorem ya3 (h1 : Yv ta σ H v) (h2 : Yv tb σ H u) (h3 : Yv tc σ H x) : Ya (tCons ta (tCons tb (tCons tc tNil))) σ H [v, u, x] := ya_cons h1 (ya2 h2 h3)
theorem yv_call {sp : Sp} {t : TA} {vs : List V} (h1 : Ya t σ H vs) (h2 : ∀ R : VK, R v H → sp (vs ++ []) H R E0) : Yv (tCall sp [] E0 t) σ H v := fun R r => h1 _ (h2 R r)
theorem yt_B (h : Yv ta σ H (.bl a)) : Yt (tB ta) σ H a := fun R r => h _ ⟨a, rfl, r⟩
theorem yt_T (h : Yv ta σ H (.bl a)) : Yt (tTest ta) σ H a := fun R r => h _ ⟨a, rfl, r⟩
theorem yt_not (h : Yt tA σ H a) : Yt (tNot tA) σ H (!a) := fun R r => h _ r
theorem yt_or (h : Yt tA σ H a) (h2 : a = false → Yt tB' σ H b) : Yt (tOr tA tB') σ H (a || b) := fun R r => h _ (by
  cases a with
  | true => exact r
  | false => exact h2 rfl _ r)
theorem yt_and (h : Yt tA σ H a) (h2 : a = true → Yt tB' σ H b) : Yt (tAnd tA tB') σ H (a && b) := fun R r => h _ (by
  cases a with
  | true => exact h2 rfl _ r
  | false => exact r)
theorem yv_and (h : Yv ta σ H (.bl a)) (h2 : a = true → Yv tb σ H (.bl b)) : Yv (tAndV ta tb) σ H (.bl (a && b)) := fun R r => h _ ⟨a, rfl, by
  cases a with
  | true => exact h2 rfl _ r
  | false => exact r⟩
theorem yv_or (h : Yv ta σ H (.bl a)) (h2 : a = false → Yv tb σ H (.bl b)) : Yv (tOrV ta tb) σ H (.bl (a || b)) := fun R r => h _ ⟨a, rfl, by
  cases a with
  | true => exact r
  | false => exact h2 rfl _ r⟩
theorem yv_eq (h1 : Yv ta σ H v) (h2 : Yv tb σ H u) (hs : scal v u = true) : Yv (tOp rEq ta tb) σ H (.bl (decide (v = u))) := fun R r => h1 _ (h2 _ ⟨hs, r⟩)
theorem yv_ne (h1 : Yv ta σ H v) (h2 : Yv tb σ H u) (hs : scal v u = true) : Yv (tOp rNe ta tb) σ H (.bl (!decide (v = u))) := fun R r => h1 _ (h2 _ ⟨hs, r⟩)
theorem yv_eqS {p q : List Nat} (h1 : Yv ta σ H (.str (S p))) (h2 : Yv tb σ H (.str (S q))) : Yv (tOp rEq ta tb) σ H (.bl (decide (p = q))) := by
  have h := yv_eq h1 h2 rfl
  have e : decide (V.str (S p) = V.str (S q)) = decide (p = q) := by rw [decide_eq_decide]; exact S_iff
  rw [e] at h
  exact h
theorem yv_neS {p q : List Nat} (h1 : Yv ta σ H (.str (S p))) (h2 : Yv tb σ H (.str (S q))) : Yv (tOp rNe ta tb) σ H (.bl (!decide (p = q))) := by
  have h := yv_ne h1 h2 rfl
  have e : decide (V.str (S p) = V.str (S q)) = decide (p = q) := by rw [decide_eq_decide]; exact S_iff
  rw [e] at h
  exact h
theorem yv_eqI (h1 : Yv ta σ H (.int i)) (h2 : Yv tb σ H (.int j)) : Yv (tOp rEq ta tb) σ H (.bl (decide (i = j))) := by
  have h := yv_eq h1 h2 rfl
  have e : decide (V.int i = V.int j) = decide (i = j) := by rw [decide_eq_decide]; exact ⟨V.int.inj, fun h => by rw [h]⟩
  rw [e] at h
  exact h
theorem yv_neI (h1 : Yv ta σ H (.int i)) (h2 : Yv tb σ H (.int j)) : Yv (tOp rNe ta tb) σ H (.bl (!decide (i = j))) := by
  have h := yv_ne h1 h2 rfl
  have e : decide (V.int i = V.int j) = decide (i = j) := by rw [decide_eq_decide]; exact ⟨V.int.inj, fun h => by rw [h]⟩
  rw [e] at h
  exact h
theorem yv_i0 {g : Int → Int → V} (h1 : Yv ta σ H (.int i)) (h2 : Yv tb σ H (.int j)) : Yv (tOp (rI0 g) ta tb) σ H (g i j) := fun R r => h1 _ (h2 _ ⟨_, _, rfl, rfl, r⟩)
theorem yv_i {C : Int → Int → Prop} {g : Int → Int → V} (h1 : Yv ta σ H (.int i)) (h2 : Yv tb σ H (.int j)) (hc : C i j) : Yv (tOp (rI C g) ta tb) σ H (g i j) := fun R r => h1 _ (h2 _ ⟨_, _, rfl, rfl, hc, r⟩)
theorem yv_ch {k : Int} (h1 : Yv ta σ H (.int i)) (h2 : Yv tb σ H (.int j)) (h3 : Yv tc σ H (.int k)) : Yv (tChain (rI0 fun i j => .bl (decide (i ≤ j))) (rI0 fun i j => .bl (decide (i ≤ j))) ta tb tc) σ H (.bl (decide (i ≤ j) && decide (j ≤ k))) := fun R r => rd_ch h1 h2 h3 r
/-- xs[j] -/
theorem yv_at {p : Addr} {xs : List V} {z : Int} (h1 : Yv ta σ H (.ref p)) (hl : SqL K H p xs) (h2 : Yv tb σ H (.int z)) (e : atI xs z = some v) : Yv (tOp (rIxL K) ta tb) σ H v := fun R r => h1 _ (h2 _ ⟨p, xs, z, v, rfl, rfl, hl, e, r⟩)
theorem yv_word {p : Addr} {ws : List (List Nat)} {n : Nat} {w : List Nat} (h1 : Yv ta σ H (.ref p)) (hl : WL K H p ws) (h2 : Yv tb σ H (.int (n : Nat))) (e : ws[n]? = some w) : Yv (tOp (rIxL K) ta tb) σ H (.str (S w)) :=
  yv_at h1 hl h2 (atI_nat (by rw [List.getElem?_map, e]; rfl))
theorem yv_wordZ {p : Addr} {ws : List (List Nat)} {n : Nat} {w : List Nat} {z : Int} (h1 : Yv ta σ H (.ref p)) (hl : WL K H p ws) (h2 : Yv tb σ H (.int z)) (ez : z = (n : Int)) (e : ws[n]? = some w) : Yv (tOp (rIxL K) ta tb) σ H (.str (S w)) :=
  yv_at h1 hl h2 (atg ez (by rw [List.getElem?_map, e]; rfl))
/-- len(xs) -/
theorem yv_len {p : Addr} {xs : List V} (h1 : Yv ta σ H (.ref p)) (hl : SqL K H p xs) : Yv (tCB (fun xs H Q => ∃ p ys, xs = [V.ref p] ∧ (SqL K H p ys ∨ SqT K H p ys) ∧ Q (.int ys.length) H) (tCons ta tNil)) σ H (.int (xs.length : Nat)) := fun R r => h1 _ ⟨p, xs, rfl, .inl hl, r⟩
/-- int(word) -/
theorem yv_int {w : List Nat} (h1 : Yv ta σ H (.str (S w))) (hd : w.all Tc.dg = true) (hn : w ≠ []) (hl : w.length ≤ 640) : Yv (tCB (fun xs H Q => ∃ a n, xs = [V.str a] ∧ PySem.intText? a = some n ∧ a.length ≤ 640 ∧ Q (.int n) H) (tCons ta tNil)) σ H (.int (Tc.num w : Nat)) :=
  fun R r => h1 _ ⟨_, _, rfl, int_S hd hn hl, by rw [S_len]; exact hl, r⟩
theorem num_dig {w : List Nat} {lo hi : Nat} (h : Tc.isNum w lo hi = true) : w.all Tc.dg = true ∧ w ≠ [] ∧ w.length ≤ 640 := by
  unfold Tc.isNum at h
  simp only [Bool.and_eq_true, decide_eq_true_eq, Bool.not_eq_true'] at h
  refine ⟨h.2.1, fun e => ?_, by omega⟩
  rw [e] at h
  exact absurd h.1 (by decide)
theorem yv_intN {w : List Nat} {lo hi : Nat} (h1 : Yv ta σ H (.str (S w))) (h : Tc.isNum w lo hi = true) : Yv (tCB (fun xs H Q => ∃ a n, xs = [V.str a] ∧ PySem.intText? a = some n ∧ a.length ≤ 640 ∧ Q (.int n) H) (tCons ta tNil)) σ H (.int (Tc.num w : Nat)) :=
  yv_int h1 (num_dig h).1 (num_dig h).2.1 (num_dig h).2.2
theorem yv_num {w : List Nat} {lo hi : Nat} {t : TA} (h1 : Ya t σ H [.str (S w), .int (lo : Nat), .int (hi : Nat)]) (hs : Sg w) (hl : w.length ≤ 70000) : Yv (tCall spNumber [] E0 t) σ H (.bl (Tc.isNum w lo hi)) :=
  yv_call h1 fun R r => ⟨w, lo, hi, rfl, hs, hl, r⟩
theorem yv_name {w : List Nat} {t : TA} (h1 : Ya t σ H [.str (S w)]) (hs : Sg w) (hl : w.length ≤ 70000) : Yv (tCall spName [] E0 t) σ H (.bl (Tc.isName w)) :=
  yv_call h1 fun R r => ⟨w, rfl, hs, hl, r⟩
end
/-- good words -/
def Gd (ws : List (List Nat)) : Prop := ∀ u ∈ ws, Sg u ∧ u.length ≤ 70000
theorem Gd.at {ws : List (List Nat)} {n : Nat} {u : List Nat} (h : Gd ws) (e : ws[n]? = some u) : Sg u ∧ u.length ≤ 70000 := h u (List.mem_of_getElem? e)
end Tp
end
section
set_option Elab.async false
set_option linter.all false
set_option maxRecDepth 100000
set_option maxHeartbeats 2000000
namespace Tp
open PySem PySem.Spec PyProof.Rows L2
abbrev sIsRace : Stmt := top 16
abbrev sCouples : Stmt := top 17
abbrev sCouple : Stmt := top 18
abbrev sInts : Stmt := top 19
structure Gr (mg : Str → Option Value) : Prop where
  least : GI mg "LEAST_RUNNERS" 2
  most : GI mg "MOST_RUNNERS" 24
  couples : GI mg "MOST_COUPLES" 8
  head : GI mg "HEAD_WORDS" 2
  cwords : GI mg "COUPLE_WORDS" 3
section
variable {P : Program} {w : World} {K : PySem.W.Frag} {mg : Str → Option Value} {base : Heap}
abbrev DNumber (P : Program) (w : World) (K : PySem.W.Frag) (mg : Str → Option Value) (base : Heap) : Prop := Dfn P w K mg base 1 "is_number" ["word", "low", "high"] [] spNumber
def cpB (w0 w1 w2 : List Nat) (n : Nat) : Bool := decide (w0 = Tc.kCouple) && (Tc.isNum w1 1 n && (Tc.isNum w2 1 n && decide (Tc.num w1 < Tc.num w2)))
def spCouple (K : PySem.W.Frag) : Sp := fun vs H Q _ => ∃ (a : Addr) (w0 w1 w2 : List Nat) (n : Nat), vs = [.ref a, .int n] ∧ WL K H a [w0, w1, w2] ∧ Gd [w0, w1, w2] ∧ Q (.bl (cpB w0 w1 w2 n)) H
theorem scCouple : FnScope ["words", "runners"] ["words", "runners"] (defScope sCouple) := ⟨rfl, rfl, rfl, by decide +kernel, rfl, by decide +kernel, by decide +kernel⟩
theorem ok_couple {f : Addr} {fd : FuncData} (F : Fun K "is_couple" "is_couple" sCouple f fd) (G : Gw mg) (DN : DNumber P w K mg base) : FnOk P w K mg base CX0 2 f fd ["words", "runners"] (spCouple K) := by
  refine F.ok scCouple (fun vs H Q E h => ?_) (fun cdv A outer s H vs Q E hr h => ?_)
  · obtain ⟨a, w0, w1, w2, n, rfl, _⟩ := h
    rfl
  · obtain ⟨a, w0, w1, w2, n, rfl, hw, hg, q⟩ := h
    refine ⟨_, pss_cons (ps_if (PW.pt (pw_or (pt_cmpR op_ne (pe_ix ix_list (pv 0) pe_int (fun _ _ => rfl)) pe_str (nomark _))
        (pw_or (pt_not (pt_val (pcall DN hr (pa_cons (pe_ix ix_list (pv 0) pe_int (fun _ _ => rfl)) (pa_cons pe_int (pa_cons (pv 1) pa_nil))))))
        (pw_or1 (pt_not (pt_val (pcall DN hr (pa_cons (pe_ix ix_list (pv 0) pe_int (fun _ _ => rfl)) (pa_cons pe_int (pa_cons (pv 1) pa_nil)))))))))) (pss_one (ps_ret pe_bl)) pss_nil)
      (pss_one (ps_ret (pe_cmpR op_lt (pe_callTy call_int_str rfl G.int PyProof.Rows.boot_int (pa_cons (pe_ix ix_list (pv 0) pe_int (fun _ _ => rfl)) pa_nil)) (pe_callTy call_int_str rfl G.int PyProof.Rows.boot_int (pa_cons (pe_ix ix_list (pv 0) pe_int (fun _ _ => rfl)) pa_nil)) (nomark _)))), ?_⟩
    have y0 : Yv (tOp (rIxL K) (tVar 0) (tC (.int 0))) (start ["words", "runners"] [.ref a, .int n]) H (.str (S w0)) := yv_word (n := 0) (yv_v rfl) hw yv_c rfl
    have y1 : Yv (tOp (rIxL K) (tVar 0) (tC (.int 1))) (start ["words", "runners"] [.ref a, .int n]) H (.str (S w1)) := yv_word (n := 1) (yv_v rfl) hw yv_c rfl
    have y2 : Yv (tOp (rIxL K) (tVar 0) (tC (.int 2))) (start ["words", "runners"] [.ref a, .int n]) H (.str (S w2)) := yv_word (n := 2) (yv_v rfl) hw yv_c rfl
    have g1 := hg w1 (by simp)
    have g2 := hg w2 (by simp)
    refine (yt_or (yt_T (yv_neS y0 (q := Tc.kCouple) yv_c)) fun _ => yt_or (yt_not (yt_B (yv_num (lo := 1) (hi := n) (ya3 y1 yv_c (yv_v rfl)) g1.1 g1.2))) fun _ => yt_not (yt_B (yv_num (lo := 1) (hi := n) (ya3 y2 yv_c (yv_v rfl)) g2.1 g2.2))) _ ?_
    refine iteB (fun z => ?_) (fun z => ?_)
    · have e : cpB w0 w1 w2 n = false := by
        unfold cpB
        rcases Bool.or_eq_true_iff.mp z with z | z
        · rw [Bool.not_eq_true'] at z; rw [z]; rfl
        · rcases Bool.or_eq_true_iff.mp z with z | z
          · rw [Bool.not_eq_true'] at z; rw [z]; simp
          · rw [Bool.not_eq_true'] at z; rw [z]; simp
      rw [e] at q
      exact q
    · simp only [Bool.or_eq_false_iff, Bool.not_eq_false'] at z
      obtain ⟨z0, z1, z2⟩ := z
      unfold cpB at q
      rw [z0, z1, z2, Bool.true_and, Bool.true_and, Bool.true_and] at q
      refine (yv_i0 (yv_intN y1 z1) (yv_intN y2 z2)) _ ?_
      have e : decide (((Tc.num w1 : Nat) : Int) < ((Tc.num w2 : Nat) : Int)) = decide (Tc.num w1 < Tc.num w2) := by rw [decide_eq_decide]; omega
      show Q (V.bl (decide (((Tc.num w1 : Nat) : Int) < ((Tc.num w2 : Nat) : Int)))) H
      rw [e]
      exact q
/-! the steps of three -/
theorem rg3 {lo : Int} {j : Nat} {n : Nat} (h0 : 0 ≤ lo) (h1 : lo ≤ 4) (h2 : j ≤ 100000) (hn : (n : Int) = if lo < (j : Int) then ((j : Int) - lo - 1) / 3 + 1 else 0) : RgC lo (j : Nat) 3 n := by
  have e : Builtin.Range.rangeSize lo (j : Nat) 3 = n := by
    unfold Builtin.Range.rangeSize
    rw [if_pos (by decide), hn]
  refine ⟨by decide, by decide, ?_, e⟩
  unfold Builtin.Range.small
  rw [e]
  have fit : ∀ z : Int, -1000000 ≤ z → z ≤ 1000000 → Builtin.Range.rangeFitsLong z = true := fun z z1 z2 => by
    unfold Builtin.Range.rangeFitsLong
    rw [Bool.and_eq_true, decide_eq_true_eq, decide_eq_true_eq]
    omega
  have hn2 : n ≤ 100001 := by split at hn <;> omega
  rw [fit lo (by omega) (by omega), fit (j : Nat) (by omega) (by omega), fit 3 (by decide) (by decide), fit (n : Nat) (by omega) (by omega), if_pos (by decide), fit _ (by omega) (by omega)]
  simp
def coupB (n : Nat) (f s w0 w1 w2 : List Nat) : Bool := cpB w0 w1 w2 n && !(s.contains (Tc.num w1) || (f.contains (Tc.num w2) || s.contains (Tc.num w2)))
theorem coup_step (n : Nat) (f s w0 w1 w2 : List Nat) (r : List (List Nat)) : Tc.coup n f s (w0 :: w1 :: w2 :: r) = (coupB n f s w0 w1 w2 && Tc.coup n (f ++ [Tc.num w1]) (s ++ [Tc.num w2]) r) := by
  show (_ && (_ && _)) = _
  unfold coupB cpB
  simp only [Bool.and_assoc]
theorem drop3 {ws : List (List Nat)} {k : Nat} (h : k + 3 ≤ ws.length) : ∃ w0 w1 w2, ws.drop k = w0 :: w1 :: w2 :: ws.drop (k + 3) ∧ ws[k]? = some w0 ∧ ws[k + 1]? = some w1 ∧ ws[k + 2]? = some w2 := by
  refine ⟨ws[k], ws[k + 1], ws[k + 2], ?_, List.getElem?_eq_getElem _, List.getElem?_eq_getElem _, List.getElem?_eq_getElem _⟩
  rw [List.drop_eq_getElem_cons (by omega), List.drop_eq_getElem_cons (by omega), List.drop_eq_getElem_cons (by omega)]
theorem cut3 {ws : List (List Nat)} {k : Nat} {w0 w1 w2 : List Nat} (h : k + 3 ≤ ws.length) (e : ws.drop k = w0 :: w1 :: w2 :: ws.drop (k + 3)) :
    cutV (ws.map fun u => V.str (S u)) (some ((k : Nat) : Int)) (some (((k + 3 : Nat) : Nat) : Int)) = ([w0, w1, w2].map fun u => V.str (S u)) := by
  unfold cutV
  rw [HT.sIx_nat, HT.sIx_nat, List.length_map]
  have e1 : min k ws.length = k := by omega
  have e2 : min (k + 3) ws.length = k + 3 := by omega
  rw [e1, e2, ← List.map_drop, e]
  have e3 : k + 3 - k = 3 := by omega
  rw [e3]
  rfl
theorem inV_nat (x : Nat) : ∀ l : List Nat, inV (.int (x : Nat)) (l.map fun n => V.int (n : Nat)) = l.contains x
  | [] => rfl
  | y :: r => by
    have ih := inV_nat x r
    unfold inV at ih ⊢
    rw [List.map_cons, List.any_cons, ih, List.contains_cons]
    congr 1
    show (((y : Nat) : Int) == ((x : Nat) : Int)) = (x == y)
    by_cases e : x = y
    · subst e; simp
    · have e2 : ¬ ((y : Nat) : Int) = ((x : Nat) : Int) := by omega
      rw [beq_eq_false_iff_ne.mpr e2, beq_eq_false_iff_ne.mpr e]
theorem flat_nat : ∀ l : List Nat, (l.map fun n => V.int (n : Nat)).all flatV = true
  | [] => rfl
  | y :: r => by
    rw [List.map_cons, List.all_cons, flat_nat r]
    rfl
theorem yv_in {σ : L2.St} {H : Hp} {ta tb : TE} {p : Addr} {l : List Nat} {x : Nat} (h1 : Yv ta σ H (.int (x : Nat))) (h2 : Yv tb σ H (.ref p)) (hl : SqL K H p (l.map fun n => V.int (n : Nat))) : Yv (tOp (rIn K false) ta tb) σ H (.bl (l.contains x)) := fun R r =>
  h1 _ (h2 _ ⟨p, _, rfl, .inl hl, rfl, flat_nat l, by
    show R (.bl (inV (.int (x : Nat)) (l.map fun n => V.int (n : Nat)))) H
    rw [inV_nat]; exact r⟩)
theorem yv_notIn {σ : L2.St} {H : Hp} {ta tb : TE} {p : Addr} {l : List Nat} {x : Nat} (h1 : Yv ta σ H (.int (x : Nat))) (h2 : Yv tb σ H (.ref p)) (hl : SqL K H p (l.map fun n => V.int (n : Nat))) : Yv (tOp (rIn K true) ta tb) σ H (.bl (!l.contains x)) := fun R r =>
  h1 _ (h2 _ ⟨p, _, rfl, .inl hl, rfl, flat_nat l, by
    show R (.bl (!inV (.int (x : Nat)) (l.map fun n => V.int (n : Nat)))) H
    rw [inV_nat]; exact r⟩)
def spCouples (K : PySem.W.Frag) : Sp := fun vs H Q _ => ∃ (a : Addr) (ws : List (List Nat)) (n m : Nat), vs = [.ref a, .int n] ∧ WL K H a ws ∧ Gd ws ∧ ws.length = 2 + 3 * m ∧ m ≤ 30000 ∧ ∀ H', Same H H' → Q (.bl (Tc.coup n [] [] (ws.drop 2))) H'
abbrev nCouples : List Str := ["words", "runners", "firsts", "seconds", "at", "first", "second"]
theorem scCouples : FnScope nCouples ["words", "runners"] (defScope sCouples) := ⟨rfl, rfl, rfl, by decide +kernel, rfl, by decide +kernel, by decide +kernel⟩
theorem ok_couples {f : Addr} {fd : FuncData} (F : Fun K "has_good_couples" "has_good_couples" sCouples f fd) (G : Gw mg) (R : Gr mg) (DC : Dfn P w K mg base 2 "is_couple" ["words", "runners"] [] (spCouple K)) : FnOk P w K mg base CX0 3 f fd ["words", "runners"] (spCouples K) := by
  refine F.ok scCouples (fun vs H Q E h => ?_) (fun cdv A outer s H vs Q E hr h => ?_)
  · obtain ⟨a, ws, n, m, rfl, _⟩ := h
    rfl
  · obtain ⟨a, ws, n, m, rfl, hw, hg, hm, hm2, q⟩ := h
    refine ⟨_, pss_cons (ps_set (i := 2) scCouples.nd rfl (Or.inl rfl) (pe_lst pa_nil))
      (pss_cons (ps_set (i := 3) scCouples.nd rfl (Or.inl rfl) (pe_lst pa_nil))
      (pss_cons (ps_for PassesOwn.never rfl (pi_range3 rfl G.range (pa_cons (pgi R.head) (pa_cons (pe_callB call_len_seq rfl G.len PySem.boot_len (pa_cons (pv 0) pa_nil)) (pa_cons (pgi R.cwords) pa_nil)))) (pg_name (i := 4) scCouples.nd rfl (Or.inl rfl))
        (pss_cons (ps_if (pt_not (pt_val (pcall DC hr (pa_cons (pe_slice sl_list (pv 0) (po_some (pv 4)) (po_some (pe_op op_add (pv 4) (pgi R.cwords)))) (pa_cons (pv 1) pa_nil))))) (pss_one (ps_ret pe_bl)) pss_nil)
        (pss_cons (ps_set (i := 5) scCouples.nd rfl (Or.inl rfl) (pe_callTy call_int_str rfl G.int PyProof.Rows.boot_int (pa_cons (pe_ix ix_list (pv 0) (pe_op op_add (pv 4) pe_int) (fun _ _ => rfl)) pa_nil)))
        (pss_cons (ps_set (i := 6) scCouples.nd rfl (Or.inl rfl) (pe_callTy call_int_str rfl G.int PyProof.Rows.boot_int (pa_cons (pe_ix ix_list (pv 0) (pe_op op_add (pv 4) pe_int) (fun _ _ => rfl)) pa_nil)))
        (pss_cons (ps_if (PW.pt (pw_or (pt_cmpR op_in_seq (pv 5) (pv 3) (by with_unfolding_all rfl)) (pw_or (pt_cmpR op_in_seq (pv 6) (pv 2) (by with_unfolding_all rfl)) (pw_or1 (pt_cmpR op_in_seq (pv 6) (pv 3) (by with_unfolding_all rfl)))))) (pss_one (ps_ret pe_bl)) pss_nil)
        (pss_cons (ps_expr (pe_bm PySem.F.plainAttrs_list PySem.F.slot_list_append PySem.F.type_list_append mt_append (pv 2) (pa_cons (pv 5) pa_nil)))
        (pss_one (ps_expr (pe_bm PySem.F.plainAttrs_list PySem.F.slot_list_append PySem.F.type_list_append mt_append (pv 3) (pa_cons (pv 6) pa_nil))))))))))
      (pss_one (ps_ret pe_bl)))), ?_⟩
    refine ⟨Nat.zero_le _, fun lf hf => ⟨Nat.zero_le _, fun ls hs => ?_⟩⟩
    have s1 : Same H (upd (upd H lf (.lst [])) ls (.lst [])) := (Same.new hf).trans (Same.new hs)
    have hsz : sizeLine = 16777216 := by decide
    have hne : lf ≠ ls := ne_of_none upd_same hs
    refine ⟨_, rfl, a, _, rfl, .inl (s1.seq hw), 2, ((ws.length : Nat) : Int), 3, m, ?_, rg3 (by decide) (by decide) (by omega) (by split <;> omega), ?_⟩
    · rw [List.length_map]
    refine for_rangeC (lo := 2) (c := 3) (n := m) (fun i σ H' => ∃ (fs ss : List Nat) (v4 v5 v6 : Option V), σ = [some (.ref a), some (.int n), some (.ref lf), some (.ref ls), v4, v5, v6] ∧ Same H H' ∧ H' lf = some (.lst (fs.map fun n => V.int (n : Nat))) ∧ H' ls = some (.lst (ss.map fun n => V.int (n : Nat))) ∧ fs.length = i ∧ ss.length = i ∧
      Tc.coup n [] [] (ws.drop 2) = Tc.coup n fs ss (ws.drop (2 + 3 * i))) ⟨[], [], none, none, none, rfl, s1, by rw [upd_ne hne]; exact upd_same, upd_same, rfl, rfl, rfl⟩ ?_ ?_
    · rintro i σ H' hi ⟨fs, ss, v4, v5, v6, rfl, s2, h1, h2, l1, l2, hc⟩
      obtain ⟨w0, w1, w2, ed, e0, e1, e2⟩ := drop3 (ws := ws) (k := 2 + 3 * i) (by omega)
      have e3 := cut3 (ws := ws) (k := 2 + 3 * i) (by omega) ed
      rw [ed, coup_step] at hc
      have ek : (2 : Int) + (i : Nat) * 3 = ((2 + 3 * i : Nat) : Int) := by omega
      rw [ek]
      have ek3 : ((2 + 3 * i : Nat) : Int) + 3 = ((2 + 3 * i + 3 : Nat) : Int) := by omega
      refine ⟨_, rfl, _, rfl, _, rfl, _, rfl, _, _, rfl, rfl, _, rfl, a, _, rfl, s2.seq hw, fun p hp => ?_⟩
      have s3 := Same.new (o := HO.lst (cutV (ws.map fun u => V.str (S u)) (some ((2 + 3 * i : Nat) : Int)) (some (((2 + 3 * i : Nat) : Int) + 3)))) hp
      have hp3 : WL K (upd H' p (HO.lst (cutV (ws.map fun u => V.str (S u)) (some ((2 + 3 * i : Nat) : Int)) (some (((2 + 3 * i : Nat) : Int) + 3))))) p [w0, w1, w2] := by
        refine SqL.of ?_
        rw [upd_same, ek3, e3]
      generalize upd H' p _ = H3 at s3 hp3 ⊢
      have g0 := hg.at e0
      have g1 := hg.at e1
      have g2 := hg.at e2
      refine ⟨_, rfl, p, w0, w1, w2, n, rfl, hp3, fun u hu => ?_, _, rfl, iteB (fun z => ?_) (fun z => ?_)⟩
      · simp only [List.mem_cons, List.not_mem_nil, or_false] at hu
        rcases hu with rfl | rfl | rfl
        · exact g0
        · exact g1
        · exact g2
      · rw [Bool.not_eq_true'] at z
        have e : Tc.coup n [] [] (ws.drop 2) = false := by rw [hc]; unfold coupB; rw [z]; rfl
        rw [e] at q
        exact q _ (s2.trans s3)
      rw [Bool.not_eq_false'] at z
      have z' := z
      unfold cpB at z'
      simp only [Bool.and_eq_true, decide_eq_true_eq] at z'
      have hw3 := (s2.trans s3).seq hw
      have h13 := s3 _ _ h1
      have h23 := s3 _ _ h2
      have y1 : ∀ (v5 v6 : Option V), Yv (tOp (rIxL K) (tVar 0) (tOp (rI0 fun i j => .int (i + j)) (tVar 4) (tC (.int 1)))) [some (.ref a), some (.int n), some (.ref lf), some (.ref ls), some (.int ((2 + 3 * i : Nat) : Int)), v5, v6] H3 (.str (S w1)) := fun v5 v6 =>
        yv_wordZ (n := 2 + 3 * i + 1) (yv_v rfl) hw3 (yv_i0 (g := fun i j => V.int (i + j)) (yv_v rfl) yv_c) (by omega) e1
      have y2 : ∀ (v5 v6 : Option V), Yv (tOp (rIxL K) (tVar 0) (tOp (rI0 fun i j => .int (i + j)) (tVar 4) (tC (.int 2)))) [some (.ref a), some (.int n), some (.ref lf), some (.ref ls), some (.int ((2 + 3 * i : Nat) : Int)), v5, v6] H3 (.str (S w2)) := fun v5 v6 =>
        yv_wordZ (n := 2 + 3 * i + 2) (yv_v rfl) hw3 (yv_i0 (g := fun i j => V.int (i + j)) (yv_v rfl) yv_c) (by omega) e2
      dsimp only [tNext, tSeq, tAsg]
      refine (yv_intN (y1 v5 v6) z'.2.1) _ ?_
      dsimp only [tNext, tSeq, tAsg, gName]
      refine (yv_intN (y2 _ v6) z'.2.2.1) _ ?_
      try dsimp only [tNext, tSeq, tAsg, gName]
      refine (yt_or (yt_T (yv_in (x := Tc.num w1) (yv_v rfl) (yv_v rfl) (SqL.of h23))) fun _ => yt_or (yt_T (yv_in (x := Tc.num w2) (yv_v rfl) (yv_v rfl) (SqL.of h13))) fun _ => yt_T (yv_in (x := Tc.num w2) (yv_v rfl) (yv_v rfl) (SqL.of h23))) _ ?_
      refine iteB (fun zz => ?_) (fun zz => ?_)
      · have e : Tc.coup n [] [] (ws.drop 2) = false := by rw [hc]; unfold coupB; rw [zz]; simp
        rw [e] at q
        exact q _ (s2.trans s3)
      have ec : coupB n fs ss w0 w1 w2 = true := by unfold coupB; rw [z, zz]; rfl
      rw [ec, Bool.true_and] at hc
      refine ⟨_, rfl, .inl ⟨rfl, _, SqL.of h13⟩, _, rfl, lf, _, _, rfl, rfl, h13, by rw [List.length_map]; omega, ?_⟩
      have h24 : (upd H3 lf (.lst ((fs.map fun n => V.int (n : Nat)) ++ [V.int (Tc.num w1 : Nat)]))) ls = some (.lst (ss.map fun n => V.int (n : Nat))) := by rw [upd_ne hne.symm]; exact h23
      refine ⟨_, rfl, .inl ⟨rfl, _, SqL.of h24⟩, _, rfl, ls, _, _, rfl, rfl, h24, by rw [List.length_map]; omega, ?_⟩
      refine ⟨fs ++ [Tc.num w1], ss ++ [Tc.num w2], _, _, _, rfl, Same.put ?_ (Same.put hf (s2.trans s3)), ?_, ?_, by simp [l1], by simp [l2], hc⟩
      · exact (Same.new hf).free hs
      · rw [upd_ne hne, upd_same]; simp
      · rw [upd_same]; simp
    · rintro σ H' ⟨fs, ss, v4, v5, v6, rfl, s2, h1, h2, l1, l2, hc⟩
      have ed : ws.drop (2 + 3 * m) = [] := List.drop_eq_nil_of_le (by omega)
      rw [ed] at hc
      rw [hc] at q
      exact q _ s2
/-! is_race -/
theorem coup_len : ∀ (n : Nat) (f s : List Nat) (l : List (List Nat)), Tc.coup n f s l = true → ∃ m, l.length = 3 * m
  | _, _, _, [], _ => ⟨0, rfl⟩
  | n, f, s, a :: b :: c :: r, h => by
    rw [coup_step, Bool.and_eq_true] at h
    obtain ⟨m, hm⟩ := coup_len n _ _ r h.2
    exact ⟨m + 1, by simp [hm]; omega⟩
  | _, _, _, [_], h => by cases h
  | _, _, _, [_, _], h => by cases h
theorem race_val (ws : List (List Nat)) (h2 : 2 ≤ ws.length) : Tc.isRace ws = (decide (ws.getD 0 [] = Tc.kRace) && (Tc.isNum (ws.getD 1 []) 2 24 && (decide (ws.length - 2 ≤ 24) && Tc.coup (Tc.num (ws.getD 1 [])) [] [] (ws.drop 2)))) := by
  match ws, h2 with
  | a :: b :: r, _ => rfl
theorem race_short {ws : List (List Nat)} (h : ws.length < 2) : Tc.isRace ws = false := by
  match ws, h with
  | [], _ => rfl
  | [_], _ => rfl
theorem getD_of {ws : List (List Nat)} {n : Nat} (h : n < ws.length) : ws[n]? = some (ws.getD n []) := by
  rw [List.getD_eq_getElem?_getD, List.getElem?_eq_getElem h]
  rfl
def spRace (K : PySem.W.Frag) : Sp := fun vs H Q _ => ∃ (a : Addr) (ws : List (List Nat)), vs = [.ref a] ∧ WL K H a ws ∧ Gd ws ∧ ws.length ≤ 70000 ∧ ∀ H', Same H H' → Q (.bl (Tc.isRace ws)) H'
theorem scRace : FnScope ["words", "behind"] ["words"] (defScope sIsRace) := ⟨rfl, rfl, rfl, by decide +kernel, rfl, by decide +kernel, by decide +kernel⟩
theorem ok_race {f : Addr} {fd : FuncData} (F : Fun K "is_race" "is_race" sIsRace f fd) (G : Gw mg) (R : Gr mg) (DN : DNumber P w K mg base) (DC : Dfn P w K mg base 3 "has_good_couples" ["words", "runners"] [] (spCouples K)) : FnOk P w K mg base CX0 4 f fd ["words"] (spRace K) := by
  refine F.ok scRace (fun vs H Q E h => ?_) (fun cdv A outer s H vs Q E hr h => ?_)
  · obtain ⟨a, ws, rfl, _⟩ := h
    rfl
  · obtain ⟨a, ws, rfl, hw, hg, hl, q⟩ := h
    refine ⟨_, pss_cons (ps_set (i := 1) scRace.nd rfl (Or.inl rfl) (pe_op op_sub (pe_callB call_len_seq rfl G.len PySem.boot_len (pa_cons (pv 0) pa_nil)) (pgi R.head)))
      (pss_cons (ps_if (PW.pt (pw_or (pt_cmpR op_lt (pv 1) pe_int (nomark _)) (pw_or (pt_cmpR op_ne (pe_op op_mod (pv 1) (pgi R.cwords)) pe_int (nomark _)) (pw_or1 (pt_cmpR op_gt (pv 1) (pe_op op_mul (pgi R.cwords) (pgi R.couples)) (nomark _)))))) (pss_one (ps_ret pe_bl)) pss_nil)
      (pss_cons (ps_if (PW.pt (pw_or (pt_cmpR op_ne (pe_ix ix_list (pv 0) pe_int (fun _ _ => rfl)) pe_str (nomark _)) (pw_or1 (pt_not (pt_val (pcall DN hr (pa_cons (pe_ix ix_list (pv 0) pe_int (fun _ _ => rfl)) (pa_cons (pgi R.least) (pa_cons (pgi R.most) pa_nil))))))))) (pss_one (ps_ret pe_bl)) pss_nil)
      (pss_one (ps_ret (pcall DC hr (pa_cons (pv 0) (pa_cons (pe_callTy call_int_str rfl G.int PyProof.Rows.boot_int (pa_cons (pe_ix ix_list (pv 0) pe_int (fun _ _ => rfl)) pa_nil)) pa_nil))))))), ?_⟩
    have yl := yv_len (K := K) (ta := tVar 0) (σ := start ["words", "behind"] [V.ref a]) (yv_v rfl) hw
    rw [List.length_map] at yl
    refine (yv_i0 yl yv_c) _ ?_
    dsimp only [gName]
    refine (yt_or (yt_T (yv_i0 (yv_v rfl) yv_c)) fun _ => yt_or (yt_T (yv_neI (yv_i (C := fun _ j => 0 < j) (g := fun i j => V.int (i % j)) (yv_v rfl) yv_c (by decide)) yv_c)) fun _ => yt_T (yv_i0 (yv_v rfl) (yv_i (C := CMul) (g := fun i j => V.int (i * j)) yv_c yv_c (.inl ⟨by decide, by decide⟩)))) _ ?_
    refine iteB (fun z => ?_) (fun z => ?_)
    · have e : Tc.isRace ws = false := by
        by_cases h2 : ws.length < 2
        · exact race_short h2
        · rw [race_val ws (by omega)]
          cases ec : Tc.coup (Tc.num (ws.getD 1 [])) [] [] (ws.drop 2) with
          | false => simp
          | true =>
            obtain ⟨m, hm⟩ := coup_len _ _ _ _ ec
            rw [List.length_drop] at hm
            simp only [Bool.or_eq_true, decide_eq_true_eq, Bool.not_eq_true', decide_eq_false_iff_not] at z
            rw [decide_eq_false (by omega : ¬ ws.length - 2 ≤ 24)]
            simp
      rw [e] at q
      exact q _ (Same.refl _)
    · simp only [Bool.or_eq_false_iff, decide_eq_false_iff_not, Bool.not_eq_false', decide_eq_true_eq] at z
      have h2 : 2 ≤ ws.length := by omega
      rw [race_val ws h2, decide_eq_true (by omega : ws.length - 2 ≤ 24), Bool.true_and] at q
      have y0 : Yv (tOp (rIxL K) (tVar 0) (tC (.int 0))) [some (.ref a), some (.int (((ws.length : Nat) : Int) - 2))] H (.str (S (ws.getD 0 []))) := yv_word (n := 0) (yv_v rfl) hw yv_c (getD_of (by omega))
      have y1 : Yv (tOp (rIxL K) (tVar 0) (tC (.int 1))) [some (.ref a), some (.int (((ws.length : Nat) : Int) - 2))] H (.str (S (ws.getD 1 []))) := yv_word (n := 1) (yv_v rfl) hw yv_c (getD_of (by omega))
      have g1 := hg.at (getD_of (ws := ws) (n := 1) (by omega))
      dsimp only [tNext, tSeq]
      refine (yt_or (yt_T (yv_neS y0 (q := Tc.kRace) yv_c)) fun _ => yt_not (yt_B (yv_num (lo := 2) (hi := 24) (ya3 y1 yv_c yv_c) g1.1 g1.2))) _ ?_
      refine iteB (fun z2 => ?_) (fun z2 => ?_)
      · rcases Bool.or_eq_true_iff.mp z2 with z2 | z2
        · rw [Bool.not_eq_true'] at z2
          rw [z2] at q
          exact q _ (Same.refl _)
        · rw [Bool.not_eq_true'] at z2
          rw [z2, Bool.false_and, Bool.and_false] at q
          exact q _ (Same.refl _)
      · simp only [Bool.or_eq_false_iff, Bool.not_eq_false'] at z2
        rw [z2.1, z2.2, Bool.true_and, Bool.true_and] at q
        dsimp only [tNext, tRet]
        refine (ya2 (yv_v rfl) (yv_intN y1 z2.2)) _ ?_
        exact ⟨a, ws, Tc.num (ws.getD 1 []), (ws.length - 2) / 3, rfl, hw, hg, by omega, by omega, q⟩
/-! interests_of -/
theorem lcc {δ β : Type} {lo c : Int} {n : Nat} {wi : TI} {g : TG} {tt : TT} {te : TE} {σ : L2.St} {vs : List Nat} {Q : VK} {H H1 : Hp} (hi : ∀ R : It → Hp → Prop, R (Itc lo c n) H1 → wi σ H R)
    (ds : List δ) (p : δ → Bool) (F : δ → β) (Rl : Hp → V → β → Prop) (mono : ∀ H H' v b, Same H H' → Rl H v b → Rl H' v b)
    (hn : n = ds.length) (hz : ds.length ≤ sizeLine)
    (hs : ∀ D, H1 D = none → ∀ (i : Nat) d H acc (Yes : VK) (No : Hp → Prop), ds[i]? = some d → Same H1 H → H D = some (.lst acc) → (p d = true → ∀ H' y, Same H H' → Rl (off D H') y (F d) → Yes y H') → (p d = false → ∀ H', Same H H' → No H') →
      g (.int (lo + (i : Nat) * c)) (wipe σ vs) H fun σ2 H2 => wipe σ2 vs = wipe σ vs ∧ tt σ2 H2 fun b H3 => if b = true then te σ2 H3 Yes else No H3)
    (hd : ∀ D, H1 D = none → ∀ H' ys, Same H1 H' → H' D = some (.lst ys) → Paired (Rl H') ys ((ds.filter p).map F) → Q (.ref D) H') : tLc wi g tt te vs σ H Q :=
  hi _ fun D hD => lc_gen (fun i => .int (lo + (i : Nat) * c)) ds p F Rl mono (fun i H hi s => by show i < n; omega) (fun i H x H' hi s y => ⟨y.1, y.2⟩) (fun H s => by show n ≤ ds.length; omega) hz hD (hs D hD) (hd D hD)
theorem secs_at : ∀ {n : Nat} {f s : List Nat} {l : List (List Nat)}, Tc.coup n f s l = true → ∀ (i d : Nat), (Tc.secs l)[i]? = some d → ∃ u, l[2 + 3 * i]? = some u ∧ Tc.num u = d ∧ Tc.isNum u 1 n = true
  | _, _, _, [], _, i, d, e => by simp [Tc.secs] at e
  | n, f, s, a :: b :: c :: r, h, i, d, e => by
    rw [coup_step, Bool.and_eq_true] at h
    cases i with
    | zero =>
      have e : Tc.num c = d := by simpa [Tc.secs] using e
      refine ⟨c, rfl, e, ?_⟩
      have h1 := h.1
      unfold coupB cpB at h1
      simp only [Bool.and_eq_true] at h1
      exact h1.1.2.2.1
    | succ i =>
      obtain ⟨u, h1, h2⟩ := secs_at h.2 i d (by simpa [Tc.secs] using e)
      exact ⟨u, by rw [show 2 + 3 * (i + 1) = 2 + 3 * i + 1 + 1 + 1 by omega]; exact h1, h2⟩
  | _, _, _, [_], h, _, _, _ => by cases h
  | _, _, _, [_, _], h, _, _, _ => by cases h
theorem secs_len : ∀ {n : Nat} {f s : List Nat} {l : List (List Nat)}, Tc.coup n f s l = true → l.length = 3 * (Tc.secs l).length
  | _, _, _, [], _ => rfl
  | n, f, s, a :: b :: c :: r, h => by
    rw [coup_step, Bool.and_eq_true] at h
    have := secs_len h.2
    simp only [List.length_cons, Tc.secs]
    omega
  | _, _, _, [_], h => by cases h
  | _, _, _, [_, _], h => by cases h
def spInts (K : PySem.W.Frag) : Sp := fun vs H Q _ => ∃ (a : Addr) (ws : List (List Nat)), vs = [.ref a] ∧ WL K H a ws ∧ Tc.isRace ws = true ∧
  ∀ (H' : Hp) (l : Addr), Same H H' → H l = none → H' l = some (.lst ((Tc.intz ws).map fun n => V.int (n : Nat))) → Q (.ref l) H'
abbrev nInts : List Str := ["words", "seconds", "at", "runner"]
theorem scInts : FnScope nInts ["words"] (defScope sInts) := ⟨rfl, rfl, rfl, by decide +kernel, rfl, by decide +kernel, by decide +kernel⟩
theorem race_parts {ws : List (List Nat)} (h : Tc.isRace ws = true) : 2 ≤ ws.length ∧ ws.length ≤ 26 ∧ Tc.isNum (ws.getD 1 []) 2 24 = true ∧ Tc.coup (Tc.num (ws.getD 1 [])) [] [] (ws.drop 2) = true := by
  by_cases h2 : ws.length < 2
  · rw [race_short h2] at h; cases h
  · rw [race_val ws (by omega)] at h
    simp only [Bool.and_eq_true, decide_eq_true_eq] at h
    exact ⟨by omega, by omega, h.2.1, h.2.2.2⟩
theorem ok_ints {f : Addr} {fd : FuncData} (F : Fun K "interests_of" "interests_of" sInts f fd) (G : Gw mg) (R : Gr mg) : FnOk P w K mg base CX0 1 f fd ["words"] (spInts K) := by
  refine F.ok scInts (fun vs H Q E h => ?_) (fun cdv A outer s H vs Q E hr h => ?_)
  · obtain ⟨a, ws, rfl, _⟩ := h
    rfl
  · obtain ⟨a, ws, rfl, hw, hrc, q⟩ := h
    obtain ⟨h2, h26, hnum, hcp⟩ := race_parts hrc
    have hnb := Tc.isNum_bd hnum
    refine ⟨_, pss_cons (ps_set (i := 1) scInts.nd rfl (Or.inr rfl) (pe_lc (own := [("at", 2)]) rfl scInts.nd (pi_range3 rfl G.range (pa_cons (pe_op op_add (pgi R.head) pe_int) (pa_cons (pe_callB call_len_seq rfl G.len PySem.boot_len (pa_cons (pv 0) pa_nil)) (pa_cons (pgi R.cwords) pa_nil))))
        (blk (N := nInts) (sc := defScope sInts) (by decide +kernel)) (fun _ _ _ _ _ => pg_name (i := 2) scInts.nd rfl (Or.inl rfl)) (fun _ _ _ _ _ => pts_nil) (fun _ _ _ _ _ => pe_callTy call_int_str rfl G.int PyProof.Rows.boot_int (pa_cons (pe_ix (r := rIxL K) ix_list (pv 0) (pv 2) (fun _ _ => rfl)) pa_nil))))
      (pss_one (ps_ret (pe_lc (own := [("runner", 3)]) rfl scInts.nd (pi_range2 rfl G.range (pa_cons pe_int (pa_cons (pe_op op_add (pe_callTy call_int_str rfl G.int PyProof.Rows.boot_int (pa_cons (pe_ix ix_list (pv 0) pe_int (fun _ _ => rfl)) pa_nil)) pe_int) pa_nil)))
        (blk (N := nInts) (sc := defScope sInts) (by decide +kernel)) (fun _ _ _ _ _ => pg_name (i := 3) scInts.nd rfl (Or.inl rfl)) (fun _ _ _ _ _ => pts_one (pt_cmpR (r := rIn K true) op_notIn_seq (pv 3) (pv 1) (by with_unfolding_all rfl))) (fun _ _ _ _ _ => pv 3)))), ?_⟩
    have hsz : sizeLine = 16777216 := by decide
    have hsl := secs_len hcp
    rw [List.length_drop] at hsl
    have yl := yv_len (K := K) (ta := tVar 0) (σ := start nInts [V.ref a]) (yv_v rfl) hw
    rw [List.length_map] at yl
    dsimp only [tSeq, tAsg]
    refine lcc (lo := 4) (c := 3) (n := (Tc.secs (ws.drop 2)).length) (fun R r => (ya3 (yv_i0 yv_c yv_c) yl yv_c) _ ⟨4, ((ws.length : Nat) : Int), 3, _, rfl, rg3 (by decide) (by decide) (by omega) (by split <;> omega), r⟩)
      (Tc.secs (ws.drop 2)) (fun _ => true) (fun d => V.int (d : Nat)) (fun _ v b => v = b) (fun _ _ _ _ _ r => r) rfl (by omega) (fun D hD i d H2 acc Yes No hdi s2 hacc hy hn => ?_) (fun D hD H2 ys s2 hD2 hp => ?_)
    · obtain ⟨u, hu, hud, hun⟩ := secs_at hcp i d hdi
      rw [List.getElem?_drop] at hu
      refine ⟨rfl, (yv_intN (yv_wordZ (n := 2 + (2 + 3 * i)) (yv_v rfl) (s2.seq hw) (yv_v rfl) (by omega) hu) hun) _ ?_⟩
      rw [hud]
      exact hy rfl _ _ (Same.refl _) rfl
    · have ey : ys = (Tc.secs (ws.drop 2)).map fun n => V.int (n : Nat) := by
        have e := pair_eq (f := id) hp
        rw [e, List.map_id, List.filter_eq_self.mpr (fun _ _ => rfl)]
      subst ey
      dsimp only [gName, tRet]
      have y1 : Yv (tOp (rIxL K) (tVar 0) (tC (.int 1))) [some (.ref a), some (.ref D), none, none] H2 (.str (S (ws.getD 1 []))) := yv_word (n := 1) (yv_v rfl) (s2.seq hw) yv_c (getD_of (by omega))
      refine lcr (lo := 1) (n := Tc.num (ws.getD 1 [])) (H1 := H2) (fun R r => (ya2 yv_c (yv_i0 (yv_intN y1 hnum) yv_c)) _ ⟨1, ((Tc.num (ws.getD 1 []) : Nat) : Int) + 1, rfl, ⟨by decide, by decide, by omega, by omega⟩, ?_⟩)
        (List.range (Tc.num (ws.getD 1 []))) (fun i => !(Tc.secs (ws.drop 2)).contains (i + 1)) (fun i => i + 1) (fun _ v b => v = V.int (b : Nat)) (fun _ _ _ _ _ r => r) (List.length_range).symm (by rw [List.length_range]; omega) (fun D' hD' i d H3 acc Yes No hdi s3 hacc hy hn => ?_) (fun D' hD' H3 ys s3 hD3 hp2 => ?_)
      · have e : (((Tc.num (ws.getD 1 []) : Nat) : Int) + 1 - 1).toNat = Tc.num (ws.getD 1 []) := by omega
        rw [e]
        exact r
      · have ei : d = i := by
          obtain ⟨h1, h2⟩ := List.getElem?_eq_some_iff.mp hdi
          rw [List.getElem_range] at h2
          exact h2.symm
        subst ei
        have e1 : (1 : Int) + (d : Nat) = ((d + 1 : Nat) : Int) := by omega
        rw [e1]
        refine ⟨rfl, (yt_T (yv_notIn (x := d + 1) (yv_v rfl) (yv_v rfl) (SqL.of (s3 _ _ hD2)))) _ ?_⟩
        refine iteB (fun z => ?_) (fun z => ?_)
        · exact ⟨_, rfl, hy z _ _ (Same.refl _) rfl⟩
        · exact hn z _ (Same.refl _)
      · have ey : ys = (Tc.intz ws).map fun n => V.int (n : Nat) := by
          have e := pair_eq (f := fun b : Nat => V.int (b : Nat)) hp2
          rw [e]
          congr 1
          unfold Tc.intz
          rw [List.filter_map]
          rfl
        subst ey
        exact q _ D' (s2.trans s3) ((Same.free s2) hD') hD3
end
end Tp
end
section
set_option Elab.async false
set_option linter.all false
set_option maxRecDepth 100000
set_option maxHeartbeats 2000000
namespace Tp
open PySem PySem.Spec PyProof.Rows L2
/-! ### a dict of the module: read, never written -/
structure KD (P : Program) (w : World) (K : PySem.W.Frag) (d : Addr) (kvs : List (Key × V)) : Prop where
  ns : (d == sysModules) = false
  ex : ∃ (o : Obj) (es : Array DictEntry) (ep : Nat) (vs : List (Key × Value)), K.lookup d = some o ∧ o.ExactDict ∧ o.data = .dict es ep ∧ es.size = kvs.length ∧ KV kvs vs ∧ KeysOf (mixKind P w) es ∧ Pairs (mixKind P w) es.toList vs ∧ (vs.map (·.1)).Nodup
section
variable {X : Cx} {d : Addr} {kvs : List (Key × V)}
theorem KD.dict {pins : List (Addr × Obj)} {σ : L2.St} {H : Hp} {s : Shared} (h : KD X.prog X.w X.K d kvs) (I : Inv X pins σ H s) : ∃ vs, KV kvs vs ∧ s.heap.DictOf (mixKind X.prog X.w) d vs := by
  obtain ⟨o, es, ep, vs, h1, h2, h3, h4, h5, h6, h7, h8⟩ := h.ex
  exact ⟨vs, h5, o, es, ep, I.kIn d o h1, h2, h3, h6, h7, h8⟩
def rMNotIn (d : Addr) (kvs : List (Key × V)) : R2 := fun x y H Q => ∃ k, x = kV k ∧ y = .ref d ∧ Q (.bl (!(valV kvs k).isSome)) H
theorem op_mnotin (h : KD X.prog X.w X.K d kvs) : OpR X (compareOp .NotIn) (rMNotIn d kvs) := by
  intro pins s σ H x y v u Q I rx ry q
  obtain ⟨k, rfl, rfl, q⟩ := q
  cases ry
  obtain ⟨vs, rel, dd⟩ := h.dict I
  refine wpAny_notIn_of (kV_is rx) h.ns dd.mapOf ?_
  rw [← (rel.val k).isSome_eq]
  exact ⟨.bl _, H, I.tok _, rfl, q⟩
def tMGet (d : Addr) (kvs : List (Key × V)) (td ty : TE) : TE := fun σ H Q => td σ H fun x H1 => ty σ H1 fun y H2 => ∃ k v, x = .ref d ∧ y = kV k ∧ valV kvs k = some v ∧ Q v H2
theorem pe_mget {o i : Expr} {td ty : TE} {pos : Pos} (h : KD X.prog X.w X.K d kvs) (ho : PE X o td) (hi : PE X i ty) (hs : NoSl i) : PE X (.Subscript o i pos) (tMGet d kvs td ty) := by
  intro pins s σ H Q I q
  refine subD_of PySem.F.slot_dict_getitem.lookup hs (thn (ho pins s σ H _ I q) fun u s1 ⟨x, H1, I1, rx, q1⟩ => thn (hi pins s1 σ H1 _ I1 q1) fun iv s2 ⟨y, H2, I2, ry, k, v, ex, ey, e, q2⟩ => ?_)
  subst ex
  subst ey
  obtain rfl : u = Value.ref d := rx
  obtain ⟨vs, rel, dd⟩ := h.dict I2
  obtain ⟨w', hw, rw'⟩ := RelO.some_of (v := v) (o := valueAt vs k) (by rw [← e]; exact rel.val k)
  exact ⟨dd.typeIs, wpAny_getItem_of (kV_is ry) dd.mapOf hw ⟨v, H2, I2.tok _, rw', q2⟩⟩
def Itm (kvs : List (Key × V)) : It := ⟨fun i _ => i < kvs.length, fun i H x H' => H' = H ∧ ∃ k v, kvs[i]? = some (k, v) ∧ x = kV k, fun i _ => kvs.length ≤ i⟩
theorem turn_mkeys {P : Program} {w : World} {K : PySem.W.Frag} {tg : Expr} {o : Obj} {es : Array DictEntry} {ep : Nat} {vs : List (Key × Value)} (it : Addr) (h1 : K.lookup d = some o) (h2 : o.ExactDict) (h3 : o.data = .dict es ep) (h5 : KV kvs vs)
    (h6 : KeysOf (mixKind P w) es) (h7 : Pairs (mixKind P w) es.toList vs) (h8 : (vs.map (·.1)).Nodup) : Turn P w K tg (Itm kvs) [it] it (fun i h => h.IsKeyIter it d i kvs.length ep) where
  mem := by simp
  obj := fun i h st b hb => by
    have e : b = it := by simpa using hb
    subst e
    obtain ⟨oi, e, c, dd⟩ := st
    exact ⟨oi, e, fun v z => by rw [dd] at z; cases z⟩
  keep := fun i h h' st k => st.at fun oi e => k it (by simp) oi e
  item := by
    intro X hP hw hK hc i pins s σ H E I hf st hg
    subst hP hw hK
    obtain ⟨f0, f1, f2, f3, f4, f5⟩ := hf it (by simp)
    have hi : i < kvs.length := hg
    have hm : s.heap.DictAt (mixKind X.prog X.w) d vs ep := ⟨o, es, I.kIn d o h1, h2, h3, h6, h7, h8⟩
    obtain ⟨⟨k, v⟩, hkv⟩ : ∃ p, kvs[i]? = some p := ⟨kvs[i], List.getElem?_eq_getElem hi⟩
    obtain ⟨u, hu, ru⟩ := kv_get h5 hkv
    have hl : kvs.length = vs.length := Paired.length h5
    rw [hl] at st
    refine wpAny_pyNext_dict_item st hm hu fun key h' hkey st' sb => ?_
    have I1 : Inv X pins σ H { s with heap := h' } := I.turned (t' := s.toks) (fun b ob hb e => (sb.2 b hb).trans e) f0 f1 f3 f4 f5
    obtain ⟨oi, e, c, dd⟩ := id st'
    refine ⟨key, rfl, go_of (s := { s with heap := h' }) e c dd (by decide) ⟨kV k, H, I1, relV_key (show keyIs k key = true from hkey), ⟨rfl, k, v, hkv, rfl⟩, ?_, fun b hb => (hf b hb).1⟩⟩
    show h'.IsKeyIter it d (i + 1) kvs.length _
    rw [hl]
    exact st'
  done := by
    intro X hP hw hK hc i pins s σ H E I hf st hg
    subst hP hw hK
    obtain ⟨f0, f1, f2, f3, f4, f5⟩ := hf it (by simp)
    have hi : kvs.length ≤ i := hg
    have hm : s.heap.DictAt (mixKind X.prog X.w) d vs ep := ⟨o, es, I.kIn d o h1, h2, h3, h6, h7, h8⟩
    have hl : kvs.length = vs.length := Paired.length h5
    rw [hl] at st
    exact wpAny_pyNext_dict_end (I.ok.hd hc) st hm (List.getElem?_eq_none (by omega)) fun h' eb => ⟨rfl, I.turned (t' := s.toks) (fun b ob hb e => eb b ob hb e) f0 f1 f3 f4 f5⟩
  self := fun A i s Q E st h => wpAny_pyIter_keyiter st h
def iMKeys (d : Addr) (kvs : List (Key × V)) (td : TE) : TI := fun σ H R => td σ H fun x H1 => x = .ref d ∧ R (Itm kvs) H1
theorem pi_mkeys {e tg : Expr} {td : TE} (h : KD X.prog X.w X.K d kvs) (he : PE X e td) : PI X tg e (iMKeys d kvs td) := by
  intro pins s σ H R I q
  refine thn (he pins s σ H _ I q) fun u s1 ⟨x, H1, I1, rx, ex, q1⟩ => ?_
  subst ex
  obtain rfl : u = Value.ref d := rx
  obtain ⟨o, es, ep, vs, h1, h2, h3, h4, h5, h6, h7, h8⟩ := h.ex
  refine iter_keys h.ns (I1.kIn d o h1) h2 h3 (pi_one (tk := s1.toks) I1 _ (turn_mkeys _ h1 h2 h3 h5 h6 h7 h8) ⟨_, Heap.get?_push_size _ rfl, rfl, ?_⟩ q1)
  rw [h4]
  rfl
end
end Tp
end
section
set_option Elab.async false
set_option linter.all false
set_option maxRecDepth 100000
set_option maxHeartbeats 4000000
namespace Tp
open PySem PySem.Spec PyProof.Rows L2
/-! ### set(names): how many different texts -/
def met : List Str → List Str → List Str
  | acc, [] => acc
  | acc, x :: r => met (if acc.contains x then acc else acc ++ [x]) r
theorem met_take (xs : List Str) (i : Nat) (x : Str) (h : xs[i]? = some x) : met [] (xs.take (i + 1)) = if (met [] (xs.take i)).contains x then met [] (xs.take i) else met [] (xs.take i) ++ [x] := by
  have gen : ∀ (ys : List Str) (acc : List Str), met acc (ys ++ [x]) = if (met acc ys).contains x then met acc ys else met acc ys ++ [x] := by
    intro ys
    induction ys with
    | nil => intro acc; rfl
    | cons y r ih => intro acc; exact ih _
  rw [take_snoc h, gen]
theorem met_len : ∀ (xs acc : List Str), (met acc xs).length ≤ acc.length + xs.length
  | [], acc => by simp [met]
  | x :: r, acc => by
    have := met_len r (if acc.contains x then acc else acc ++ [x])
    unfold met
    split at this <;> simp_all <;> omega
theorem met_nodup : ∀ (xs acc : List Str), (met acc xs).length = acc.length + xs.length ↔ (xs.Nodup ∧ ∀ x ∈ xs, x ∉ acc)
  | [], acc => by simp [met]
  | x :: r, acc => by
    unfold met
    by_cases hx : acc.contains x = true
    · rw [if_pos hx]
      have h1 := met_len r acc
      have hm : x ∈ acc := List.contains_iff_mem.mp hx
      constructor
      · intro e; simp at e; omega
      · intro e; exact absurd hm (e.2 x (by simp))
    · rw [if_neg hx]
      have h1 := met_nodup r (acc ++ [x])
      have hm : x ∉ acc := fun m => hx (List.contains_iff_mem.mpr m)
      have e1 : (acc ++ [x]).length + r.length = acc.length + (x :: r).length := by simp; omega
      rw [e1] at h1
      rw [h1, List.nodup_cons]
      constructor
      · rintro ⟨a, b⟩
        refine ⟨⟨fun m => by have := b x m; simp at this, a⟩, fun y hy => ?_⟩
        rcases List.mem_cons.mp hy with rfl | hy
        · exact hm
        · have := b y hy; simp at this; exact this.1
      · rintro ⟨⟨a, b⟩, c⟩
        refine ⟨b, fun y hy => ?_⟩
        simp
        exact ⟨c y (by simp [hy]), fun e => a (by rw [← e]; exact hy)⟩
theorem set_congr {prog : Program} {w : World} {h : Heap} {a : Addr} {S1 S2 : Key → Bool} {n1 n2 : Nat} (hS : h.SetOf (mixKind prog w) a S1 n1) (e : ∀ k, S1 k = S2 k) (en : n1 = n2) : h.SetOf (mixKind prog w) a S2 n2 := by
  obtain rfl : S1 = S2 := funext e
  subst en
  exact hS
def inS (l : List Str) : Key → Bool
  | .inl _ => false
  | .inr x => l.contains x
section
variable {prog : Program} {w : World} {A : Around} {R : Result → Shared → Prop} {It0 : Addr} {fp wr : List Addr} {G : Array GenState → Array GenState → Prop} {n : Nat} {Pr : Nat → Value → Prop} {St0 : Nat → Shared → Prop}
/-- the loop that fills the set, over texts -/
theorem fill_set (W : WalksS prog w A.in1 It0 fp wr G n Pr St0) (D : Addr) (hD : D ∉ fp) (xs : List Str) (hx : xs.length = n)
    (hval : ∀ i v, Pr i v → ∃ x t, xs[i]? = some x ∧ v = .str x t) (hb : n + 1 < scanBound) :
    ∀ (k i : Nat) (s : Shared), n - i = k → i ≤ n → St0 i s → s.heap.SetOf (mixKind prog w) D (inS (met [] (xs.take i))) (met [] (xs.take i)).length →
      (∀ s', Moved (D :: wr) G s s' → s'.heap.SetOf (mixKind prog w) D (inS (met [] xs)) (met [] xs).length → R (.ok (.ret .none)) s') →
      codeAny (model prog w) A (.builtin "set.update.loop" ⟨[.ref D, .ref It0], []⟩) R s := by
  have nw : D ∉ wr := fun h => hD (W.sub _ h)
  have sb0 : ∀ b ∈ wr, b ∈ D :: wr := fun b hb' => List.mem_cons_of_mem _ hb'
  intro k
  induction k with
  | zero =>
    intro i s hk hi hst hS hR
    obtain rfl : i = n := by omega
    refine codeAny_builtin PyProof.Rows.F.entry_set_update_loop ?_
    rw [Around.under_plainId PyProof.Rows.F.plain_set_update_loop _]
    show wpAny _ A.in1 (pyNext (.ref It0) >>= _) _ _ s
    refine wpAny_bind (W.done s _ _ hst fun s2 hm => ?_)
    show wpAny _ A.in1 (ret Value.none) _ _ s2
    rw [← hx, List.take_length] at hS
    refine wpAny_pure (hR s2 (hm.mono sb0) ?_)
    obtain ⟨ob, es, ep, tb, ho, more⟩ := hS
    exact ⟨ob, es, ep, tb, hm.heap D _ nw ho, more⟩
  | succ k ih =>
    intro i s hk hi hst hS hR
    have lt0 : i < n := by omega
    refine codeAny_builtin PyProof.Rows.F.entry_set_update_loop ?_
    rw [Around.under_plainId PyProof.Rows.F.plain_set_update_loop _]
    show wpAny _ A.in1 (pyNext (.ref It0) >>= _) _ _ s
    refine wpAny_bind (W.item i s _ _ lt0 hst fun v s2 hP st2 hm => ?_)
    obtain ⟨x, t, hxi, rfl⟩ := hval i v hP
    have S2 : s2.heap.SetOf (mixKind prog w) D (inS (met [] (xs.take i))) (met [] (xs.take i)).length := by
      obtain ⟨ob, es, ep, tb, ho, more⟩ := hS
      exact ⟨ob, es, ep, tb, hm.heap D _ nw ho, more⟩
    show wpAny _ A.in1 (holding [Value.str x t] (setAdd D (.str x t)) >>= _) _ _ s2
    refine wpAny_bind (wpAny_holding ?_)
    unfold setAdd
    refine wpAny_holding ?_
    refine wpAny_bind ((mixKind prog w).pyHash (k := Sum.inr x) (mixKind_str _ _ _ _) ?_)
    have few : (met [] (xs.take i)).length + 1 < scanBound := by
      have h1 := met_len (xs.take i) []
      rw [List.length_take] at h1
      simp at h1
      omega
    refine wpAny_setAddHashed_of (knd := mixKind prog w) (s := { s2 with toks := s2.toks + 1 }) (mixKind_str _ _ _ _) rfl S2 few fun h3 hsb S3 => ?_
    have S4 : h3.SetOf (mixKind prog w) D (inS (met [] (xs.take (i + 1)))) (met [] (xs.take (i + 1))).length := by
      refine set_congr S3 (fun k' => ?_) ?_
      · rw [met_take xs i x hxi]
        cases k' with
        | inl z => simp [inS]
        | inr y =>
          by_cases hc : (met [] (xs.take i)).contains x = true
          · rw [if_pos hc]
            by_cases ey : y = x
            · subst ey; simp only [inS]; rw [hc]; rfl
            · have : ¬ (Sum.inr y : Key) = Sum.inr x := fun q => ey (Sum.inr.inj q)
              rw [decide_eq_false this, Bool.or_false]
          · rw [if_neg hc]
            by_cases ey : y = x
            · subst ey; simp [inS]
            · have : ¬ (Sum.inr y : Key) = Sum.inr x := fun q => ey (Sum.inr.inj q)
              rw [decide_eq_false this, Bool.or_false]
              simp [inS, ey]
      · rw [met_take xs i x hxi]
        show (if (met [] (xs.take i)).contains x then _ else _) = _
        split <;> simp
    refine wpAny_pure ⟨plainId_quiet PyProof.Rows.F.plain_set_update_loop _, ih (i + 1) _ (by omega) lt0 (W.frame _ s2 _ _ st2 (Nat.le_succ _) fun b hb' o e => ?_) S4 fun s5 hm5 hS5 => ?_⟩
    · rw [hsb.2 b (fun h : b = D => hD (by rw [← h]; exact hb'))]
      exact e
    · refine hR s5 (Moved.trans W.gtrans ((hm.mono sb0).then_heap (Nat.le_succ _) fun b o hb' e => ?_) hm5) hS5
      rw [hsb.2 b (fun h : b = D => hb' (by rw [h]; exact List.mem_cons_self))]
      exact e
end
section
variable {prog : Program} {w : World} {A : Around} {E : Value → Shared → Prop} {s : Shared}
theorem strs_at : ∀ {vs : List Value} {xs : List Str}, Vals (xs.map V.str) vs → ∀ (i : Nat) (v : Value), vs[i]? = some v → ∃ x t, xs[i]? = some x ∧ v = .str x t
  | _, [], .nil, i, v, h => by simp at h
  | _, x :: xs, .cons r rr, 0, v, h => by
    obtain ⟨t, rfl⟩ := r
    have e : Value.str x t = v := by simpa using h
    exact ⟨x, t, rfl, e.symm⟩
  | _, x :: xs, .cons r rr, i + 1, v, h => by
    obtain ⟨y, t, h1, h2⟩ := strs_at rr i v (by simpa using h)
    exact ⟨y, t, by simpa using h1, h2⟩
abbrev freshSet (led : Bool) : Obj := { cls := .type "set", dict := none, data := .set #[] 0 (.fresh 0 0 led) }
set_option maxHeartbeats 8000000 in
theorem call_setS {l : Addr} {vs : List Value} {xs : List Str} {Q : Value → Shared → Prop} (hh : A.handled = none) (hl : s.heap.IsList l vs.toArray) (hi : Vals (xs.map V.str) vs) (hb : xs.length + 1 < scanBound)
    (h : ∀ (h' : Heap) (tk : Nat), h'.SetOf (mixKind prog w) s.heap.objs.size (inS (met [] xs)) (met [] xs).length → (∀ b o, b < s.heap.objs.size → s.heap.get? b = some o → h'.get? b = some o) → Q (.ref s.heap.objs.size) { s with heap := h', toks := tk }) :
    wpAny (model prog w) A (call (.type "set") [.ref l]) Q E s := by
  have hlen : vs.length = xs.length := by have := Vals.length hi; rw [List.length_map] at this; exact this.symm
  obtain ⟨c, tl, hmro⟩ := PySem.F.called_set.mro
  have hm1 := PySem.F.called_set.made
  have hs1 := PySem.F.called_set.sub
  refine wpAny_call (codeAny_of_tree ?_)
  show wpAny _ _ (callAny (.type "set") _) _ _ _
  refine wpAny_pure ⟨Code.quiet_builtin _ (by decide +kernel), codeAny_builtin PySem.F.entry_type_call ?_⟩
  rw [Around.under_plain (weight_type_call_type "set" [.ref l] []) rfl]
  have h1 := PySem.F.called_set.notType
  have h2 := PySem.F.called_set.canCreate
  have h3 := PySem.F.typeCall_set_1 (.ref l)
  repeat (any_goals first | assumption | wp_step)
  refine codeAny_mono (code_set_new_1 (.ref l) (E := E) (Q₁ := fun obj s₁ => ∃ led : Bool, obj = .ref s.heap.objs.size ∧ s₁ = { s with heap := s.heap.push (freshSet led) }) fun led => ⟨led, rfl, rfl⟩) fun r s1 hr => ?_
  cases r with
  | error e => exact hr
  | ok fl =>
    cases fl with
    | ret obj =>
      obtain ⟨led, rfl, rfl⟩ := hr
      have hS : (s.heap.push (freshSet led)).get? s.heap.objs.size = some (freshSet led) := Heap.get?_push_size _ rfl
      have hT : Shared.TypeIs { s with heap := s.heap.push (freshSet led) } (.ref s.heap.objs.size) "set" := ⟨_, hS, rfl⟩
      have hli := PySem.F.called_set.init.lookup
      have hbi := PySem.F.called_set.init.bind (.ref s.heap.objs.size)
      repeat (any_goals first | assumption | wp_step)
      refine codeAny_mono (codeAny_call_builtin (R := wants (fun r s₂ => r = .none ∧ ∃ h' tk, s₂ = { s with heap := h', toks := tk } ∧ h'.SetOf (mixKind prog w) s.heap.objs.size (inS (met [] xs)) (met [] xs).length ∧
          (∀ b o, b < s.heap.objs.size → s.heap.get? b = some o → h'.get? b = some o)) E) PySem.F.called_set.init.plain PySem.F.entry_set_init (check_set_init_1 hT ?_)) fun r2 s2 hr2 => ?_
      · obtain ⟨ol, hol, hcl, nl, hdl⟩ := hl
        obtain ⟨ocls, odict, odata, oslots⟩ := ol
        simp only at hcl hdl
        subst hcl; subst hdl
        have ho1 : (s.heap.push (freshSet led)).get? l = some { cls := .type "list", dict := odict, data := .seq vs.toArray nl, slots := oslots } := Heap.get?_push_of_some _ hol
        have k1 := PySem.F.sub_list_set
        have k2 := PySem.F.sub_list_frozenset
        have k3 : (Value.type "list" == Value.type "dict") = false := by decide
        have hl1 : (s.heap.push (freshSet led)).IsList l vs.toArray := ⟨_, ho1, rfl, nl, rfl⟩
        unfold Builtin.«set.__init__» noKeywords Builtin.Frozenset.updateFrom
        generalize hPI : pyIter = PI
        wp_walk
        subst hPI
        refine wpAny_pyIter_list hl1 ?_
        refine wpAny_bind (wpAny_runValue ?_)
        have lS : l < s.heap.objs.size := Heap.lt_size hol
        have hh3 : A.in1.in1.in1.handled = none := by simp [hh]
        have neI : l ≠ (s.heap.push (freshSet led)).objs.size := by rw [Heap.size_push]; exact Nat.ne_of_lt (Nat.lt_succ_of_lt lS)
        have nfp : s.heap.objs.size ∉ [(s.heap.push (freshSet led)).objs.size, l] := by
          rw [Heap.size_push]
          simp only [List.mem_cons, List.not_mem_nil, or_false, not_or]
          exact ⟨Nat.ne_of_lt (Nat.lt_succ_self _), Nat.ne_of_gt lS⟩
        refine fill_set ((Walks.list hh3 _ l neI vs.toArray).toS) s.heap.objs.size nfp xs (by rw [List.size_toArray]; exact hlen.symm) (fun i v hv => strs_at hi i v (by simpa using hv)) (by rw [List.size_toArray, hlen]; exact hb) (vs.toArray.size - 0) 0 _ (by omega) (Nat.zero_le _)
          ⟨⟨_, Heap.get?_push_size _ rfl, rfl, rfl⟩, (hl1.push _)⟩ ?hS0 ?hR
        case hS0 =>
          have hg : ((s.heap.push (freshSet led)).push { cls := .type "list_iterator", data := .fields #[.ref l, .int 0 0] }).get? s.heap.objs.size = some (freshSet led) := Heap.get?_push_of_some _ hS
          exact ⟨_, #[], 0, _, hg, ⟨rfl, rfl, rfl⟩, rfl, fun e he => by simp at he, fun k => by cases k <;> simp [inS, met], by decide, rfl, rfl⟩
        case hR =>
          intro s3 hm hS3
          obtain ⟨h4, g4, d4, tk4, os4⟩ := s3
          obtain rfl : g4 = s.gens := hm.gens
          obtain rfl : d4 = s.drawn := hm.drawn
          obtain rfl : os4 = s.os := hm.os
          show wpAny _ _ _ _ _ _
          refine wpAny_pure ?_
          show wpAny _ _ (ret Value.none) _ _ _
          refine wpAny_pure ⟨rfl, h4, tk4, rfl, hS3, fun b o hb' e => ?_⟩
          refine hm.heap b o ?_ (Heap.get?_push_of_some _ (Heap.get?_push_of_some _ e))
          simp only [List.mem_cons, List.not_mem_nil, or_false, not_or]
          refine ⟨Nat.ne_of_lt hb', ?_⟩
          rw [Heap.size_push]
          exact Nat.ne_of_lt (Nat.lt_succ_of_lt hb')
      · cases r2 with
        | error e => exact hr2
        | ok fl2 =>
          cases fl2 with
          | ret r =>
            obtain ⟨rfl, h4, tk, rfl, hS4, hk4⟩ := hr2
            repeat (any_goals first | assumption | wp_step)
            exact h _ _ hS4 hk4
          | _ => exact hr2.elim
    | _ => exact hr.elim
end
section
variable {X : Cx}
/-- a set of n different texts stands at a -/
def SetAt (P : Program) (w : World) (a : Addr) (xs : List Str) : HO := .ext fun h => h.SetOf (mixKind P w) a (inS (met [] xs)) (met [] xs).length
theorem call_setC (hc : X.calm = true) : CallR X (.type "set") (fun vs H Q => ∃ l xs, vs = [.ref l] ∧ SqL X.K H l (xs.map V.str) ∧ xs.length + 1 < scanBound ∧ ∀ p, H p = none → Q (.ref p) (upd H p (SetAt X.prog X.w p xs))) := by
  intro pins s σ H vs us Q I r h
  obtain ⟨l, xs, rfl, hl, hb, q⟩ := h
  obtain ⟨its, rv, pl, hz⟩ := I.list hl
  rw [Vals.ref1 r]
  refine call_setS (I.ok.hd hc) pl.isList rv hb fun h' tk hS hk => ?_
  have kp : ∀ b o, s.heap.get? b = some o → h'.get? b = some o := fun b o e => hk b o (Heap.lt_size e) e
  refine ⟨.ref s.heap.objs.size, _, I.laid (o := SetAt X.prog X.w s.heap.objs.size xs) (t' := tk) kp (Nat.le_refl _) ⟨hS, ?_, fun h1 h2 z k => ?_⟩, rfl, q _ (I.hok.fresh (Nat.le_refl _))⟩
  · obtain ⟨o, _, _, _, e, _⟩ := hS
    exact ⟨o, e⟩
  · obtain ⟨o, es, ep, t, e, more⟩ := z
    exact ⟨o, es, ep, t, k o e, more⟩
theorem call_lenS : CallR X (.builtin "len") (fun vs H Q => ∃ a xs, vs = [.ref a] ∧ H a = some (SetAt X.prog X.w a xs) ∧ xs.length + 1 < scanBound ∧ Q (.int ((met [] xs).length : Nat)) H) := by
  intro pins s σ H vs us Q I r h
  obtain ⟨a, xs, rfl, ha, hb, q⟩ := h
  obtain ⟨u, rfl, ru⟩ := vals1 r
  cases ru
  obtain ⟨⟨o, es, ep, t, ho, hex, hd, hel, hmem, hsz, hf, hn⟩, _⟩ := I.hok a _ ha
  have h1 := met_len xs []
  refine call_len_set ho hex hd hf (by unfold scanBound at hsz; omega) ⟨.int ((met [] xs).length : Nat), H, I.tok _, ⟨s.toks + 1, by rw [hn]⟩, q⟩
end
end Tp
end
section
set_option Elab.async false
set_option linter.all false
set_option maxRecDepth 100000
set_option maxHeartbeats 2000000
namespace Tp
open PySem PySem.Spec PyProof.Rows L2
/-! lines as data -/
def lineD (ws : List (List Nat)) : PyData := .list (ws.map fun u => .str (S u))
def linesD (ls : List (List (List Nat))) : PyData := .list (ls.map lineD)
theorem eqv_line : ∀ (a b : List (List Nat)), PyData.eqvAll (a.map fun u => .str (S u)) (b.map fun u => .str (S u)) = decide (a = b)
  | [], [] => rfl
  | [], _ :: _ => rfl
  | _ :: _, [] => rfl
  | x :: a, y :: b => by
    show (PyData.eqv (.str (S x)) (.str (S y)) && PyData.eqvAll _ _) = _
    rw [eqv_line a b]
    show ((S x == S y) && _) = _
    by_cases e : x = y
    · subst e; simp
    · have e2 : ¬ S x = S y := fun h => e (S_inj h)
      rw [beq_eq_false_iff_ne.mpr e2]
      simp [e]
theorem eqv_lines : ∀ (a b : List (List (List Nat))), PyData.eqvAll (a.map lineD) (b.map lineD) = decide (a = b)
  | [], [] => rfl
  | [], _ :: _ => rfl
  | _ :: _, [] => rfl
  | x :: a, y :: b => by
    show (PyData.eqv (lineD x) (lineD y) && PyData.eqvAll _ _) = _
    rw [eqv_lines a b]
    show (PyData.eqvAll _ _ && _) = _
    rw [eqv_line x y]
    by_cases e : x = y
    · subst e; simp
    · simp [e]
theorem eqv_linesD (a b : List (List (List Nat))) : PyData.eqv (linesD a) (linesD b) = decide (a = b) := eqv_lines a b
theorem str_ok {u : List Nat} (h : Sg u) : PyData.strOk (S u) = true := by
  unfold PyData.strOk
  simp only [Array.all_eq_true_iff_forall_mem, List.mem_toArray]
  intro c hc
  have := (h c hc).1
  simp
  omega
theorem lay_strs : ∀ ws : List (List Nat), Gd ws → PyData.canLayAll0 (ws.map fun u => .str (S u)) = true
  | [], _ => rfl
  | u :: r, h => by
    show (PyData.strOk (S u) && PyData.canLayAll0 _) = true
    rw [lay_strs r fun x hx => h x (by simp [hx]), str_ok (h u (by simp)).1]
    rfl
theorem lay_lines : ∀ ls : List (List (List Nat)), (∀ l ∈ ls, Gd l) → PyData.canLayAll0 (ls.map lineD) = true
  | [], _ => rfl
  | l :: r, h => by
    show (PyData.canLayAll0 _ && PyData.canLayAll0 _) = true
    rw [lay_lines r fun x hx => h x (by simp [hx]), lay_strs l (h l (by simp))]
    rfl
theorem dep_strs : ∀ ws : List (List Nat), PyData.depthAll (ws.map fun u => .str (S u)) = 0
  | [] => rfl
  | u :: r => by
    show max 0 (PyData.depthAll _) = 0
    rw [dep_strs r]
    rfl
theorem dep_lines : ∀ ls : List (List (List Nat)), PyData.depthAll (ls.map lineD) ≤ 1
  | [] => by decide
  | l :: r => by
    show max (PyData.depthAll _ + 1) (PyData.depthAll _) ≤ 1
    have := dep_lines r
    rw [dep_strs l]
    omega
theorem shaped_lines {ls : List (List (List Nat))} (h : ∀ l ∈ ls, Gd l) : SeqAt.shaped (linesD ls) = true := by
  unfold SeqAt.shaped
  rw [Bool.and_eq_true]
  refine ⟨lay_lines ls h, decide_eq_true ?_⟩
  show PyData.depthAll _ + 1 ≤ 64
  have := dep_lines ls
  omega
theorem dp_words {K : PySem.W.Frag} {H : Hp} : ∀ ws : List (List Nat), DpAll K H (ws.map fun u => V.str (S u)) (ws.map fun u => .str (S u))
  | [] => .nil
  | u :: r => .cons (.str _) (dp_words r)
theorem dp_line {K : PySem.W.Frag} {H : Hp} {a : Addr} {ws : List (List Nat)} (h : WL K H a ws) : Dp K H (.ref a) (lineD ws) := .lst h (dp_words ws)
theorem dp_lines {K : PySem.W.Frag} {H : Hp} {as : List Addr} {ls : List (List (List Nat))} (h : Paired (WL K H) as ls) : DpAll K H (as.map V.ref) (ls.map lineD) := by
  induction h with
  | nil => exact .nil
  | cons r _ ih => exact .cons (dp_line r) ih
/-! lists that stand exactly -/
def LX {β : Type} (R : Hp → Addr → β → Prop) (H : Hp) (l : Addr) (bs : List β) : Prop := ∃ as : List Addr, H l = some (.lst (as.map V.ref)) ∧ Paired (R H) as bs
theorem LX.mono {β : Type} {R : Hp → Addr → β → Prop} (mono : ∀ H H' a b, Same H H' → R H a b → R H' a b) {H H' : Hp} {l : Addr} {bs : List β} (s : Same H H') (h : LX R H l bs) : LX R H' l bs :=
  let ⟨as, h1, h2⟩ := h
  ⟨as, s _ _ h1, pair_imp (fun _ _ r => mono _ _ _ _ s r) h2⟩
theorem LX.ll {β : Type} {R : Hp → Addr → β → Prop} {K : PySem.W.Frag} {H : Hp} {l : Addr} {bs : List β} (h : LX R H l bs) : LL R K H l bs :=
  let ⟨as, h1, h2⟩ := h
  ⟨as, SqL.of h1, h2⟩
/-- the numbers of a set stand at a -/
def IX (H : Hp) (a : Addr) (r : List Nat) : Prop := H a = some (.lst (r.map fun n => V.int (n : Nat)))
theorem IX.mono (H H' : Hp) (a : Addr) (r : List Nat) (s : Same H H') (h : IX H a r) : IX H' a r := s _ _ h
theorem wl_mono (K : PySem.W.Frag) (H H' : Hp) (a : Addr) (r : List (List Nat)) (s : Same H H') (h : WL K H a r) : WL K H' a r := s.seq h
abbrev sPoolC : Stmt := top 40
abbrev sPInit : Stmt := inClass (top 40) 0
abbrev sRead : Stmt := top 41
abbrev sLaid : Stmt := top 42
abbrev sDay : Stmt := top 43
abbrev sOwn : Stmt := top 44
abbrev sIsPool : Stmt := top 45
abbrev sGKind : Stmt := top 46
abbrev sGRace : Stmt := top 47
abbrev sGMoney : Stmt := top 48
abbrev sPoolOf : Stmt := top 49
def tKV (tk : Tote.Kind → Addr) : List (Key × V) := [(Sum.inr (S Tc.kPlace), .ref (tk .place)), (Sum.inr (S Tc.kOrder), .ref (tk .order)), (Sum.inr (S Tc.kAny), .ref (tk .any)), (Sum.inr (S Tc.kLegs), .ref (tk .legs))]
def fKV : List (Key × V) := [(Sum.inl 0, .str (S Tc.kPool)), (Sum.inl 4, .str (S Tc.kFrom)), (Sum.inl 6, .str (S Tc.kTake)), (Sum.inl 8, .str (S Tc.kBreak)), (Sum.inl 10, .str (S Tc.kLeast)), (Sum.inl 12, .str (S Tc.kUnit)), (Sum.inl 14, .str (S Tc.kNone))]
structure Gc (P : Program) (w : World) (K : PySem.W.Frag) (mg : Str → Option Value) (tk : Tote.Kind → Addr) (dB dF tN : Addr) : Prop where
  bytes : GI mg "MOST_BYTES" 65536
  races : GI mg "MOST_RACES" 16
  pools : GI mg "MOST_POOLS" 64
  take : GI mg "MOST_TAKE" 400
  brk : GI mg "MOST_BREAK" 1000
  unit : GI mg "MOST_UNIT" 10000
  words : GI mg "POOL_WORDS" 16
  aName : GI mg "NAME_AT" 1
  aKind : GI mg "KIND_AT" 2
  aK : GI mg "K_AT" 3
  aRace : GI mg "RACE_AT" 5
  aTake : GI mg "TAKE_AT" 7
  aBreak : GI mg "BREAK_AT" 9
  aLeast : GI mg "LEAST_AT" 11
  aUnit : GI mg "UNIT_AT" 13
  aNone : GI mg "NONE_AT" 15
  mB : mg "BOUNDS_OF_K" = some (.ref dB)
  mF : mg "FIXED_WORDS" = some (.ref dF)
  mN : mg "WORDS_OF_NONE" = some (.ref tN)
  kB : KD P w K dB (tKV tk)
  kF : KD P w K dF fKV
  kN : ∀ H, SqT K H tN [.str (S Tc.kRefund), .str (S Tc.kCarry), .str (S Tc.kFewer)]
  kT : ∀ H kd, SqT K H (tk kd) [.int (Tote.leastK kd : Nat), .int (Tote.mostK kd : Nat)]
theorem valV_kind (tk : Tote.Kind → Addr) (u : List Nat) : valV (tKV tk) (Sum.inr (S u)) = (Tc.kindOf u).map fun kd => V.ref (tk kd) := by
  have key : ∀ (q : List Nat) (v : V) (r : List (Key × V)), valV ((Sum.inr (S q), v) :: r) (Sum.inr (S u)) = if u = q then some v else valV r (Sum.inr (S u)) := fun q v r => by
    by_cases e : u = q
    · subst e; rw [if_pos rfl]; exact valV_pos rfl
    · rw [if_neg e]; exact valV_neg fun z => e (S_inj (Sum.inr.inj z)).symm
  unfold tKV Tc.kindOf
  rw [key, key, key, key]
  split
  · rfl
  · split
    · rfl
    · split
      · rfl
      · split <;> rfl
theorem inV_none (u : List Nat) : inV (.str (S u)) [.str (S Tc.kRefund), .str (S Tc.kCarry), .str (S Tc.kFewer)] = (Tc.noneOf u).isSome := by
  have key : ∀ q : List Nat, eqV (.str (S q)) (.str (S u)) = decide (u = q) := fun q => by
    show (S q == S u) = _
    by_cases e : u = q
    · subst e; simp
    · rw [decide_eq_false e]; exact beq_eq_false_iff_ne.mpr fun z => e (S_inj z).symm
  show (eqV _ _ || (eqV _ _ || (eqV _ _ || false))) = _
  rw [key, key, key]
  unfold Tc.noneOf
  split
  · rename_i h; simp [h]
  · rename_i h1
    split
    · rename_i h; simp [h]
    · rename_i h2
      split
      · rename_i h; simp [h]
      · rename_i h3; simp [h1, h2, h3]
end Tp
end
section
set_option Elab.async false
set_option linter.all false
set_option maxRecDepth 100000
set_option maxHeartbeats 2000000
namespace Tp
open PySem PySem.Spec PyProof.Rows L2
section
variable {P : Program} {w : World} {K : PySem.W.Frag} {mg : Str → Option Value} {base : Heap} {tk : Tote.Kind → Addr} {dB dF tN : Addr}
theorem yv_mnot {σ : L2.St} {H : Hp} {ta tb : TE} {d : Addr} {kvs : List (Key × V)} {u : List Nat} (h1 : Yv ta σ H (.str (S u))) (h2 : Yv tb σ H (.ref d)) : Yv (tOp (rMNotIn d kvs) ta tb) σ H (.bl (!(valV kvs (Sum.inr (S u))).isSome)) :=
  fun R r => h1 _ (h2 _ ⟨Sum.inr (S u), rfl, rfl, r⟩)
theorem yv_tnot {σ : L2.St} {H : Hp} {ta tb : TE} {p : Addr} {xs : List V} {x : V} (h1 : Yv ta σ H x) (h2 : Yv tb σ H (.ref p)) (hl : SqT K H p xs) (fx : flatV x = true) (fs : xs.all flatV = true) : Yv (tOp (rIn K true) ta tb) σ H (.bl (!inV x xs)) :=
  fun R r => h1 _ (h2 _ ⟨p, xs, rfl, .inr hl, fx, fs, r⟩)
theorem yv_mget {σ : L2.St} {H : Hp} {td ty : TE} {d : Addr} {kvs : List (Key × V)} {k : Key} {v : V} (h1 : Yv td σ H (.ref d)) (h2 : Yv ty σ H (kV k)) (e : valV kvs k = some v) : Yv (tMGet d kvs td ty) σ H v :=
  fun R r => h1 _ (h2 _ ⟨k, v, rfl, rfl, e, r⟩)
theorem yv_tat {σ : L2.St} {H : Hp} {ta tb : TE} {p : Addr} {xs : List V} {z : Int} {v : V} (h1 : Yv ta σ H (.ref p)) (hl : SqT K H p xs) (h2 : Yv tb σ H (.int z)) (e : atI xs z = some v) : Yv (tOp (rIxT K) ta tb) σ H v := fun R r => h1 _ (h2 _ ⟨p, xs, z, v, rfl, rfl, hl, e, r⟩)
theorem gw_at {ws : List (List Nat)} {n : Nat} (h : n < ws.length) : ws[n]? = some (Tc.gw ws n) := getD_of h
def kc : Tote.Kind → List Nat
  | .place => Tc.kPlace
  | .order => Tc.kOrder
  | .any => Tc.kAny
  | .legs => Tc.kLegs
def nc : Tote.None_ → List Nat
  | .refund => Tc.kRefund
  | .carry => Tc.kCarry
  | .fewer => Tc.kFewer
theorem kind_codes {u : List Nat} {kd : Tote.Kind} (h : Tc.kindOf u = some kd) : u = kc kd := by
  unfold Tc.kindOf at h
  split at h
  · cases h; assumption
  · split at h
    · cases h; assumption
    · split at h
      · cases h; assumption
      · split at h
        · cases h; assumption
        · cases h
theorem none_codes {u : List Nat} {z : Tote.None_} (h : Tc.noneOf u = some z) : u = nc z := by
  unfold Tc.noneOf at h
  split at h
  · cases h; assumption
  · split at h
    · cases h; assumption
    · split at h
      · cases h; assumption
      · cases h
/-! has_good_kind -/
def spGKind (K : PySem.W.Frag) : Sp := fun vs H Q _ => ∃ (a : Addr) (ws : List (List Nat)), vs = [.ref a] ∧ WL K H a ws ∧ Gd ws ∧ ws.length = 16 ∧ Q (.bl (Tc.goodKind ws)) H
abbrev nGKind : List Str := ["words", "kind", "bounds"]
theorem scGKind : FnScope nGKind ["words"] (defScope sGKind) := ⟨rfl, rfl, rfl, by decide +kernel, rfl, by decide +kernel, by decide +kernel⟩
theorem ok_gkind {f : Addr} {fd : FuncData} (F : Fun K "has_good_kind" "has_good_kind" sGKind f fd) (G : Gw mg) (C : Gc P w K mg tk dB dF tN) (DN : DNumber P w K mg base) : FnOk P w K mg base CX0 2 f fd ["words"] (spGKind K) := by
  refine F.ok scGKind (fun vs H Q E h => ?_) (fun cdv A outer s H vs Q E hr h => ?_)
  · obtain ⟨a, ws, rfl, _⟩ := h
    rfl
  · obtain ⟨a, ws, rfl, hw, hg, hl, q⟩ := h
    refine ⟨_, pss_cons (ps_set (i := 1) scGKind.nd rfl (Or.inl rfl) (pe_ix ix_list (pv 0) (pgi C.aKind) (fun _ _ => rfl)))
      (pss_cons (ps_if (PW.pt (pw_or (pt_cmpR (op_mnotin C.kB) (pv 1) (pe_glob (v := V.ref dB) rfl C.mB rfl) (by with_unfolding_all rfl)) (pw_or1 (pt_cmpR op_notIn_seq (pe_ix ix_list (pv 0) (pgi C.aNone) (fun _ _ => rfl)) (pe_glob (v := V.ref tN) rfl C.mN rfl) (by with_unfolding_all rfl))))) (pss_one (ps_ret pe_bl)) pss_nil)
      (pss_cons (ps_if (PW.pt (pw_and (pt_cmpR op_eq (pv 1) pe_str (nomark _)) (pw_and1 (pt_cmpR op_eq (pe_ix ix_list (pv 0) (pgi C.aNone) (fun _ _ => rfl)) pe_str (nomark _))))) (pss_one (ps_ret pe_bl)) pss_nil)
      (pss_cons (ps_set (i := 2) scGKind.nd rfl (Or.inl rfl) (pe_mget C.kB (pe_glob (v := V.ref dB) rfl C.mB rfl) (pv 1) (fun _ _ => rfl)))
      (pss_one (ps_ret (pcall DN hr (pa_cons (pe_ix ix_list (pv 0) (pgi C.aK) (fun _ _ => rfl)) (pa_cons (pe_ix ix_tup (pv 2) pe_int (fun _ _ => rfl)) (pa_cons (pe_ix ix_tup (pv 2) pe_int (fun _ _ => rfl)) pa_nil))))))))), ?_⟩
    have yw : ∀ (n : Nat) (hn : n < 16) (σ : L2.St), σ[0]? = some (some (.ref a)) → Yv (tOp (rIxL K) (tVar 0) (tC (.int (n : Nat)))) σ H (.str (S (Tc.gw ws n))) := fun n hn σ hσ => yv_word (n := n) (yv_v hσ) hw yv_c (gw_at (by omega))
    refine (yw 2 (by decide) _ rfl) _ ?_
    dsimp only [gName]
    refine (yt_or (yt_T (yv_mnot (d := dB) (kvs := tKV tk) (u := Tc.gw ws 2) (yv_v rfl) yv_c)) fun _ => yt_T (yv_tnot (yw 15 (by decide) _ rfl) yv_c (C.kN H) rfl rfl)) _ ?_
    rw [valV_kind, inV_none]
    unfold Tc.goodKind at q
    cases ek : Tc.kindOf (Tc.gw ws 2) with
    | none =>
      rw [ek] at q
      exact q
    | some kd =>
      cases en : Tc.noneOf (Tc.gw ws 15) with
      | none =>
        rw [ek, en] at q
        exact q
      | some z =>
        rw [ek, en] at q
        dsimp only at q
        dsimp only [tNext, tSeq]
        refine (yt_and (yt_T (yv_eqS (p := Tc.gw ws 2) (q := Tc.kPlace) (yv_v rfl) yv_c)) fun _ => yt_T (yv_eqS (q := Tc.kFewer) (yw 15 (by decide) _ rfl) yv_c)) _ ?_
        have e1 : decide (Tc.gw ws 2 = Tc.kPlace) = decide (kd = .place) := by
          rw [kind_codes ek]
          cases kd <;> decide
        have e2 : decide (Tc.gw ws 15 = Tc.kFewer) = decide (z = .fewer) := by
          rw [none_codes en]
          cases z <;> decide
        rw [e1, e2]
        refine iteB (fun zz => ?_) (fun zz => ?_)
        · rw [zz] at q
          exact q
        · rw [zz, Bool.not_false, Bool.true_and] at q
          dsimp only [tNext, tSeq, tAsg]
          have ev : valV (tKV tk) (Sum.inr (S (Tc.gw ws 2))) = some (V.ref (tk kd)) := by rw [valV_kind, ek]; rfl
          refine (yv_mget (k := Sum.inr (S (Tc.gw ws 2))) yv_c (yv_v rfl) ev) _ ?_
          dsimp only [gName, tRet]
          have g3 := hg.at (gw_at (ws := ws) (n := 3) (by omega))
          refine (yv_num (lo := Tote.leastK kd) (hi := Tote.mostK kd) (ya3 (yw 3 (by decide) _ rfl) (yv_tat (yv_v rfl) (C.kT H kd) yv_c (atg (j := 0) rfl rfl)) (yv_tat (yv_v rfl) (C.kT H kd) yv_c (atg (j := 1) rfl rfl))) g3.1 g3.2) _ q
/-! has_good_money -/
def spGMoney (K : PySem.W.Frag) : Sp := fun vs H Q _ => ∃ (a : Addr) (ws : List (List Nat)), vs = [.ref a] ∧ WL K H a ws ∧ Gd ws ∧ ws.length = 16 ∧ Q (.bl (Tc.goodMoney ws)) H
abbrev nGMoney : List Str := ["words", "unit"]
theorem scGMoney : FnScope nGMoney ["words"] (defScope sGMoney) := ⟨rfl, rfl, rfl, by decide +kernel, rfl, by decide +kernel, by decide +kernel⟩
theorem ok_gmoney {f : Addr} {fd : FuncData} (F : Fun K "has_good_money" "has_good_money" sGMoney f fd) (G : Gw mg) (C : Gc P w K mg tk dB dF tN) (DN : DNumber P w K mg base) : FnOk P w K mg base CX0 2 f fd ["words"] (spGMoney K) := by
  refine F.ok scGMoney (fun vs H Q E h => ?_) (fun cdv A outer s H vs Q E hr h => ?_)
  · obtain ⟨a, ws, rfl, _⟩ := h
    rfl
  · obtain ⟨a, ws, rfl, hw, hg, hl, q⟩ := h
    refine ⟨_, pss_cons (ps_if (PW.pt (pw_or (pt_not (pt_val (pcall DN hr (pa_cons (pe_ix ix_list (pv 0) (pgi C.aTake) (fun _ _ => rfl)) (pa_cons pe_int (pa_cons (pgi C.take) pa_nil))))))
        (pw_or1 (pt_not (pt_val (pcall DN hr (pa_cons (pe_ix ix_list (pv 0) (pgi C.aBreak) (fun _ _ => rfl)) (pa_cons pe_int (pa_cons (pgi C.brk) pa_nil))))))))) (pss_one (ps_ret pe_bl)) pss_nil)
      (pss_cons (ps_if (pt_not (pt_val (pcall DN hr (pa_cons (pe_ix ix_list (pv 0) (pgi C.aUnit) (fun _ _ => rfl)) (pa_cons pe_int (pa_cons (pgi C.unit) pa_nil)))))) (pss_one (ps_ret pe_bl)) pss_nil)
      (pss_cons (ps_set (i := 1) scGMoney.nd rfl (Or.inl rfl) (pe_callTy call_int_str rfl G.int PyProof.Rows.boot_int (pa_cons (pe_ix ix_list (pv 0) (pgi C.aUnit) (fun _ _ => rfl)) pa_nil)))
      (pss_one (ps_ret (pe_or (pcall DN hr (pa_cons (pe_ix ix_list (pv 0) (pgi C.aLeast) (fun _ _ => rfl)) (pa_cons pe_int (pa_cons pe_int pa_nil))))
        (pe_one (pcall DN hr (pa_cons (pe_ix ix_list (pv 0) (pgi C.aLeast) (fun _ _ => rfl)) (pa_cons (pv 1) (pa_cons (pe_op op_mul pe_int (pv 1)) pa_nil)))))))))), ?_⟩
    have yw : ∀ (n : Nat) (hn : n < 16) (σ : L2.St), σ[0]? = some (some (.ref a)) → Yv (tOp (rIxL K) (tVar 0) (tC (.int (n : Nat)))) σ H (.str (S (Tc.gw ws n))) := fun n hn σ hσ => yv_word (n := n) (yv_v hσ) hw yv_c (gw_at (by omega))
    have gg : ∀ n, n < 16 → Sg (Tc.gw ws n) ∧ (Tc.gw ws n).length ≤ 70000 := fun n hn => hg.at (gw_at (by omega))
    unfold Tc.goodMoney at q
    refine (yt_or (yt_not (yt_B (yv_num (lo := 0) (hi := 400) (ya3 (yw 7 (by decide) _ rfl) yv_c yv_c) (gg 7 (by decide)).1 (gg 7 (by decide)).2))) fun _ => yt_not (yt_B (yv_num (lo := 1) (hi := 1000) (ya3 (yw 9 (by decide) _ rfl) yv_c yv_c) (gg 9 (by decide)).1 (gg 9 (by decide)).2))) _ ?_
    refine iteB (fun z => ?_) (fun z => ?_)
    · have e : (Tc.isNum (Tc.gw ws 7) 0 400 && (Tc.isNum (Tc.gw ws 9) 1 1000 && (Tc.isNum (Tc.gw ws 13) 1 10000 && (Tc.isNum (Tc.gw ws 11) 0 0 || Tc.isNum (Tc.gw ws 11) (Tc.num (Tc.gw ws 13)) (2 * Tc.num (Tc.gw ws 13)))))) = false := by
        rcases Bool.or_eq_true_iff.mp z with z | z <;> rw [Bool.not_eq_true'] at z <;> rw [z] <;> simp
      rw [e] at q
      exact q
    simp only [Bool.or_eq_false_iff, Bool.not_eq_false'] at z
    rw [z.1, z.2, Bool.true_and, Bool.true_and] at q
    dsimp only [tNext, tSeq]
    refine (yt_not (yt_B (yv_num (lo := 1) (hi := 10000) (ya3 (yw 13 (by decide) _ rfl) yv_c yv_c) (gg 13 (by decide)).1 (gg 13 (by decide)).2))) _ ?_
    refine iteB (fun z2 => ?_) (fun z2 => ?_)
    · rw [Bool.not_eq_true'] at z2
      rw [z2] at q
      exact q
    rw [Bool.not_eq_false'] at z2
    rw [z2, Bool.true_and] at q
    have zb := Tc.isNum_bd z2
    dsimp only [tNext, tSeq, tAsg]
    refine (yv_intN (yw 13 (by decide) _ rfl) z2) _ ?_
    dsimp only [gName, tRet]
    have y2u : Yv (tOp (rI CMul fun i j => V.int (i * j)) (tC (.int 2)) (tVar 1)) [some (.ref a), some (.int ((Tc.num (Tc.gw ws 13) : Nat) : Int))] H (.int ((2 * Tc.num (Tc.gw ws 13) : Nat) : Int)) := by
      have h := yv_i (σ := [some (.ref a), some (.int ((Tc.num (Tc.gw ws 13) : Nat) : Int))]) (H := H) (C := CMul) (g := fun i j => V.int (i * j)) (i := 2) (ta := tC (.int 2)) (tb := tVar 1) yv_c (yv_v rfl) (.inl ⟨by decide, by decide⟩)
      have e : (2 : Int) * ((Tc.num (Tc.gw ws 13) : Nat) : Int) = ((2 * Tc.num (Tc.gw ws 13) : Nat) : Int) := by omega
      rw [← e]
      exact h
    refine (yv_or (yv_num (lo := 0) (hi := 0) (ya3 (yw 11 (by decide) _ rfl) yv_c yv_c) (gg 11 (by decide)).1 (gg 11 (by decide)).2) fun _ => yv_num (lo := Tc.num (Tc.gw ws 13)) (hi := 2 * Tc.num (Tc.gw ws 13)) (ya3 (yw 11 (by decide) _ rfl) (yv_v rfl) y2u) (gg 11 (by decide)).1 (gg 11 (by decide)).2) _ q
end
end Tp
end
section
set_option Elab.async false
set_option linter.all false
set_option maxRecDepth 100000
set_option maxHeartbeats 2000000
namespace Tp
open PySem PySem.Spec PyProof.Rows L2
section
variable {P : Program} {w : World} {K : PySem.W.Frag} {mg : Str → Option Value} {base : Heap} {tk : Tote.Kind → Addr} {dB dF tN : Addr}
theorem kind_num {ws : List (List Nat)} (h : Tc.goodKind ws = true) : ∃ kd lo hi, Tc.kindOf (Tc.gw ws 2) = some kd ∧ Tc.isNum (Tc.gw ws 3) lo hi = true ∧ hi ≤ 6 ∧ lo ≤ Tc.num (Tc.gw ws 3) ∧ Tc.num (Tc.gw ws 3) ≤ hi ∧ 1 ≤ lo := by
  unfold Tc.goodKind at h
  split at h
  · rename_i kd z h1 h2
    rw [Bool.and_eq_true] at h
    have hb := Tc.isNum_bd h.2
    exact ⟨kd, _, _, h1, h.2, by cases kd <;> decide, hb.1, hb.2, by cases kd <;> decide⟩
  · cases h
def spGRace (K : PySem.W.Frag) : Sp := fun vs H Q _ => ∃ (a b : Addr) (ws rr : List (List Nat)), vs = [.ref a, .ref b] ∧ WL K H a ws ∧ Gd ws ∧ ws.length = 16 ∧ Tc.goodKind ws = true ∧ LX IX H b rr ∧ rr.length ≤ 70000 ∧ Q (.bl (Tc.goodRace ws rr)) H
abbrev nGRace : List Str := ["words", "races", "race", "k"]
theorem scGRace : FnScope nGRace ["words", "races"] (defScope sGRace) := ⟨rfl, rfl, rfl, by decide +kernel, rfl, by decide +kernel, by decide +kernel⟩
theorem ok_grace {f : Addr} {fd : FuncData} (F : Fun K "has_good_race" "has_good_race" sGRace f fd) (G : Gw mg) (C : Gc P w K mg tk dB dF tN) (DN : DNumber P w K mg base) : FnOk P w K mg base CX0 2 f fd ["words", "races"] (spGRace K) := by
  refine F.ok scGRace (fun vs H Q E h => ?_) (fun cdv A outer s H vs Q E hr h => ?_)
  · obtain ⟨a, b, ws, rr, rfl, _⟩ := h
    rfl
  · obtain ⟨a, b, ws, rr, rfl, hw, hg, hl, hk, ⟨as, hb, hp⟩, hrl, q⟩ := h
    obtain ⟨kd, lo, hi, hkd, hkn, hk6, hk1, hk2, hlo⟩ := kind_num hk
    refine ⟨_, pss_cons (ps_if (pt_not (pt_val (pcall DN hr (pa_cons (pe_ix ix_list (pv 0) (pgi C.aRace) (fun _ _ => rfl)) (pa_cons pe_int (pa_cons (pe_callB call_len_seq rfl G.len PySem.boot_len (pa_cons (pv 1) pa_nil)) pa_nil)))))) (pss_one (ps_ret pe_bl)) pss_nil)
      (pss_cons (ps_set (i := 2) scGRace.nd rfl (Or.inl rfl) (pe_callTy call_int_str rfl G.int PyProof.Rows.boot_int (pa_cons (pe_ix ix_list (pv 0) (pgi C.aRace) (fun _ _ => rfl)) pa_nil)))
      (pss_cons (ps_set (i := 3) scGRace.nd rfl (Or.inl rfl) (pe_callTy call_int_str rfl G.int PyProof.Rows.boot_int (pa_cons (pe_ix ix_list (pv 0) (pgi C.aK) (fun _ _ => rfl)) pa_nil)))
      (pss_cons (ps_if (pt_cmpR op_eq (pe_ix ix_list (pv 0) (pgi C.aKind) (fun _ _ => rfl)) pe_str (nomark _)) (pss_one (ps_ret (pe_cmpR op_le (pe_op op_sub (pe_op op_add (pv 2) (pv 3)) pe_int) (pe_callB call_len_seq rfl G.len PySem.boot_len (pa_cons (pv 1) pa_nil)) (nomark _)))) pss_nil)
      (pss_one (ps_ret (pe_cmpR op_ge (pe_callB call_len_seq rfl G.len PySem.boot_len (pa_cons (pe_ix ix_list (pv 1) (pe_op op_sub (pv 2) pe_int) (fun _ _ => rfl)) pa_nil)) (pv 3) (nomark _))))))), ?_⟩
    have yw : ∀ (n : Nat) (hn : n < 16) (σ : L2.St), σ[0]? = some (some (.ref a)) → Yv (tOp (rIxL K) (tVar 0) (tC (.int (n : Nat)))) σ H (.str (S (Tc.gw ws n))) := fun n hn σ hσ => yv_word (n := n) (yv_v hσ) hw yv_c (gw_at (by omega))
    have gg : ∀ n, n < 16 → Sg (Tc.gw ws n) ∧ (Tc.gw ws n).length ≤ 70000 := fun n hn => hg.at (gw_at (by omega))
    have hal : as.length = rr.length := pair_len hp
    have yl : ∀ σ : L2.St, σ[1]? = some (some (.ref b)) → Yv (tCB (fun xs H Q => ∃ p ys, xs = [V.ref p] ∧ (SqL K H p ys ∨ SqT K H p ys) ∧ Q (.int ys.length) H) (tCons (tVar 1) tNil)) σ H (.int (rr.length : Nat)) := fun σ hσ => by
      have h := yv_len (K := K) (ta := tVar 1) (σ := σ) (yv_v hσ) (SqL.of hb)
      rw [List.length_map, hal] at h
      exact h
    unfold Tc.goodRace at q
    try dsimp only [tSeq, tIfS]
    refine (yt_not (yt_B (yv_num (lo := 1) (hi := rr.length) (ya3 (yw 5 (by decide) (start nGRace [.ref a, .ref b]) rfl) yv_c (yl (start nGRace [.ref a, .ref b]) rfl)) (gg 5 (by decide)).1 (gg 5 (by decide)).2))) _ ?_
    refine iteB (fun z => ?_) (fun z => ?_)
    · rw [Bool.not_eq_true'] at z
      rw [z] at q
      exact q
    rw [Bool.not_eq_false'] at z
    rw [z, Bool.true_and] at q
    have zb := Tc.isNum_bd z
    try dsimp only [tNext, tSeq, tAsg]
    refine (yv_intN (yw 5 (by decide) _ rfl) z) _ ?_
    try dsimp only [gName, tSeq, tAsg]
    refine (yv_intN (yw 3 (by decide) _ rfl) hkn) _ ?_
    try dsimp only [gName]
    refine (yt_T (yv_eqS (q := Tc.kLegs) (yw 2 (by decide) _ rfl) yv_c)) _ ?_
    refine iteB (fun z2 => ?_) (fun z2 => ?_)
    · have z2 : Tc.gw ws 2 = Tc.kLegs := of_decide_eq_true z2
      rw [if_pos z2] at q
      refine (yv_i0 (yv_i0 (g := fun i j => V.int (i - j)) (yv_i0 (g := fun i j => V.int (i + j)) (yv_v rfl) (yv_v rfl)) yv_c) (yl [some (.ref a), some (.ref b), some (.int ((Tc.num (Tc.gw ws 5) : Nat) : Int)), some (.int ((Tc.num (Tc.gw ws 3) : Nat) : Int))] rfl)) _ ?_
      have e : decide (((Tc.num (Tc.gw ws 5) : Nat) : Int) + ((Tc.num (Tc.gw ws 3) : Nat) : Int) - 1 ≤ ((rr.length : Nat) : Int)) = decide (Tc.num (Tc.gw ws 5) + Tc.num (Tc.gw ws 3) ≤ rr.length + 1) := by rw [decide_eq_decide]; omega
      rw [← e] at q
      exact q
    · have z2 : ¬ Tc.gw ws 2 = Tc.kLegs := of_decide_eq_false z2
      rw [if_neg z2] at q
      try dsimp only [tNext, tRet]
      obtain ⟨c, hc1, hc2⟩ := pair_get hp (Tc.num (Tc.gw ws 5) - 1) (rr.getD (Tc.num (Tc.gw ws 5) - 1) []) (by rw [List.getD_eq_getElem?_getD, List.getElem?_eq_getElem (by omega)]; rfl)
      have yr : Yv (tOp (rIxL K) (tVar 1) (tOp (rI0 fun i j => V.int (i - j)) (tVar 2) (tC (.int 1)))) [some (.ref a), some (.ref b), some (.int ((Tc.num (Tc.gw ws 5) : Nat) : Int)), some (.int ((Tc.num (Tc.gw ws 3) : Nat) : Int))] H (.ref c) :=
        yv_at (yv_v rfl) (SqL.of hb) (yv_i0 (g := fun i j => V.int (i - j)) (yv_v rfl) yv_c) (atg (j := Tc.num (Tc.gw ws 5) - 1) (by omega) (by rw [List.getElem?_map, hc1]; rfl))
      have yl2 := yv_len (K := K) yr (SqL.of hc2)
      rw [List.length_map] at yl2
      refine (yv_i0 yl2 (yv_v rfl)) _ ?_
      have e : decide (((Tc.num (Tc.gw ws 3) : Nat) : Int) ≤ (((rr.getD (Tc.num (Tc.gw ws 5) - 1) []).length : Nat) : Int)) = decide (Tc.num (Tc.gw ws 3) ≤ (rr.getD (Tc.num (Tc.gw ws 5) - 1) []).length) := by rw [decide_eq_decide]; omega
      rw [← e] at q
      exact q
/-! is_day -/
def spDay (K : PySem.W.Frag) : Sp := fun vs H Q _ => ∃ (a : Addr) (ws : List (List Nat)), vs = [.ref a] ∧ WL K H a ws ∧ Gd ws ∧ Q (.bl (Tc.isDay ws)) H
theorem scDay : FnScope ["words"] ["words"] (defScope sDay) := ⟨rfl, rfl, rfl, by decide +kernel, rfl, by decide +kernel, by decide +kernel⟩
theorem day_val (ws : List (List Nat)) : Tc.isDay ws = (decide (((ws.length : Nat) : Int) = 2) && (decide (Tc.gw ws 0 = Tc.kDay) && Tc.isName (Tc.gw ws 1))) := by
  match ws with
  | [] => rfl
  | [_] => rfl
  | [a, b] => rfl
  | _ :: _ :: _ :: r => simp [Tc.isDay]; omega
theorem ok_day {f : Addr} {fd : FuncData} (F : Fun K "is_day" "is_day" sDay f fd) (G : Gw mg) (DM : Dfn P w K mg base 1 "is_name" ["word"] [] spName) : FnOk P w K mg base CX0 2 f fd ["words"] (spDay K) := by
  refine F.ok scDay (fun vs H Q E h => ?_) (fun cdv A outer s H vs Q E hr h => ?_)
  · obtain ⟨a, ws, rfl, _⟩ := h
    rfl
  · obtain ⟨a, ws, rfl, hw, hg, q⟩ := h
    refine ⟨_, pss_one (ps_ret (pe_and (pe_cmpR op_eq (pe_callB call_len_seq rfl G.len PySem.boot_len (pa_cons (pv 0) pa_nil)) pe_int (nomark _)) (pe_and (pe_cmpR op_eq (pe_ix ix_list (pv 0) pe_int (fun _ _ => rfl)) pe_str (nomark _)) (pe_one (pcall DM hr (pa_cons (pe_ix ix_list (pv 0) pe_int (fun _ _ => rfl)) pa_nil)))))), ?_⟩
    have yl := yv_len (K := K) (ta := tVar 0) (σ := start ["words"] [V.ref a]) (yv_v rfl) hw
    rw [List.length_map] at yl
    rw [day_val] at q
    refine (yv_and (yv_eqI yl yv_c) fun z => ?_) _ q
    have hl : ws.length = 2 := by have := of_decide_eq_true z; omega
    have g1 := hg.at (gw_at (ws := ws) (n := 1) (by omega))
    exact yv_and (yv_eqS (q := Tc.kDay) (yv_word (n := 0) (yv_v rfl) hw yv_c (gw_at (by omega))) yv_c) fun _ => yv_name (ya1 (yv_word (n := 1) (yv_v rfl) hw yv_c (gw_at (by omega)))) g1.1 g1.2
/-! is_pool -/
theorem lcm {δ β : Type} {kvs : List (Key × V)} {wi : TI} {g : TG} {tt : TT} {te : TE} {σ : L2.St} {vs : List Nat} {Q : VK} {H H1 : Hp} (hi : ∀ R : It → Hp → Prop, R (Itm kvs) H1 → wi σ H R)
    (p : Key × V → Bool) (F : Key × V → β) (Rl : Hp → V → β → Prop) (mono : ∀ H H' v b, Same H H' → Rl H v b → Rl H' v b) (hz : kvs.length ≤ sizeLine)
    (hs : ∀ D, H1 D = none → ∀ (i : Nat) d H acc (Yes : VK) (No : Hp → Prop), kvs[i]? = some d → Same H1 H → H D = some (.lst acc) → (p d = true → ∀ H' y, Same H H' → Rl (off D H') y (F d) → Yes y H') → (p d = false → ∀ H', Same H H' → No H') →
      g (kV d.1) (wipe σ vs) H fun σ2 H2 => wipe σ2 vs = wipe σ vs ∧ tt σ2 H2 fun b H3 => if b = true then te σ2 H3 Yes else No H3)
    (hd : ∀ D, H1 D = none → ∀ H' ys, Same H1 H' → H' D = some (.lst ys) → Paired (Rl H') ys ((kvs.filter p).map F) → Q (.ref D) H') : tLc wi g tt te vs σ H Q :=
  hi _ fun D hD => lc_gen (fun i => kV (kvs.getD i (Sum.inl 0, .non)).1) kvs p F Rl mono (fun i H hi s => hi) (fun i H x H' hi s y => ⟨y.1, by
      obtain ⟨k, v, h1, h2⟩ := y.2
      rw [List.getD_eq_getElem?_getD, h1]
      exact h2⟩) (fun H s => Nat.le_refl _) hz hD (fun i d H acc Yes No hdi s hacc hy hn => by
      have e : kvs.getD i (Sum.inl 0, .non) = d := by rw [List.getD_eq_getElem?_getD, hdi]; rfl
      rw [e]
      exact hs D hD i d H acc Yes No hdi s hacc hy hn) (hd D hD)
def fixB (ws : List (List Nat)) : Key × V → Bool
  | (.inl z, .str x) => decide (S (Tc.gw ws z.toNat) = x)
  | _ => false
theorem fix_all (ws : List (List Nat)) : (fKV.map (fixB ws)).all id = Tc.fixedOk ws := by
  have key : ∀ (n : Nat) (k : List Nat), decide (S (Tc.gw ws n) = S k) = decide (Tc.gw ws n = k) := fun n k => by rw [decide_eq_decide]; exact ⟨S_inj, fun h => by rw [h]⟩
  show (decide (S (Tc.gw ws 0) = S Tc.kPool) && (decide (S (Tc.gw ws 4) = S Tc.kFrom) && (decide (S (Tc.gw ws 6) = S Tc.kTake) && (decide (S (Tc.gw ws 8) = S Tc.kBreak) && (decide (S (Tc.gw ws 10) = S Tc.kLeast) && (decide (S (Tc.gw ws 12) = S Tc.kUnit) && (decide (S (Tc.gw ws 14) = S Tc.kNone) && true))))))) = _
  rw [key, key, key, key, key, key, key, Bool.and_true]
  rfl
theorem fix_mem : ∀ d ∈ fKV, ∃ (n : Nat) (k : List Nat), d = (Sum.inl ((n : Nat) : Int), V.str (S k)) ∧ n < 16 ∧ valV fKV d.1 = some d.2 := by
  intro d hd
  simp only [fKV, List.mem_cons, List.not_mem_nil, or_false] at hd
  rcases hd with rfl | rfl | rfl | rfl | rfl | rfl | rfl
  · exact ⟨0, _, rfl, by decide, rfl⟩
  · exact ⟨4, _, rfl, by decide, rfl⟩
  · exact ⟨6, _, rfl, by decide, rfl⟩
  · exact ⟨8, _, rfl, by decide, rfl⟩
  · exact ⟨10, _, rfl, by decide, rfl⟩
  · exact ⟨12, _, rfl, by decide, rfl⟩
  · exact ⟨14, _, rfl, by decide, rfl⟩
def spIsPool (K : PySem.W.Frag) : Sp := fun vs H Q _ => ∃ (a b : Addr) (ws rr : List (List Nat)), vs = [.ref a, .ref b] ∧ WL K H a ws ∧ Gd ws ∧ LX IX H b rr ∧ rr.length ≤ 70000 ∧ ∀ H', Same H H' → Q (.bl (Tc.isPool ws rr)) H'
abbrev nIsPool : List Str := ["words", "races", "at"]
theorem scIsPool : FnScope nIsPool ["words", "races"] (defScope sIsPool) := ⟨rfl, rfl, rfl, by decide +kernel, rfl, by decide +kernel, by decide +kernel⟩
theorem ok_ispool {f : Addr} {fd : FuncData} (F : Fun K "is_pool" "is_pool" sIsPool f fd) (G : Gw mg) (C : Gc P w K mg tk dB dF tN) (DM : Dfn P w K mg base 1 "is_name" ["word"] [] spName)
    (D1 : Dfn P w K mg base 2 "has_good_kind" ["words"] [] (spGKind K)) (D2 : Dfn P w K mg base 2 "has_good_race" ["words", "races"] [] (spGRace K)) (D3 : Dfn P w K mg base 2 "has_good_money" ["words"] [] (spGMoney K)) : FnOk P w K mg base CX0 3 f fd ["words", "races"] (spIsPool K) := by
  refine F.ok scIsPool (fun vs H Q E h => ?_) (fun cdv A outer s H vs Q E hr h => ?_)
  · obtain ⟨a, b, ws, rr, rfl, _⟩ := h
    rfl
  · obtain ⟨a, b, ws, rr, rfl, hw, hg, hb, hrl, q⟩ := h
    refine ⟨_, pss_cons (ps_if (PW.pt (pw_or (pt_cmpR op_ne (pe_callB call_len_seq rfl G.len PySem.boot_len (pa_cons (pv 0) pa_nil)) (pgi C.words) (nomark _)) (pw_or1 (pt_not (pt_val (pcall DM hr (pa_cons (pe_ix ix_list (pv 0) (pgi C.aName) (fun _ _ => rfl)) pa_nil))))))) (pss_one (ps_ret pe_bl)) pss_nil)
      (pss_cons (ps_if (pt_not (pt_val (pe_callB (cr_all rfl) rfl G.all PyProof.Rows.boot_all (pa_cons (pe_lc (own := [("at", 2)]) rfl scIsPool.nd (pi_mkeys C.kF (pe_glob (v := V.ref dF) rfl C.mF rfl)) (blk (N := nIsPool) (sc := defScope sIsPool) (by decide +kernel))
        (fun _ _ _ _ _ => pg_name (i := 2) scIsPool.nd rfl (Or.inl rfl)) (fun _ _ _ _ _ => pts_nil) (fun _ _ _ _ _ => pe_cmpR op_eq (pe_ix (r := rIxL K) ix_list (pv 0) (pv 2) (fun _ _ => rfl)) (pe_mget C.kF (pe_glob (v := V.ref dF) rfl C.mF rfl) (pv 2) (fun _ _ => rfl)) (nomark _))) pa_nil)))) (pss_one (ps_ret pe_bl)) pss_nil)
      (pss_one (ps_ret (pe_and (pcall D1 hr (pa_cons (pv 0) pa_nil)) (pe_and (pcall D2 hr (pa_cons (pv 0) (pa_cons (pv 1) pa_nil))) (pe_one (pcall D3 hr (pa_cons (pv 0) pa_nil)))))))), ?_⟩
    have hsz : sizeLine = 16777216 := by decide
    have yl := yv_len (K := K) (ta := tVar 0) (σ := start nIsPool [V.ref a, V.ref b]) (yv_v rfl) hw
    rw [List.length_map] at yl
    unfold Tc.isPool at q
    by_cases hl : ws.length = 16
    · rw [decide_eq_true hl, Bool.true_and] at q
      have g1 := hg.at (gw_at (ws := ws) (n := 1) (by omega))
      refine (yt_or (yt_T (yv_neI yl yv_c)) fun _ => yt_not (yt_B (yv_name (ya1 (yv_word (n := 1) (yv_v rfl) hw yv_c (gw_at (by omega)))) g1.1 g1.2))) _ ?_
      rw [decide_eq_true (by omega : ((ws.length : Nat) : Int) = 16)]
      refine iteB (fun z => ?_) (fun z => ?_)
      · have z : Tc.isName (Tc.gw ws 1) = false := by simpa using z
        rw [z] at q
        exact q _ (Same.refl _)
      have z : Tc.isName (Tc.gw ws 1) = true := by simpa using z
      rw [z, Bool.true_and] at q
      try dsimp only [tNext, tSeq, tIfS, tNot, tB, tCB, tCons]
      refine lcm (kvs := fKV) (δ := Unit) (fun R r => ⟨rfl, r⟩) (fun _ => true) (fixB ws) (fun _ v b => v = V.bl b) (fun _ _ _ _ _ r => r) (by decide) (fun D hD i d H2 acc Yes No hdi s2 hacc hy hn => ?_) (fun D hD H2 ys s2 hD2 hp => ?_)
      · obtain ⟨n, k, rfl, hn16, hv⟩ := fix_mem d (List.mem_of_getElem? hdi)
        refine ⟨rfl, (yv_eq (yv_word (n := n) (yv_v rfl) (s2.seq hw) (yv_v rfl) (gw_at (by omega))) (yv_mget (k := Sum.inl ((n : Nat) : Int)) yv_c (yv_v rfl) hv) rfl) _ ?_⟩
        refine hy rfl _ _ (Same.refl _) ?_
        show V.bl _ = V.bl _
        congr 1
        show decide (V.str (S (Tc.gw ws n)) = V.str (S k)) = decide (S (Tc.gw ws ((n : Nat) : Int).toNat) = S k)
        rw [decide_eq_decide]
        exact ⟨V.str.inj, fun h => congrArg V.str h⟩
      · have ey : ys = (fKV.map (fixB ws)).map V.bl := by
          have e := pair_eq (f := V.bl) hp
          rw [e, List.filter_eq_self.mpr (fun _ _ => rfl)]
        subst ey
        refine ⟨D, _, rfl, SqL.of hD2, _, rfl, ?_⟩
        rw [fix_all]
        refine iteB (fun z2 => ?_) (fun z2 => ?_)
        · rw [Bool.not_eq_true'] at z2
          rw [z2] at q
          exact q _ s2
        rw [Bool.not_eq_false'] at z2
        rw [z2, Bool.true_and] at q
        try dsimp only [tNext, tRet]
        have hw2 := s2.seq hw
        refine (yv_and (yv_call (ya1 (yv_v rfl)) fun R r => ⟨a, ws, rfl, hw2, hg, hl, r⟩) fun z3 => yv_and (yv_call (ya2 (yv_v rfl) (yv_v rfl)) fun R r => ⟨a, b, ws, rr, rfl, hw2, hg, hl, z3, hb.mono IX.mono s2, hrl, r⟩) fun z4 => yv_call (ya1 (yv_v rfl)) fun R r => ⟨a, ws, rfl, hw2, hg, hl, r⟩) _ (q _ s2)
    · rw [decide_eq_false hl, Bool.false_and] at q
      refine (yt_or (b := true) (yt_T (yv_neI yl yv_c)) fun z => ?_) _ ?_
      · exfalso
        have z : ((ws.length : Nat) : Int) = 16 := by simpa using z
        omega
      · rw [Bool.or_true]
        exact q _ (Same.refl _)
end
end Tp
end
section
set_option Elab.async false
set_option linter.all false
set_option maxRecDepth 100000
set_option maxHeartbeats 2000000
namespace Tp
open PySem PySem.Spec PyProof.Rows L2
def pf (kd k l : V) : List (Str × V) := [("kind", kd), ("k", k), ("sets", l)]
theorem pf_kind (kd k l : V) : (pf kd k l).lookup ("kind" : Str) = some kd := rfl
theorem pf_k (kd k l : V) : (pf kd k l).lookup ("k" : Str) = some k := rfl
theorem pf_sets (kd k l : V) : (pf kd k l).lookup ("sets" : Str) = some l := rfl
/-- the class Pool -/
structure PC0 (K : PySem.W.Frag) (mg : Str → Option Value) (C fI : Addr) : Prop where
  cl : Cls K C
  nKind : NoAttr K C "kind"
  nK : NoAttr K C "k"
  nSets : NoAttr K C "sets"
  mgC : mg "Pool" = some (.ref C)
  made : Mk K C fI
section
variable {P : Program} {w : World} {K : PySem.W.Frag} {mg : Str → Option Value} {base : Heap} {tk : Tote.Kind → Addr} {dB dF tN C fI : Addr}
def spPInit (C : Addr) : Sp := fun vs H Q _ => ∃ (p dx : Addr) (a b c : V), vs = [.ref p, a, b, c] ∧ H p = some (.ins C dx []) ∧ ∀ H' : Hp, H' p = some (.ins C dx (pf a b c)) → (∀ x o, H x = some o → x ≠ p → H' x = some o) → Q .non H'
theorem scPInit : FnScope ["self", "kind", "k", "sets"] ["self", "kind", "k", "sets"] (defScope sPInit) := ⟨rfl, rfl, rfl, by decide +kernel, rfl, by decide +kernel, by decide +kernel⟩
theorem ok_pinit {f : Addr} {fd : FuncData} (F : Fun K "__init__" "Pool.__init__" sPInit f fd) (T : PC0 K mg C fI) : FnOk P w K mg base CX0 1 f fd ["self", "kind", "k", "sets"] (spPInit C) := by
  refine F.ok scPInit (fun vs H Q E h => ?_) (fun cdv A outer s H vs Q E hr h => ?_)
  · obtain ⟨p, dx, a, b, c, rfl, _⟩ := h
    rfl
  · obtain ⟨p, dx, a, b, c, rfl, hp, q⟩ := h
    refine ⟨_, pss_cons (ps_fld (pv 0) (pv 1) rfl) (pss_cons (ps_fld (pv 0) (pv 2) rfl) (pss_one (ps_fld (pv 0) (pv 3) rfl))), ?_⟩
    refine ⟨_, rfl, _, rfl, p, C, dx, [], rfl, hp, T.cl, T.nKind, (by show 0 < 1000; decide), ?_⟩
    refine ⟨_, rfl, _, rfl, p, C, dx, _, rfl, upd_same, T.cl, T.nK, (by show 1 < 1000; decide), ?_⟩
    refine ⟨_, rfl, _, rfl, p, C, dx, _, rfl, upd_same, T.cl, T.nSets, (by show 2 < 1000; decide), ?_⟩
    refine q _ ?_ (fun x o e hx => ?_)
    · rw [upd_same]
      rfl
    · rw [upd_ne hx, upd_ne hx, upd_ne hx]
      exact e
/-! pool_of -/
def legsN (ws : List (List Nat)) : Nat := if Tc.gw ws 2 = Tc.kLegs then Tc.num (Tc.gw ws 3) else 1
theorem setsOf_eq (ws rr : List (List Nat)) : Tc.setsOf ws rr = (rr.drop (Tc.num (Tc.gw ws 5) - 1)).take (legsN ws) := rfl
def spPoolOf (K : PySem.W.Frag) (C : Addr) : Sp := fun vs H Q _ => ∃ (a b : Addr) (ws rr : List (List Nat)) (as : List Addr), vs = [.ref a, .ref b] ∧ WL K H a ws ∧ H b = some (.lst (as.map V.ref)) ∧ as.length = rr.length ∧ rr.length ≤ 70000 ∧ Tc.isPool ws rr = true ∧
  ∀ (H' : Hp) (x dx l : Addr), Same H H' → H x = none → H l = none → H' x = some (.ins C dx (pf (.str (S (Tc.gw ws 2))) (.int (Tc.num (Tc.gw ws 3) : Nat)) (.ref l))) → H' l = some (.lst (((as.drop (Tc.num (Tc.gw ws 5) - 1)).take (legsN ws)).map V.ref)) → Q (.ref x) H'
abbrev nPoolOf : List Str := ["words", "races", "kind", "k", "first", "legs"]
theorem scPoolOf : FnScope nPoolOf ["words", "races"] (defScope sPoolOf) := ⟨rfl, rfl, rfl, by decide +kernel, rfl, by decide +kernel, by decide +kernel⟩
theorem pool_parts {ws rr : List (List Nat)} (h : Tc.isPool ws rr = true) : ws.length = 16 ∧ Tc.goodKind ws = true ∧ Tc.isNum (Tc.gw ws 5) 1 rr.length = true := by
  unfold Tc.isPool at h
  simp only [Bool.and_eq_true, decide_eq_true_eq] at h
  have h2 := h.2.2.2.2.1
  unfold Tc.goodRace at h2
  rw [Bool.and_eq_true] at h2
  exact ⟨h.1, h.2.2.2.1, h2.1⟩
theorem cut_refs (as : List Addr) (i n : Nat) : cutV (as.map V.ref) (some ((i : Nat) : Int)) (some ((i + n : Nat) : Int)) = ((as.drop i).take n).map V.ref := by
  unfold cutV
  rw [HT.sIx_nat, HT.sIx_nat, List.length_map, ← List.map_drop, ← List.map_take]
  congr 1
  by_cases h : i ≤ as.length
  · have e1 : min i as.length = i := by omega
    rw [e1]
    have hl : (as.drop i).length = as.length - i := List.length_drop
    by_cases h2 : i + n ≤ as.length
    · have e2 : min (i + n) as.length - i = n := by omega
      rw [e2]
    · rw [List.take_of_length_le (by omega), List.take_of_length_le (by omega)]
  · have e1 : min i as.length = as.length := by omega
    rw [e1, List.drop_length, List.drop_eq_nil_of_le (by omega)]
    simp
theorem ok_poolof {f : Addr} {fd fdI : FuncData} (F : Fun K "pool_of" "pool_of" sPoolOf f fd) (G : Gw mg) (C0 : Gc P w K mg tk dB dF tN) (T : PC0 K mg C fI) (FI : Fun K "__init__" "Pool.__init__" sPInit fI fdI) (bI : Binds K fdI ["self", "kind", "k", "sets"] []) : FnOk P w K mg base CX0 3 f fd ["words", "races"] (spPoolOf K C) := by
  have GI : FnOk P w K mg base CX0 1 fI fdI ["self", "kind", "k", "sets"] (spPInit C) := ok_pinit FI T
  refine F.ok scPoolOf (fun vs H Q E h => ?_) (fun cdv A outer s H vs Q E hr h => ?_)
  · obtain ⟨a, b, ws, rr, as, rfl, _⟩ := h
    rfl
  · obtain ⟨a, b, ws, rr, as, rfl, hw, hb, hal, hrl, hp, q⟩ := h
    obtain ⟨hl, hk, h5⟩ := pool_parts hp
    obtain ⟨kd, lo, hi, hkd, hkn, hk6, hk1, hk2, hlo⟩ := kind_num hk
    have h5b := Tc.isNum_bd h5
    refine ⟨_, pss_cons (ps_set (i := 2) scPoolOf.nd rfl (Or.inl rfl) (pe_ix ix_list (pv 0) (pgi C0.aKind) (fun _ _ => rfl)))
      (pss_cons (ps_set (i := 3) scPoolOf.nd rfl (Or.inl rfl) (pe_callTy call_int_str rfl G.int PyProof.Rows.boot_int (pa_cons (pe_ix ix_list (pv 0) (pgi C0.aK) (fun _ _ => rfl)) pa_nil)))
      (pss_cons (ps_set (i := 4) scPoolOf.nd rfl (Or.inl rfl) (pe_op op_sub (pe_callTy call_int_str rfl G.int PyProof.Rows.boot_int (pa_cons (pe_ix ix_list (pv 0) (pgi C0.aRace) (fun _ _ => rfl)) pa_nil)) pe_int))
      (pss_cons (ps_set (i := 5) scPoolOf.nd rfl (Or.inl rfl) (pe_ifExp (pt_cmpR op_eq (pv 2) pe_str (nomark _)) (pv 3) pe_int))
      (pss_one (ps_ret (pe_make T.made GI hr rfl T.mgC bI .nil pass0 (pa_cons (pv 2) (pa_cons (pv 3) (pa_cons (pe_slice sl_list (pv 1) (po_some (pv 4)) (po_some (pe_op op_add (pv 4) (pv 5)))) pa_nil))))))))), ?_⟩
    have yw : ∀ (n : Nat) (hn : n < 16) (σ : L2.St), σ[0]? = some (some (.ref a)) → Yv (tOp (rIxL K) (tVar 0) (tC (.int (n : Nat)))) σ H (.str (S (Tc.gw ws n))) := fun n hn σ hσ => yv_word (n := n) (yv_v hσ) hw yv_c (gw_at (by omega))
    refine (yw 2 (by decide) _ rfl) _ ?_
    try dsimp only [gName, tSeq, tAsg]
    refine (yv_intN (yw 3 (by decide) _ rfl) hkn) _ ?_
    try dsimp only [gName, tSeq, tAsg]
    refine (yv_i0 (yv_intN (yw 5 (by decide) _ rfl) h5) yv_c) _ ?_
    try dsimp only [gName, tSeq, tAsg, tIf]
    refine (yt_T (yv_eqS (p := Tc.gw ws 2) (q := Tc.kLegs) (yv_v rfl) yv_c)) _ ?_
    have fin : ∀ v : Int, v = ((legsN ws : Nat) : Int) → tRet (tMake C (spPInit C) [] E0 (tCons (tVar 2) (tCons (tVar 3) (tCons (tSl (rSlL K) (tVar 1) (tPart (tVar 4)) (tPart (tOp (rI0 fun i j => V.int (i + j)) (tVar 4) (tVar 5)))) tNil)))) { nx := fun _ H' => Q .non H', rt := Q }
        [some (.ref a), some (.ref b), some (.str (S (Tc.gw ws 2))), some (.int ((Tc.num (Tc.gw ws 3) : Nat) : Int)), some (.int (((Tc.num (Tc.gw ws 5) : Nat) : Int) - 1)), some (.int v)] H := fun v hv => by
      refine ⟨_, rfl, _, rfl, _, rfl, _, rfl, _, rfl, _, rfl, _, rfl, _, _, rfl, rfl, _, rfl, b, _, rfl, SqL.of hb, fun l hl0 => ?_⟩
      intro x dx hx hdx hne
      have e4 : ((Tc.num (Tc.gw ws 5) : Nat) : Int) - 1 = ((Tc.num (Tc.gw ws 5) - 1 : Nat) : Int) := by omega
      have e5 : ((Tc.num (Tc.gw ws 5) : Nat) : Int) - 1 + v = ((Tc.num (Tc.gw ws 5) - 1 + legsN ws : Nat) : Int) := by omega
      have hcut : cutV (as.map V.ref) (some (((Tc.num (Tc.gw ws 5) : Nat) : Int) - 1)) (some (((Tc.num (Tc.gw ws 5) : Nat) : Int) - 1 + v)) = ((as.drop (Tc.num (Tc.gw ws 5) - 1)).take (legsN ws)).map V.ref := by
        rw [e4, ← e4, e5, e4]
        exact cut_refs _ _ _
      refine ⟨x, dx, _, _, _, rfl, upd_same, fun H' hx' kp => ⟨rfl, ?_⟩⟩
      have hlx : l ≠ x := ne_of_none upd_same hx
      have hldx : l ≠ dx := ne_of_none upd_same hdx
      refine q H' x dx l (fun c o e => ?_) ?_ hl0 hx' ?_
      · have n1 : c ≠ l := ne_of_none e hl0
        have e1 : (upd H l (HO.lst (cutV (as.map V.ref) (some (((Tc.num (Tc.gw ws 5) : Nat) : Int) - 1)) (some (((Tc.num (Tc.gw ws 5) : Nat) : Int) - 1 + v))))) c = some o := by rw [upd_ne n1]; exact e
        exact kp c o (by rw [upd_ne (ne_of_none e1 hx), upd_ne (ne_of_none e1 hdx)]; exact e1) (ne_of_none e1 hx)
      · have e1 := hx
        rw [upd_ne hlx.symm] at e1
        exact e1
      · have e1 := kp l (HO.lst (cutV (as.map V.ref) (some (((Tc.num (Tc.gw ws 5) : Nat) : Int) - 1)) (some (((Tc.num (Tc.gw ws 5) : Nat) : Int) - 1 + v)))) (by rw [upd_ne hlx, upd_ne hldx]; exact upd_same) hlx
        rw [e1, hcut]
    refine iteB (fun z => ?_) (fun z => ?_)
    · refine ⟨_, rfl, fin _ ?_⟩
      unfold legsN
      rw [if_pos (of_decide_eq_true z)]
    · refine fin 1 ?_
      unfold legsN
      rw [if_neg (of_decide_eq_false z)]
      rfl
end
end Tp
end
section
set_option Elab.async false
set_option linter.all false
set_option maxRecDepth 100000
set_option maxHeartbeats 2000000
namespace Tp
open PySem PySem.Spec PyProof.Rows L2
section
variable {P : Program} {w : World} {K : PySem.W.Frag} {mg : Str → Option Value} {base : Heap} {tk : Tote.Kind → Addr} {dB dF tN C fI : Addr}
/-! have_own_names -/
theorem nodup_S : ∀ l : List (List Nat), (l.map S).Nodup ↔ l.Nodup
  | [] => by simp
  | a :: r => by
    rw [List.map_cons, List.nodup_cons, List.nodup_cons, nodup_S r]
    have e : S a ∈ r.map S ↔ a ∈ r := by
      rw [List.mem_map]
      exact ⟨fun ⟨x, h1, h2⟩ => by rw [← S_inj h2]; exact h1, fun h => ⟨a, h, rfl⟩⟩
    rw [e]
def spOwn (K : PySem.W.Frag) : Sp := fun vs H Q _ => ∃ (l : Addr) (ls : List (List (List Nat))), vs = [.ref l] ∧ LL (WL K) K H l ls ∧ (∀ ws ∈ ls, ws.length = 16) ∧ ls.length ≤ 64 ∧ ∀ H', Same H H' → Q (.bl (decide ((ls.map fun ws => Tc.gw ws 1).Nodup))) H'
abbrev nOwn : List Str := ["pool_lines", "names", "words"]
theorem scOwn : FnScope nOwn ["pool_lines"] (defScope sOwn) := ⟨rfl, rfl, rfl, by decide +kernel, rfl, by decide +kernel, by decide +kernel⟩
theorem ok_own {f : Addr} {fd : FuncData} (F : Fun K "have_own_names" "have_own_names" sOwn f fd) (G : Gw mg) (C0 : Gc P w K mg tk dB dF tN) : FnOk P w K mg base CX0 1 f fd ["pool_lines"] (spOwn K) := by
  refine F.ok scOwn (fun vs H Q E h => ?_) (fun cdv A outer s H vs Q E hr h => ?_)
  · obtain ⟨l, ls, rfl, _⟩ := h
    rfl
  · obtain ⟨l, ls, rfl, ⟨as, hl, hp⟩, h16, h64, q⟩ := h
    refine ⟨_, pss_cons (ps_setLc (i := 1) (own := [("words", 2)]) rfl scOwn.nd rfl rfl (sw_true rfl rfl rfl rfl) (pi_list (pv 0)) (blk (N := nOwn) (sc := defScope sOwn) (by decide +kernel)) (fun _ _ _ _ _ => pg_name (i := 2) scOwn.nd rfl (Or.inl rfl)) (fun _ _ _ _ _ => pts_nil) (fun _ _ _ _ _ => pe_ix (r := rIxL K) ix_list (pv 2) (pgi C0.aName) (fun _ _ => rfl)))
      (pss_one (ps_ret (pe_cmpR op_eq (pe_callB call_lenS rfl G.len PySem.boot_len (pa_cons (pe_callTy (call_setC rfl) rfl G.set PyProof.Rows.boot_set (pa_cons (pv 1) pa_nil)) pa_nil)) (pe_callB call_len_seq rfl G.len PySem.boot_len (pa_cons (pv 1) pa_nil)) (nomark _)))), ?_⟩
    have hsz : sizeLine = 16777216 := by decide
    have hal : as.length = ls.length := pair_len hp
    try dsimp only [tSeq, tAsg]
    refine lcl (K := K) (a := l) (fun R r => ⟨_, rfl, l, rfl, ⟨_, hl⟩, r⟩) ls (fun _ => true) (fun ws => S (Tc.gw ws 1)) (fun _ v b => v = V.str b) (fun _ _ _ _ _ r => r) hl (by rw [List.length_map, hal]) (by omega) (fun D hD i x d H2 acc Yes No hx hd s2 hacc hy hn => ?_) (fun D hD H2 ys s2 hD2 hp2 => ?_)
    · obtain ⟨a, ha, hwa⟩ := pair_get hp i d hd
      rw [List.getElem?_map, ha] at hx
      obtain rfl : V.ref a = x := Option.some.inj hx
      have h6 := h16 d (List.mem_of_getElem? hd)
      exact ⟨rfl, (yv_word (n := 1) (yv_v rfl) (s2.seq hwa) yv_c (gw_at (by omega))) _ (hy rfl _ _ (Same.refl _) rfl)⟩
    · have ey : ys = ((ls.map fun ws => Tc.gw ws 1).map S).map V.str := by
        have e := pair_eq (f := V.str) hp2
        rw [e, List.filter_eq_self.mpr (fun _ _ => rfl)]
        simp only [List.map_map]
        rfl
      subst ey
      try dsimp only [gName, tRet]
      have hlen : (((ls.map fun ws => Tc.gw ws 1).map S)).length = ls.length := by simp
      have hb : (((ls.map fun ws => Tc.gw ws 1).map S)).length + 1 < scanBound := by rw [hlen]; unfold scanBound; omega
      refine ⟨_, rfl, D, _, rfl, SqL.of hD2, hb, fun p hp3 => ?_⟩
      have s3 := Same.new (o := SetAt P w p ((ls.map fun ws => Tc.gw ws 1).map S)) hp3
      refine ⟨p, _, rfl, upd_same, hb, ?_⟩
      refine ⟨_, rfl, D, _, rfl, .inl (SqL.of (s3 _ _ hD2)), rfl, ?_⟩
      have e : decide (V.int (((met [] ((ls.map fun ws => Tc.gw ws 1).map S)).length : Nat) : Int) = V.int ((((ls.map fun ws => Tc.gw ws 1).map S).map V.str).length : Nat)) = decide ((ls.map fun ws => Tc.gw ws 1).Nodup) := by
        rw [decide_eq_decide, ← nodup_S, List.length_map]
        have h := met_nodup ((ls.map fun ws => Tc.gw ws 1).map S) []
        constructor
        · intro z
          have z := V.int.inj z
          exact (h.mp (by simp at z ⊢; omega)).1
        · intro z
          have := h.mpr ⟨z, by simp⟩
          rw [this]
          simp
      show Q (V.bl (decide (V.int (((met [] ((ls.map fun ws => Tc.gw ws 1).map S)).length : Nat) : Int) = V.int ((((ls.map fun ws => Tc.gw ws 1).map S).map V.str).length : Nat)))) _
      rw [e]
      exact q _ (s2.trans s3)
/-! is_laid_out -/
def layB (ls rl pl : List (List (List Nat))) : Bool := match ls with
  | [] => false
  | d :: r => Tc.isDay d && (decide (r = rl ++ pl) && (decide (1 ≤ rl.length) && (decide (rl.length ≤ 16) && decide (pl.length ≤ 64))))
theorem laid_lay (ls : List (List (List Nat))) : Tc.laid ls = layB ls (Tc.raceL ls) (Tc.poolL ls) := by cases ls <;> rfl
def spLaid (K : PySem.W.Frag) : Sp := fun vs H Q _ => ∃ (l r p : Addr) (ls rl pl : List (List (List Nat))), vs = [.ref l, .ref r, .ref p] ∧ LL (WL K) K H l ls ∧ LX (WL K) H r rl ∧ LX (WL K) H p pl ∧ (∀ x ∈ ls, Gd x) ∧ (∀ x ∈ rl, Gd x) ∧ (∀ x ∈ pl, Gd x) ∧
  rl.length + pl.length ≤ 200000 ∧ ∀ H', Same H H' → Q (.bl (layB ls rl pl)) H'
abbrev nLaid : List Str := ["lines", "race_lines", "pool_lines"]
theorem scLaid : FnScope nLaid nLaid (defScope sLaid) := ⟨rfl, rfl, rfl, by decide +kernel, rfl, by decide +kernel, by decide +kernel⟩
theorem cut_tail (xs : List V) : cutV xs (some 1) none = xs.drop 1 := by
  have e := HT.sIx_nat xs.length 0 1
  unfold cutV
  rw [show (some (1 : Int)) = some ((1 : Nat) : Int) from rfl, HT.sIx_nat, HT.sIx_none]
  cases xs with
  | nil => rfl
  | cons x r =>
    have e1 : min 1 (x :: r).length = 1 := by simp
    rw [e1]
    exact List.take_of_length_le (by simp)
theorem pair_app {α β : Type} {R : α → β → Prop} {as cs : List α} {bs ds : List β} (h : Paired R as bs) (h2 : Paired R cs ds) : Paired R (as ++ cs) (bs ++ ds) := by
  induction h with
  | nil => exact h2
  | cons r _ ih => exact .cons r ih
theorem ok_laid {f : Addr} {fd : FuncData} (F : Fun K "is_laid_out" "is_laid_out" sLaid f fd) (G : Gw mg) (C0 : Gc P w K mg tk dB dF tN) (DD : Dfn P w K mg base 2 "is_day" ["words"] [] (spDay K)) : FnOk P w K mg base CX0 3 f fd nLaid (spLaid K) := by
  refine F.ok scLaid (fun vs H Q E h => ?_) (fun cdv A outer s H vs Q E hr h => ?_)
  · obtain ⟨l, r, p, ls, rl, pl, rfl, _⟩ := h
    rfl
  · obtain ⟨l, r, p, ls, rl, pl, rfl, ⟨al, hl, hlp⟩, ⟨ar, hr1, hrp⟩, ⟨ap, hp1, hpp⟩, gl, gr, gp, hlen, q⟩ := h
    refine ⟨_, pss_cons (ps_if (PW.pt (pw_or (pt_cmpR op_eq (pe_callB call_len_seq rfl G.len PySem.boot_len (pa_cons (pv 0) pa_nil)) pe_int (nomark _)) (pw_or (pt_not (pt_val (pcall DD hr (pa_cons (pe_ix ix_list (pv 0) pe_int (fun _ _ => rfl)) pa_nil))))
        (pw_or1 (pt_cmpR (op_neD hr.units) (pe_slice sl_list (pv 0) (po_some pe_int) po_none) (pe_op op_cat (pv 1) (pv 2)) (nomark _)))))) (pss_one (ps_ret pe_bl)) pss_nil)
      (pss_one (ps_ret (pe_and (pe_chain op_le op_le pe_int (pe_callB call_len_seq rfl G.len PySem.boot_len (pa_cons (pv 1) pa_nil)) (pgi C0.races)) (pe_one (pe_cmpR op_le (pe_callB call_len_seq rfl G.len PySem.boot_len (pa_cons (pv 2) pa_nil)) (pgi C0.pools) (nomark _)))))), ?_⟩
    have hsz : sizeLine = 16777216 := by decide
    have nl : al.length = ls.length := pair_len hlp
    have nr : ar.length = rl.length := pair_len hrp
    have np : ap.length = pl.length := pair_len hpp
    have yl := yv_len (K := K) (ta := tVar 0) (σ := start nLaid [V.ref l, V.ref r, V.ref p]) (yv_v rfl) hl
    rw [List.length_map, nl] at yl
    try dsimp only [tSeq, tIfS, tOr]
    refine (yt_T (yv_eqI yl yv_c)) _ ?_
    cases ls with
    | nil => exact q _ (Same.refl _)
    | cons d t =>
      rw [decide_eq_false (by simp; omega)]
      cases hlp with
      | @cons a0 _ at0 _ hd0 hdt =>
      refine iteF ?_
      have y0 : Yv (tOp (rIxL K) (tVar 0) (tC (.int 0))) (start nLaid [V.ref l, V.ref r, V.ref p]) H (.ref a0) := yv_at (yv_v rfl) hl yv_c (atg (j := 0) rfl rfl)
      refine (yt_not (yt_B (yv_call (ya1 y0) fun R rr => ⟨a0, d, rfl, hd0, gl d (by simp), rr⟩))) _ ?_
      have eq0 : layB (d :: t) rl pl = (Tc.isDay d && (decide (t = rl ++ pl) && (decide (1 ≤ rl.length) && (decide (rl.length ≤ 16) && decide (pl.length ≤ 64))))) := rfl
      rw [eq0] at q
      refine iteB (fun z => ?_) (fun z => ?_)
      · rw [Bool.not_eq_true'] at z
        rw [z] at q
        exact q _ (Same.refl _)
      rw [Bool.not_eq_false'] at z
      rw [z, Bool.true_and] at q
      refine ⟨_, rfl, _, rfl, l, _, rfl, hl, fun p1 hp1' => ?_⟩
      have s1 := Same.new (o := HO.lst (cutV ((a0 :: at0).map V.ref) (some 1) none)) hp1'
      have hP1 : (upd H p1 (HO.lst (cutV ((a0 :: at0).map V.ref) (some 1) none))) p1 = some (.lst (at0.map V.ref)) := by rw [upd_same, cut_tail]; rfl
      generalize upd H p1 _ = H1 at s1 hP1 ⊢
      refine ⟨_, rfl, _, rfl, r, p, _, _, rfl, rfl, s1 _ _ hr1, s1 _ _ hp1, by rw [List.length_map, List.length_map]; omega, fun p2 hp2' => ?_⟩
      have s2 := Same.new (o := HO.lst (ar.map V.ref ++ ap.map V.ref)) hp2'
      have hP2 : (upd H1 p2 (HO.lst (ar.map V.ref ++ ap.map V.ref))) p2 = some (.lst ((ar ++ ap).map V.ref)) := by rw [upd_same, List.map_append]
      generalize upd H1 p2 _ = H2 at s2 hP2 ⊢
      have s12 := s1.trans s2
      refine ⟨linesD t, linesD (rl ++ pl), .lst (SqL.of (s2 _ _ hP1)) (dp_lines (pair_imp (fun _ _ x => WL.mono s12 x) hdt)), .lst (SqL.of hP2) (dp_lines (pair_imp (fun _ _ x => WL.mono s12 x) (pair_app hrp hpp))),
        shaped_lines (fun x hx => gl x (by simp [hx])), shaped_lines (fun x hx => (List.mem_append.mp hx).elim (gr x) (gp x)), _, rfl, ?_⟩
      rw [eqv_linesD]
      refine iteB (fun z2 => ?_) (fun z2 => ?_)
      · rw [Bool.not_eq_true'] at z2
        rw [z2] at q
        exact q _ s12
      rw [Bool.not_eq_false'] at z2
      rw [z2, Bool.true_and] at q
      try dsimp only [tNext, tRet]
      have y1 := yv_len (K := K) (ta := tVar 1) (σ := start nLaid [V.ref l, V.ref r, V.ref p]) (yv_v rfl) (SqL.of (s12 _ _ hr1))
      have y2 := yv_len (K := K) (ta := tVar 2) (σ := start nLaid [V.ref l, V.ref r, V.ref p]) (yv_v rfl) (SqL.of (s12 _ _ hp1))
      rw [List.length_map, nr] at y1
      rw [List.length_map, np] at y2
      refine (yv_and (yv_ch yv_c y1 yv_c) fun _ => yv_i0 (g := fun i j => V.bl (decide (i ≤ j))) y2 yv_c) _ ?_
      have e1 : decide ((1 : Int) ≤ ((rl.length : Nat) : Int)) = decide (1 ≤ rl.length) := by rw [decide_eq_decide]; omega
      have e2 : decide (((rl.length : Nat) : Int) ≤ 16) = decide (rl.length ≤ 16) := by rw [decide_eq_decide]; omega
      have e3 : decide (((pl.length : Nat) : Int) ≤ 64) = decide (pl.length ≤ 64) := by rw [decide_eq_decide]; omega
      rw [e1, e2, e3, Bool.and_assoc]
      exact q _ s12
end
end Tp
end
section
set_option Elab.async false
set_option linter.all false
set_option maxRecDepth 100000
set_option maxHeartbeats 4000000
namespace Tp
open PySem PySem.Spec PyProof.Rows L2
/-- a pool stands at x -/
def PoolAt (C : Addr) (rr : List (List Nat)) (H : Hp) (x : Addr) (ws : List (List Nat)) : Prop := ∃ dx l, H x = some (.ins C dx (pf (.str (S (Tc.gw ws 2))) (.int (Tc.num (Tc.gw ws 3) : Nat)) (.ref l))) ∧ LX IX H l (Tc.setsOf ws rr)
theorem PoolAt.mono {C : Addr} {rr : List (List Nat)} (H H' : Hp) (x : Addr) (ws : List (List Nat)) (s : Same H H') (h : PoolAt C rr H x ws) : PoolAt C rr H' x ws :=
  let ⟨dx, l, h1, h2⟩ := h
  ⟨dx, l, s _ _ h1, h2.mono IX.mono s⟩
theorem lines_good {cs : List Nat} (h : Sg cs) (hl : cs.length ≤ 65536) : ∀ ws ∈ Tc.linesOf cs, 1 ≤ ws.length ∧ ws.length ≤ 65537 ∧ Gd ws := by
  intro ws hws
  unfold Tc.linesOf at hws
  split at hws
  · obtain ⟨u, hu, rfl⟩ := List.mem_map.mp hws
    have hu := List.dropLast_subset _ hu
    have h1 := cut_len hu
    have h2 := cut_count 32 u
    refine ⟨?_, by omega, fun x hx => ⟨Sg_cut (Sg_cut h hu) hx, ?_⟩⟩
    · have := Tc.cut_ne 32 u
      cases e : Tc.cut 32 u with
      | nil => exact absurd e this
      | cons _ _ => simp
    · have := cut_len hx
      omega
  · cases hws
theorem lines_len {cs : List Nat} (hl : cs.length ≤ 65536) : (Tc.linesOf cs).length ≤ 65537 := by
  unfold Tc.linesOf
  split
  · rw [List.length_map, List.length_dropLast]
    have := cut_count 10 cs
    omega
  · simp
section
variable {P : Program} {w : World} {K : PySem.W.Frag} {mg : Str → Option Value} {base : Heap} {tk : Tote.Kind → Addr} {dB dF tN C fI : Addr}
abbrev lnsOf (ns : List Int) : List (List (List Nat)) := Tc.linesOf (Tc.codes ns)
abbrev rrOf (ns : List Int) : List (List Nat) := (Tc.raceL (lnsOf ns)).map Tc.intz
def spRead (K : PySem.W.Frag) (C : Addr) : Sp := fun vs H Q _ => ∃ (a : Addr) (ns : List Int), vs = [.ref a] ∧ SqL K H a (ns.map V.int) ∧ (∀ z ∈ ns, 0 ≤ z ∧ z ≤ 255) ∧ ns.length ≤ 66000 ∧
  (¬ (ns.length ≤ 65536 ∧ Tc.isCard (lnsOf ns) = true) → ∀ H', Same H H' → Q .non H') ∧
  (ns.length ≤ 65536 → Tc.isCard (lnsOf ns) = true → ∀ H' l, Same H H' → LX (PoolAt C (rrOf ns)) H' l (Tc.poolL (lnsOf ns)) → Q (.ref l) H')
abbrev nRead : List Str := ["text", "lines", "race_lines", "pool_lines", "races", "words"]
theorem scRead : FnScope nRead ["text"] (defScope sRead) := ⟨rfl, rfl, rfl, by decide +kernel, rfl, by decide +kernel, by decide +kernel⟩
/-- the lines that begin with a word -/
theorem lc_pick {l : Addr} {ls : List (List (List Nat))} {key : List Nat} {wi : TI} {te : TE} {σ : L2.St} {Q : VK} {H : Hp} {tt : TT} (h6 : σ.length = 6) (hi : ∀ R : It → Hp → Prop, R (Itl K l) H → wi σ H R)
    (hl : LL (WL K) K H l ls) (g1 : ∀ ws ∈ ls, 1 ≤ ws.length) (hz : ls.length ≤ 100000) (hte : te = tVar 5) (htt : tt = tTest (tOp rEq (tOp (rIxL K) (tVar 5) (tC (.int 0))) (tC (.str (S key)))))
    (hd : ∀ D H', Same H H' → LX (WL K) H' D (ls.filter fun ws => decide (Tc.gw ws 0 = key)) → Q (.ref D) H') : tLc wi (gName 5) tt te [5] σ H Q := by
  obtain ⟨as, h1, h2⟩ := hl
  have hsz : sizeLine = 16777216 := by decide
  have hal : as.length = ls.length := pair_len h2
  subst hte htt
  have e5 : ∀ v : V, ((wipe σ [5]).set 5 (some v))[5]? = some (some v) := fun v => by
    rw [List.getElem?_set_self (by show 5 < (σ.set 5 none).length; rw [List.length_set]; omega)]
  refine lcl (K := K) (a := l) hi ls (fun ws => decide (Tc.gw ws 0 = key)) id (RL (WL K)) (RL.mono (wl_mono K)) h1 (by rw [List.length_map, hal]) (by omega) (fun D hD i x d H2 acc Yes No hx hd s2 hacc hy hn => ?_) (fun D hD H2 ys s2 hD2 hp => ?_)
  · obtain ⟨a, ha, hwa⟩ := pair_get h2 i d hd
    rw [List.getElem?_map, ha] at hx
    obtain rfl : V.ref a = x := Option.some.inj hx
    have gd := g1 d (List.mem_of_getElem? hd)
    refine ⟨?_, (yt_T (yv_eqS (q := key) (yv_word (n := 0) (yv_v (e5 _)) (s2.seq hwa) yv_c (gw_at (by omega))) yv_c)) _ ?_⟩
    · show ((σ.set 5 none).set 5 (some (V.ref a))).set 5 none = σ.set 5 none
      rw [List.set_set, List.set_set]
    · refine iteB (fun z => ?_) (fun z => ?_)
      · exact (yv_v (e5 _)) _ (hy z _ _ (Same.refl _) ⟨a, rfl, (off_old hD s2).seq hwa⟩)
      · exact hn z _ (Same.refl _)
  · obtain ⟨bs, rfl, hp2⟩ := pair_ref hp
    rw [List.map_id] at hp2
    exact hd D H2 s2 ⟨bs, hD2, hp2⟩
theorem ok_read {f : Addr} {fd : FuncData} (F : Fun K "read_pools" "read_pools" sRead f fd) (G : Gw mg) (C0 : Gc P w K mg tk dB dF tN)
    (D1 : Dfn P w K mg base 2 "lines_of" ["text"] [] (spLines K)) (D2 : Dfn P w K mg base 3 "is_laid_out" nLaid [] (spLaid K)) (D3 : Dfn P w K mg base 4 "is_race" ["words"] [] (spRace K)) (D4 : Dfn P w K mg base 1 "interests_of" ["words"] [] (spInts K))
    (D5 : Dfn P w K mg base 3 "is_pool" ["words", "races"] [] (spIsPool K)) (D6 : Dfn P w K mg base 1 "have_own_names" ["pool_lines"] [] (spOwn K)) (D7 : Dfn P w K mg base 3 "pool_of" ["words", "races"] [] (spPoolOf K C)) : FnOk P w K mg base CX0 5 f fd ["text"] (spRead K C) := by
  refine F.ok scRead (fun vs H Q E h => ?_) (fun cdv A outer s H vs Q E hr h => ?_)
  · obtain ⟨a, ns, rfl, _⟩ := h
    rfl
  · obtain ⟨a, ns, rfl, ha, hb, hl, qn, qs⟩ := h
    refine ⟨_, pss_cons (ps_if (pt_cmpR op_gt (pe_callB call_len_seq rfl G.len PySem.boot_len (pa_cons (pv 0) pa_nil)) (pgi C0.bytes) (nomark _)) (pss_one (ps_ret pe_non)) pss_nil)
      (pss_cons (ps_set (i := 1) scRead.nd rfl (Or.inl rfl) (pcall D1 hr (pa_cons (pv 0) pa_nil)))
      (pss_cons (ps_setLc (i := 2) (own := [("words", 5)]) rfl scRead.nd rfl rfl (sw_true rfl rfl rfl rfl) (pi_list (pv 1)) (blk (N := nRead) (sc := defScope sRead) (by decide +kernel)) (fun _ _ _ _ _ => pg_name (i := 5) scRead.nd rfl (Or.inl rfl)) (fun _ _ _ _ _ => pts_one (pt_cmpR op_eq (pe_ix (r := rIxL K) ix_list (pv 5) pe_int (fun _ _ => rfl)) pe_str (nomark _))) (fun _ _ _ _ _ => pv 5))
      (pss_cons (ps_setLc (i := 3) (own := [("words", 5)]) rfl scRead.nd rfl rfl (sw_true rfl rfl rfl rfl) (pi_list (pv 1)) (blk (N := nRead) (sc := defScope sRead) (by decide +kernel)) (fun _ _ _ _ _ => pg_name (i := 5) scRead.nd rfl (Or.inl rfl)) (fun _ _ _ _ _ => pts_one (pt_cmpR op_eq (pe_ix (r := rIxL K) ix_list (pv 5) pe_int (fun _ _ => rfl)) pe_str (nomark _))) (fun _ _ _ _ _ => pv 5))
      (pss_cons (ps_if (pt_not (pt_val (pcall D2 hr (pa_cons (pv 1) (pa_cons (pv 2) (pa_cons (pv 3) pa_nil)))))) (pss_one (ps_ret pe_non)) pss_nil)
      (pss_cons (ps_if (pt_not (pt_val (pe_callB (cr_all rfl) rfl G.all PyProof.Rows.boot_all (pa_cons (pe_lc (own := [("words", 5)]) rfl scRead.nd (pi_list (pv 2)) (blk (N := nRead) (sc := defScope sRead) (by decide +kernel)) (fun _ _ _ _ _ => pg_name (i := 5) scRead.nd rfl (Or.inl rfl)) (fun _ _ _ _ _ => pts_nil) (fun _ _ _ _ _ => pcall D3 hr (pa_cons (pv 5) pa_nil))) pa_nil)))) (pss_one (ps_ret pe_non)) pss_nil)
      (pss_cons (ps_set (i := 4) scRead.nd rfl (Or.inr rfl) (pe_lc (own := [("words", 5)]) rfl scRead.nd (pi_list (pv 2)) (blk (N := nRead) (sc := defScope sRead) (by decide +kernel)) (fun _ _ _ _ _ => pg_name (i := 5) scRead.nd rfl (Or.inl rfl)) (fun _ _ _ _ _ => pts_nil) (fun _ _ _ _ _ => pcall D4 hr (pa_cons (pv 5) pa_nil))))
      (pss_cons (ps_if (PW.pt (pw_or (pt_not (pt_val (pe_callB (cr_all rfl) rfl G.all PyProof.Rows.boot_all (pa_cons (pe_lc (own := [("words", 5)]) rfl scRead.nd (pi_list (pv 3)) (blk (N := nRead) (sc := defScope sRead) (by decide +kernel)) (fun _ _ _ _ _ => pg_name (i := 5) scRead.nd rfl (Or.inl rfl)) (fun _ _ _ _ _ => pts_nil) (fun _ _ _ _ _ => pcall D5 hr (pa_cons (pv 5) (pa_cons (pv 4) pa_nil)))) pa_nil)))) (pw_or1 (pt_not (pt_val (pcall D6 hr (pa_cons (pv 3) pa_nil))))))) (pss_one (ps_ret pe_non)) pss_nil)
      (pss_one (ps_ret (pe_lc (own := [("words", 5)]) rfl scRead.nd (pi_list (pv 3)) (blk (N := nRead) (sc := defScope sRead) (by decide +kernel)) (fun _ _ _ _ _ => pg_name (i := 5) scRead.nd rfl (Or.inl rfl)) (fun _ _ _ _ _ => pts_nil) (fun _ _ _ _ _ => pcall D7 hr (pa_cons (pv 5) (pa_cons (pv 4) pa_nil))))))))))))), ?_⟩
    have hsz : sizeLine = 16777216 := by decide
    have yl := yv_len (K := K) (ta := tVar 0) (σ := start nRead [V.ref a]) (yv_v rfl) ha
    rw [List.length_map] at yl
    try dsimp only [tSeq, tIfS]
    refine (yt_T (yv_i0 yl yv_c)) _ ?_
    refine ite2 (fun z => ?_) (fun z => ?_)
    · have z : (65536 : Int) < ((ns.length : Nat) : Int) := of_decide_eq_true z
      exact qn (fun h => by omega) _ (Same.refl _)
    have z : ¬ (65536 : Int) < ((ns.length : Nat) : Int) := fun h => z (decide_eq_true h)
    have hl2 : ns.length ≤ 65536 := by omega
    have hcl : (Tc.codes ns).length = ns.length := by simp [Tc.codes]
    have lg := lines_good (Sg_codes ns) (by omega)
    have ll := lines_len (cs := Tc.codes ns) (by omega)
    try dsimp only [tNext, tAsg]
    refine ⟨_, rfl, a, ns, rfl, ha, hb, hl2, fun H1 l s1 hL => ?_⟩
    try dsimp only [gName, tSeq, tAsg]
    refine lc_pick (K := K) (l := l) (key := Tc.kRace) (by rfl) (by intro R r; obtain ⟨as, h, _⟩ := hL; exact ⟨_, rfl, l, rfl, ⟨_, h⟩, r⟩) hL (fun ws h => (lg ws h).1) (by omega) (by rfl) (by rfl) (fun Dr H2 s2 hR => ?_)
    try dsimp only [gName, tSeq, tAsg]
    have hL2 := LL.mono (wl_mono K) s2 hL
    refine lc_pick (K := K) (l := l) (key := Tc.kPool) (by rfl) (by intro R r; obtain ⟨as, h, _⟩ := hL2; exact ⟨_, rfl, l, rfl, ⟨_, h⟩, r⟩) hL2 (fun ws h => (lg ws h).1) (by omega) (by rfl) (by rfl) (fun Dp H3 s3 hP => ?_)
    try dsimp only [gName, tSeq, tIfS, tNot, tB]
    have hR3 := hR.mono (wl_mono K) s3
    have s123 := s1.trans (s2.trans s3)
    have hL3 := LL.mono (wl_mono K) s3 hL2
    have gR : ∀ x ∈ Tc.raceL (lnsOf ns), 1 ≤ x.length ∧ x.length ≤ 65537 ∧ Gd x := fun x hx => lg x (List.mem_filter.mp hx).1
    have gP : ∀ x ∈ Tc.poolL (lnsOf ns), 1 ≤ x.length ∧ x.length ≤ 65537 ∧ Gd x := fun x hx => lg x (List.mem_filter.mp hx).1
    have lR : (Tc.raceL (lnsOf ns)).length ≤ 65537 := Nat.le_trans (List.length_filter_le _ _) ll
    have lP : (Tc.poolL (lnsOf ns)).length ≤ 65537 := Nat.le_trans (List.length_filter_le _ _) ll
    have ecard : Tc.isCard (lnsOf ns) = (layB (lnsOf ns) (Tc.raceL (lnsOf ns)) (Tc.poolL (lnsOf ns)) && ((Tc.raceL (lnsOf ns)).all Tc.isRace && ((Tc.poolL (lnsOf ns)).all (fun ws => Tc.isPool ws (rrOf ns)) && decide (((Tc.poolL (lnsOf ns)).map fun ws => Tc.gw ws 1).Nodup)))) := by
      unfold Tc.isCard
      rw [laid_lay]
    rw [ecard] at qn qs
    refine ⟨_, rfl, _, rfl, _, rfl, l, Dr, Dp, lnsOf ns, Tc.raceL (lnsOf ns), Tc.poolL (lnsOf ns), rfl, hL3, hR3, hP, fun x hx => (lg x hx).2.2, fun x hx => (gR x hx).2.2, fun x hx => (gP x hx).2.2, by omega, fun H4 s4 => ⟨_, rfl, ?_⟩⟩
    refine iteB (fun z1 => ?_) (fun z1 => ?_)
    · rw [Bool.not_eq_true'] at z1
      rw [z1] at qn
      exact qn (fun h => by simp at h) _ (s123.trans s4)
    rw [Bool.not_eq_false'] at z1
    rw [z1, Bool.true_and] at qn qs
    try dsimp only [tNext]
    try dsimp only [tSeq, tIfS, tNot, tB, tCB, tCons]
    obtain ⟨ar, hR4, hRp⟩ := hR3.mono (wl_mono K) s4
    obtain ⟨ap, hP4, hPp⟩ := hP.mono (wl_mono K) s4
    have s14 := s123.trans s4
    have nr : ar.length = (Tc.raceL (lnsOf ns)).length := pair_len hRp
    have np : ap.length = (Tc.poolL (lnsOf ns)).length := pair_len hPp
    refine lcl (K := K) (a := Dr) (xs := ar.map V.ref) (fun R r => ⟨_, rfl, Dr, rfl, ⟨_, SqL.of hR4⟩, r⟩) (Tc.raceL (lnsOf ns)) (fun _ => true) Tc.isRace (fun _ v b => v = V.bl b) (fun _ _ _ _ _ r => r) (SqL.of hR4) (by rw [List.length_map, nr]) (by omega) (fun D hD i x d H5 acc Yes No hx hd s5 hacc hy hn => ?_) (fun D hD H5 ys s5 hD5 hp5 => ?_)
    · obtain ⟨c, hc, hwc⟩ := pair_get hRp i d hd
      rw [List.getElem?_map, hc] at hx
      obtain rfl : V.ref c = x := Option.some.inj hx
      have gd := gR d (List.mem_of_getElem? hd)
      exact ⟨rfl, ⟨_, rfl, c, d, rfl, s5.seq hwc, gd.2.2, by omega, fun H6 s6 => hy rfl _ _ s6 rfl⟩⟩
    have ey : ys = ((Tc.raceL (lnsOf ns)).map Tc.isRace).map V.bl := by
      have e := pair_eq (f := V.bl) hp5
      rw [e, List.filter_eq_self.mpr (fun _ _ => rfl)]
    subst ey
    refine ⟨D, _, rfl, SqL.of hD5, _, rfl, ?_⟩
    have eall : ((Tc.raceL (lnsOf ns)).map Tc.isRace).all id = (Tc.raceL (lnsOf ns)).all Tc.isRace := by rw [List.all_map]; rfl
    rw [eall]
    have s15 := s14.trans s5
    refine iteB (fun z2 => ?_) (fun z2 => ?_)
    · rw [Bool.not_eq_true'] at z2
      rw [z2] at qn
      exact qn (fun h => by simp at h) _ s15
    rw [Bool.not_eq_false'] at z2
    rw [z2, Bool.true_and] at qn qs
    have allR := List.all_eq_true.mp z2
    try dsimp only [tNext, tSeq, tAsg]
    have hR5 := s5 _ _ hR4
    have hRp5 := pair_imp (fun _ _ x => wl_mono K _ _ _ _ s5 x) hRp
    have hP5 := s5 _ _ hP4
    have hPp5 := pair_imp (fun _ _ x => wl_mono K _ _ _ _ s5 x) hPp
    refine lcl (K := K) (a := Dr) (xs := ar.map V.ref) (fun R r => ⟨_, rfl, Dr, rfl, ⟨_, SqL.of hR5⟩, r⟩) (Tc.raceL (lnsOf ns)) (fun _ => true) Tc.intz (RL IX) (RL.mono IX.mono) (SqL.of hR5) (by rw [List.length_map, nr]) (by omega) (fun D2 hD2 i x d H6 acc Yes No hx hd s6 hacc hy hn => ?_) (fun D2 hD2 H6 ys s6 hD6 hp6 => ?_)
    · obtain ⟨c, hc, hwc⟩ := pair_get hRp5 i d hd
      rw [List.getElem?_map, hc] at hx
      obtain rfl : V.ref c = x := Option.some.inj hx
      refine ⟨rfl, ⟨_, rfl, c, d, rfl, s6.seq hwc, allR d (List.mem_of_getElem? hd), fun H7 l7 s7 hn7 hl7 => hy rfl _ _ s7 ⟨l7, rfl, off_get hl7 (ne_of_none hacc hn7).symm⟩⟩⟩
    obtain ⟨ai, rfl, hI6⟩ := pair_ref hp6
    rw [List.filter_eq_self.mpr (fun _ _ => rfl)] at hI6
    have hI : LX IX H6 D2 (rrOf ns) := ⟨ai, hD6, hI6⟩
    have s16 := s15.trans s6
    have hP6 := s6 _ _ hP5
    have hPp6 := pair_imp (fun _ _ x => wl_mono K _ _ _ _ s6 x) hPp5
    have lrr : (rrOf ns).length ≤ 65537 := by rw [List.length_map]; exact lR
    try dsimp only [gName, tSeq, tIfS, tOr, tNot, tB, tCB, tCons]
    refine lcl (K := K) (a := Dp) (xs := ap.map V.ref) (fun R r => ⟨_, rfl, Dp, rfl, ⟨_, SqL.of hP6⟩, r⟩) (Tc.poolL (lnsOf ns)) (fun _ => true) (fun ws => Tc.isPool ws (rrOf ns)) (fun _ v b => v = V.bl b) (fun _ _ _ _ _ r => r) (SqL.of hP6) (by rw [List.length_map, np]) (by omega) (fun D3 hD3 i x d H7 acc Yes No hx hd s7 hacc hy hn => ?_) (fun D3 hD3 H7 ys s7 hD7 hp7 => ?_)
    · obtain ⟨c, hc, hwc⟩ := pair_get hPp6 i d hd
      rw [List.getElem?_map, hc] at hx
      obtain rfl : V.ref c = x := Option.some.inj hx
      have gd := gP d (List.mem_of_getElem? hd)
      exact ⟨rfl, ⟨_, rfl, _, rfl, c, D2, d, rrOf ns, rfl, s7.seq hwc, gd.2.2, hI.mono IX.mono s7, by omega, fun H8 s8 => hy rfl _ _ s8 rfl⟩⟩
    have ey : ys = ((Tc.poolL (lnsOf ns)).map fun ws => Tc.isPool ws (rrOf ns)).map V.bl := by
      have e := pair_eq (f := V.bl) hp7
      rw [e, List.filter_eq_self.mpr (fun _ _ => rfl)]
    subst ey
    refine ⟨D3, _, rfl, SqL.of hD7, _, rfl, ?_⟩
    have eall2 : ((Tc.poolL (lnsOf ns)).map fun ws => Tc.isPool ws (rrOf ns)).all id = (Tc.poolL (lnsOf ns)).all fun ws => Tc.isPool ws (rrOf ns) := by rw [List.all_map]; rfl
    rw [eall2]
    have s17 := s16.trans s7
    refine iteB (fun z3 => ?_) (fun z3 => ?_)
    · rw [Bool.not_eq_true'] at z3
      rw [z3] at qn
      exact qn (fun h => by simp at h) _ s17
    rw [Bool.not_eq_false'] at z3
    rw [z3, Bool.true_and] at qn qs
    have allP := List.all_eq_true.mp z3
    have hP7 := s7 _ _ hP6
    have hPp7 := pair_imp (fun _ _ x => wl_mono K _ _ _ _ s7 x) hPp6
    have l64 : (Tc.poolL (lnsOf ns)).length ≤ 64 := by
      have e := z1
      unfold layB at e
      split at e
      · cases e
      · simp only [Bool.and_eq_true, decide_eq_true_eq] at e
        exact e.2.2.2.2
    refine ⟨_, rfl, Dp, Tc.poolL (lnsOf ns), rfl, ⟨ap, SqL.of hP7, hPp7⟩, fun ws hws => (pool_parts (allP ws hws)).1, l64, fun H8 s8 => ⟨_, rfl, ?_⟩⟩
    have s18 := s17.trans s8
    refine iteB (fun z4 => ?_) (fun z4 => ?_)
    · rw [Bool.not_eq_true'] at z4
      rw [z4] at qn
      exact qn (fun h => by simp at h) _ s18
    rw [Bool.not_eq_false'] at z4
    rw [z4] at qn qs
    try dsimp only [tNext, tRet]
    have hP8 := s8 _ _ hP7
    have hPp8 := pair_imp (fun _ _ x => wl_mono K _ _ _ _ s8 x) hPp7
    have hD68 := (s7.trans s8) _ _ hD6
    have hI8 := pair_imp (fun _ _ x => IX.mono _ _ _ _ (s7.trans s8) x) hI6
    have nai : ai.length = (rrOf ns).length := pair_len hI6
    refine lcl (K := K) (a := Dp) (xs := ap.map V.ref) (fun R r => ⟨_, rfl, Dp, rfl, ⟨_, SqL.of hP8⟩, r⟩) (Tc.poolL (lnsOf ns)) (fun _ => true) id (RL (PoolAt C (rrOf ns))) (RL.mono PoolAt.mono) (SqL.of hP8) (by rw [List.length_map, np]) (by omega) (fun D4 hD4 i x d H9 acc Yes No hx hd s9 hacc hy hn => ?_) (fun D4 hD4 H9 ys s9 hD9 hp9 => ?_)
    · obtain ⟨c, hc, hwc⟩ := pair_get hPp8 i d hd
      rw [List.getElem?_map, hc] at hx
      obtain rfl : V.ref c = x := Option.some.inj hx
      refine ⟨rfl, ⟨_, rfl, _, rfl, c, D2, d, rrOf ns, ai, rfl, s9.seq hwc, s9 _ _ hD68, nai, by omega, allP d (List.mem_of_getElem? hd), fun H10 x10 dx l10 s10 hx0 hl0 hx1 hl1 => hy rfl _ _ s10 ?_⟩⟩
      have so : Same H8 (off D4 H10) := off_old hD4 (s9.trans s10)
      refine ⟨x10, rfl, dx, l10, off_get hx1 (ne_of_none hacc hx0).symm, (ai.drop (Tc.num (Tc.gw d 5) - 1)).take (legsN d), off_get hl1 (ne_of_none hacc hl0).symm, ?_⟩
      exact pair_imp (fun _ _ z => IX.mono _ _ _ _ so z) (pair_take (pair_drop hI8 _) _)
    obtain ⟨aq, rfl, hq9⟩ := pair_ref hp9
    rw [List.filter_eq_self.mpr (fun _ _ => rfl), List.map_id] at hq9
    exact qs hl2 rfl H9 D4 (s18.trans s9) ⟨aq, hD9, hq9⟩
end
end Tp
end
section
set_option Elab.async false
set_option linter.all false
set_option maxRecDepth 100000
set_option maxHeartbeats 2000000
namespace Tp
open PySem PySem.Spec PyProof.Rows L2
structure Gp (mg : Str → Option Value) : Prop where
  long : GI mg "TOO_LONG" (-2)
  noPool : GI mg "NO_POOL" (-4)
  noCard : GI mg "NO_CARD" (-6)
section
variable {P : Program} {w : World} {K : PySem.W.Frag} {mg : Str → Option Value} {base : Heap} {tk : Tote.Kind → Addr} {dB dF tN C fI : Addr}
def spRef (K : PySem.W.Frag) : Sp := fun vs H Q _ => ∃ (p : Nat) (a : Addr) (ns : List Int) (v : V), vs = [.int (p : Nat), .ref a, v] ∧ SqL K H a (ns.map V.int) ∧
  ((v = .non ∧ Q (.int (if 65536 < ns.length then -2 else -6)) H) ∨ (∃ l xs, v = .ref l ∧ SqL K H l xs ∧ ns.length ≤ 65536 ∧ Q (.int (if xs.length ≤ p then -4 else 0)) H))

abbrev sRef : Stmt := top 69
theorem scRefu : FnScope ["pool", "text", "pools"] ["pool", "text", "pools"] (defScope sRef) := ⟨rfl, rfl, rfl, by decide +kernel, rfl, by decide +kernel, by decide +kernel⟩
theorem ok_ref {f : Addr} {fd : FuncData} (F : Fun K "refusal_of" "refusal_of" sRef f fd) (G : Gw mg) (C0 : Gc P w K mg tk dB dF tN) (G2 : Gp mg) : FnOk P w K mg base CX0 1 f fd ["pool", "text", "pools"] (spRef K) := by
  refine F.ok scRefu (fun vs H Q E h => ?_) (fun cdv A outer s H vs Q E hr h => ?_)
  · obtain ⟨p, a, ns, v, rfl, _⟩ := h
    rfl
  · obtain ⟨p, a, ns, v, rfl, ha, h⟩ := h
    refine ⟨_, pss_cons (ps_if (pt_cmpR op_gt (pe_callB call_len_seq rfl G.len PySem.boot_len (pa_cons (pv 1) pa_nil)) (pgi C0.bytes) (nomark _)) (pss_one (ps_ret (pgi G2.long))) pss_nil)
      (pss_cons (ps_if (pt_cmp (pc_isN (pv 2))) (pss_one (ps_ret (pgi G2.noCard))) pss_nil)
      (pss_cons (ps_if (pt_cmpR op_ge (pv 0) (pe_callB call_len_seq rfl G.len PySem.boot_len (pa_cons (pv 2) pa_nil)) (nomark _)) (pss_one (ps_ret (pgi G2.noPool))) pss_nil)
      (pss_one (ps_ret pe_int)))), ?_⟩
    have yl := yv_len (K := K) (ta := tVar 1) (σ := start ["pool", "text", "pools"] [V.int (p : Nat), V.ref a, v]) (yv_v rfl) ha
    rw [List.length_map] at yl
    try dsimp only [tSeq, tIfS]
    refine (yt_T (yv_i0 yl yv_c)) _ ?_
    rcases h with ⟨rfl, q⟩ | ⟨l, xs, rfl, hl, hn, q⟩
    · refine ite2 (fun z => ?_) (fun z => ?_)
      · have z : (65536 : Int) < ((ns.length : Nat) : Int) := of_decide_eq_true z
        rw [if_pos (by omega)] at q
        exact q
      · have z : ¬ (65536 : Int) < ((ns.length : Nat) : Int) := fun h => z (decide_eq_true h)
        rw [if_neg (by omega)] at q
        exact ⟨_, rfl, _, rfl, q⟩
    · rw [decide_eq_false (by omega : ¬ (65536 : Int) < ((ns.length : Nat) : Int))]
      refine iteF ⟨_, rfl, _, rfl, iteF ?_⟩
      have yl2 := yv_len (K := K) (ta := tVar 2) (σ := start ["pool", "text", "pools"] [V.int (p : Nat), V.ref a, V.ref l]) (yv_v rfl) hl
      try dsimp only [tNext]
      refine (yt_T (yv_i0 (yv_v rfl) yl2)) _ ?_
      refine ite2 (fun z => ?_) (fun z => ?_)
      · have z : ((xs.length : Nat) : Int) ≤ ((p : Nat) : Int) := of_decide_eq_true z
        rw [if_pos (by omega)] at q
        exact q
      · have z : ¬ ((xs.length : Nat) : Int) ≤ ((p : Nat) : Int) := fun h => z (decide_eq_true h)
        rw [if_neg (by omega)] at q
        exact q
/-- the beginning of each call with a text -/
def tHead (K : PySem.W.Frag) (C : Addr) (ip it i2 i3 : Nat) (rest : TS) : TS :=
  tSeq (tAsg (tCall (spRead K C) [] E0 (tCons (tVar it) tNil)) (gName i2)) (tSeq (tAsg (tCall (spRef K) [] E0 (tCons (tVar ip) (tCons (tVar it) (tCons (tVar i2) tNil)))) (gName i3))
    (tSeq (tIfS (tTest (tOp rNe (tVar i3) (tC (.int 0)))) (tRet (tLst (tCons (tVar i3) tNil))) tNext) rest))
theorem rd_head {ip it i2 i3 : Nat} {rest : TS} {D : Ends} {σ : L2.St} {H : Hp} {p : Nat} {a : Addr} {ns : List Int} {g : List (List Nat) → List (List Nat) → List Int}
    (h1 : ∀ u : V, (σ.set i2 (some u))[ip]? = some (some (.int (p : Nat)))) (h2 : σ[it]? = some (some (.ref a))) (h3 : ∀ u : V, (σ.set i2 (some u))[it]? = some (some (.ref a))) (h4 : ∀ u : V, (σ.set i2 (some u))[i2]? = some (some u)) (h5 : ∀ u v : V, ((σ.set i2 (some u)).set i3 (some v))[i3]? = some (some v))
    (ha : SqL K H a (ns.map V.int)) (hb : ∀ z ∈ ns, 0 ≤ z ∧ z ≤ 255) (hl : ns.length ≤ 66000)
    (qn : ∀ (c : Int) (H' : Hp) (l : Addr), Tc.ofText ns p g = [c] → Same H H' → H' l = some (.lst [.int c]) → D.rt (.ref l) H')
    (qs : ∀ (ws : List (List Nat)) (H' : Hp) (l x : Addr) (as : List Addr), Tc.ofText ns p g = g ws (rrOf ns) → Tc.isPool ws (rrOf ns) = true → (∀ r ∈ Tc.raceL (lnsOf ns), Tc.isRace r = true) → Same H H' → H' l = some (.lst (as.map V.ref)) → as[p]? = some x → PoolAt C (rrOf ns) H' x ws → rest D ((σ.set i2 (some (.ref l))).set i3 (some (.int 0))) H') :
    tHead K C ip it i2 i3 rest D σ H := by
  unfold tHead
  try dsimp only [tSeq, tAsg, tIfS]
  have fin : ∀ (c : Int) (u : V) (H' : Hp), c ≠ 0 → Tc.ofText ns p g = [c] → Same H H' → tTest (tOp rNe (tVar i3) (tC (.int 0))) ((σ.set i2 (some u)).set i3 (some (.int c))) H' fun b H1 => if b = true then tRet (tLst (tCons (tVar i3) tNil)) D ((σ.set i2 (some u)).set i3 (some (.int c))) H1 else tNext { D with nx := rest D } ((σ.set i2 (some u)).set i3 (some (.int c))) H1 := fun c u H' hc ho hs => by
    refine (yt_T (yv_neI (yv_v (h5 _ _)) yv_c)) _ ?_
    rw [decide_eq_false hc]
    refine iteT ⟨_, h5 _ _, (by show 1 ≤ sizeLine; decide), fun l hl0 => ?_⟩
    exact qn c _ l ho (hs.trans (Same.new hl0)) upd_same
  refine ⟨_, h2, a, ns, rfl, ha, hb, hl, fun hno H1 s1 => ?_, fun hl2 hc H1 l s1 hL => ?_⟩
  · try dsimp only [gName]
    refine ⟨_, h1 _, _, h3 _, _, h4 _, p, a, ns, .non, rfl, s1.seq ha, .inl ⟨rfl, ?_⟩⟩
    refine fin _ _ _ (by split <;> decide) ?_ s1
    unfold Tc.ofText
    by_cases hlong : 65536 < ns.length
    · rw [if_pos hlong, if_pos hlong]
    · rw [if_neg hlong, if_neg hlong, if_neg (fun h => hno ⟨by omega, h⟩)]
  · obtain ⟨as, hL1, hLp⟩ := hL
    have na : as.length = (Tc.poolL (lnsOf ns)).length := pair_len hLp
    try dsimp only [gName]
    refine ⟨_, h1 _, _, h3 _, _, h4 _, p, a, ns, .ref l, rfl, s1.seq ha, .inr ⟨l, _, rfl, SqL.of hL1, hl2, ?_⟩⟩
    rw [List.length_map]
    by_cases hp : as.length ≤ p
    · rw [if_pos hp]
      refine fin _ _ _ (by decide) ?_ s1
      have hnone : (Tc.poolL (lnsOf ns))[p]? = none := List.getElem?_eq_none (by rw [← na]; exact hp)
      unfold Tc.ofText
      rw [if_neg (by omega), if_pos hc, hnone]
    · rw [if_neg hp]
      obtain ⟨x, hx⟩ : ∃ x, as[p]? = some x := ⟨as[p], List.getElem?_eq_getElem (by omega)⟩
      obtain ⟨ws, hws, hP⟩ := pair_get2 hLp p x hx
      refine (yt_T (yv_neI (i := 0) (yv_v (h5 _ _)) yv_c)) _ ?_
      refine iteF ?_
      have hcc := hc
      unfold Tc.isCard at hcc
      simp only [Bool.and_eq_true] at hcc
      refine qs ws H1 l x as ?_ (List.all_eq_true.mp hcc.2.2.1 ws (List.mem_of_getElem? hws)) (List.all_eq_true.mp hcc.2.1) s1 hL1 hx hP
      unfold Tc.ofText
      rw [if_neg (by omega), if_pos hc, hws]
end
end Tp
end
section
set_option Elab.async false
set_option linter.all false
set_option maxRecDepth 100000
set_option maxHeartbeats 2000000
namespace Tp
open PySem PySem.Spec PyProof.Rows L2
section
variable {P : Program} {w : World} {K : PySem.W.Frag} {mg : Str → Option Value} {base : Heap}
theorem dfn {x qual : Str} {st : Stmt} {f : Addr} {fd : FuncData} {k : Nat} {ps : List Str} {sp : Sp} (hm : mg x = some (.ref f)) (F : Fun K x qual st f fd) (b : Binds K fd ps []) (ok : FnOk P w K mg base CX0 k f fd ps sp) : Dfn P w K mg base k x ps [] sp := ⟨⟨f, fd, hm, F.kp, b, ok⟩⟩
def tkOf (t1 t2 t3 t4 : Addr) : Tote.Kind → Addr
  | .place => t1
  | .order => t2
  | .any => t3
  | .legs => t4
theorem kd_bounds {d t1 t2 t3 t4 : Addr} {ep : Nat} {u1 u2 u3 u4 : Tok} (hn : (d == sysModules) = false)
    (l : K.lookup d = some ⟨.type "dict", none, .dict #[⟨PyData.keyHash w.params "place", .str "place" u1, .ref t1⟩, ⟨PyData.keyHash w.params "order", .str "order" u2, .ref t2⟩, ⟨PyData.keyHash w.params "any", .str "any" u3, .ref t3⟩, ⟨PyData.keyHash w.params "legs", .str "legs" u4, .ref t4⟩] ep, #[]⟩) : KD P w K d (tKV (tkOf t1 t2 t3 t4)) := by
  refine ⟨hn, _, _, ep, [(Sum.inr "place", .ref t1), (Sum.inr "order", .ref t2), (Sum.inr "any", .ref t3), (Sum.inr "legs", .ref t4)], l, ⟨rfl, rfl, rfl⟩, rfl, rfl, ?_, ?_, ?_, ?_⟩
  · exact .cons ⟨rfl, rfl⟩ (.cons ⟨rfl, rfl⟩ (.cons ⟨rfl, rfl⟩ (.cons ⟨rfl, rfl⟩ .nil)))
  · intro e he
    simp only [List.mem_toArray, List.mem_cons, List.not_mem_nil, or_false] at he
    rcases he with rfl | rfl | rfl | rfl
    · exact ⟨Sum.inr "place", keyIs_str _ u1, rfl⟩
    · exact ⟨Sum.inr "order", keyIs_str _ u2, rfl⟩
    · exact ⟨Sum.inr "any", keyIs_str _ u3, rfl⟩
    · exact ⟨Sum.inr "legs", keyIs_str _ u4, rfl⟩
  · exact .cons (keyIs_str _ u1) rfl (.cons (keyIs_str _ u2) rfl (.cons (keyIs_str _ u3) rfl (.cons (keyIs_str _ u4) rfl .nil)))
  · show ([Sum.inr "place", Sum.inr "order", Sum.inr "any", Sum.inr "legs"] : List Key).Nodup
    decide +kernel
theorem kd_fixed {d : Addr} {ep : Nat} {a1 a2 a3 a4 a5 a6 a7 b1 b2 b3 b4 b5 b6 b7 : Tok} (hn : (d == sysModules) = false)
    (l : K.lookup d = some ⟨.type "dict", none, .dict #[⟨hashInt 0, .int 0 a1, .str "pool" b1⟩, ⟨hashInt 4, .int 4 a2, .str "from" b2⟩, ⟨hashInt 6, .int 6 a3, .str "take" b3⟩, ⟨hashInt 8, .int 8 a4, .str "break" b4⟩, ⟨hashInt 10, .int 10 a5, .str "least" b5⟩, ⟨hashInt 12, .int 12 a6, .str "unit" b6⟩, ⟨hashInt 14, .int 14 a7, .str "none" b7⟩] ep, #[]⟩) : KD P w K d fKV := by
  refine ⟨hn, _, _, ep, [(Sum.inl 0, .str "pool" b1), (Sum.inl 4, .str "from" b2), (Sum.inl 6, .str "take" b3), (Sum.inl 8, .str "break" b4), (Sum.inl 10, .str "least" b5), (Sum.inl 12, .str "unit" b6), (Sum.inl 14, .str "none" b7)], l, ⟨rfl, rfl, rfl⟩, rfl, rfl, ?_, ?_, ?_, ?_⟩
  · exact .cons ⟨rfl, _, rfl⟩ (.cons ⟨rfl, _, rfl⟩ (.cons ⟨rfl, _, rfl⟩ (.cons ⟨rfl, _, rfl⟩ (.cons ⟨rfl, _, rfl⟩ (.cons ⟨rfl, _, rfl⟩ (.cons ⟨rfl, _, rfl⟩ .nil))))))
  · intro e he
    simp only [List.mem_toArray, List.mem_cons, List.not_mem_nil, or_false] at he
    rcases he with rfl | rfl | rfl | rfl | rfl | rfl | rfl
    · exact ⟨Sum.inl 0, keyIs_int _ a1, rfl⟩
    · exact ⟨Sum.inl 4, keyIs_int _ a2, rfl⟩
    · exact ⟨Sum.inl 6, keyIs_int _ a3, rfl⟩
    · exact ⟨Sum.inl 8, keyIs_int _ a4, rfl⟩
    · exact ⟨Sum.inl 10, keyIs_int _ a5, rfl⟩
    · exact ⟨Sum.inl 12, keyIs_int _ a6, rfl⟩
    · exact ⟨Sum.inl 14, keyIs_int _ a7, rfl⟩
  · exact .cons (keyIs_int _ a1) rfl (.cons (keyIs_int _ a2) rfl (.cons (keyIs_int _ a3) rfl (.cons (keyIs_int _ a4) rfl (.cons (keyIs_int _ a5) rfl (.cons (keyIs_int _ a6) rfl (.cons (keyIs_int _ a7) rfl .nil))))))
  · show ([Sum.inl 0, Sum.inl 4, Sum.inl 6, Sum.inl 8, Sum.inl 10, Sum.inl 12, Sum.inl 14] : List Key).Nodup
    decide +kernel
theorem tup_none {t : Addr} {od : Option Addr} {n : Nat} {sl : Array (Option Value)} {u1 u2 u3 : Tok} (l : K.lookup t = some ⟨.type "tuple", od, .seq #[.str "refund" u1, .str "carry" u2, .str "fewer" u3] n, sl⟩) (H : Hp) : SqT K H t [.str (S Tc.kRefund), .str (S Tc.kCarry), .str (S Tc.kFewer)] :=
  .inr ⟨_, _, n, l, rfl, rfl, (by show 3 ≤ sizeLine; decide), .cons ⟨_, rfl⟩ (.cons ⟨_, rfl⟩ (.cons ⟨_, rfl⟩ .nil))⟩
theorem tup_two {t : Addr} {od : Option Addr} {n : Nat} {sl : Array (Option Value)} {u1 u2 : Tok} {i j : Int} (l : K.lookup t = some ⟨.type "tuple", od, .seq #[.int i u1, .int j u2] n, sl⟩) (H : Hp) : SqT K H t [.int i, .int j] :=
  .inr ⟨_, _, n, l, rfl, rfl, (by show 2 ≤ sizeLine; decide), .cons ⟨_, rfl⟩ (.cons ⟨_, rfl⟩ .nil)⟩
theorem tup_bounds {t1 t2 t3 t4 : Addr} (h1 : ∀ H, SqT K H t1 [.int 1, .int 4]) (h2 : ∀ H, SqT K H t2 [.int 2, .int 4]) (h3 : ∀ H, SqT K H t3 [.int 2, .int 3]) (h4 : ∀ H, SqT K H t4 [.int 2, .int 6]) (H : Hp) (kd : Tote.Kind) : SqT K H (tkOf t1 t2 t3 t4 kd) [.int (Tote.leastK kd : Nat), .int (Tote.mostK kd : Nat)] := by
  cases kd
  · exact h1 H
  · exact h2 H
  · exact h3 H
  · exact h4 H
end
end Tp
end
section
set_option Elab.async false
set_option linter.all false
set_option maxRecDepth 100000
set_option maxHeartbeats 2000000
namespace Tp
open PySem PySem.Spec PyProof.Rows L2
theorem yv_fld {K : PySem.W.Frag} {σ : L2.St} {H : Hp} {ta : TE} {x C dx : Addr} {fs : List (Str × V)} {f : Str} {v : V} (h1 : Yv ta σ H (.ref x)) (hx : H x = some (.ins C dx fs)) (cl : Cls K C) (no : NoAttr K C f) (lk : fs.lookup f = some v) : Yv (tFld K ta f) σ H v :=
  fun R r => h1 _ ⟨x, C, dx, fs, v, rfl, hx, cl, no, lk, r⟩
section
variable {P : Program} {w : World} {K : PySem.W.Frag} {mg : Str → Option Value} {base : Heap} {tk : Tote.Kind → Addr} {dB dF tN C fI : Addr}
abbrev DRead (P : Program) (w : World) (K : PySem.W.Frag) (mg : Str → Option Value) (base : Heap) (C : Addr) : Prop := Dfn P w K mg base 5 "read_pools" ["text"] [] (spRead K C)
abbrev DRef (P : Program) (w : World) (K : PySem.W.Frag) (mg : Str → Option Value) (base : Heap) : Prop := Dfn P w K mg base 1 "refusal_of" ["pool", "text", "pools"] [] (spRef K)
end
end Tp
end
section
set_option Elab.async false
set_option linter.all false
set_option maxRecDepth 100000
set_option maxHeartbeats 2000000
namespace Tp
open PySem PySem.Spec PyProof.Rows L2
abbrev sArr : Stmt := top 51
abbrev sChoices : Stmt := top 52
abbrev sLen : Stmt := top 54
abbrev sFol : Stmt := top 55
abbrev sCFrom : Stmt := top 56
/-- a pool stands at x, by its kind, its k and its sets -/
def PlAt (C : Addr) (H : Hp) (x : Addr) (kd : Tote.Kind) (k : Nat) (ls : List (List Nat)) : Prop := ∃ dx l, H x = some (.ins C dx (pf (.str (S (kc kd))) (.int (k : Nat)) (.ref l))) ∧ LX IX H l ls
theorem PlAt.mono {C : Addr} {H H' : Hp} {x : Addr} {kd : Tote.Kind} {k : Nat} {ls : List (List Nat)} (s : Same H H') (h : PlAt C H x kd k ls) : PlAt C H' x kd k ls :=
  let ⟨dx, l, h1, h2⟩ := h
  ⟨dx, l, s _ _ h1, h2.mono IX.mono s⟩
theorem PoolAt.pl {C : Addr} {rr : List (List Nat)} {H : Hp} {x : Addr} {ws : List (List Nat)} (h : PoolAt C rr H x ws) (hp : Tc.isPool ws rr = true) : PlAt C H x (Tc.kdOf ws) (Tc.kOf ws) (Tc.setsOf ws rr) := by
  obtain ⟨kd, z, h1, h2⟩ := Tc.kind_some hp
  have e : kc (Tc.kdOf ws) = Tc.gw ws 2 := by
    have e1 : Tc.kdOf ws = kd := by unfold Tc.kdOf; rw [h1]; rfl
    rw [e1]
    exact (kind_codes h1).symm
  unfold PlAt
  rw [e]
  exact h
abbrev nats (l : List Nat) : List V := l.map fun n => V.int (n : Nat)
section
variable {P : Program} {w : World} {K : PySem.W.Frag} {mg : Str → Option Value} {base : Heap} {tk : Tote.Kind → Addr} {dB dF tN C fI : Addr}
/-! counts -/
def spArr : Sp := fun vs H Q _ => ∃ n k : Nat, vs = [.int n, .int k] ∧ n ≤ 64 ∧ k ≤ 64 ∧ Q (.int (Tote.orders n k : Nat)) H
abbrev nArr : List Str := ["n", "k", "total", "taken"]
theorem scArr : FnScope nArr ["n", "k"] (defScope sArr) := ⟨rfl, rfl, rfl, by decide +kernel, rfl, by decide +kernel, by decide +kernel⟩
theorem ok_arr {f : Addr} {fd : FuncData} (F : Fun K "arrangements" "arrangements" sArr f fd) (G : Gw mg) : FnOk P w K mg base CX0 1 f fd ["n", "k"] spArr := by
  refine F.ok scArr (fun vs H Q E h => ?_) (fun cdv A outer s H vs Q E hr h => ?_)
  · obtain ⟨n, k, rfl, _⟩ := h
    rfl
  · obtain ⟨n, k, rfl, hn, hk, q⟩ := h
    refine ⟨_, pss_cons (ps_set (i := 2) scArr.nd rfl (Or.inl rfl) pe_int)
      (pss_cons (ps_for PassesOwn.never rfl (pi_range1 rfl G.range (pa_cons (pv 1) pa_nil)) (pg_name (i := 3) scArr.nd rfl (Or.inl rfl))
        (pss_one (ps_aug (i := 2) scArr.nd rfl (Or.inl rfl) (pe_op op_sub (pv 0) (pv 3)) iop_mul)))
      (pss_one (ps_ret (pv 2)))), ?_⟩
    refine ⟨_, rfl, (k : Int), rfl, by omega, by omega, ?_⟩
    have ek : (k : Int).toNat = k := by omega
    rw [ek]
    refine for_range (n := k) (lo := 0) (fun i σ H' => ∃ v : Option V, H' = H ∧ σ = [some (.int n), some (.int k), some (.int (Tote.orders n i : Nat)), v]) ⟨none, rfl, by rw [Tc.orders_zero]; rfl⟩ ?_ ?_
    · rintro i σ H' hi ⟨v, rfl, rfl⟩
      refine ⟨_, rfl, _, rfl, _, rfl, _, _, rfl, rfl, _, _, rfl, rfl, .inr ⟨by omega, by omega⟩, some (.int (0 + (i : Nat))), rfl, ?_⟩
      show [some (V.int n), some (V.int k), some (V.int (((Tote.orders n i : Nat) : Int) * ((n : Int) - ((0 : Int) + (i : Nat))))), some (V.int (0 + (i : Nat)))] = _
      rw [Tc.orders_turn]
    · rintro σ H' ⟨v, rfl, rfl⟩
      exact ⟨_, rfl, q⟩
def spChoices : Sp := fun vs H Q _ => ∃ n k : Nat, vs = [.int n, .int k] ∧ n ≤ 64 ∧ k ≤ 64 ∧ Q (.int (Tc.bin n k : Nat)) H
theorem scChoices : FnScope nArr ["n", "k"] (defScope sChoices) := ⟨rfl, rfl, rfl, by decide +kernel, rfl, by decide +kernel, by decide +kernel⟩
theorem ok_choices {f : Addr} {fd : FuncData} (F : Fun K "choices" "choices" sChoices f fd) (G : Gw mg) : FnOk P w K mg base CX0 1 f fd ["n", "k"] spChoices := by
  refine F.ok scChoices (fun vs H Q E h => ?_) (fun cdv A outer s H vs Q E hr h => ?_)
  · obtain ⟨n, k, rfl, _⟩ := h
    rfl
  · obtain ⟨n, k, rfl, hn, hk, q⟩ := h
    refine ⟨_, pss_cons (ps_set (i := 2) scChoices.nd rfl (Or.inl rfl) pe_int)
      (pss_cons (ps_for PassesOwn.never rfl (pi_range1 rfl G.range (pa_cons (pv 1) pa_nil)) (pg_name (i := 3) scChoices.nd rfl (Or.inl rfl))
        (pss_one (ps_set (i := 2) scChoices.nd rfl (Or.inl rfl) (pe_op op_fdiv (pe_op op_mul (pv 2) (pe_op op_sub (pv 0) (pv 3))) (pe_op op_add (pv 3) pe_int)))))
      (pss_one (ps_ret (pv 2)))), ?_⟩
    refine ⟨_, rfl, (k : Int), rfl, by omega, by omega, ?_⟩
    have ek : (k : Int).toNat = k := by omega
    rw [ek]
    refine for_range (n := k) (lo := 0) (fun i σ H' => ∃ v : Option V, H' = H ∧ σ = [some (.int n), some (.int k), some (.int (Tc.bin n i : Nat)), v]) ⟨none, rfl, by rw [Tc.bin_zero]; rfl⟩ ?_ ?_
    · rintro i σ H' hi ⟨v, rfl, rfl⟩
      refine ⟨_, rfl, _, rfl, _, rfl, _, _, rfl, rfl, _, _, rfl, rfl, .inr ⟨by omega, by omega⟩, _, rfl, _, _, rfl, rfl, _, _, rfl, rfl, ⟨by omega, by omega⟩, ?_⟩
      refine ⟨some (.int (0 + (i : Nat))), rfl, ?_⟩
      show [some (V.int n), some (V.int k), some (V.int (((Tc.bin n i : Nat) : Int) * ((n : Int) - ((0 : Int) + (i : Nat))) / (((0 : Int) + (i : Nat)) + 1))), some (V.int (0 + (i : Nat)))] = _
      rw [Tc.bin_turn]
    · rintro σ H' ⟨v, rfl, rfl⟩
      exact ⟨_, rfl, q⟩
/-! length_of -/
def spLen (C : Addr) : Sp := fun vs H Q _ => ∃ (x : Addr) (kd : Tote.Kind) (k : Nat) (ls : List (List Nat)), vs = [.ref x] ∧ PlAt C H x kd k ls ∧ Q (.int (Tc.lenOf kd k : Nat)) H
theorem scLen : FnScope ["pool"] ["pool"] (defScope sLen) := ⟨rfl, rfl, rfl, by decide +kernel, rfl, by decide +kernel, by decide +kernel⟩
theorem kc_place (kd : Tote.Kind) : decide (kc kd = Tc.kPlace) = decide (kd = .place) := by cases kd <;> decide
theorem kc_order (kd : Tote.Kind) : decide (kc kd = Tc.kOrder) = decide (kd = .order) := by cases kd <;> decide
theorem kc_any (kd : Tote.Kind) : decide (kc kd = Tc.kAny) = decide (kd = .any) := by cases kd <;> decide
theorem yv_kind (T : PC0 K mg C fI) {σ : L2.St} {H : Hp} {ta : TE} {x : Addr} {kd : Tote.Kind} {k : Nat} {ls : List (List Nat)} (h1 : Yv ta σ H (.ref x)) (h : PlAt C H x kd k ls) : Yv (tFld K ta "kind") σ H (.str (S (kc kd))) := by
  obtain ⟨dx, l, hx, _⟩ := h
  exact yv_fld h1 hx T.cl T.nKind (pf_kind _ _ _)
theorem yv_k (T : PC0 K mg C fI) {σ : L2.St} {H : Hp} {ta : TE} {x : Addr} {kd : Tote.Kind} {k : Nat} {ls : List (List Nat)} (h1 : Yv ta σ H (.ref x)) (h : PlAt C H x kd k ls) : Yv (tFld K ta "k") σ H (.int (k : Nat)) := by
  obtain ⟨dx, l, hx, _⟩ := h
  exact yv_fld h1 hx T.cl T.nK (pf_k _ _ _)
theorem ok_len {f : Addr} {fd : FuncData} (F : Fun K "length_of" "length_of" sLen f fd) (T : PC0 K mg C fI) : FnOk P w K mg base CX0 1 f fd ["pool"] (spLen C) := by
  refine F.ok scLen (fun vs H Q E h => ?_) (fun cdv A outer s H vs Q E hr h => ?_)
  · obtain ⟨x, kd, k, ls, rfl, _⟩ := h
    rfl
  · obtain ⟨x, kd, k, ls, rfl, hx, q⟩ := h
    refine ⟨_, pss_one (ps_ret (pe_ifExp (pt_cmpR op_eq (pe_fld (pv 0) rfl) pe_str (nomark _)) pe_int (pe_fld (pv 0) rfl))), ?_⟩
    have yk := yv_kind (K := K) T (ta := tVar 0) (σ := start ["pool"] [V.ref x]) (yv_v rfl) hx
    refine (yt_T (yv_eqS (q := Tc.kPlace) yk yv_c)) _ ?_
    rw [kc_place]
    unfold Tc.lenOf at q
    refine ite2 (fun z => ?_) (fun z => ?_)
    · have z : kd = .place := of_decide_eq_true z
      rw [if_pos z] at q
      exact q
    · have z : ¬ kd = .place := fun e => z (decide_eq_true e)
      rw [if_neg z] at q
      exact (yv_k (K := K) T (yv_v rfl) hx) _ q
/-! followers_of -/
def spFol (K : PySem.W.Frag) (C : Addr) : Sp := fun vs H Q _ => ∃ (x g : Addr) (kd : Tote.Kind) (k : Nat) (ls : List (List Nat)) (b : List Nat), vs = [.ref x, .ref g] ∧ PlAt C H x kd k ls ∧ Tc.WF kd k ls ∧ SqL K H g (nats b) ∧ (kd = .place ∨ kd = .legs → b.length < ls.length) ∧
  ∀ (H' : Hp) (l : Addr), Same H H' → H' l = some (.lst (nats (Tc.fol kd ls b))) → Q (.ref l) H'
abbrev nFol : List Str := ["pool", "begun", "one"]
theorem scFol : FnScope nFol ["pool", "begun"] (defScope sFol) := ⟨rfl, rfl, rfl, by decide +kernel, rfl, by decide +kernel, by decide +kernel⟩
theorem last_nats (b : List Nat) (h : b ≠ []) : atI (nats b) (-1) = some (.int (b.getLastD 0 : Nat)) := by
  obtain ⟨ys, y, rfl⟩ : ∃ ys y, b = ys ++ [y] := ⟨_, _, (List.dropLast_concat_getLast h).symm⟩
  unfold nats
  rw [List.map_append]
  refine (atI_last _ _).trans ?_
  simp
theorem ok_fol {f : Addr} {fd : FuncData} (F : Fun K "followers_of" "followers_of" sFol f fd) (G : Gw mg) (T : PC0 K mg C fI) : FnOk P w K mg base CX0 1 f fd ["pool", "begun"] (spFol K C) := by
  refine F.ok scFol (fun vs H Q E h => ?_) (fun cdv A outer s H vs Q E hr h => ?_)
  · obtain ⟨x, g, kd, k, ls, b, rfl, _⟩ := h
    rfl
  · obtain ⟨x, g, kd, k, ls, b, rfl, hx, hw, hg, hbl, q⟩ := h
    refine ⟨_, pss_cons (ps_if (pt_cmpR op_eq (pe_fld (pv 0) rfl) pe_str (nomark _)) (pss_one (ps_ret (pe_lc (own := [("one", 2)]) rfl scFol.nd (pi_list (pe_ix ix_list (pe_fld (pv 0) rfl) pe_int (fun _ _ => rfl))) (blk (N := nFol) (sc := defScope sFol) (by decide +kernel)) (fun _ _ _ _ _ => pg_name (i := 2) scFol.nd rfl (Or.inl rfl)) (fun _ _ _ _ _ => pts_one (pt_cmpR (r := rIn K true) op_notIn_seq (pv 2) (pv 1) (by with_unfolding_all rfl))) (fun _ _ _ _ _ => pv 2)))) pss_nil)
      (pss_cons (ps_if (pt_cmpR op_eq (pe_fld (pv 0) rfl) pe_str (nomark _)) (pss_one (ps_ret (pe_lc (own := [("one", 2)]) rfl scFol.nd (pi_list (pe_ix ix_list (pe_fld (pv 0) rfl) pe_int (fun _ _ => rfl))) (blk (N := nFol) (sc := defScope sFol) (by decide +kernel)) (fun _ _ _ _ _ => pg_name (i := 2) scFol.nd rfl (Or.inl rfl))
          (fun _ _ _ _ _ => pts_one (PW.pt (pw_or (pt_cmpR op_eq (pe_callB (r := fun xs H Q => ∃ p ys, xs = [V.ref p] ∧ (SqL K H p ys ∨ SqT K H p ys) ∧ Q (.int ys.length) H) call_len_seq rfl G.len PySem.boot_len (pa_cons (pv 1) pa_nil)) pe_int (nomark _)) (pw_or1 (pt_cmpR op_gt (pv 2) (pe_ix (r := rIxL K) ix_list (pv 1) (pe_un un_neg pe_int) (fun _ _ => rfl)) (nomark _)))))) (fun _ _ _ _ _ => pv 2)))) pss_nil)
      (pss_one (ps_ret (pe_ix ix_list (pe_fld (pv 0) rfl) (pe_callB call_len_seq rfl G.len PySem.boot_len (pa_cons (pv 1) pa_nil)) (fun _ _ => rfl))))), ?_⟩
    have hsz : sizeLine = 16777216 := by decide
    have yk := yv_kind (K := K) T (ta := tVar 0) (σ := start nFol [V.ref x, V.ref g]) (yv_v rfl) hx
    obtain ⟨dx, l, hx1, as, hl, hp⟩ := hx
    have ys : Yv (tFld K (tVar 0) "sets") (start nFol [V.ref x, V.ref g]) H (.ref l) := yv_fld (yv_v rfl) hx1 T.cl T.nSets (pf_sets _ _ _)
    have nas : as.length = ls.length := pair_len hp
    have h1 : 1 ≤ ls.length := by
      rw [hw.len]
      split
      · exact hw.k1
      · omega
    obtain ⟨s0, e0, hs0⟩ := pair_get hp 0 (ls.headD []) (by cases ls with | nil => simp at h1 | cons s r => rfl)
    have hm0 : ls.headD [] ∈ ls := by cases ls with | nil => simp at h1 | cons s r => simp
    have y0 : Yv (tOp (rIxL K) (tFld K (tVar 0) "sets") (tC (.int 0))) (start nFol [V.ref x, V.ref g]) H (.ref s0) := yv_at ys (SqL.of hl) yv_c (atg (j := 0) rfl (by rw [List.getElem?_map, e0]; rfl))
    have l24 := hw.small _ hm0
    try dsimp only [tSeq, tIfS]
    refine (yt_T (yv_eqS (q := Tc.kOrder) yk yv_c)) _ ?_
    rw [kc_order]
    refine ite2 (fun z => ?_) (fun z => ?_)
    · have z : kd = .order := of_decide_eq_true z
      subst z
      try dsimp only [tRet]
      refine lcl (K := K) (a := s0) (xs := nats (ls.headD [])) (fun R r => y0 _ ⟨s0, rfl, ⟨_, SqL.of hs0⟩, r⟩) (ls.headD []) (fun n => !b.contains n) id (fun _ v n => v = V.int (n : Nat)) (fun _ _ _ _ _ r => r) (SqL.of hs0) (by simp) (by omega) (fun D hD i y d H2 acc Yes No hy0 hd s2 hacc hy hn => ?_) (fun D hD H2 ys2 s2 hD2 hp2 => ?_)
      · rw [List.getElem?_map, hd] at hy0
        obtain rfl : V.int (d : Nat) = y := Option.some.inj hy0
        refine ⟨rfl, (yt_T (yv_notIn (x := d) (yv_v rfl) (yv_v rfl) (s2.seq hg))) _ (iteB (fun z => ?_) (fun z => ?_))⟩
        · exact ⟨_, rfl, hy z _ _ (Same.refl _) rfl⟩
        · exact hn z _ (Same.refl _)
      · have ey := pair_eq (f := fun n : Nat => V.int (n : Nat)) hp2
        rw [List.map_id] at ey
        subst ey
        exact q _ D s2 hD2
    have z : ¬ kd = .order := fun e => z (decide_eq_true e)
    try dsimp only [tNext]
    refine (yt_T (yv_eqS (q := Tc.kAny) yk yv_c)) _ ?_
    rw [kc_any]
    refine ite2 (fun z2 => ?_) (fun z2 => ?_)
    · have z2 : kd = .any := of_decide_eq_true z2
      subst z2
      try dsimp only [tRet]
      refine lcl (K := K) (a := s0) (xs := nats (ls.headD [])) (fun R r => y0 _ ⟨s0, rfl, ⟨_, SqL.of hs0⟩, r⟩) (ls.headD []) (fun n => decide (b.length = 0) || decide (b.getLastD 0 < n)) id (fun _ v n => v = V.int (n : Nat)) (fun _ _ _ _ _ r => r) (SqL.of hs0) (by simp) (by omega) (fun D hD i y d H2 acc Yes No hy0 hd s2 hacc hy hn => ?_) (fun D hD H2 ys2 s2 hD2 hp2 => ?_)
      · rw [List.getElem?_map, hd] at hy0
        obtain rfl : V.int (d : Nat) = y := Option.some.inj hy0
        have yl := yv_len (K := K) (ta := tVar 1) (σ := [some (V.ref x), some (V.ref g), some (V.int (d : Nat))]) (yv_v rfl) (s2.seq hg)
        rw [List.length_map] at yl
        refine ⟨rfl, (yt_or (b := decide (((b.getLastD 0 : Nat) : Int) < ((d : Nat) : Int))) (yt_T (yv_eqI yl yv_c)) fun zz => ?_) _ ?_⟩
        · have zz : b ≠ [] := fun e => by subst e; simp at zz
          exact yt_T (yv_i0 (yv_v rfl) (yv_at (yv_v rfl) (s2.seq hg) (fun R r => ⟨_, rfl, r⟩) (last_nats b zz)))
        · have e1 : (decide (((b.length : Nat) : Int) = 0) || decide (((b.getLastD 0 : Nat) : Int) < ((d : Nat) : Int))) = (decide (b.length = 0) || decide (b.getLastD 0 < d)) := by
            congr 1
            · rw [decide_eq_decide]; omega
            · rw [decide_eq_decide]; omega
          rw [e1]
          refine iteB (fun z => ?_) (fun z => ?_)
          · exact ⟨_, rfl, hy z _ _ (Same.refl _) rfl⟩
          · exact hn z _ (Same.refl _)
      · have ey := pair_eq (f := fun n : Nat => V.int (n : Nat)) hp2
        rw [List.map_id] at ey
        subst ey
        exact q _ D s2 hD2
    · have z2 : ¬ kd = .any := fun e => z2 (decide_eq_true e)
      have hpl : kd = .place ∨ kd = .legs := by cases kd <;> simp_all
      have hbl := hbl hpl
      try dsimp only [tNext, tRet]
      obtain ⟨sb, eb, hsb⟩ := pair_get hp b.length (ls.getD b.length []) (by rw [List.getD_eq_getElem?_getD, List.getElem?_eq_getElem hbl]; rfl)
      have yl := yv_len (K := K) (ta := tVar 1) (σ := start nFol [V.ref x, V.ref g]) (yv_v rfl) hg
      rw [List.length_map] at yl
      refine (yv_at ys (SqL.of hl) yl (atI_nat (by rw [List.getElem?_map, eb]; rfl))) _ ?_
      have ef : Tc.fol kd ls b = ls.getD b.length [] := by rcases hpl with rfl | rfl <;> rfl
      rw [ef] at q
      exact q _ sb (Same.refl _) hsb
def Yo (t : TO) (σ : L2.St) (H : Hp) (o : Option Int) : Prop := ∀ R : Option Int → Hp → Prop, R o H → t σ H R
theorem yo_no {σ : L2.St} {H : Hp} : Yo tNoPart σ H none := fun _ r => r
theorem yo_some {σ : L2.St} {H : Hp} {t : TE} {i : Int} (h : Yv t σ H (.int i)) : Yo (tPart t) σ H (some i) := fun R r => h _ ⟨i, rfl, r⟩
theorem ysl {σ : L2.St} {H : Hp} {te : TE} {tl th : TO} {lo hi : Option Int} {a : Addr} {xs : List V} {Q : VK} (h1 : Yv te σ H (.ref a)) (h2 : Yo tl σ H lo) (h3 : Yo th σ H hi) (hl : SqL K H a xs) (q : ∀ p, H p = none → Q (.ref p) (upd H p (.lst (cutV xs lo hi)))) : tSl (rSlL K) te tl th σ H Q :=
  h1 _ (h2 _ (h3 _ ⟨a, xs, rfl, hl, q⟩))
/-- a for over a list that is just made -/
theorem forL {xs : List V} {wi : TI} {g : TG} {tb : TS} {D : Ends} {σ : L2.St} {H : Hp} (CC : Addr → Hp → Prop) (hi : ∀ R : It → Hp → Prop, (∀ a H1, CC a H1 → R (Itl K a) H1) → wi σ H R) (Pv : Addr → Hp → Nat → L2.St → Hp → Prop)
    (h0 : ∀ a H1, CC a H1 → Pv a H1 0 σ H1) (hl : ∀ a H1, CC a H1 → ∀ i σ H, i ≤ xs.length → Pv a H1 i σ H → SqL K H a xs)
    (hs : ∀ a H1, CC a H1 → ∀ (i : Nat) x σ H, xs[i]? = some x → Pv a H1 i σ H → g x σ H fun σ2 H2 => tb { D with nx := Pv a H1 (i + 1), ct := Pv a H1 (i + 1), bk := D.nx } σ2 H2)
    (hd : ∀ a H1, CC a H1 → ∀ σ H, Pv a H1 xs.length σ H → D.nx σ H) : tFor wi g tb D σ H :=
  hi _ fun a H1 c => for_list (Pv a H1) (h0 a H1 c) (hl a H1 c) (hs a H1 c) (hd a H1 c)
/-! count_from -/
theorem cut_from (xs : List V) (n : Nat) : cutV xs (some ((n : Nat) : Int)) none = xs.drop n := by
  unfold cutV
  rw [HT.sIx_nat, HT.sIx_none]
  by_cases h : n ≤ xs.length
  · have e : min n xs.length = n := by omega
    rw [e]
    exact List.take_of_length_le (by rw [List.length_drop]; omega)
  · have e : min n xs.length = xs.length := by omega
    rw [e, List.drop_length, List.drop_eq_nil_of_le (by omega)]
    simp
def spCFrom (K : PySem.W.Frag) (C : Addr) : Sp := fun vs H Q _ => ∃ (x g : Addr) (kd : Tote.Kind) (k : Nat) (ls : List (List Nat)) (b : List Nat), vs = [.ref x, .ref g] ∧ PlAt C H x kd k ls ∧ Tc.WF kd k ls ∧ SqL K H g (nats b) ∧ b.length ≤ Tc.lenOf kd k ∧
  ∀ (H' : Hp), Same H H' → Q (.int (Tc.cnt kd k ls b : Nat)) H'
abbrev nCFrom : List Str := ["pool", "begun", "left", "total", "interests"]
theorem scCFrom : FnScope nCFrom ["pool", "begun"] (defScope sCFrom) := ⟨rfl, rfl, rfl, by decide +kernel, rfl, by decide +kernel, by decide +kernel⟩
theorem WF.head24 {kd : Tote.Kind} {k : Nat} {ls : List (List Nat)} (hw : Tc.WF kd k ls) : (ls.headD []).length ≤ 24 := by
  cases ls with
  | nil => simp
  | cons s r => exact hw.small s (by simp)
theorem ok_cfrom {f : Addr} {fd : FuncData} (F : Fun K "count_from" "count_from" sCFrom f fd) (G : Gw mg) (T : PC0 K mg C fI) (DA : Dfn P w K mg base 1 "arrangements" ["n", "k"] [] spArr) (DC : Dfn P w K mg base 1 "choices" ["n", "k"] [] spChoices)
    (DL : Dfn P w K mg base 1 "length_of" ["pool"] [] (spLen C)) (DF : Dfn P w K mg base 1 "followers_of" ["pool", "begun"] [] (spFol K C)) : FnOk P w K mg base CX0 2 f fd ["pool", "begun"] (spCFrom K C) := by
  refine F.ok scCFrom (fun vs H Q E h => ?_) (fun cdv A outer s H vs Q E hr h => ?_)
  · obtain ⟨x, g, kd, k, ls, b, rfl, _⟩ := h
    rfl
  · obtain ⟨x, g, kd, k, ls, b, rfl, hx, hw, hg, hbl, q⟩ := h
    refine ⟨_, pss_cons (ps_set (i := 2) scCFrom.nd rfl (Or.inl rfl) (pe_op op_sub (pcall DL hr (pa_cons (pv 0) pa_nil)) (pe_callB call_len_seq rfl G.len PySem.boot_len (pa_cons (pv 1) pa_nil))))
      (pss_cons (ps_if (pt_cmpR op_eq (pe_fld (pv 0) rfl) pe_str (nomark _)) (pss_one (ps_ret (pcall DA hr (pa_cons (pe_callB call_len_seq rfl G.len PySem.boot_len (pa_cons (pcall DF hr (pa_cons (pv 0) (pa_cons (pv 1) pa_nil))) pa_nil)) (pa_cons (pv 2) pa_nil))))) pss_nil)
      (pss_cons (ps_if (pt_cmpR op_eq (pe_fld (pv 0) rfl) pe_str (nomark _)) (pss_one (ps_ret (pcall DC hr (pa_cons (pe_callB call_len_seq rfl G.len PySem.boot_len (pa_cons (pcall DF hr (pa_cons (pv 0) (pa_cons (pv 1) pa_nil))) pa_nil)) (pa_cons (pv 2) pa_nil))))) pss_nil)
      (pss_cons (ps_set (i := 3) scCFrom.nd rfl (Or.inl rfl) pe_int)
      (pss_cons (ps_for PassesOwn.never rfl (pi_list (pe_slice sl_list (pe_fld (pv 0) rfl) (po_some (pe_callB call_len_seq rfl G.len PySem.boot_len (pa_cons (pv 1) pa_nil))) po_none)) (pg_name (i := 4) scCFrom.nd rfl (Or.inl rfl))
        (pss_one (ps_aug (i := 3) scCFrom.nd rfl (Or.inl rfl) (pe_callB call_len_seq rfl G.len PySem.boot_len (pa_cons (pv 4) pa_nil)) iop_mul)))
      (pss_one (ps_ret (pv 3))))))), ?_⟩
    have hsz : sizeLine = 16777216 := by decide
    have yb : ∀ (σ : L2.St), σ[1]? = some (some (.ref g)) → Yv (tCB (fun xs H Q => ∃ p ys, xs = [V.ref p] ∧ (SqL K H p ys ∨ SqT K H p ys) ∧ Q (.int ys.length) H) (tCons (tVar 1) tNil)) σ H (.int (b.length : Nat)) := fun σ e => by
      have h := yv_len (K := K) (ta := tVar 1) (σ := σ) (yv_v e) hg
      rw [List.length_map] at h
      exact h
    have yn : Yv (tCall (spLen C) [] E0 (tCons (tVar 0) tNil)) (start nCFrom [V.ref x, V.ref g]) H (.int (Tc.lenOf kd k : Nat)) := yv_call (ya1 (yv_v rfl)) fun R r => ⟨x, kd, k, ls, rfl, hx, r⟩
    have h24 := WF.head24 hw
    have hk6 := hw.k6
    have hlk : Tc.lenOf kd k ≤ 6 := by unfold Tc.lenOf; split <;> omega
    refine (yv_i0 yn (yb _ rfl)) _ ?_
    try dsimp only [gName, tSeq, tIfS]
    have eleft : ((Tc.lenOf kd k : Nat) : Int) - ((b.length : Nat) : Int) = ((Tc.lenOf kd k - b.length : Nat) : Int) := by omega
    have yk : Yv (tFld K (tVar 0) "kind") ((start nCFrom [V.ref x, V.ref g]).set 2 (some (.int (((Tc.lenOf kd k : Nat) : Int) - ((b.length : Nat) : Int))))) H (.str (S (kc kd))) := yv_kind (K := K) T (yv_v rfl) hx
    refine (yt_T (yv_eqS (q := Tc.kOrder) yk yv_c)) _ ?_
    rw [kc_order]
    refine ite2 (fun z => ?_) (fun z => ?_)
    · have z : kd = .order := of_decide_eq_true z
      subst z
      have hfl : (Tc.fol .order ls b).length ≤ 24 := Nat.le_trans (List.length_filter_le _ _) h24
      refine ⟨_, rfl, _, rfl, x, g, .order, k, ls, b, rfl, hx, hw, hg, (fun h => by rcases h with h | h <;> cases h), fun H1 l s1 hl1 => ?_⟩
      refine ⟨l, _, rfl, .inl (SqL.of hl1), _, rfl, (Tc.fol .order ls b).length, Tc.lenOf .order k - b.length, ?_, by omega, by omega, q _ s1⟩
      show [V.int _, V.int _] = _
      rw [eleft, List.length_map]
    have z : ¬ kd = .order := fun e => z (decide_eq_true e)
    try dsimp only [tNext]
    refine (yt_T (yv_eqS (q := Tc.kAny) yk yv_c)) _ ?_
    rw [kc_any]
    refine ite2 (fun z2 => ?_) (fun z2 => ?_)
    · have z2 : kd = .any := of_decide_eq_true z2
      subst z2
      have hfl : (Tc.fol .any ls b).length ≤ 24 := Nat.le_trans (List.length_filter_le _ _) h24
      refine ⟨_, rfl, _, rfl, x, g, .any, k, ls, b, rfl, hx, hw, hg, (fun h => by rcases h with h | h <;> cases h), fun H1 l s1 hl1 => ?_⟩
      refine ⟨l, _, rfl, .inl (SqL.of hl1), _, rfl, (Tc.fol .any ls b).length, Tc.lenOf .any k - b.length, ?_, by omega, by omega, q _ s1⟩
      show [V.int _, V.int _] = _
      rw [eleft, List.length_map]
    have z2 : ¬ kd = .any := fun e => z2 (decide_eq_true e)
    have ecnt : Tc.cnt kd k ls b = Tc.prod (ls.drop b.length) := by cases kd <;> first | rfl | exact absurd rfl z | exact absurd rfl z2
    rw [ecnt] at q
    try dsimp only [tNext, tSeq, tAsg, gName, tC]
    obtain ⟨dx, l, hx1, as, hl, hp⟩ := hx
    have ys : Yv (tFld K (tVar 0) "sets") [some (.ref x), some (.ref g), some (.int (((Tc.lenOf kd k : Nat) : Int) - ((b.length : Nat) : Int))), some (.int 1), none] H (.ref l) := yv_fld (yv_v rfl) hx1 T.cl T.nSets (pf_sets _ _ _)
    have hpd := pair_drop hp b.length
    have nd : (as.drop b.length).length = (ls.drop b.length).length := pair_len hpd
    refine forL (K := K) (xs := (as.drop b.length).map V.ref) (fun p H1 => Same H H1 ∧ H1 p = some (.lst ((as.drop b.length).map V.ref)))
      (fun R r => by dsimp only [iList]; exact ysl ys (yo_some (yb _ rfl)) yo_no (SqL.of hl) fun p hp0 => ⟨p, rfl, ⟨_, SqL.of upd_same⟩, r p _ ⟨Same.new hp0, by rw [upd_same, cut_from, List.map_drop]⟩⟩)
      (fun p H1 i σ H' => ∃ v : Option V, H' = H1 ∧ σ = [some (.ref x), some (.ref g), some (.int (((Tc.lenOf kd k : Nat) : Int) - ((b.length : Nat) : Int))), some (.int (Tc.prod ((ls.drop b.length).take i) : Nat)), v])
      (fun p H1 c => ⟨none, rfl, rfl⟩) (fun p H1 c i σ H' hi ⟨v, e, _⟩ => by rw [e]; exact SqL.of c.2) ?_ ?_
    · rintro p H1 ⟨s1, hP⟩ i y σ H' hi ⟨v, rfl, rfl⟩
      rw [List.getElem?_map] at hi
      obtain ⟨c, hc1, rfl⟩ : ∃ c, (as.drop b.length)[i]? = some c ∧ y = V.ref c := by
        cases ec : (as.drop b.length)[i]? with
        | none => rw [ec] at hi; cases hi
        | some c => rw [ec] at hi; exact ⟨c, rfl, (Option.some.inj hi).symm⟩
      obtain ⟨r, hr1, hr2⟩ := pair_get2 hpd i c hc1
      have r24 := hw.small r (List.mem_of_mem_drop (List.mem_of_getElem? hr1))
      have yr := yv_len (K := K) (ta := tVar 4) (σ := [some (.ref x), some (.ref g), some (.int (((Tc.lenOf kd k : Nat) : Int) - ((b.length : Nat) : Int))), some (.int (Tc.prod ((ls.drop b.length).take i) : Nat)), some (.ref c)]) (yv_v rfl) (SqL.of (s1 _ _ hr2))
      rw [List.length_map] at yr
      refine ⟨_, rfl, yr _ ⟨_, _, rfl, rfl, .inr ⟨by omega, by omega⟩, some (.ref c), rfl, ?_⟩⟩
      show [some (V.ref x), some (V.ref g), some (V.int (((Tc.lenOf kd k : Nat) : Int) - ((b.length : Nat) : Int))), some (V.int (((Tc.prod ((ls.drop b.length).take i) : Nat) : Int) * ((r.length : Nat) : Int))), some (V.ref c)] = _
      have e : Tc.prod ((ls.drop b.length).take (i + 1)) = Tc.prod ((ls.drop b.length).take i) * r.length := by
        rw [take_snoc hr1]
        unfold Tc.prod
        rw [List.foldl_append]
        rfl
      rw [e, Int.natCast_mul]
    · rintro p H1 ⟨s1, hP⟩ σ H' ⟨v, rfl, rfl⟩
      rw [List.length_map, nd, List.take_length]
      exact ⟨_, rfl, q _ s1⟩
end
end Tp
end
section
set_option Elab.async false
set_option linter.all false
set_option maxRecDepth 100000
set_option maxHeartbeats 2000000
namespace Tp
open PySem PySem.Spec PyProof.Rows L2
abbrev DCFrom (P : Program) (w : World) (K : PySem.W.Frag) (mg : Str → Option Value) (base : Heap) (C : Addr) : Prop := Dfn P w K mg base 2 "count_from" ["pool", "begun"] [] (spCFrom K C)
end Tp
end
section
set_option Elab.async false
set_option linter.all false
set_option maxRecDepth 100000
set_option maxHeartbeats 2000000
namespace Tp
open PySem PySem.Spec PyProof.Rows L2
abbrev sWithout : Stmt := top 57
abbrev sCWith : Stmt := top 58
abbrev sCBef : Stmt := top 59
/-- a def with a default -/
structure FunD (K : PySem.W.Frag) (x qual : Str) (st : Stmt) (f : Addr) (fd : FuncData) (t : Addr) : Prop where
  ex : ∃ (oc : Value) (od : Option Addr) (kV doc pm : Value) (an : Option Addr) (cdv ct : Value) (osl : Array (Option Value)),
    fd = PySem.W.fnOf x qual (defArgs st) (defBody st) (defScope st) (.ref t) kV doc pm an cdv ct ∧ K.lookup f = some ⟨oc, od, .func fd, osl⟩ ∧ PySem.W.codeIn K cdv qual = true
  kp : PySem.W.keepIn K (.ref f) = true
def rnV : Option Nat → V
  | none => .non
  | some r => .int (r : Nat)
section
variable {P : Program} {w : World} {K : PySem.W.Frag} {mg : Str → Option Value} {base : Heap} {tk : Tote.Kind → Addr} {dB dF tN C fI : Addr}
theorem FunD.ok {x qual : Str} {st : Stmt} {f t : Addr} {fd : FuncData} {N ps : List Str} {k : Nat} {sp : Sp} (F : FunD K x qual st f fd t) (S : FnScope N ps (defScope st)) (len : ∀ vs H Q E, sp vs H Q E → vs.length = ps.length)
    (hbody : ∀ (cdv : Value) (A : Around) (outer : List Env) (s : Shared) (H : Hp) (vs : List V) (Q : VK) (E : XK), Room k (A.deeper (envOfC qual (defScope st) s.heap.objs.size f cdv)) → sp vs H Q E →
      ∃ t, PSs (cxOf CX0 P w K mg base N qual (defScope st) f cdv A outer s H E).nox (defBody st) t ∧ t { nx := fun _ H' => Q .non H', rt := Q } (start N vs) H) : FnOk P w K mg base CX0 (k + 1) f fd ps sp := by
  obtain ⟨oc, od, kV, doc, pm, an, cdv, ct, osl, rfl, lk, hcd⟩ := F.ex
  refine fn_of lk hcd S len fun A outer s H vs Q E hr hsp => ?_
  obtain ⟨t, h, q⟩ := hbody cdv A outer s H vs Q E hr hsp
  exact ⟨t, h.nox, q⟩
theorem pcallD {X : Cx} {k : Nat} {x : Str} {ps : List Str} {sp : Sp} {p pos : Pos} {e : Expr} {es : List Expr} {t : TA} (D : Dfn X.prog X.w X.K X.mg X.base k x ps [.none] sp) {j : Nat} (hr : Room j X.A) (ha : PA X (e :: es) t) (hj : k ≤ j := by decide) (hg : Gl X x := by rfl)
    (hdb : (x == ("__debug__" : Str)) = false := by decide) (he : starEach (e :: es) X.env = (false, eval e X.env) :: starEach es X.env := by rfl) (hpl : (backTo pos (starEach es X.env)).any (·.1) = false := by rfl) :
    PE X (.Call (.Name x p) (e :: es) [] pos) (tCall sp [.non] E0 t) := by
  obtain ⟨f, fd, h1, h2, h3, h4⟩ := D.ex
  exact pe_call h4 (hr.mono hj) hg h1 h2 h3 (.cons rfl .nil) pass0 ha hdb he hpl
/-! without -/
def spWithout (C : Addr) : Sp := fun vs H Q _ => ∃ (x : Addr) (r : Nat) (kd : Tote.Kind) (k : Nat) (ls : List (List Nat)), vs = [.ref x, .int (r : Nat)] ∧ PlAt C H x kd k ls ∧ Tc.WF kd k ls ∧ ∀ (H' : Hp) (y : Addr), Same H H' → PlAt C H' y kd k (Tc.wo r ls) → Q (.ref y) H'
abbrev nWithout : List Str := ["pool", "runner", "sets", "interests", "one"]
theorem scWithout : FnScope nWithout ["pool", "runner"] (defScope sWithout) := ⟨rfl, rfl, rfl, by decide +kernel, rfl, by decide +kernel, by decide +kernel⟩
theorem ok_without {f : Addr} {fd fdI : FuncData} (F : Fun K "without" "without" sWithout f fd) (T : PC0 K mg C fI) (FI : Fun K "__init__" "Pool.__init__" sPInit fI fdI) (bI : Binds K fdI ["self", "kind", "k", "sets"] []) : FnOk P w K mg base CX0 3 f fd ["pool", "runner"] (spWithout C) := by
  have GI : FnOk P w K mg base CX0 1 fI fdI ["self", "kind", "k", "sets"] (spPInit C) := ok_pinit FI T
  refine F.ok scWithout (fun vs H Q E h => ?_) (fun cdv A outer s H vs Q E hr h => ?_)
  · obtain ⟨x, r, kd, k, ls, rfl, _⟩ := h
    rfl
  · obtain ⟨x, r, kd, k, ls, rfl, hx, hw, q⟩ := h
    refine ⟨_, pss_cons (ps_set (i := 2) scWithout.nd rfl (Or.inl rfl) (pe_lst pa_nil))
      (pss_cons (ps_for PassesOwn.never rfl (pi_list (pe_fld (pv 0) rfl)) (pg_name (i := 3) scWithout.nd rfl (Or.inl rfl))
        (pss_one (ps_expr (pe_bm PySem.F.plainAttrs_list PySem.F.slot_list_append PySem.F.type_list_append mt_append (pv 2) (pa_cons (pe_lc (own := [("one", 4)]) rfl scWithout.nd (pi_list (pv 3)) (blk (N := nWithout) (sc := defScope sWithout) (by decide +kernel)) (fun _ _ _ _ _ => pg_name (i := 4) scWithout.nd rfl (Or.inl rfl)) (fun _ _ _ _ _ => pts_one (pt_cmpR op_ne (pv 4) (pv 1) (nomark _))) (fun _ _ _ _ _ => pv 4)) pa_nil)))))
      (pss_one (ps_ret (pe_make T.made GI hr rfl T.mgC bI .nil pass0 (pa_cons (pe_fld (pv 0) rfl) (pa_cons (pe_fld (pv 0) rfl) (pa_cons (pv 2) pa_nil))))))), ?_⟩
    have hsz : sizeLine = 16777216 := by decide
    have hx0 := hx
    obtain ⟨dx, l, hx1, as, hl, hp⟩ := hx
    have nas : as.length = ls.length := pair_len hp
    have n6 : ls.length ≤ 6 := by rw [hw.len]; have := hw.k6; split <;> omega
    refine ⟨Nat.zero_le _, fun st hst => ?_⟩
    have s1 := Same.new (o := HO.lst []) hst
    try dsimp only [gName, tSeq]
    have ys : ∀ (H' : Hp) (σ : L2.St), Same H H' → σ[0]? = some (some (.ref x)) → Yv (tFld K (tVar 0) "sets") σ H' (.ref l) := fun H' σ ss e => yv_fld (yv_v e) (ss _ _ hx1) T.cl T.nSets (pf_sets _ _ _)
    refine forL (K := K) (xs := as.map V.ref) (fun a H1 => a = l ∧ H1 = upd H st (HO.lst [])) (fun R rr => by dsimp only [iList]; exact ys _ _ s1 rfl _ ⟨l, rfl, ⟨_, SqL.of (s1 _ _ hl)⟩, rr l _ ⟨rfl, rfl⟩⟩)
      (fun a H1 i σ H' => ∃ (v3 v4 : Option V) (bs : List Addr), σ = [some (.ref x), some (.int (r : Nat)), some (.ref st), v3, v4] ∧ Same H H' ∧ H' st = some (.lst (bs.map V.ref)) ∧ Paired (IX (off st H')) bs (Tc.wo r (ls.take i)))
      (fun a H1 c => ⟨none, none, [], rfl, by rw [c.2]; exact s1, by rw [c.2, upd_same]; rfl, .nil⟩) (fun a H1 c i σ H' hi ⟨v3, v4, bs, e, ss, _⟩ => by rw [c.1]; exact SqL.of (ss _ _ hl)) ?_ ?_
    · rintro a H1 c i y σ H' hi ⟨v3, v4, bs, rfl, ss, hb, hpb⟩
      rw [List.getElem?_map] at hi
      obtain ⟨c1, hc1, rfl⟩ : ∃ c1, as[i]? = some c1 ∧ y = V.ref c1 := by
        cases ec : as[i]? with
        | none => rw [ec] at hi; cases hi
        | some c1 => rw [ec] at hi; exact ⟨c1, rfl, (Option.some.inj hi).symm⟩
      obtain ⟨sx, hs1, hs2⟩ := pair_get2 hp i c1 hc1
      have s24 := hw.small sx (List.mem_of_getElem? hs1)
      have hcx : H' c1 = some (.lst (nats sx)) := ss _ _ hs2
      have hbl : bs.length ≤ 6 := by
        have e := pair_len hpb
        unfold Tc.wo at e
        rw [List.length_map, List.length_take] at e
        omega
      refine ⟨_, rfl, .inl ⟨rfl, _, SqL.of hb⟩, ?_⟩
      try dsimp only [tCons]
      refine lcl (K := K) (a := c1) (xs := nats sx) (fun R rr => ⟨_, rfl, c1, rfl, ⟨_, SqL.of hcx⟩, rr⟩) sx (fun n => !decide (n = r)) id (fun _ v n => v = V.int (n : Nat)) (fun _ _ _ _ _ rr => rr) (SqL.of hcx) (by simp) (by omega) (fun D hD j y d H2 acc Yes No hy0 hd s2 hacc hy hn => ?_) (fun D hD H2 ys2 s2 hD2 hp2 => ?_)
      · rw [List.getElem?_map, hd] at hy0
        obtain rfl : V.int (d : Nat) = y := Option.some.inj hy0
        have e1 : decide (((d : Nat) : Int) = ((r : Nat) : Int)) = decide (d = r) := by rw [decide_eq_decide]; omega
        refine ⟨rfl, (yt_T (yv_neI (i := ((d : Nat) : Int)) (j := ((r : Nat) : Int)) (yv_v rfl) (yv_v rfl))) _ ?_⟩
        rw [e1]
        refine iteB (fun z => ?_) (fun z => ?_)
        · exact ⟨_, rfl, hy z _ _ (Same.refl _) rfl⟩
        · exact hn z _ (Same.refl _)
      · have ey := pair_eq (f := fun n : Nat => V.int (n : Nat)) hp2
        rw [List.map_id] at ey
        subst ey
        have nDs : D ≠ st := fun e => by rw [e, hb] at hD; cases hD
        refine ⟨st, _, _, rfl, rfl, s2 _ _ hb, by rw [List.length_map]; omega, ?_⟩
        refine ⟨some (.ref c1), v4, bs ++ [D], rfl, Same.put hst (ss.trans s2), by rw [upd_same, List.map_append]; rfl, ?_⟩
        have et : Tc.wo r (ls.take (i + 1)) = Tc.wo r (ls.take i) ++ [sx.filter fun x => !decide (x = r)] := by
          unfold Tc.wo
          rw [take_snoc hs1, List.map_append]
          rfl
        rw [et]
        refine pair_snoc (pair_imp (fun _ _ z => IX.mono _ _ _ _ ((off_mono s2).trans off_put) z) hpb) ?_
        exact off_put _ _ (off_get hD2 nDs)
    · rintro a H1 c σ H' ⟨v3, v4, bs, rfl, ss, hb, hpb⟩
      rw [List.length_map, nas, List.take_length] at hpb
      try dsimp only [tRet, tMake, tCons]
      have hx2 := hx0.mono ss
      refine (yv_kind (K := K) T (yv_v rfl) hx2) _ ((yv_k (K := K) T (yv_v rfl) hx2) _ ⟨_, rfl, ?_⟩)
      intro y dy hy hdy hne
      refine ⟨y, dy, _, _, _, rfl, upd_same, fun H3 hy3 kp => ⟨rfl, ?_⟩⟩
      have s3 : Same H' H3 := Same.made hy hdy kp
      exact q H3 y (ss.trans s3) ⟨dy, st, hy3, bs, s3 _ _ hb, pair_imp (fun _ _ z => IX.mono _ _ _ _ (off_same.trans s3) z) hpb⟩
/-! count_with -/
def spCWith (K : PySem.W.Frag) (C : Addr) : Sp := fun vs H Q _ => ∃ (x g : Addr) (rn : Option Nat) (kd : Tote.Kind) (k : Nat) (ls : List (List Nat)) (b : List Nat), vs = [.ref x, .ref g, rnV rn] ∧ PlAt C H x kd k ls ∧ Tc.WF kd k ls ∧ SqL K H g (nats b) ∧ b.length ≤ Tc.lenOf kd k ∧
  ∀ (H' : Hp), Same H H' → Q (.int (Tc.cw kd k ls rn b)) H'
abbrev nCWith : List Str := ["pool", "begun", "runner", "total"]
theorem scCWith : FnScope nCWith ["pool", "begun", "runner"] (defScope sCWith) := ⟨rfl, rfl, rfl, by decide +kernel, rfl, by decide +kernel, by decide +kernel⟩
theorem ok_cwith {f : Addr} {fd : FuncData} (F : Fun K "count_with" "count_with" sCWith f fd) (DC : Dfn P w K mg base 2 "count_from" ["pool", "begun"] [] (spCFrom K C)) (DW : Dfn P w K mg base 3 "without" ["pool", "runner"] [] (spWithout C)) : FnOk P w K mg base CX0 4 f fd ["pool", "begun", "runner"] (spCWith K C) := by
  refine F.ok scCWith (fun vs H Q E h => ?_) (fun cdv A outer s H vs Q E hr h => ?_)
  · obtain ⟨x, g, rn, kd, k, ls, b, rfl, _⟩ := h
    rfl
  · obtain ⟨x, g, rn, kd, k, ls, b, rfl, hx, hw, hg, hbl, q⟩ := h
    refine ⟨_, pss_cons (ps_set (i := 3) scCWith.nd rfl (Or.inl rfl) (pcall DC hr (pa_cons (pv 0) (pa_cons (pv 1) pa_nil))))
      (pss_cons (ps_if (PW.pt (pw_or (pt_cmp (pc_isN (pv 2))) (pw_or1 (pt_cmpR op_in_seq (pv 2) (pv 1) (by with_unfolding_all rfl))))) (pss_one (ps_ret (pv 3))) pss_nil)
      (pss_one (ps_ret (pe_op op_sub (pv 3) (pcall DC hr (pa_cons (pcall DW hr (pa_cons (pv 0) (pa_cons (pv 2) pa_nil))) (pa_cons (pv 1) pa_nil))))))), ?_⟩
    refine ⟨_, rfl, _, rfl, x, g, kd, k, ls, b, rfl, hx, hw, hg, hbl, fun H1 s1 => ?_⟩
    try dsimp only [gName, tSeq, tIfS, tOr]
    cases rn with
    | none =>
      refine ⟨_, rfl, _, rfl, ?_⟩
      exact ⟨_, rfl, q _ s1⟩
    | some r =>
      refine ⟨_, rfl, _, rfl, ?_⟩
      refine (yt_T (yv_in (x := r) (yv_v rfl) (yv_v rfl) (s1.seq hg))) _ ?_
      have ecw : Tc.cw kd k ls (some r) b = if b.contains r = true then ((Tc.cnt kd k ls b : Nat) : Int) else ((Tc.cnt kd k ls b : Nat) : Int) - ((Tc.cnt kd k (Tc.wo r ls) b : Nat) : Int) := rfl
      rw [ecw] at q
      refine iteB (fun z => ?_) (fun z => ?_)
      · rw [if_pos z] at q
        exact ⟨_, rfl, q _ s1⟩
      · rw [if_neg (by rw [z]; exact Bool.false_ne_true)] at q
        try dsimp only [tNext, tRet]
        refine ⟨_, rfl, _, rfl, _, rfl, x, r, kd, k, ls, rfl, hx.mono s1, hw, fun H2 y s2 hy => ?_⟩
        refine ⟨_, rfl, y, g, kd, k, Tc.wo r ls, b, rfl, hy, hw.wo r, (s1.trans s2).seq hg, hbl, fun H3 s3 => ?_⟩
        exact ⟨_, _, rfl, rfl, q _ (s1.trans (s2.trans s3))⟩
end
end Tp
end
section
set_option Elab.async false
set_option linter.all false
set_option maxRecDepth 100000
set_option maxHeartbeats 2000000
namespace Tp
open PySem PySem.Spec PyProof.Rows L2
section
variable {P : Program} {w : World} {K : PySem.W.Frag} {mg : Str → Option Value} {base : Heap} {tk : Tote.Kind → Addr} {dB dF tN C fI : Addr}
theorem forR {lo : Int} {n : Nat} {wi : TI} {g : TG} {tb : TS} {D : Ends} {σ : L2.St} {H H1 : Hp} (hi : ∀ R : It → Hp → Prop, R (Itr lo n) H1 → wi σ H R) (Pv : Nat → L2.St → Hp → Prop) (h0 : Pv 0 σ H1)
    (hs : ∀ i σ H, i < n → Pv i σ H → g (.int (lo + (i : Nat))) σ H fun σ2 H2 => tb { D with nx := Pv (i + 1), ct := Pv (i + 1), bk := D.nx } σ2 H2) (hd : ∀ σ H, Pv n σ H → D.nx σ H) : tFor wi g tb D σ H := hi _ (for_range Pv h0 hs hd)
theorem cut_upto (xs : List V) (n : Nat) : cutV xs none (some ((n : Nat) : Int)) = xs.take n := by
  unfold cutV
  rw [HT.sIx_nat, HT.sIx_none, List.drop_zero, Nat.sub_zero]
  by_cases h : n ≤ xs.length
  · have e : min n xs.length = n := by omega
    rw [e]
  · rw [List.take_of_length_le (by omega), List.take_of_length_le (by omega)]
theorem wf_len {kd : Tote.Kind} {k : Nat} {ls : List (List Nat)} (hw : Tc.WF kd k ls) : (kd = .place ∨ kd = .legs) → ls.length = Tc.lenOf kd k := by
  intro h
  rw [hw.len]
  rcases h with rfl | rfl
  · rfl
  · rfl
end
end Tp
end
section
set_option Elab.async false
set_option linter.all false
set_option maxRecDepth 100000
set_option maxHeartbeats 2000000
namespace Tp
open PySem PySem.Spec PyProof.Rows L2
section
variable {P : Program} {w : World} {K : PySem.W.Frag} {mg : Str → Option Value} {base : Heap} {tk : Tote.Kind → Addr} {dB dF tN C fI : Addr}
def spCBef (K : PySem.W.Frag) (C : Addr) : Sp := fun vs H Q _ => ∃ (x g : Addr) (rn : Option Nat) (kd : Tote.Kind) (k : Nat) (ls : List (List Nat)) (row : List Nat), vs = [.ref x, .ref g, rnV rn] ∧ PlAt C H x kd k ls ∧ Tc.WF kd k ls ∧ SqL K H g (nats row) ∧ row.length = Tc.lenOf kd k ∧
  ∀ (H' : Hp), Same H H' → Q (.int (Tc.sbw kd k ls rn [] row)) H'
abbrev nCBef : List Str := ["pool", "row", "runner", "total", "at", "begun", "one"]
theorem scCBef : FnScope nCBef ["pool", "row", "runner"] (defScope sCBef) := ⟨rfl, rfl, rfl, by decide +kernel, rfl, by decide +kernel, by decide +kernel⟩
theorem ok_cbef {f t : Addr} {fd : FuncData} (F : FunD K "count_before" "count_before" sCBef f fd t) (G : Gw mg) (DF : Dfn P w K mg base 1 "followers_of" ["pool", "begun"] [] (spFol K C)) (DW : Dfn P w K mg base 4 "count_with" ["pool", "begun", "runner"] [] (spCWith K C)) : FnOk P w K mg base CX0 5 f fd ["pool", "row", "runner"] (spCBef K C) := by
  refine F.ok scCBef (fun vs H Q E h => ?_) (fun cdv A outer s H vs Q E hr h => ?_)
  · obtain ⟨x, g, rn, kd, k, ls, row, rfl, _⟩ := h
    rfl
  · obtain ⟨x, g, rn, kd, k, ls, row, rfl, hx, hw, hg, hrl, q⟩ := h
    refine ⟨_, pss_cons (ps_set (i := 3) scCBef.nd rfl (Or.inl rfl) pe_int)
      (pss_cons (ps_for PassesOwn.never rfl (pi_range1 rfl G.range (pa_cons (pe_callB call_len_seq rfl G.len PySem.boot_len (pa_cons (pv 1) pa_nil)) pa_nil)) (pg_name (i := 4) scCBef.nd rfl (Or.inl rfl))
        (pss_cons (ps_set (i := 5) scCBef.nd rfl (Or.inl rfl) (pe_slice sl_list (pv 1) po_none (po_some (pv 4))))
        (pss_one (ps_for PassesOwn.never rfl (pi_list (pcall DF hr (pa_cons (pv 0) (pa_cons (pv 5) pa_nil)))) (pg_name (i := 6) scCBef.nd rfl (Or.inl rfl))
          (pss_one (ps_if (pt_cmpR op_lt (pv 6) (pe_ix ix_list (pv 1) (pv 4) (fun _ _ => rfl)) (nomark _)) (pss_one (ps_aug (i := 3) scCBef.nd rfl (Or.inl rfl) (pcall DW hr (pa_cons (pv 0) (pa_cons (pe_op op_cat (pv 5) (pe_lst (pa_cons (pv 6) pa_nil))) (pa_cons (pv 2) pa_nil)))) ip_add)) pss_nil))))))
      (pss_one (ps_ret (pv 3)))), ?_⟩
    have hsz : sizeLine = 16777216 := by decide
    have hlk : Tc.lenOf kd k ≤ 6 := by have := hw.k6; unfold Tc.lenOf; split <;> omega
    have yl := yv_len (K := K) (ta := tVar 1) (σ := (start nCBef [V.ref x, V.ref g, rnV rn]).set 3 (some (.int 0))) (yv_v rfl) hg
    rw [List.length_map] at yl
    try dsimp only [gName, tSeq, tAsg, tC]
    refine forR (lo := 0) (n := row.length) (H1 := H) (fun R r => (ya1 yl) _ ⟨((row.length : Nat) : Int), rfl, by omega, by omega, by rw [show ((row.length : Nat) : Int).toNat = row.length from by omega]; exact r⟩)
      (fun i σ H' => ∃ (T : Int) (v4 v5 v6 : Option V), σ = [some (.ref x), some (.ref g), some (rnV rn), some (.int T), v4, v5, v6] ∧ Same H H' ∧ Tc.sbw kd k ls rn [] row = T + Tc.sbw kd k ls rn (row.take i) (row.drop i))
      ⟨0, none, none, none, rfl, Same.refl _, by simp⟩ ?_ ?_
    · rintro i σ H' hi ⟨T, v4, v5, v6, rfl, ss, hT⟩
      have e0 : (0 : Int) + (i : Nat) = ((i : Nat) : Int) := by omega
      rw [e0]
      have hri : row[i]? = some row[i] := List.getElem?_eq_getElem hi
      have edr : row.drop i = row[i] :: row.drop (i + 1) := List.drop_eq_getElem_cons hi
      have hg1 := ss.seq hg
      try dsimp only [gName, tSeq, tAsg]
      refine ysl (K := K) (yv_v rfl) yo_no (yo_some (yv_v rfl)) hg1 fun bg hbg => ?_
      have s2 := Same.new (o := HO.lst (cutV (nats row) none (some ((i : Nat) : Int)))) hbg
      have hB : (upd H' bg (HO.lst (cutV (nats row) none (some ((i : Nat) : Int))))) bg = some (.lst (nats (row.take i))) := by
        rw [upd_same, cut_upto]
        unfold nats
        rw [List.map_take]
      generalize upd H' bg _ = H2 at s2 hB ⊢
      have s02 := ss.trans s2
      have btl : (row.take i).length = i := by rw [List.length_take]; omega
      refine forL (K := K) (xs := nats (Tc.fol kd ls (row.take i))) (fun l H3 => Same H2 H3 ∧ H3 l = some (.lst (nats (Tc.fol kd ls (row.take i)))))
        (fun R r => by
          dsimp only [iList]
          refine (ya2 (yv_v rfl) (yv_v rfl)) _ ⟨x, bg, kd, k, ls, row.take i, rfl, hx.mono s02, hw, SqL.of hB, fun hpl => by rw [btl, wf_len hw hpl, ← hrl]; exact hi, fun H3 l s3 hl3 => ⟨l, rfl, ⟨_, SqL.of hl3⟩, r l H3 ⟨s3, hl3⟩⟩⟩)
        (fun l H3 j σ H4 => ∃ (v6 : Option V), σ = [some (.ref x), some (.ref g), some (rnV rn), some (.int (T + ((((Tc.fol kd ls (row.take i)).take j).filter fun y => decide (y < row[i])).map fun y => Tc.cw kd k ls rn (row.take i ++ [y])).sum)), some (.int ((i : Nat) : Int)), some (.ref bg), v6] ∧ Same H3 H4)
        (fun l H3 c => ⟨v6, by simp, Same.refl _⟩) (fun l H3 c j σ H4 hj ⟨v6, _, s4⟩ => SqL.of (s4 _ _ c.2)) ?_ ?_
      · rintro l H3 ⟨s3, hl3⟩ j y σ H4 hj ⟨v6, rfl, s4⟩
        rw [List.getElem?_map] at hj
        obtain ⟨o, ho, rfl⟩ : ∃ o, (Tc.fol kd ls (row.take i))[j]? = some o ∧ y = V.int (o : Nat) := by
          cases ec : (Tc.fol kd ls (row.take i))[j]? with
          | none => rw [ec] at hj; cases hj
          | some o => rw [ec] at hj; exact ⟨o, rfl, (Option.some.inj hj).symm⟩
        have s24 := s3.trans s4
        have s04 := s02.trans s24
        try dsimp only [gName, tIfS]
        refine (yt_T (yv_i0 (i := ((o : Nat) : Int)) (j := ((row[i] : Nat) : Int)) (g := fun i j => V.bl (decide (i < j))) (yv_v rfl) (yv_at (K := K) (yv_v rfl) (s04.seq hg) (yv_v rfl) (atI_nat (by rw [List.getElem?_map, hri]; rfl))))) _ ?_
        have e1 : decide (((o : Nat) : Int) < ((row[i] : Nat) : Int)) = decide (o < row[i]) := by rw [decide_eq_decide]; omega
        rw [e1]
        have et := take_snoc ho
        refine iteB (fun z => ?_) (fun z => ?_)
        · refine ⟨_, rfl, _, rfl, _, rfl, _, rfl, (by show 1 ≤ sizeLine; decide), fun p1 hp1 => ?_⟩
          have s5 := Same.new (o := HO.lst [V.int ((o : Nat) : Int)]) hp1
          refine ⟨bg, p1, _, _, rfl, rfl, s5 _ _ (s24 _ _ hB), upd_same, by rw [List.length_map, btl]; simp; omega, fun p2 hp2 => ?_⟩
          have s6 := Same.new (o := HO.lst (nats (row.take i) ++ [V.int ((o : Nat) : Int)])) hp2
          refine ⟨_, rfl, x, p2, rn, kd, k, ls, row.take i ++ [o], rfl, hx.mono (s04.trans (s5.trans s6)), hw, SqL.of ?_, by rw [List.length_append, btl]; simp; omega, fun H7 s7 => ?_⟩
          · rw [upd_same]
            unfold nats
            rw [List.map_append]
            rfl
          · refine ⟨_, _, rfl, rfl, some (.int ((o : Nat) : Int)), ?_, s4.trans (s5.trans (s6.trans s7))⟩
            rw [et, List.filter_append, List.map_append, List.sum_append]
            have e2 : (([o] : List Nat).filter fun y => decide (y < row[i])) = [o] := by simp [of_decide_eq_true z]
            rw [e2]
            simp only [List.map_cons, List.map_nil, List.sum_cons, List.sum_nil, Int.add_zero]
            rw [← Int.add_assoc]
            rfl
        · refine ⟨some (.int ((o : Nat) : Int)), ?_, s4⟩
          rw [et, List.filter_append]
          have e2 : (([o] : List Nat).filter fun y => decide (y < row[i])) = [] := by simp; exact Nat.not_lt.mp (of_decide_eq_false z)
          rw [e2, List.append_nil]
          rfl
      · rintro l H3 ⟨s3, hl3⟩ σ H4 ⟨v6, rfl, s4⟩
        refine ⟨_, _, _, _, rfl, s02.trans (s3.trans s4), ?_⟩
        rw [List.length_map, List.take_length, hT, edr, take_snoc hri]
        show T + ((((Tc.fol kd ls (row.take i)).filter fun y => decide (y < row[i])).map fun y => Tc.cw kd k ls rn (row.take i ++ [y])).sum + Tc.sbw kd k ls rn (row.take i ++ [row[i]]) (row.drop (i + 1))) = _
        rw [Int.add_assoc]
    · rintro σ H' ⟨T, v4, v5, v6, rfl, ss, hT⟩
      rw [List.drop_length] at hT
      have e : Tc.sbw kd k ls rn [] row = T := by
        rw [hT]
        show T + 0 = T
        exact Int.add_zero _
      rw [e] at q
      exact ⟨_, rfl, q _ ss⟩
end
end Tp
end
section
set_option Elab.async false
set_option linter.all false
set_option maxRecDepth 100000
set_option maxHeartbeats 2000000
namespace Tp
open PySem PySem.Spec PyProof.Rows L2
abbrev sRowAt : Stmt := top 60
section
variable {P : Program} {w : World} {K : PySem.W.Frag} {mg : Str → Option Value} {base : Heap} {tk : Tote.Kind → Addr} {dB dF tN C fI : Addr}
def spRowAt (K : PySem.W.Frag) (C : Addr) : Sp := fun vs H Q _ => ∃ (x : Addr) (n : Int) (rn : Option Nat) (kd : Tote.Kind) (k : Nat) (ls : List (List Nat)), vs = [.ref x, .int n, rnV rn] ∧ PlAt C H x kd k ls ∧ Tc.WF kd k ls ∧ (Tc.rowW kd k ls rn (Tc.lenOf kd k) [] n).length = Tc.lenOf kd k ∧
  ∀ (H' : Hp) (l : Addr), Same H H' → H' l = some (.lst (nats (Tc.rowW kd k ls rn (Tc.lenOf kd k) [] n))) → Q (.ref l) H'
abbrev nRowAt : List Str := ["pool", "place", "runner", "row", "left", "at", "begun", "one", "count"]
theorem scRowAt : FnScope nRowAt ["pool", "place", "runner"] (defScope sRowAt) := ⟨rfl, rfl, rfl, by decide +kernel, rfl, by decide +kernel, by decide +kernel⟩
theorem ok_rowat {f t : Addr} {fd : FuncData} (F : FunD K "row_at" "row_at" sRowAt f fd t) (G : Gw mg) (DL : Dfn P w K mg base 1 "length_of" ["pool"] [] (spLen C)) (DF : Dfn P w K mg base 1 "followers_of" ["pool", "begun"] [] (spFol K C)) (DW : Dfn P w K mg base 4 "count_with" ["pool", "begun", "runner"] [] (spCWith K C)) : FnOk P w K mg base CX0 5 f fd ["pool", "place", "runner"] (spRowAt K C) := by
  refine F.ok scRowAt (fun vs H Q E h => ?_) (fun cdv A outer s H vs Q E hr h => ?_)
  · obtain ⟨x, n, rn, kd, k, ls, rfl, _⟩ := h
    rfl
  · obtain ⟨x, n, rn, kd, k, ls, rfl, hx, hw, hlen, q⟩ := h
    refine ⟨_, pss_cons (ps_set (i := 3) scRowAt.nd rfl (Or.inl rfl) (pe_lst pa_nil))
      (pss_cons (ps_set (i := 4) scRowAt.nd rfl (Or.inl rfl) (pv 1))
      (pss_cons (ps_for PassesOwn.never rfl (pi_range1 rfl G.range (pa_cons (pcall DL hr (pa_cons (pv 0) pa_nil)) pa_nil)) (pg_name (i := 5) scRowAt.nd rfl (Or.inl rfl))
        (pss_cons (ps_set (i := 6) scRowAt.nd rfl (Or.inl rfl) (pv 3))
        (pss_one (ps_for PassesOwn.never rfl (pi_list (pcall DF hr (pa_cons (pv 0) (pa_cons (pv 6) pa_nil)))) (pg_name (i := 7) scRowAt.nd rfl (Or.inl rfl))
          (pss_cons (ps_set (i := 8) scRowAt.nd rfl (Or.inl rfl) (pcall DW hr (pa_cons (pv 0) (pa_cons (pe_op op_cat (pv 6) (pe_lst (pa_cons (pv 7) pa_nil))) (pa_cons (pv 2) pa_nil)))))
          (pss_cons (ps_if (pt_cmpR op_lt (pv 4) (pv 8) (nomark _)) (pss_cons (ps_set (i := 3) scRowAt.nd rfl (Or.inl rfl) (pe_op op_cat (pv 6) (pe_lst (pa_cons (pv 7) pa_nil)))) (pss_one ps_break)) pss_nil)
          (pss_one (ps_aug (i := 4) scRowAt.nd rfl (Or.inl rfl) (pv 8) ip_sub))))))))
      (pss_one (ps_ret (pv 3))))), ?_⟩
    have hsz : sizeLine = 16777216 := by decide
    have hlk : Tc.lenOf kd k ≤ 6 := by have := hw.k6; unfold Tc.lenOf; split <;> omega
    refine ⟨Nat.zero_le _, fun r0 hr0 => ?_⟩
    have s1 := Same.new (o := HO.lst []) hr0
    try dsimp only [gName, tSeq, tAsg]
    refine ⟨_, rfl, ?_⟩
    have hx1 := hx.mono s1
    refine forR (lo := 0) (n := Tc.lenOf kd k) (H1 := upd H r0 (.lst [])) (fun R r => ⟨_, rfl, x, kd, k, ls, rfl, hx1, ((Tc.lenOf kd k : Nat) : Int), rfl, by omega, by omega, by rw [show ((Tc.lenOf kd k : Nat) : Int).toNat = Tc.lenOf kd k from by omega]; exact r⟩)
      (fun i σ H' => ∃ (b : List Nat) (bg : Addr) (m : Int) (v5 v6 v7 v8 : Option V), σ = [some (.ref x), some (.int n), some (rnV rn), some (.ref bg), some (.int m), v5, v6, v7, v8] ∧ Same H H' ∧ H' bg = some (.lst (nats b)) ∧ b.length = i ∧
        Tc.rowW kd k ls rn (Tc.lenOf kd k) [] n = b ++ Tc.rowW kd k ls rn (Tc.lenOf kd k - i) b m ∧ (Tc.rowW kd k ls rn (Tc.lenOf kd k - i) b m).length = Tc.lenOf kd k - i)
      ⟨[], r0, n, none, none, none, none, rfl, s1, upd_same, rfl, rfl, hlen⟩ ?_ ?_
    · rintro i σ H' hi ⟨b, bg, m, v5, v6, v7, v8, rfl, ss, hb, hbl, hrow, hrl⟩
      have e0 : (0 : Int) + (i : Nat) = ((i : Nat) : Int) := by omega
      rw [e0]
      have ed : Tc.lenOf kd k - i = (Tc.lenOf kd k - (i + 1)) + 1 := by omega
      rw [ed] at hrow hrl
      unfold Tc.rowW at hrl
      cases hpk : Tc.pickI (fun y => Tc.cw kd k ls rn (b ++ [y])) (Tc.fol kd ls b) m with
      | none => rw [hpk] at hrl; simp at hrl
      | some q0 =>
      obtain ⟨y, m'⟩ := q0
      rw [hpk] at hrl
      have hrl : (Tc.rowW kd k ls rn (Tc.lenOf kd k - (i + 1)) (b ++ [y]) m').length + 1 = Tc.lenOf kd k - (i + 1) + 1 := hrl
      have ew : Tc.rowW kd k ls rn (Tc.lenOf kd k - (i + 1) + 1) b m = y :: Tc.rowW kd k ls rn (Tc.lenOf kd k - (i + 1)) (b ++ [y]) m' := by
        show (match Tc.pickI (fun y => Tc.cw kd k ls rn (b ++ [y])) (Tc.fol kd ls b) m with | none => [] | some (y, m) => y :: Tc.rowW kd k ls rn (Tc.lenOf kd k - (i + 1)) (b ++ [y]) m) = _
        rw [hpk]
      rw [ew] at hrow
      try dsimp only [gName, tSeq, tAsg]
      refine ⟨_, rfl, ?_⟩
      refine forL (K := K) (xs := nats (Tc.fol kd ls b)) (fun l H3 => Same H' H3 ∧ H3 l = some (.lst (nats (Tc.fol kd ls b))))
        (fun R r => by
          dsimp only [iList]
          refine (ya2 (yv_v rfl) (yv_v rfl)) _ ⟨x, bg, kd, k, ls, b, rfl, hx.mono ss, hw, SqL.of hb, fun hpl => by rw [hbl, wf_len hw hpl]; exact hi, fun H3 l s3 hl3 => ⟨l, rfl, ⟨_, SqL.of hl3⟩, r l H3 ⟨s3, hl3⟩⟩⟩)
        (fun l H3 j σ H4 => ∃ (mj : Int) (v7 v8 : Option V), σ = [some (.ref x), some (.int n), some (rnV rn), some (.ref bg), some (.int mj), some (.int ((i : Nat) : Int)), some (.ref bg), v7, v8] ∧ Same H3 H4 ∧ Tc.pickI (fun y => Tc.cw kd k ls rn (b ++ [y])) ((Tc.fol kd ls b).drop j) mj = some (y, m'))
        (fun l H3 c => ⟨m, v7, v8, rfl, Same.refl _, hpk⟩) (fun l H3 c j σ H4 hj ⟨mj, v7, v8, _, s4, _⟩ => SqL.of (s4 _ _ c.2)) ?_ ?_
      · rintro l H3 ⟨s3, hl3⟩ j yv σ H4 hj ⟨mj, v7, v8, rfl, s4, hpj⟩
        rw [List.getElem?_map] at hj
        obtain ⟨o, ho, rfl⟩ : ∃ o, (Tc.fol kd ls b)[j]? = some o ∧ yv = V.int (o : Nat) := by
          cases ec : (Tc.fol kd ls b)[j]? with
          | none => rw [ec] at hj; cases hj
          | some o => rw [ec] at hj; exact ⟨o, rfl, (Option.some.inj hj).symm⟩
        obtain ⟨hjl, hje⟩ := List.getElem?_eq_some_iff.mp ho
        rw [List.drop_eq_getElem_cons hjl, hje] at hpj
        unfold Tc.pickI at hpj
        have s04 := ss.trans (s3.trans s4)
        have hb4 := (s3.trans s4) _ _ hb
        try dsimp only [gName, tSeq, tAsg, tIfS]
        refine ⟨_, rfl, _, rfl, _, rfl, (by show 1 ≤ sizeLine; decide), fun p1 hp1 => ?_⟩
        have s5 := Same.new (o := HO.lst [V.int ((o : Nat) : Int)]) hp1
        refine ⟨bg, p1, _, _, rfl, rfl, s5 _ _ hb4, upd_same, by rw [List.length_map, hbl]; simp; omega, fun p2 hp2 => ?_⟩
        have s6 := Same.new (o := HO.lst (nats b ++ [V.int ((o : Nat) : Int)])) hp2
        refine ⟨_, rfl, x, p2, rn, kd, k, ls, b ++ [o], rfl, hx.mono (s04.trans (s5.trans s6)), hw, SqL.of ?_, by rw [List.length_append, hbl]; simp; omega, fun H7 s7 => ?_⟩
        · rw [upd_same]
          unfold nats
          rw [List.map_append]
          rfl
        · have s47 := s5.trans (s6.trans s7)
          refine (yt_T (yv_i0 (i := mj) (j := Tc.cw kd k ls rn (b ++ [o])) (g := fun i j => V.bl (decide (i < j))) (yv_v rfl) (yv_v rfl))) _ ?_
          refine ite2 (fun z => ?_) (fun z => ?_)
          · have z : mj < Tc.cw kd k ls rn (b ++ [o]) := of_decide_eq_true z
            rw [if_pos z] at hpj
            obtain ⟨rfl, rfl⟩ : o = y ∧ mj = m' := by cases hpj; exact ⟨rfl, rfl⟩
            have hb7 := s47 _ _ hb4
            refine ⟨_, rfl, _, rfl, (by show 1 ≤ sizeLine; decide), fun p3 hp3 => ?_⟩
            have s8 := Same.new (o := HO.lst [V.int ((o : Nat) : Int)]) hp3
            refine ⟨bg, p3, _, _, rfl, rfl, s8 _ _ hb7, upd_same, by rw [List.length_map, hbl]; simp; omega, fun p4 hp4 => ?_⟩
            have s9 := Same.new (o := HO.lst (nats b ++ [V.int ((o : Nat) : Int)])) hp4
            refine ⟨b ++ [o], p4, mj, _, _, _, _, rfl, s04.trans (s47.trans (s8.trans s9)), ?_, by rw [List.length_append, hbl]; rfl, ?_, by omega⟩
            · rw [upd_same]
              unfold nats
              rw [List.map_append]
              rfl
            · rw [hrow, List.append_assoc]
              rfl
          · have z : ¬ mj < Tc.cw kd k ls rn (b ++ [o]) := fun h => z (decide_eq_true h)
            rw [if_neg z] at hpj
            refine ⟨_, rfl, _, rfl, _, _, rfl, rfl, ?_⟩
            exact ⟨mj - Tc.cw kd k ls rn (b ++ [o]), _, _, rfl, s4.trans s47, hpj⟩
      · rintro l H3 ⟨s3, hl3⟩ σ H4 ⟨mj, v7, v8, rfl, s4, hpj⟩
        rw [List.length_map, List.drop_length] at hpj
        cases hpj
    · rintro σ H' ⟨b, bg, m, v5, v6, v7, v8, rfl, ss, hb, hbl, hrow, hrl⟩
      have e : Tc.rowW kd k ls rn (Tc.lenOf kd k) [] n = b := by
        rw [hrow, Nat.sub_self]
        show b ++ [] = b
        exact List.append_nil b
      rw [e] at q
      exact ⟨_, rfl, q _ bg ss hb⟩
end
end Tp
end
section
set_option Elab.async false
set_option linter.all false
set_option maxRecDepth 100000
set_option maxHeartbeats 2000000
namespace Tc
open Tote
/-- the second row that is looked up is there -/
theorem nxt_row {kd : Kind} {k : Nat} {ls : List (List Nat)} (hw : WF kd k ls) {s : Nat} (r : Nat) (hs : s < cnt kd k ls []) (hne : ¬ sbw kd k ls (some r) [] (rowW kd k ls none (lenOf kd k) [] (s : Nat)) = cw kd k ls (some r) []) :
    (rowW kd k ls (some r) (lenOf kd k) [] (sbw kd k ls (some r) [] (rowW kd k ls none (lenOf kd k) [] (s : Nat)))).length = lenOf kd k := by
  obtain ⟨f1, f2⟩ := nxt_facts hw r hs
  rw [f1, f2] at hne
  rw [f1]
  have hlt : (((enum kd ls (lenOf kd k) []).take s).filter fun t => t.contains r).length < ((enum kd ls (lenOf kd k) []).filter fun t => t.contains r).length := Nat.lt_of_le_of_ne (filter_take_le _ _ s) (fun e => hne (by rw [e]))
  obtain ⟨i, t, h1, h2, h3, h4, h5⟩ := pick_next (fun t : List Nat => t.contains r) _ s hlt
  rw [rowW_at hw (some r) (lenOf kd k) [] _ t (by simp) h4]
  have hi : i < cnt kd k ls [] := by rw [← enum_len hw (lenOf kd k) [] (by simp)]; exact (List.getElem?_eq_some_iff.mp h2).1
  have ht : rowG kd k ls (lenOf kd k) [] i = t := Option.some.inj ((enum_row hw hi).symm.trans h2)
  rw [← ht]
  exact rowG_len hw (lenOf kd k) [] i (by simp) hi
end Tc
namespace Tp
open PySem PySem.Spec PyProof.Rows L2
abbrev sNextW : Stmt := top 61
abbrev sNextOf : Stmt := top 70
section
variable {P : Program} {w : World} {K : PySem.W.Frag} {mg : Str → Option Value} {base : Heap} {tk : Tote.Kind → Addr} {dB dF tN C fI : Addr}
def optV : Option Int → V
  | none => .non
  | some i => .int i
def spNextW (K : PySem.W.Frag) (C : Addr) : Sp := fun vs H Q _ => ∃ (x : Addr) (st r : Nat) (kd : Tote.Kind) (k : Nat) (ls : List (List Nat)), vs = [.ref x, .int (st : Nat), .int (r : Nat)] ∧ PlAt C H x kd k ls ∧ Tc.WF kd k ls ∧ ∀ (H' : Hp), Same H H' → Q (optV (Tc.nxt kd k ls st r)) H'
abbrev nNextW : List Str := ["pool", "start", "runner", "before"]
theorem scNextW : FnScope nNextW ["pool", "start", "runner"] (defScope sNextW) := ⟨rfl, rfl, rfl, by decide +kernel, rfl, by decide +kernel, by decide +kernel⟩
theorem ok_nextw {f : Addr} {fd : FuncData} (F : Fun K "next_with" "next_with" sNextW f fd) (G : Gw mg) (DC : DCFrom P w K mg base C) (DW : Dfn P w K mg base 4 "count_with" ["pool", "begun", "runner"] [] (spCWith K C)) (DB : Dfn P w K mg base 5 "count_before" ["pool", "row", "runner"] [] (spCBef K C)) (DBD : Dfn P w K mg base 5 "count_before" ["pool", "row", "runner"] [.none] (spCBef K C))
    (DA : Dfn P w K mg base 5 "row_at" ["pool", "place", "runner"] [] (spRowAt K C)) (DAD : Dfn P w K mg base 5 "row_at" ["pool", "place", "runner"] [.none] (spRowAt K C)) : FnOk P w K mg base CX0 6 f fd ["pool", "start", "runner"] (spNextW K C) := by
  refine F.ok scNextW (fun vs H Q E h => ?_) (fun cdv A outer s H vs Q E hr h => ?_)
  · obtain ⟨x, st, r, kd, k, ls, rfl, _⟩ := h
    rfl
  · obtain ⟨x, st, r, kd, k, ls, rfl, hx, hw, q⟩ := h
    refine ⟨_, pss_cons (ps_if (pt_cmpR op_ge (pv 1) (pcall DC hr (pa_cons (pv 0) (pa_cons (pe_lst pa_nil) pa_nil))) (nomark _)) (pss_one (ps_ret pe_non)) pss_nil)
      (pss_cons (ps_set (i := 3) scNextW.nd rfl (Or.inl rfl) (pcall DB hr (pa_cons (pv 0) (pa_cons (pcallD DAD hr (pa_cons (pv 0) (pa_cons (pv 1) pa_nil))) (pa_cons (pv 2) pa_nil)))))
      (pss_cons (ps_if (pt_cmpR op_eq (pv 3) (pcall DW hr (pa_cons (pv 0) (pa_cons (pe_lst pa_nil) (pa_cons (pv 2) pa_nil)))) (nomark _)) (pss_one (ps_ret pe_non)) pss_nil)
      (pss_one (ps_ret (pcallD DBD hr (pa_cons (pv 0) (pa_cons (pcall DA hr (pa_cons (pv 0) (pa_cons (pv 3) (pa_cons (pv 2) pa_nil)))) pa_nil))))))), ?_⟩
    have hsz : sizeLine = 16777216 := by decide
    try dsimp only [tSeq, tIfS, tTest, tOp, tCall, tCons]
    refine ⟨_, rfl, _, rfl, Nat.zero_le _, fun g1 hg1 => ?_⟩
    have s1 := Same.new (o := HO.lst []) hg1
    refine ⟨x, g1, kd, k, ls, [], rfl, hx.mono s1, hw, SqL.of upd_same, Nat.zero_le _, fun H2 s2 => ?_⟩
    have s12 := s1.trans s2
    refine ⟨_, _, rfl, rfl, _, rfl, ?_⟩
    unfold Tc.nxt at q
    refine ite2 (fun z => ?_) (fun z => ?_)
    · have z : ((Tc.cnt kd k ls [] : Nat) : Int) ≤ ((st : Nat) : Int) := of_decide_eq_true z
      rw [if_pos (by omega)] at q
      exact q _ s12
    have z : ¬ ((Tc.cnt kd k ls [] : Nat) : Int) ≤ ((st : Nat) : Int) := fun h => z (decide_eq_true h)
    have hst : st < Tc.cnt kd k ls [] := by omega
    rw [if_neg (by omega)] at q
    have hlen1 : (Tc.rowW kd k ls none (Tc.lenOf kd k) [] ((st : Nat) : Int)).length = Tc.lenOf kd k := by rw [Tc.rowW_none]; exact Tc.rowG_len hw _ [] st (by simp) hst
    try dsimp only [tNext, tSeq, tAsg, tCall, tCons]
    refine ⟨_, rfl, _, rfl, _, rfl, x, ((st : Nat) : Int), none, kd, k, ls, rfl, hx.mono s12, hw, hlen1, fun H3 l3 s3 hl3 => ?_⟩
    have s13 := s12.trans s3
    refine ⟨_, rfl, x, l3, some r, kd, k, ls, _, rfl, hx.mono s13, hw, SqL.of hl3, hlen1, fun H4 s4 => ?_⟩
    have s14 := s13.trans s4
    try dsimp only [gName]
    refine ⟨_, rfl, _, rfl, Nat.zero_le _, fun g5 hg5 => ?_⟩
    have s5 := Same.new (o := HO.lst []) hg5
    refine ⟨_, rfl, x, g5, some r, kd, k, ls, [], rfl, hx.mono (s14.trans s5), hw, SqL.of upd_same, Nat.zero_le _, fun H6 s6 => ?_⟩
    have s16 := s14.trans (s5.trans s6)
    refine ⟨rfl, _, rfl, ?_⟩
    refine ite2 (fun z2 => ?_) (fun z2 => ?_)
    · have z2 := V.int.inj (of_decide_eq_true z2)
      rw [if_pos z2] at q
      exact q _ s16
    have z2 : ¬ Tc.sbw kd k ls (some r) [] (Tc.rowW kd k ls none (Tc.lenOf kd k) [] ((st : Nat) : Int)) = Tc.cw kd k ls (some r) [] := fun h => z2 (decide_eq_true (congrArg V.int h))
    rw [if_neg z2] at q
    have hlen2 := Tc.nxt_row hw r hst z2
    try dsimp only [tNext, tRet, tCall, tCons]
    refine ⟨_, rfl, _, rfl, _, rfl, _, rfl, x, _, some r, kd, k, ls, rfl, hx.mono s16, hw, hlen2, fun H7 l7 s7 hl7 => ?_⟩
    exact ⟨x, l7, none, kd, k, ls, _, rfl, hx.mono (s16.trans s7), hw, SqL.of hl7, hlen2, fun H8 s8 => q _ (s16.trans (s7.trans s8))⟩
def spNextOf (K : PySem.W.Frag) : Sp := fun vs H Q _ => ∃ (p m r : Int) (a : Addr) (ns : List Int), vs = [.int p, .int m, .int r, .ref a] ∧ 0 ≤ p ∧ 0 ≤ m ∧ 0 ≤ r ∧ SqL K H a (ns.map V.int) ∧ (∀ z ∈ ns, 0 ≤ z ∧ z ≤ 255) ∧ ns.length ≤ 66000 ∧ ∀ (H' : Hp) (l : Addr), H' l = some (.lst ((PyWqaqck.next_of p m r ns).map V.int)) → Q (.ref l) H'
abbrev nNextOf : List Str := ["pool", "number", "runner", "text", "pools", "refusal", "found"]
theorem scNextOf : FnScope nNextOf ["pool", "number", "runner", "text"] (defScope sNextOf) := ⟨rfl, rfl, rfl, by decide +kernel, rfl, by decide +kernel, by decide +kernel⟩
theorem ok_nextof {f : Addr} {fd : FuncData} (F : Fun K "next_of" "next_of" sNextOf f fd) (G : Gw mg) (gN : GI mg "NONE_SUCH" (-1)) (gT : GI mg "TOO_MANY" (-9)) (gM : GI mg "MOST_COMBINATIONS" 65536) (DR : DRead P w K mg base C) (DF : DRef P w K mg base) (DC : DCFrom P w K mg base C)
    (DX : Dfn P w K mg base 6 "next_with" ["pool", "start", "runner"] [] (spNextW K C)) : FnOk P w K mg base CX0 7 f fd ["pool", "number", "runner", "text"] (spNextOf K) := by
  refine F.ok scNextOf (fun vs H Q E h => ?_) (fun cdv A outer s H vs Q E hr h => ?_)
  · obtain ⟨p, m, r, a, ns, rfl, _⟩ := h
    rfl
  · obtain ⟨p, m, r, a, ns, rfl, hp0, hm0, hr0, ha, hb, hl, q⟩ := h
    obtain ⟨n, rfl⟩ : ∃ n : Nat, p = (n : Int) := ⟨p.toNat, by omega⟩
    obtain ⟨j, rfl⟩ : ∃ j : Nat, m = (j : Int) := ⟨m.toNat, by omega⟩
    obtain ⟨u, rfl⟩ : ∃ u : Nat, r = (u : Int) := ⟨r.toNat, by omega⟩
    have hans := Tc.next_ans (pool := ((n : Nat) : Int)) (s := ((j : Nat) : Int)) (r := ((u : Nat) : Int)) hb
    rw [show ((n : Nat) : Int).toNat = n from by omega, show ((j : Nat) : Int).toNat = j from by omega, show ((u : Nat) : Int).toNat = u from by omega] at hans
    rw [hans] at q
    refine ⟨_, pss_cons (ps_set (i := 4) scNextOf.nd rfl (Or.inl rfl) (pcall DR hr (pa_cons (pv 3) pa_nil)))
      (pss_cons (ps_set (i := 5) scNextOf.nd rfl (Or.inl rfl) (pcall DF hr (pa_cons (pv 0) (pa_cons (pv 3) (pa_cons (pv 4) pa_nil)))))
      (pss_cons (ps_if (pt_cmpR op_ne (pv 5) pe_int (nomark _)) (pss_one (ps_ret (pe_lst (pa_cons (pv 5) pa_nil)))) pss_nil)
      (pss_cons (ps_if (pt_cmpR op_gt (pcall DC hr (pa_cons (pe_ix ix_list (pv 4) (pv 0) (fun _ _ => rfl)) (pa_cons (pe_lst pa_nil) pa_nil))) (pgi gM) (nomark _)) (pss_one (ps_ret (pe_lst (pa_cons (pgi gT) pa_nil)))) pss_nil)
      (pss_cons (ps_set (i := 6) scNextOf.nd rfl (Or.inl rfl) (pcall DX hr (pa_cons (pe_ix ix_list (pv 4) (pv 0) (fun _ _ => rfl)) (pa_cons (pv 1) (pa_cons (pv 2) pa_nil)))))
      (pss_one (ps_ret (pe_ifExp (pt_cmp (pc_isN (pv 6))) (pe_lst (pa_cons (pgi gN) pa_nil)) (pe_lst (pa_cons pe_int (pa_cons (pv 6) pa_nil)))))))))), ?_⟩
    refine rd_head (K := K) (C := C) (ip := 0) (it := 3) (i2 := 4) (i3 := 5) (ns := ns) (p := n) (g := fun ws rr => Tc.nxAns (Tc.kdOf ws) (Tc.kOf ws) (Tc.setsOf ws rr) j u) (fun _ => rfl) rfl (fun _ => rfl) (fun _ => rfl) (fun _ _ => rfl) ha hb hl (fun c H' l e s1 hl1 => q H' l (by rw [e]; exact hl1)) (fun ws H1 l x as e hpool hrace s1 hl1 hx hP => ?_)
    rw [e] at q
    have hwf : Tc.WF (Tc.kdOf ws) (Tc.kOf ws) (Tc.setsOf ws (rrOf ns)) := Tc.wf_pool hrace hpool
    have hpl := hP.pl hpool
    have yx : ∀ (H' : Hp) (v : Option V), Same H1 H' → Yv (tOp (rIxL K) (tVar 4) (tVar 0)) [some (.int ((n : Nat) : Int)), some (.int ((j : Nat) : Int)), some (.int ((u : Nat) : Int)), some (.ref a), some (.ref l), some (.int 0), v] H' (.ref x) := fun H' v ss => yv_at (yv_v rfl) (SqL.of (ss _ _ hl1)) (yv_v rfl) (atI_nat (by rw [List.getElem?_map, hx]; rfl))
    try dsimp only [tSeq, tIfS, tTest, tCall, tCons]
    refine (yx H1 none (Same.refl _)) _ ⟨Nat.zero_le _, fun g hg => ?_⟩
    have s2 := Same.new (o := HO.lst []) hg
    refine ⟨x, g, Tc.kdOf ws, Tc.kOf ws, Tc.setsOf ws (rrOf ns), [], rfl, hpl.mono s2, hwf, SqL.of upd_same, Nat.zero_le _, fun H2 s3 => ?_⟩
    have s23 := s2.trans s3
    refine ⟨_, _, rfl, rfl, _, rfl, ?_⟩
    unfold Tc.nxAns at q
    refine ite2 (fun z => ?_) (fun z => ?_)
    · have z : (65536 : Int) < ((Tc.cnt (Tc.kdOf ws) (Tc.kOf ws) (Tc.setsOf ws (rrOf ns)) [] : Nat) : Int) := of_decide_eq_true z
      rw [if_pos (by omega)] at q
      refine ⟨(by show 1 ≤ sizeLine; decide), fun rr hr1 => q _ rr ?_⟩
      rw [upd_same]
      rfl
    · have z : ¬ (65536 : Int) < ((Tc.cnt (Tc.kdOf ws) (Tc.kOf ws) (Tc.setsOf ws (rrOf ns)) [] : Nat) : Int) := fun h => z (decide_eq_true h)
      rw [if_neg (by omega)] at q
      try dsimp only [tNext, tSeq, tAsg, tCall, tCons]
      refine (yx H2 none s23) _ ⟨_, rfl, _, rfl, x, j, u, Tc.kdOf ws, Tc.kOf ws, Tc.setsOf ws (rrOf ns), rfl, hpl.mono s23, hwf, fun H3 s4 => ?_⟩
      try dsimp only [gName, tRet, tIf]
      cases hn : Tc.nxt (Tc.kdOf ws) (Tc.kOf ws) (Tc.setsOf ws (rrOf ns)) j u with
      | none =>
        rw [hn] at q
        refine ⟨_, rfl, _, rfl, ?_⟩
        refine ⟨(by show 1 ≤ sizeLine; decide), fun rr hr1 => q _ rr ?_⟩
        rw [upd_same]
        rfl
      | some i =>
        rw [hn] at q
        refine ⟨_, rfl, _, rfl, ?_⟩
        refine ⟨_, rfl, (by show 2 ≤ sizeLine; decide), fun rr hr1 => q _ rr ?_⟩
        rw [upd_same]
        rfl
end
end Tp
end
set_option Elab.async false
set_option linter.all false
set_option maxRecDepth 100000
set_option maxHeartbeats 2000000
namespace Tp
open PySem PySem.Spec PyProof.Rows L2
open PySem.W (Codec)
theorem two_of {us : List Value} (h : (us ++ [Value.none]).length = 3) : ∃ a b, us = [a, b] := by
  match us, h with
  | [a, b], _ => exact ⟨a, b, rfl⟩
  | [], h => simp at h
  | [_], h => simp at h
  | _ :: _ :: _ :: _, h => simp at h
theorem all_mk {P : Program} {w : World} {K : PySem.W.Frag} {h : Heap} {mg : Str → Option Value} {fa : Addr} (X : K.In h) (G0 : h.Ns mainGlobals mg) (hfa : mg "next_of" = some (.ref fa))
    {f0 f1 f2 f3 f4 f5 f6 f7 f8 f9 f10 f11 f12 f13 f14 f15 f16 f17 f18 f19 f20 f21 f22 f23 f24 f25 f26 f27 f28 C fI dB dF tN t1 t2 t3 t4 : Addr}
    {od0 an0 od1 an1 od2 an2 od3 an3 od4 an4 od5 an5 od6 an6 od7 an7 od8 an8 od9 an9 od10 an10 od11 an11 od12 an12 od13 an13 od14 an14 od15 an15 od16 an16 od17 an17 od18 an18 od19 an19 od20 an20 od21 an21 od22 an22 od23 an23 od24 an24 od25 an25 od26 an26 od27 an27 od28 an28 odI anI : Option Addr}
    {sl0 sl1 sl2 sl3 sl4 sl5 sl6 sl7 sl8 sl9 sl10 sl11 sl12 sl13 sl14 sl15 sl16 sl17 sl18 sl19 sl20 sl21 sl22 sl23 sl24 sl25 sl26 sl27 sl28 slI : Array (Option Value)}
    {oc0 kV0 dc0 pm0 cd0 ct0 oc1 kV1 dc1 pm1 cd1 ct1 oc2 kV2 dc2 pm2 cd2 ct2 oc3 kV3 dc3 pm3 cd3 ct3 oc4 kV4 dc4 pm4 cd4 ct4 oc5 kV5 dc5 pm5 cd5 ct5 oc6 kV6 dc6 pm6 cd6 ct6 oc7 kV7 dc7 pm7 cd7 ct7 oc8 kV8 dc8 pm8 cd8 ct8 oc9 kV9 dc9 pm9 cd9 ct9 oc10 kV10 dc10 pm10 cd10 ct10 oc11 kV11 dc11 pm11 cd11 ct11 oc12 kV12 dc12 pm12 cd12 ct12 oc13 kV13 dc13 pm13 cd13 ct13 oc14 kV14 dc14 pm14 cd14 ct14 oc15 kV15 dc15 pm15 cd15 ct15 oc16 kV16 dc16 pm16 cd16 ct16 oc17 kV17 dc17 pm17 cd17 ct17 oc18 kV18 dc18 pm18 cd18 ct18 oc19 kV19 dc19 pm19 cd19 ct19 oc20 kV20 dc20 pm20 cd20 ct20 oc21 kV21 dc21 pm21 cd21 ct21 oc22 kV22 dc22 pm22 cd22 ct22 oc23 kV23 dc23 pm23 cd23 ct23 oc24 kV24 dc24 pm24 cd24 ct24 oc25 kV25 dc25 pm25 cd25 ct25 oc26 kV26 dc26 pm26 cd26 ct26 oc27 kV27 dc27 pm27 cd27 ct27 oc28 kV28 dc28 pm28 cd28 ct28 ocI kVI dcI pmI cdI ctI : Value}
    {ti0 ti1 ti2 ti3 ti4 ti5 ti6 ti7 ti8 ti9 ti10 ti11 ti12 ti13 ti14 ti15 ti16 ti17 ti18 ti19 ti20 ti21 ti22 ti23 ti24 ti25 ti26 ti27 ti28 ts0 ts1 ts2 ub1 ub2 ub3 ub4 va1 va2 va3 va4 va5 va6 va7 vb1 vb2 vb3 vb4 vb5 vb6 vb7 n1 n2 n3 p11 p12 p21 p22 p31 p32 p41 p42 : Tok}
    {epB epF nN m1 m2 m3 m4 : Nat} {odN odT1 odT2 odT3 odT4 : Option Addr} {slN slT1 slT2 slT3 slT4 : Array (Option Value)}
    {td25 : Addr} {odD25 : Option Addr} {nD25 : Nat} {slD25 : Array (Option Value)}
    {td26 : Addr} {odD26 : Option Addr} {nD26 : Nat} {slD26 : Array (Option Value)}
    (a0 : PySem.W.nsIn K mainGlobals "sign_of" = some (some (.ref f0)))
    (l0 : K.lookup f0 = some ⟨oc0, od0, .func (PySem.W.fnOf "sign_of" "sign_of" (defArgs sSign) (defBody sSign) (defScope sSign) .none kV0 dc0 pm0 an0 cd0 ct0), sl0⟩)
    (c0 : PySem.W.codeIn K cd0 "sign_of" = true)
    (k0 : PySem.W.keepIn K (.ref f0) = true)
    (a1 : PySem.W.nsIn K mainGlobals "lines_of" = some (some (.ref f1)))
    (l1 : K.lookup f1 = some ⟨oc1, od1, .func (PySem.W.fnOf "lines_of" "lines_of" (defArgs sLines) (defBody sLines) (defScope sLines) .none kV1 dc1 pm1 an1 cd1 ct1), sl1⟩)
    (c1 : PySem.W.codeIn K cd1 "lines_of" = true)
    (k1 : PySem.W.keepIn K (.ref f1) = true)
    (a2 : PySem.W.nsIn K mainGlobals "is_name" = some (some (.ref f2)))
    (l2 : K.lookup f2 = some ⟨oc2, od2, .func (PySem.W.fnOf "is_name" "is_name" (defArgs sName) (defBody sName) (defScope sName) .none kV2 dc2 pm2 an2 cd2 ct2), sl2⟩)
    (c2 : PySem.W.codeIn K cd2 "is_name" = true)
    (k2 : PySem.W.keepIn K (.ref f2) = true)
    (a3 : PySem.W.nsIn K mainGlobals "is_number" = some (some (.ref f3)))
    (l3 : K.lookup f3 = some ⟨oc3, od3, .func (PySem.W.fnOf "is_number" "is_number" (defArgs sNumber) (defBody sNumber) (defScope sNumber) .none kV3 dc3 pm3 an3 cd3 ct3), sl3⟩)
    (c3 : PySem.W.codeIn K cd3 "is_number" = true)
    (k3 : PySem.W.keepIn K (.ref f3) = true)
    (a4 : PySem.W.nsIn K mainGlobals "is_couple" = some (some (.ref f4)))
    (l4 : K.lookup f4 = some ⟨oc4, od4, .func (PySem.W.fnOf "is_couple" "is_couple" (defArgs sCouple) (defBody sCouple) (defScope sCouple) .none kV4 dc4 pm4 an4 cd4 ct4), sl4⟩)
    (c4 : PySem.W.codeIn K cd4 "is_couple" = true)
    (k4 : PySem.W.keepIn K (.ref f4) = true)
    (a5 : PySem.W.nsIn K mainGlobals "has_good_couples" = some (some (.ref f5)))
    (l5 : K.lookup f5 = some ⟨oc5, od5, .func (PySem.W.fnOf "has_good_couples" "has_good_couples" (defArgs sCouples) (defBody sCouples) (defScope sCouples) .none kV5 dc5 pm5 an5 cd5 ct5), sl5⟩)
    (c5 : PySem.W.codeIn K cd5 "has_good_couples" = true)
    (k5 : PySem.W.keepIn K (.ref f5) = true)
    (a6 : PySem.W.nsIn K mainGlobals "is_race" = some (some (.ref f6)))
    (l6 : K.lookup f6 = some ⟨oc6, od6, .func (PySem.W.fnOf "is_race" "is_race" (defArgs sIsRace) (defBody sIsRace) (defScope sIsRace) .none kV6 dc6 pm6 an6 cd6 ct6), sl6⟩)
    (c6 : PySem.W.codeIn K cd6 "is_race" = true)
    (k6 : PySem.W.keepIn K (.ref f6) = true)
    (a7 : PySem.W.nsIn K mainGlobals "interests_of" = some (some (.ref f7)))
    (l7 : K.lookup f7 = some ⟨oc7, od7, .func (PySem.W.fnOf "interests_of" "interests_of" (defArgs sInts) (defBody sInts) (defScope sInts) .none kV7 dc7 pm7 an7 cd7 ct7), sl7⟩)
    (c7 : PySem.W.codeIn K cd7 "interests_of" = true)
    (k7 : PySem.W.keepIn K (.ref f7) = true)
    (a8 : PySem.W.nsIn K mainGlobals "has_good_kind" = some (some (.ref f8)))
    (l8 : K.lookup f8 = some ⟨oc8, od8, .func (PySem.W.fnOf "has_good_kind" "has_good_kind" (defArgs sGKind) (defBody sGKind) (defScope sGKind) .none kV8 dc8 pm8 an8 cd8 ct8), sl8⟩)
    (c8 : PySem.W.codeIn K cd8 "has_good_kind" = true)
    (k8 : PySem.W.keepIn K (.ref f8) = true)
    (a9 : PySem.W.nsIn K mainGlobals "has_good_race" = some (some (.ref f9)))
    (l9 : K.lookup f9 = some ⟨oc9, od9, .func (PySem.W.fnOf "has_good_race" "has_good_race" (defArgs sGRace) (defBody sGRace) (defScope sGRace) .none kV9 dc9 pm9 an9 cd9 ct9), sl9⟩)
    (c9 : PySem.W.codeIn K cd9 "has_good_race" = true)
    (k9 : PySem.W.keepIn K (.ref f9) = true)
    (a10 : PySem.W.nsIn K mainGlobals "has_good_money" = some (some (.ref f10)))
    (l10 : K.lookup f10 = some ⟨oc10, od10, .func (PySem.W.fnOf "has_good_money" "has_good_money" (defArgs sGMoney) (defBody sGMoney) (defScope sGMoney) .none kV10 dc10 pm10 an10 cd10 ct10), sl10⟩)
    (c10 : PySem.W.codeIn K cd10 "has_good_money" = true)
    (k10 : PySem.W.keepIn K (.ref f10) = true)
    (a11 : PySem.W.nsIn K mainGlobals "is_day" = some (some (.ref f11)))
    (l11 : K.lookup f11 = some ⟨oc11, od11, .func (PySem.W.fnOf "is_day" "is_day" (defArgs sDay) (defBody sDay) (defScope sDay) .none kV11 dc11 pm11 an11 cd11 ct11), sl11⟩)
    (c11 : PySem.W.codeIn K cd11 "is_day" = true)
    (k11 : PySem.W.keepIn K (.ref f11) = true)
    (a12 : PySem.W.nsIn K mainGlobals "is_pool" = some (some (.ref f12)))
    (l12 : K.lookup f12 = some ⟨oc12, od12, .func (PySem.W.fnOf "is_pool" "is_pool" (defArgs sIsPool) (defBody sIsPool) (defScope sIsPool) .none kV12 dc12 pm12 an12 cd12 ct12), sl12⟩)
    (c12 : PySem.W.codeIn K cd12 "is_pool" = true)
    (k12 : PySem.W.keepIn K (.ref f12) = true)
    (a13 : PySem.W.nsIn K mainGlobals "have_own_names" = some (some (.ref f13)))
    (l13 : K.lookup f13 = some ⟨oc13, od13, .func (PySem.W.fnOf "have_own_names" "have_own_names" (defArgs sOwn) (defBody sOwn) (defScope sOwn) .none kV13 dc13 pm13 an13 cd13 ct13), sl13⟩)
    (c13 : PySem.W.codeIn K cd13 "have_own_names" = true)
    (k13 : PySem.W.keepIn K (.ref f13) = true)
    (a14 : PySem.W.nsIn K mainGlobals "is_laid_out" = some (some (.ref f14)))
    (l14 : K.lookup f14 = some ⟨oc14, od14, .func (PySem.W.fnOf "is_laid_out" "is_laid_out" (defArgs sLaid) (defBody sLaid) (defScope sLaid) .none kV14 dc14 pm14 an14 cd14 ct14), sl14⟩)
    (c14 : PySem.W.codeIn K cd14 "is_laid_out" = true)
    (k14 : PySem.W.keepIn K (.ref f14) = true)
    (a15 : PySem.W.nsIn K mainGlobals "pool_of" = some (some (.ref f15)))
    (l15 : K.lookup f15 = some ⟨oc15, od15, .func (PySem.W.fnOf "pool_of" "pool_of" (defArgs sPoolOf) (defBody sPoolOf) (defScope sPoolOf) .none kV15 dc15 pm15 an15 cd15 ct15), sl15⟩)
    (c15 : PySem.W.codeIn K cd15 "pool_of" = true)
    (k15 : PySem.W.keepIn K (.ref f15) = true)
    (a16 : PySem.W.nsIn K mainGlobals "read_pools" = some (some (.ref f16)))
    (l16 : K.lookup f16 = some ⟨oc16, od16, .func (PySem.W.fnOf "read_pools" "read_pools" (defArgs sRead) (defBody sRead) (defScope sRead) .none kV16 dc16 pm16 an16 cd16 ct16), sl16⟩)
    (c16 : PySem.W.codeIn K cd16 "read_pools" = true)
    (k16 : PySem.W.keepIn K (.ref f16) = true)
    (a17 : PySem.W.nsIn K mainGlobals "refusal_of" = some (some (.ref f17)))
    (l17 : K.lookup f17 = some ⟨oc17, od17, .func (PySem.W.fnOf "refusal_of" "refusal_of" (defArgs sRef) (defBody sRef) (defScope sRef) .none kV17 dc17 pm17 an17 cd17 ct17), sl17⟩)
    (c17 : PySem.W.codeIn K cd17 "refusal_of" = true)
    (k17 : PySem.W.keepIn K (.ref f17) = true)
    (a18 : PySem.W.nsIn K mainGlobals "arrangements" = some (some (.ref f18)))
    (l18 : K.lookup f18 = some ⟨oc18, od18, .func (PySem.W.fnOf "arrangements" "arrangements" (defArgs sArr) (defBody sArr) (defScope sArr) .none kV18 dc18 pm18 an18 cd18 ct18), sl18⟩)
    (c18 : PySem.W.codeIn K cd18 "arrangements" = true)
    (k18 : PySem.W.keepIn K (.ref f18) = true)
    (a19 : PySem.W.nsIn K mainGlobals "choices" = some (some (.ref f19)))
    (l19 : K.lookup f19 = some ⟨oc19, od19, .func (PySem.W.fnOf "choices" "choices" (defArgs sChoices) (defBody sChoices) (defScope sChoices) .none kV19 dc19 pm19 an19 cd19 ct19), sl19⟩)
    (c19 : PySem.W.codeIn K cd19 "choices" = true)
    (k19 : PySem.W.keepIn K (.ref f19) = true)
    (a20 : PySem.W.nsIn K mainGlobals "length_of" = some (some (.ref f20)))
    (l20 : K.lookup f20 = some ⟨oc20, od20, .func (PySem.W.fnOf "length_of" "length_of" (defArgs sLen) (defBody sLen) (defScope sLen) .none kV20 dc20 pm20 an20 cd20 ct20), sl20⟩)
    (c20 : PySem.W.codeIn K cd20 "length_of" = true)
    (k20 : PySem.W.keepIn K (.ref f20) = true)
    (a21 : PySem.W.nsIn K mainGlobals "followers_of" = some (some (.ref f21)))
    (l21 : K.lookup f21 = some ⟨oc21, od21, .func (PySem.W.fnOf "followers_of" "followers_of" (defArgs sFol) (defBody sFol) (defScope sFol) .none kV21 dc21 pm21 an21 cd21 ct21), sl21⟩)
    (c21 : PySem.W.codeIn K cd21 "followers_of" = true)
    (k21 : PySem.W.keepIn K (.ref f21) = true)
    (a22 : PySem.W.nsIn K mainGlobals "count_from" = some (some (.ref f22)))
    (l22 : K.lookup f22 = some ⟨oc22, od22, .func (PySem.W.fnOf "count_from" "count_from" (defArgs sCFrom) (defBody sCFrom) (defScope sCFrom) .none kV22 dc22 pm22 an22 cd22 ct22), sl22⟩)
    (c22 : PySem.W.codeIn K cd22 "count_from" = true)
    (k22 : PySem.W.keepIn K (.ref f22) = true)
    (a23 : PySem.W.nsIn K mainGlobals "without" = some (some (.ref f23)))
    (l23 : K.lookup f23 = some ⟨oc23, od23, .func (PySem.W.fnOf "without" "without" (defArgs sWithout) (defBody sWithout) (defScope sWithout) .none kV23 dc23 pm23 an23 cd23 ct23), sl23⟩)
    (c23 : PySem.W.codeIn K cd23 "without" = true)
    (k23 : PySem.W.keepIn K (.ref f23) = true)
    (a24 : PySem.W.nsIn K mainGlobals "count_with" = some (some (.ref f24)))
    (l24 : K.lookup f24 = some ⟨oc24, od24, .func (PySem.W.fnOf "count_with" "count_with" (defArgs sCWith) (defBody sCWith) (defScope sCWith) .none kV24 dc24 pm24 an24 cd24 ct24), sl24⟩)
    (c24 : PySem.W.codeIn K cd24 "count_with" = true)
    (k24 : PySem.W.keepIn K (.ref f24) = true)
    (a25 : PySem.W.nsIn K mainGlobals "count_before" = some (some (.ref f25)))
    (l25 : K.lookup f25 = some ⟨oc25, od25, .func (PySem.W.fnOf "count_before" "count_before" (defArgs sCBef) (defBody sCBef) (defScope sCBef) (.ref td25) kV25 dc25 pm25 an25 cd25 ct25), sl25⟩)
    (c25 : PySem.W.codeIn K cd25 "count_before" = true)
    (k25 : PySem.W.keepIn K (.ref f25) = true)
    (lD25 : K.lookup td25 = some ⟨.type "tuple", odD25, .seq #[.none] nD25, slD25⟩)
    (a26 : PySem.W.nsIn K mainGlobals "row_at" = some (some (.ref f26)))
    (l26 : K.lookup f26 = some ⟨oc26, od26, .func (PySem.W.fnOf "row_at" "row_at" (defArgs sRowAt) (defBody sRowAt) (defScope sRowAt) (.ref td26) kV26 dc26 pm26 an26 cd26 ct26), sl26⟩)
    (c26 : PySem.W.codeIn K cd26 "row_at" = true)
    (k26 : PySem.W.keepIn K (.ref f26) = true)
    (lD26 : K.lookup td26 = some ⟨.type "tuple", odD26, .seq #[.none] nD26, slD26⟩)
    (a27 : PySem.W.nsIn K mainGlobals "next_with" = some (some (.ref f27)))
    (l27 : K.lookup f27 = some ⟨oc27, od27, .func (PySem.W.fnOf "next_with" "next_with" (defArgs sNextW) (defBody sNextW) (defScope sNextW) .none kV27 dc27 pm27 an27 cd27 ct27), sl27⟩)
    (c27 : PySem.W.codeIn K cd27 "next_with" = true)
    (k27 : PySem.W.keepIn K (.ref f27) = true)
    (a28 : PySem.W.nsIn K mainGlobals "next_of" = some (some (.ref f28)))
    (l28 : K.lookup f28 = some ⟨oc28, od28, .func (PySem.W.fnOf "next_of" "next_of" (defArgs sNextOf) (defBody sNextOf) (defScope sNextOf) .none kV28 dc28 pm28 an28 cd28 ct28), sl28⟩)
    (c28 : PySem.W.codeIn K cd28 "next_of" = true)
    (k28 : PySem.W.keepIn K (.ref f28) = true)
    (aC : PySem.W.nsIn K mainGlobals "Pool" = some (some (.ref C)))
    (aI : PySem.W.findIn K (.ref C) "__init__" = some (some (.ref fI)))
    (iI : PySem.W.isFn K (.ref fI) = true)
    (lI : K.lookup fI = some ⟨ocI, odI, .func (PySem.W.fnOf "__init__" "Pool.__init__" (defArgs sPInit) (defBody sPInit) (defScope sPInit) .none kVI dcI pmI anI cdI ctI), slI⟩)
    (cI : PySem.W.codeIn K cdI "Pool.__init__" = true)
    (kI : PySem.W.keepIn K (.ref fI) = true)
    (pg : PySem.W.plainGet K C Str.empty = true)
    (hd : PySem.W.hasDictIn K C = true)
    (po : PySem.W.plainOver K C = true)
    (sa : PySem.W.findIn K (.ref C) "__setattr__" = some (some (.builtin "object.__setattr__")))
    (mk : PySem.W.makesIn K C = true)
    (kc : PySem.W.keepIn K (.ref C) = true)
    (nf_kind : PySem.W.findIn K (.ref C) "kind" = some none)
    (nf_k : PySem.W.findIn K (.ref C) "k" = some none)
    (nf_sets : PySem.W.findIn K (.ref C) "sets" = some none)
    (gi0 : PySem.W.nsIn K mainGlobals "MOST_NAME_BYTES" = some (some (.int 12 ti0)))
    (gi1 : PySem.W.nsIn K mainGlobals "MOST_DIGITS" = some (some (.int 5 ti1)))
    (gi2 : PySem.W.nsIn K mainGlobals "LEAST_RUNNERS" = some (some (.int 2 ti2)))
    (gi3 : PySem.W.nsIn K mainGlobals "MOST_RUNNERS" = some (some (.int 24 ti3)))
    (gi4 : PySem.W.nsIn K mainGlobals "MOST_COUPLES" = some (some (.int 8 ti4)))
    (gi5 : PySem.W.nsIn K mainGlobals "HEAD_WORDS" = some (some (.int 2 ti5)))
    (gi6 : PySem.W.nsIn K mainGlobals "COUPLE_WORDS" = some (some (.int 3 ti6)))
    (gi7 : PySem.W.nsIn K mainGlobals "MOST_BYTES" = some (some (.int 65536 ti7)))
    (gi8 : PySem.W.nsIn K mainGlobals "MOST_RACES" = some (some (.int 16 ti8)))
    (gi9 : PySem.W.nsIn K mainGlobals "MOST_POOLS" = some (some (.int 64 ti9)))
    (gi10 : PySem.W.nsIn K mainGlobals "MOST_TAKE" = some (some (.int 400 ti10)))
    (gi11 : PySem.W.nsIn K mainGlobals "MOST_BREAK" = some (some (.int 1000 ti11)))
    (gi12 : PySem.W.nsIn K mainGlobals "MOST_UNIT" = some (some (.int 10000 ti12)))
    (gi13 : PySem.W.nsIn K mainGlobals "POOL_WORDS" = some (some (.int 16 ti13)))
    (gi14 : PySem.W.nsIn K mainGlobals "NAME_AT" = some (some (.int 1 ti14)))
    (gi15 : PySem.W.nsIn K mainGlobals "KIND_AT" = some (some (.int 2 ti15)))
    (gi16 : PySem.W.nsIn K mainGlobals "K_AT" = some (some (.int 3 ti16)))
    (gi17 : PySem.W.nsIn K mainGlobals "RACE_AT" = some (some (.int 5 ti17)))
    (gi18 : PySem.W.nsIn K mainGlobals "TAKE_AT" = some (some (.int 7 ti18)))
    (gi19 : PySem.W.nsIn K mainGlobals "BREAK_AT" = some (some (.int 9 ti19)))
    (gi20 : PySem.W.nsIn K mainGlobals "LEAST_AT" = some (some (.int 11 ti20)))
    (gi21 : PySem.W.nsIn K mainGlobals "UNIT_AT" = some (some (.int 13 ti21)))
    (gi22 : PySem.W.nsIn K mainGlobals "NONE_AT" = some (some (.int 15 ti22)))
    (gi23 : PySem.W.nsIn K mainGlobals "TOO_LONG" = some (some (.int (-2) ti23)))
    (gi24 : PySem.W.nsIn K mainGlobals "NO_POOL" = some (some (.int (-4) ti24)))
    (gi25 : PySem.W.nsIn K mainGlobals "NO_CARD" = some (some (.int (-6) ti25)))
    (gi26 : PySem.W.nsIn K mainGlobals "NONE_SUCH" = some (some (.int (-1) ti26)))
    (gi27 : PySem.W.nsIn K mainGlobals "TOO_MANY" = some (some (.int (-9) ti27)))
    (gi28 : PySem.W.nsIn K mainGlobals "MOST_COMBINATIONS" = some (some (.int 65536 ti28)))
    (gs0 : PySem.W.nsIn K mainGlobals "LETTERS" = some (some (.str "abcdefghijklmnopqrstuvwxyz" ts0)))
    (gs1 : PySem.W.nsIn K mainGlobals "DIGITS" = some (some (.str "0123456789" ts1)))
    (gs2 : PySem.W.nsIn K mainGlobals "FOREIGN" = some (some (.str "?" ts2)))
    (gn_len : PySem.W.nsIn K mainGlobals "len" = some none)
    (gn_int : PySem.W.nsIn K mainGlobals "int" = some none)
    (gn_range : PySem.W.nsIn K mainGlobals "range" = some none)
    (gn_all : PySem.W.nsIn K mainGlobals "all" = some none)
    (gn_set : PySem.W.nsIn K mainGlobals "set" = some none)
    (aB : PySem.W.nsIn K mainGlobals "BOUNDS_OF_K" = some (some (.ref dB)))
    (lB : K.lookup dB = some ⟨.type "dict", none, .dict #[⟨PyData.keyHash w.params "place", .str "place" ub1, .ref t1⟩, ⟨PyData.keyHash w.params "order", .str "order" ub2, .ref t2⟩, ⟨PyData.keyHash w.params "any", .str "any" ub3, .ref t3⟩, ⟨PyData.keyHash w.params "legs", .str "legs" ub4, .ref t4⟩] epB, #[]⟩)
    (aF : PySem.W.nsIn K mainGlobals "FIXED_WORDS" = some (some (.ref dF)))
    (lF : K.lookup dF = some ⟨.type "dict", none, .dict #[⟨hashInt 0, .int 0 va1, .str "pool" vb1⟩, ⟨hashInt 4, .int 4 va2, .str "from" vb2⟩, ⟨hashInt 6, .int 6 va3, .str "take" vb3⟩, ⟨hashInt 8, .int 8 va4, .str "break" vb4⟩, ⟨hashInt 10, .int 10 va5, .str "least" vb5⟩, ⟨hashInt 12, .int 12 va6, .str "unit" vb6⟩, ⟨hashInt 14, .int 14 va7, .str "none" vb7⟩] epF, #[]⟩)
    (aN : PySem.W.nsIn K mainGlobals "WORDS_OF_NONE" = some (some (.ref tN)))
    (lN : K.lookup tN = some ⟨.type "tuple", odN, .seq #[.str "refund" n1, .str "carry" n2, .str "fewer" n3] nN, slN⟩)
    (lT1 : K.lookup t1 = some ⟨.type "tuple", odT1, .seq #[.int 1 p11, .int 4 p12] m1, slT1⟩)
    (lT2 : K.lookup t2 = some ⟨.type "tuple", odT2, .seq #[.int 2 p21, .int 4 p22] m2, slT2⟩)
    (lT3 : K.lookup t3 = some ⟨.type "tuple", odT3, .seq #[.int 2 p31, .int 3 p32] m3, slT3⟩)
    (lT4 : K.lookup t4 = some ⟨.type "tuple", odT4, .seq #[.int 2 p41, .int 6 p42] m4, slT4⟩)
    (sB : (dB == sysModules) = false)
    (sF : (dF == sysModules) = false) :
    ∃ fd : FuncData, (∀ (s : Shared) (us : List Value), us.length = (["pool", "number", "runner", "text"] : List Str).length → BindsTo s fd ⟨us, []⟩ ((["pool", "number", "runner", "text"] : List Str).zip us)) ∧ ∀ base : Heap, K.In base → base.Ns mainGlobals mg → FnOk P w K mg base CX0 7 fa fd ["pool", "number", "runner", "text"] (spNextOf K) := by
  have e := hfa.symm.trans (PySem.W.mg_of X G0 a28)
  cases e
  have F0 := fun_mk (st := sSign) l0 c0 k0
  have b0 := F0.binds (ps := ["byte"]) fun _ _ _ _ _ _ us hl => match us, hl with | [_], _ => rfl
  have F1 := fun_mk (st := sLines) l1 c1 k1
  have b1 := F1.binds (ps := ["text"]) fun _ _ _ _ _ _ us hl => match us, hl with | [_], _ => rfl
  have F2 := fun_mk (st := sName) l2 c2 k2
  have b2 := F2.binds (ps := ["word"]) fun _ _ _ _ _ _ us hl => match us, hl with | [_], _ => rfl
  have F3 := fun_mk (st := sNumber) l3 c3 k3
  have b3 := F3.binds (ps := ["word", "low", "high"]) fun _ _ _ _ _ _ us hl => match us, hl with | [_, _, _], _ => rfl
  have F4 := fun_mk (st := sCouple) l4 c4 k4
  have b4 := F4.binds (ps := ["words", "runners"]) fun _ _ _ _ _ _ us hl => match us, hl with | [_, _], _ => rfl
  have F5 := fun_mk (st := sCouples) l5 c5 k5
  have b5 := F5.binds (ps := ["words", "runners"]) fun _ _ _ _ _ _ us hl => match us, hl with | [_, _], _ => rfl
  have F6 := fun_mk (st := sIsRace) l6 c6 k6
  have b6 := F6.binds (ps := ["words"]) fun _ _ _ _ _ _ us hl => match us, hl with | [_], _ => rfl
  have F7 := fun_mk (st := sInts) l7 c7 k7
  have b7 := F7.binds (ps := ["words"]) fun _ _ _ _ _ _ us hl => match us, hl with | [_], _ => rfl
  have F8 := fun_mk (st := sGKind) l8 c8 k8
  have b8 := F8.binds (ps := ["words"]) fun _ _ _ _ _ _ us hl => match us, hl with | [_], _ => rfl
  have F9 := fun_mk (st := sGRace) l9 c9 k9
  have b9 := F9.binds (ps := ["words", "races"]) fun _ _ _ _ _ _ us hl => match us, hl with | [_, _], _ => rfl
  have F10 := fun_mk (st := sGMoney) l10 c10 k10
  have b10 := F10.binds (ps := ["words"]) fun _ _ _ _ _ _ us hl => match us, hl with | [_], _ => rfl
  have F11 := fun_mk (st := sDay) l11 c11 k11
  have b11 := F11.binds (ps := ["words"]) fun _ _ _ _ _ _ us hl => match us, hl with | [_], _ => rfl
  have F12 := fun_mk (st := sIsPool) l12 c12 k12
  have b12 := F12.binds (ps := ["words", "races"]) fun _ _ _ _ _ _ us hl => match us, hl with | [_, _], _ => rfl
  have F13 := fun_mk (st := sOwn) l13 c13 k13
  have b13 := F13.binds (ps := ["pool_lines"]) fun _ _ _ _ _ _ us hl => match us, hl with | [_], _ => rfl
  have F14 := fun_mk (st := sLaid) l14 c14 k14
  have b14 := F14.binds (ps := ["lines", "race_lines", "pool_lines"]) fun _ _ _ _ _ _ us hl => match us, hl with | [_, _, _], _ => rfl
  have F15 := fun_mk (st := sPoolOf) l15 c15 k15
  have b15 := F15.binds (ps := ["words", "races"]) fun _ _ _ _ _ _ us hl => match us, hl with | [_, _], _ => rfl
  have F16 := fun_mk (st := sRead) l16 c16 k16
  have b16 := F16.binds (ps := ["text"]) fun _ _ _ _ _ _ us hl => match us, hl with | [_], _ => rfl
  have F17 := fun_mk (st := sRef) l17 c17 k17
  have b17 := F17.binds (ps := ["pool", "text", "pools"]) fun _ _ _ _ _ _ us hl => match us, hl with | [_, _, _], _ => rfl
  have F18 := fun_mk (st := sArr) l18 c18 k18
  have b18 := F18.binds (ps := ["n", "k"]) fun _ _ _ _ _ _ us hl => match us, hl with | [_, _], _ => rfl
  have F19 := fun_mk (st := sChoices) l19 c19 k19
  have b19 := F19.binds (ps := ["n", "k"]) fun _ _ _ _ _ _ us hl => match us, hl with | [_, _], _ => rfl
  have F20 := fun_mk (st := sLen) l20 c20 k20
  have b20 := F20.binds (ps := ["pool"]) fun _ _ _ _ _ _ us hl => match us, hl with | [_], _ => rfl
  have F21 := fun_mk (st := sFol) l21 c21 k21
  have b21 := F21.binds (ps := ["pool", "begun"]) fun _ _ _ _ _ _ us hl => match us, hl with | [_, _], _ => rfl
  have F22 := fun_mk (st := sCFrom) l22 c22 k22
  have b22 := F22.binds (ps := ["pool", "begun"]) fun _ _ _ _ _ _ us hl => match us, hl with | [_, _], _ => rfl
  have F23 := fun_mk (st := sWithout) l23 c23 k23
  have b23 := F23.binds (ps := ["pool", "runner"]) fun _ _ _ _ _ _ us hl => match us, hl with | [_, _], _ => rfl
  have F24 := fun_mk (st := sCWith) l24 c24 k24
  have b24 := F24.binds (ps := ["pool", "begun", "runner"]) fun _ _ _ _ _ _ us hl => match us, hl with | [_, _, _], _ => rfl
  have F25 : FunD K "count_before" "count_before" sCBef f25 (PySem.W.fnOf "count_before" "count_before" (defArgs sCBef) (defBody sCBef) (defScope sCBef) (.ref td25) kV25 dc25 pm25 an25 cd25 ct25) td25 := ⟨⟨oc25, od25, kV25, dc25, pm25, an25, cd25, ct25, sl25, rfl, l25, c25⟩, k25⟩
  have b25 : Binds K (PySem.W.fnOf "count_before" "count_before" (defArgs sCBef) (defBody sCBef) (defScope sCBef) (.ref td25) kV25 dc25 pm25 an25 cd25 ct25) ["pool", "row", "runner"] [] := fun s us X hl => match us, hl with | [_, _, _], _ => PySem.W.binds_K X rfl lD25 rfl rfl rfl
  have bD25 : Binds K (PySem.W.fnOf "count_before" "count_before" (defArgs sCBef) (defBody sCBef) (defScope sCBef) (.ref td25) kV25 dc25 pm25 an25 cd25 ct25) ["pool", "row", "runner"] [.none] := fun s us X hl => by obtain ⟨u1, u2, rfl⟩ := two_of hl; exact PySem.W.binds_K X rfl lD25 rfl rfl rfl
  have F26 : FunD K "row_at" "row_at" sRowAt f26 (PySem.W.fnOf "row_at" "row_at" (defArgs sRowAt) (defBody sRowAt) (defScope sRowAt) (.ref td26) kV26 dc26 pm26 an26 cd26 ct26) td26 := ⟨⟨oc26, od26, kV26, dc26, pm26, an26, cd26, ct26, sl26, rfl, l26, c26⟩, k26⟩
  have b26 : Binds K (PySem.W.fnOf "row_at" "row_at" (defArgs sRowAt) (defBody sRowAt) (defScope sRowAt) (.ref td26) kV26 dc26 pm26 an26 cd26 ct26) ["pool", "place", "runner"] [] := fun s us X hl => match us, hl with | [_, _, _], _ => PySem.W.binds_K X rfl lD26 rfl rfl rfl
  have bD26 : Binds K (PySem.W.fnOf "row_at" "row_at" (defArgs sRowAt) (defBody sRowAt) (defScope sRowAt) (.ref td26) kV26 dc26 pm26 an26 cd26 ct26) ["pool", "place", "runner"] [.none] := fun s us X hl => by obtain ⟨u1, u2, rfl⟩ := two_of hl; exact PySem.W.binds_K X rfl lD26 rfl rfl rfl
  have F27 := fun_mk (st := sNextW) l27 c27 k27
  have b27 := F27.binds (ps := ["pool", "start", "runner"]) fun _ _ _ _ _ _ us hl => match us, hl with | [_, _, _], _ => rfl
  have F28 := fun_mk (st := sNextOf) l28 c28 k28
  have FI := fun_mk (st := sPInit) lI cI kI
  have bI := FI.binds (ps := ["self", "kind", "k", "sets"]) fun _ _ _ _ _ _ us hl => match us, hl with | [_, _, _, _], _ => rfl
  have T : PC0 K mg C fI := ⟨⟨pg, hd, po, sa⟩, nf_kind, nf_k, nf_sets, PySem.W.mg_of X G0 aC, ⟨mk, aI, iI, kc⟩⟩
  have G : Gw mg := ⟨⟨_, PySem.W.mg_of X G0 gs0⟩, ⟨_, PySem.W.mg_of X G0 gs1⟩, ⟨_, PySem.W.mg_of X G0 gs2⟩, ⟨_, PySem.W.mg_of X G0 gi0⟩, ⟨_, PySem.W.mg_of X G0 gi1⟩, PySem.W.mg_none_of X G0 gn_len, PySem.W.mg_none_of X G0 gn_int, PySem.W.mg_none_of X G0 gn_range, PySem.W.mg_none_of X G0 gn_all, PySem.W.mg_none_of X G0 gn_set⟩
  have R : Gr mg := ⟨⟨_, PySem.W.mg_of X G0 gi2⟩, ⟨_, PySem.W.mg_of X G0 gi3⟩, ⟨_, PySem.W.mg_of X G0 gi4⟩, ⟨_, PySem.W.mg_of X G0 gi5⟩, ⟨_, PySem.W.mg_of X G0 gi6⟩⟩
  have C0 : Gc P w K mg (tkOf t1 t2 t3 t4) dB dF tN := ⟨⟨_, PySem.W.mg_of X G0 gi7⟩, ⟨_, PySem.W.mg_of X G0 gi8⟩, ⟨_, PySem.W.mg_of X G0 gi9⟩, ⟨_, PySem.W.mg_of X G0 gi10⟩, ⟨_, PySem.W.mg_of X G0 gi11⟩, ⟨_, PySem.W.mg_of X G0 gi12⟩, ⟨_, PySem.W.mg_of X G0 gi13⟩, ⟨_, PySem.W.mg_of X G0 gi14⟩, ⟨_, PySem.W.mg_of X G0 gi15⟩, ⟨_, PySem.W.mg_of X G0 gi16⟩, ⟨_, PySem.W.mg_of X G0 gi17⟩, ⟨_, PySem.W.mg_of X G0 gi18⟩, ⟨_, PySem.W.mg_of X G0 gi19⟩, ⟨_, PySem.W.mg_of X G0 gi20⟩, ⟨_, PySem.W.mg_of X G0 gi21⟩, ⟨_, PySem.W.mg_of X G0 gi22⟩, PySem.W.mg_of X G0 aB, PySem.W.mg_of X G0 aF, PySem.W.mg_of X G0 aN, kd_bounds sB lB, kd_fixed sF lF, tup_none lN, tup_bounds (tup_two lT1) (tup_two lT2) (tup_two lT3) (tup_two lT4)⟩
  have G2 : Gp mg := ⟨⟨_, PySem.W.mg_of X G0 gi23⟩, ⟨_, PySem.W.mg_of X G0 gi24⟩, ⟨_, PySem.W.mg_of X G0 gi25⟩⟩
  have g_NONE_SUCH : GI mg "NONE_SUCH" (-1) := ⟨_, PySem.W.mg_of X G0 gi26⟩
  have g_TOO_MANY : GI mg "TOO_MANY" (-9) := ⟨_, PySem.W.mg_of X G0 gi27⟩
  have g_MOST_COMBINATIONS : GI mg "MOST_COMBINATIONS" (65536) := ⟨_, PySem.W.mg_of X G0 gi28⟩
  refine ⟨PySem.W.fnOf "next_of" "next_of" (defArgs sNextOf) (defBody sNextOf) (defScope sNextOf) .none kV28 dc28 pm28 an28 cd28 ct28, fun s us hu => match us, hu with | [_, _, _, _], _ => .of_eq rfl, fun base _ _ => ?_⟩
  have D_sign_of : Dfn P w K mg base 1 "sign_of" ["byte"] [] spSign := dfn (PySem.W.mg_of X G0 a0) F0 b0 (ok_sign F0 G)
  have D_lines_of : Dfn P w K mg base 2 "lines_of" ["text"] [] (spLines K) := dfn (PySem.W.mg_of X G0 a1) F1 b1 (ok_lines F1 G D_sign_of)
  have D_is_name : Dfn P w K mg base 1 "is_name" ["word"] [] spName := dfn (PySem.W.mg_of X G0 a2) F2 b2 (ok_name F2 G)
  have D_is_number : Dfn P w K mg base 1 "is_number" ["word", "low", "high"] [] spNumber := dfn (PySem.W.mg_of X G0 a3) F3 b3 (ok_number F3 G)
  have D_is_couple : Dfn P w K mg base 2 "is_couple" ["words", "runners"] [] (spCouple K) := dfn (PySem.W.mg_of X G0 a4) F4 b4 (ok_couple F4 G D_is_number)
  have D_has_good_couples : Dfn P w K mg base 3 "has_good_couples" ["words", "runners"] [] (spCouples K) := dfn (PySem.W.mg_of X G0 a5) F5 b5 (ok_couples F5 G R D_is_couple)
  have D_is_race : Dfn P w K mg base 4 "is_race" ["words"] [] (spRace K) := dfn (PySem.W.mg_of X G0 a6) F6 b6 (ok_race F6 G R D_is_number D_has_good_couples)
  have D_interests_of : Dfn P w K mg base 1 "interests_of" ["words"] [] (spInts K) := dfn (PySem.W.mg_of X G0 a7) F7 b7 (ok_ints F7 G R)
  have D_has_good_kind : Dfn P w K mg base 2 "has_good_kind" ["words"] [] (spGKind K) := dfn (PySem.W.mg_of X G0 a8) F8 b8 (ok_gkind F8 G C0 D_is_number)
  have D_has_good_race : Dfn P w K mg base 2 "has_good_race" ["words", "races"] [] (spGRace K) := dfn (PySem.W.mg_of X G0 a9) F9 b9 (ok_grace F9 G C0 D_is_number)
  have D_has_good_money : Dfn P w K mg base 2 "has_good_money" ["words"] [] (spGMoney K) := dfn (PySem.W.mg_of X G0 a10) F10 b10 (ok_gmoney F10 G C0 D_is_number)
  have D_is_day : Dfn P w K mg base 2 "is_day" ["words"] [] (spDay K) := dfn (PySem.W.mg_of X G0 a11) F11 b11 (ok_day F11 G D_is_name)
  have D_is_pool : Dfn P w K mg base 3 "is_pool" ["words", "races"] [] (spIsPool K) := dfn (PySem.W.mg_of X G0 a12) F12 b12 (ok_ispool F12 G C0 D_is_name D_has_good_kind D_has_good_race D_has_good_money)
  have D_have_own_names : Dfn P w K mg base 1 "have_own_names" ["pool_lines"] [] (spOwn K) := dfn (PySem.W.mg_of X G0 a13) F13 b13 (ok_own F13 G C0)
  have D_is_laid_out : Dfn P w K mg base 3 "is_laid_out" ["lines", "race_lines", "pool_lines"] [] (spLaid K) := dfn (PySem.W.mg_of X G0 a14) F14 b14 (ok_laid F14 G C0 D_is_day)
  have D_pool_of : Dfn P w K mg base 3 "pool_of" ["words", "races"] [] (spPoolOf K C) := dfn (PySem.W.mg_of X G0 a15) F15 b15 (ok_poolof F15 G C0 T FI bI)
  have D_read_pools : Dfn P w K mg base 5 "read_pools" ["text"] [] (spRead K C) := dfn (PySem.W.mg_of X G0 a16) F16 b16 (ok_read F16 G C0 D_lines_of D_is_laid_out D_is_race D_interests_of D_is_pool D_have_own_names D_pool_of)
  have D_refusal_of : Dfn P w K mg base 1 "refusal_of" ["pool", "text", "pools"] [] (spRef K) := dfn (PySem.W.mg_of X G0 a17) F17 b17 (ok_ref F17 G C0 G2)
  have D_arrangements : Dfn P w K mg base 1 "arrangements" ["n", "k"] [] spArr := dfn (PySem.W.mg_of X G0 a18) F18 b18 (ok_arr F18 G)
  have D_choices : Dfn P w K mg base 1 "choices" ["n", "k"] [] spChoices := dfn (PySem.W.mg_of X G0 a19) F19 b19 (ok_choices F19 G)
  have D_length_of : Dfn P w K mg base 1 "length_of" ["pool"] [] (spLen C) := dfn (PySem.W.mg_of X G0 a20) F20 b20 (ok_len F20 T)
  have D_followers_of : Dfn P w K mg base 1 "followers_of" ["pool", "begun"] [] (spFol K C) := dfn (PySem.W.mg_of X G0 a21) F21 b21 (ok_fol F21 G T)
  have D_count_from : Dfn P w K mg base 2 "count_from" ["pool", "begun"] [] (spCFrom K C) := dfn (PySem.W.mg_of X G0 a22) F22 b22 (ok_cfrom F22 G T D_arrangements D_choices D_length_of D_followers_of)
  have D_without : Dfn P w K mg base 3 "without" ["pool", "runner"] [] (spWithout C) := dfn (PySem.W.mg_of X G0 a23) F23 b23 (ok_without F23 T FI bI)
  have D_count_with : Dfn P w K mg base 4 "count_with" ["pool", "begun", "runner"] [] (spCWith K C) := dfn (PySem.W.mg_of X G0 a24) F24 b24 (ok_cwith F24 D_count_from D_without)
  have O_count_before := ok_cbef F25 G D_followers_of D_count_with (P := P) (w := w) (mg := mg) (base := base)
  have D_count_before : Dfn P w K mg base 5 "count_before" ["pool", "row", "runner"] [] (spCBef K C) := ⟨⟨_, _, PySem.W.mg_of X G0 a25, F25.kp, b25, O_count_before⟩⟩
  have D_count_beforeD : Dfn P w K mg base 5 "count_before" ["pool", "row", "runner"] [.none] (spCBef K C) := ⟨⟨_, _, PySem.W.mg_of X G0 a25, F25.kp, bD25, O_count_before⟩⟩
  have O_row_at := ok_rowat F26 G D_length_of D_followers_of D_count_with (P := P) (w := w) (mg := mg) (base := base)
  have D_row_at : Dfn P w K mg base 5 "row_at" ["pool", "place", "runner"] [] (spRowAt K C) := ⟨⟨_, _, PySem.W.mg_of X G0 a26, F26.kp, b26, O_row_at⟩⟩
  have D_row_atD : Dfn P w K mg base 5 "row_at" ["pool", "place", "runner"] [.none] (spRowAt K C) := ⟨⟨_, _, PySem.W.mg_of X G0 a26, F26.kp, bD26, O_row_at⟩⟩
  have D_next_with : Dfn P w K mg base 6 "next_with" ["pool", "start", "runner"] [] (spNextW K C) := dfn (PySem.W.mg_of X G0 a27) F27 b27 (ok_nextw F27 G D_count_from D_count_with D_count_before D_count_beforeD D_row_at D_row_atD)
  exact ok_nextof F28 G g_NONE_SUCH g_TOO_MANY g_MOST_COMBINATIONS D_read_pools D_refusal_of D_count_from D_next_with
end Tp
open PySem PySem.W PyProof.Rows
set_option maxRecDepth 100000 in
set_option maxHeartbeats 0 in
theorem PySem.Challenge.cw_totecombos_s05_next_of_holds : PySem.Challenge.rw_totecombos_s05_next_of.Holds := by
  w_on; k_headS; (case hw => exact ⟨[.int 0, .int 0, .int 0, .list []], by decide +kernel, by decide +kernel⟩)
  k_fillS
  refine L2.walk_specK (r := PySem.Challenge.rw_totecombos_s05_next_of) (k := 7) (CX := L2.CX0) (ps := ["pool", "number", "runner", "text"]) (sp := Tp.spNextOf) (by decide +kernel) rfl rfl ⟨rfl, by decide, by decide⟩ (fun w h Y => PySem.W.kIn_of Y) ?F ?S (fun _ _ _ _ z => z)
  case F =>
    intro w mg fa h Y KX G hmg
    refine' Tp.all_mk KX G hmg ?a0 ?l0 ?c0 ?k0 ?a1 ?l1 ?c1 ?k1 ?a2 ?l2 ?c2 ?k2 ?a3 ?l3 ?c3 ?k3 ?a4 ?l4 ?c4 ?k4 ?a5 ?l5 ?c5 ?k5 ?a6 ?l6 ?c6 ?k6 ?a7 ?l7 ?c7 ?k7 ?a8 ?l8 ?c8 ?k8 ?a9 ?l9 ?c9 ?k9 ?a10 ?l10 ?c10 ?k10 ?a11 ?l11 ?c11 ?k11 ?a12 ?l12 ?c12 ?k12 ?a13 ?l13 ?c13 ?k13 ?a14 ?l14 ?c14 ?k14 ?a15 ?l15 ?c15 ?k15 ?a16 ?l16 ?c16 ?k16 ?a17 ?l17 ?c17 ?k17 ?a18 ?l18 ?c18 ?k18 ?a19 ?l19 ?c19 ?k19 ?a20 ?l20 ?c20 ?k20 ?a21 ?l21 ?c21 ?k21 ?a22 ?l22 ?c22 ?k22 ?a23 ?l23 ?c23 ?k23 ?a24 ?l24 ?c24 ?k24 ?a25 ?l25 ?c25 ?k25 ?lD25 ?a26 ?l26 ?c26 ?k26 ?lD26 ?a27 ?l27 ?c27 ?k27 ?a28 ?l28 ?c28 ?k28 ?aC ?aI ?iI ?lI ?cI ?kI ?pg ?hd ?po ?sa ?mk ?kc ?nf_kind ?nf_k ?nf_sets ?gi0 ?gi1 ?gi2 ?gi3 ?gi4 ?gi5 ?gi6 ?gi7 ?gi8 ?gi9 ?gi10 ?gi11 ?gi12 ?gi13 ?gi14 ?gi15 ?gi16 ?gi17 ?gi18 ?gi19 ?gi20 ?gi21 ?gi22 ?gi23 ?gi24 ?gi25 ?gi26 ?gi27 ?gi28 ?gs0 ?gs1 ?gs2 ?gn_len ?gn_int ?gn_range ?gn_all ?gn_set ?aB ?lB ?aF ?lF ?aN ?lN ?lT1 ?lT2 ?lT3 ?lT4 ?sB ?sF
    (case a0 => k_is)
    (case l0 => k_is)
    (case c0 => k_is)
    (case k0 => k_is)
    (case a1 => k_is)
    (case l1 => k_is)
    (case c1 => k_is)
    (case k1 => k_is)
    (case a2 => k_is)
    (case l2 => k_is)
    (case c2 => k_is)
    (case k2 => k_is)
    (case a3 => k_is)
    (case l3 => k_is)
    (case c3 => k_is)
    (case k3 => k_is)
    (case a4 => k_is)
    (case l4 => k_is)
    (case c4 => k_is)
    (case k4 => k_is)
    (case a5 => k_is)
    (case l5 => k_is)
    (case c5 => k_is)
    (case k5 => k_is)
    (case a6 => k_is)
    (case l6 => k_is)
    (case c6 => k_is)
    (case k6 => k_is)
    (case a7 => k_is)
    (case l7 => k_is)
    (case c7 => k_is)
    (case k7 => k_is)
    (case a8 => k_is)
    (case l8 => k_is)
    (case c8 => k_is)
    (case k8 => k_is)
    (case a9 => k_is)
    (case l9 => k_is)
    (case c9 => k_is)
    (case k9 => k_is)
    (case a10 => k_is)
    (case l10 => k_is)
    (case c10 => k_is)
    (case k10 => k_is)
    (case a11 => k_is)
    (case l11 => k_is)
    (case c11 => k_is)
    (case k11 => k_is)
    (case a12 => k_is)
    (case l12 => k_is)
    (case c12 => k_is)
    (case k12 => k_is)
    (case a13 => k_is)
    (case l13 => k_is)
    (case c13 => k_is)
    (case k13 => k_is)
    (case a14 => k_is)
    (case l14 => k_is)
    (case c14 => k_is)
    (case k14 => k_is)
    (case a15 => k_is)
    (case l15 => k_is)
    (case c15 => k_is)
    (case k15 => k_is)
    (case a16 => k_is)
    (case l16 => k_is)
    (case c16 => k_is)
    (case k16 => k_is)
    (case a17 => k_is)
    (case l17 => k_is)
    (case c17 => k_is)
    (case k17 => k_is)
    (case a18 => k_is)
    (case l18 => k_is)
    (case c18 => k_is)
    (case k18 => k_is)
    (case a19 => k_is)
    (case l19 => k_is)
    (case c19 => k_is)
    (case k19 => k_is)
    (case a20 => k_is)
    (case l20 => k_is)
    (case c20 => k_is)
    (case k20 => k_is)
    (case a21 => k_is)
    (case l21 => k_is)
    (case c21 => k_is)
    (case k21 => k_is)
    (case a22 => k_is)
    (case l22 => k_is)
    (case c22 => k_is)
    (case k22 => k_is)
    (case a23 => k_is)
    (case l23 => k_is)
    (case c23 => k_is)
    (case k23 => k_is)
    (case a24 => k_is)
    (case l24 => k_is)
    (case c24 => k_is)
    (case k24 => k_is)
    (case a25 => k_is)
    (case l25 => k_is)
    (case c25 => k_is)
    (case k25 => k_is)
    (case lD25 => k_is)
    (case a26 => k_is)
    (case l26 => k_is)
    (case c26 => k_is)
    (case k26 => k_is)
    (case lD26 => k_is)
    (case a27 => k_is)
    (case l27 => k_is)
    (case c27 => k_is)
    (case k27 => k_is)
    (case a28 => k_is)
    (case l28 => k_is)
    (case c28 => k_is)
    (case k28 => k_is)
    (case aC => k_is)
    (case aI => k_is)
    (case iI => k_is)
    (case lI => k_is)
    (case cI => k_is)
    (case kI => k_is)
    (case pg => k_is)
    (case hd => k_is)
    (case po => k_is)
    (case sa => k_is)
    (case mk => k_is)
    (case kc => k_is)
    (case nf_kind => k_is)
    (case nf_k => k_is)
    (case nf_sets => k_is)
    (case gi0 => k_is)
    (case gi1 => k_is)
    (case gi2 => k_is)
    (case gi3 => k_is)
    (case gi4 => k_is)
    (case gi5 => k_is)
    (case gi6 => k_is)
    (case gi7 => k_is)
    (case gi8 => k_is)
    (case gi9 => k_is)
    (case gi10 => k_is)
    (case gi11 => k_is)
    (case gi12 => k_is)
    (case gi13 => k_is)
    (case gi14 => k_is)
    (case gi15 => k_is)
    (case gi16 => k_is)
    (case gi17 => k_is)
    (case gi18 => k_is)
    (case gi19 => k_is)
    (case gi20 => k_is)
    (case gi21 => k_is)
    (case gi22 => k_is)
    (case gi23 => k_is)
    (case gi24 => k_is)
    (case gi25 => k_is)
    (case gi26 => k_is)
    (case gi27 => k_is)
    (case gi28 => k_is)
    (case gs0 => k_is)
    (case gs1 => k_is)
    (case gs2 => k_is)
    (case gn_len => k_is)
    (case gn_int => k_is)
    (case gn_range => k_is)
    (case gn_all => k_is)
    (case gn_set => k_is)
    (case aB => k_is)
    (case lB => k_is)
    (case aF => k_is)
    (case lF => k_is)
    (case aN => k_is)
    (case lN => k_is)
    (case lT1 => k_is)
    (case lT2 => k_is)
    (case lT3 => k_is)
    (case lT4 => k_is)
    (case sB => decide)
    (case sF => decide)
  case S =>
    intro K H xs a hO hwi hask hx
    cases hx with
    | cons h1 h2 =>
      cases h2 with
      | cons h2 h3 =>
        cases h3 with
        | cons h3 h4 =>
          cases h4 with
          | cons h4 h5 =>
            cases h5
            cases h1
            cases h2
            cases h3
            cases h4 with
            | lst hs ha =>
              have e := L2.ints_dw a.2.2.2.1 _ ha
              subst e
              have q : (Codec.inInt 0 4294967295 a.1 && (Codec.inInt 0 4294967295 a.2.1 && (Codec.inInt 0 4294967295 a.2.2.1 && ((Codec.inLen 0 66000 a.2.2.2.1 && a.2.2.2.1.all (Codec.inInt 0 255)) && true)))) = true := hwi
              rw [Bool.and_eq_true, Bool.and_eq_true, Bool.and_eq_true, Bool.and_eq_true, Bool.and_eq_true] at q
              exact ⟨a.1, a.2.1, a.2.2.1, _, a.2.2.2.1, rfl, (Codec.inInt_iff.mp q.1).1, (Codec.inInt_iff.mp q.2.1).1, (Codec.inInt_iff.mp q.2.2.1).1, hs, fun z hz => Codec.inInt_iff.mp (List.all_eq_true.mp q.2.2.2.1.2 z hz), (Codec.inNat_iff.mp q.2.2.2.1.1).2, fun H' p hp => .lst (L2.SqL.of hp) (L2.dw_ints _)⟩
#print axioms PySem.Challenge.cw_totecombos_s05_next_of_holds
