import PyProof.Rows.All
import Wide.All
import OpenK.AllK
import Wide.FinOn
import PyProof.EqAt
import PyProof.EqKinds
import PyProof.TupleCall
import KE.BitLaws
import Open.SpecLaws
import KE.OsHead
import KE.OsGo
import PySem.Challenge.RW_rowsets_s13_ofbytes
set_option Elab.async false
set_option linter.all false
set_option maxRecDepth 100000
/-! THE HAND LAYER, for ints, bools, texts, own classes, lists, tuples, dicts, comprehensions, walks over dicts, enumerate, zip, reversed, texts, calls, loops. Paste it whole ahead of your own text; what your proof does not reach may be deleted. -/
namespace L2
open PySem PySem.Spec PyProof.Rows

/-- a key: an int or a str -/
abbrev Key := Sum Int Str
def keyIs : Key → Value → Bool
  | .inl k, v => Value.isInt k v
  | .inr x, v => Value.isStrOf x v
def keyH (w : World) : Key → Int
  | .inl k => hashInt k
  | .inr x => hashStr w x
theorem keyIs_shape : ∀ {k : Key} {v : Value}, keyIs k v = true → (∃ i t, k = Sum.inl i ∧ v = Value.int i t) ∨ (∃ x t, k = Sum.inr x ∧ v = Value.str x t)
  | .inl i, v, h => by
    obtain ⟨t, e⟩ := Value.isInt_shape (k := i) (v := v) h
    exact .inl ⟨i, t, rfl, e⟩
  | .inr x, v, h => by
    obtain ⟨t, e⟩ := Value.isStrOf_shape (x := x) (v := v) h
    exact .inr ⟨x, t, rfl, e⟩
theorem key_ll (a b : Int) : decide ((Sum.inl a : Key) = Sum.inl b) = (a == b) := by
  by_cases e : a = b
  · subst e; simp
  · have h : ¬ (Sum.inl a : Key) = Sum.inl b := fun q => e (Sum.inl.inj q)
    rw [decide_eq_false h]
    exact (beq_eq_false_iff_ne.mpr e).symm
theorem key_rr (a b : Str) : decide ((Sum.inr a : Key) = Sum.inr b) = decide (a = b) := by
  by_cases e : a = b
  · subst e; simp
  · have h : ¬ (Sum.inr a : Key) = Sum.inr b := fun q => e (Sum.inr.inj q)
    rw [decide_eq_false h, decide_eq_false e]
theorem key_lr (a : Int) (b : Str) : decide ((Sum.inl a : Key) = Sum.inr b) = false := decide_eq_false (fun q => nomatch q)
theorem key_rl (a : Str) (b : Int) : decide ((Sum.inr a : Key) = Sum.inl b) = false := decide_eq_false (fun q => nomatch q)

def mixKind (prog : Program) (w : World) : PySem.KeyKind prog w Key where
  is := keyIs
  hash := keyH w
  inj := fun v a b ha hb => by
    rcases keyIs_shape ha with ⟨i, t, rfl, rfl⟩ | ⟨x, t, rfl, rfl⟩
    · rcases keyIs_shape hb with ⟨j, u, rfl, e⟩ | ⟨y, u, rfl, e⟩
      · injection e with e1 _; rw [e1]
      · exact nomatch e
    · rcases keyIs_shape hb with ⟨j, u, rfl, e⟩ | ⟨y, u, rfl, e⟩
      · exact nomatch e
      · injection e with e1 _; rw [e1]
  byValue := fun k v h => by
    rcases keyIs_shape h with ⟨i, t, rfl, rfl⟩ | ⟨x, t, rfl, rfl⟩ <;> rfl
  pyHash := fun hv h => by
    rcases keyIs_shape hv with ⟨i, t, rfl, rfl⟩ | ⟨x, t, rfl, rfl⟩
    · exact wpAny_pyHash_int h
    · exact wpAny_pyHash_str h
  eqBool := fun hu hv h => by
    rcases keyIs_shape hu with ⟨i, t, rfl, rfl⟩ | ⟨x, t, rfl, rfl⟩
    · rcases keyIs_shape hv with ⟨j, u, rfl, rfl⟩ | ⟨y, u, rfl, rfl⟩
      · rw [key_ll] at h; exact wpAny_eqBool_int h
      · rw [key_lr] at h; exact SeqAt.EqAt.int_str i t y u _ _ _ _ h
    · rcases keyIs_shape hv with ⟨j, u, rfl, rfl⟩ | ⟨y, u, rfl, rfl⟩
      · rw [key_rl] at h; exact SeqAt.EqAt.str_int x t j u _ _ _ _ h
      · rw [key_rr] at h; exact wpAny_eqBool_str h
  «strs» := fun k x t v h => by
    rcases keyIs_shape h with ⟨i, u, rfl, e⟩ | ⟨y, u, rfl, e⟩
    · exact nomatch e
    · injection e with e1 _
      subst e1
      cases v <;> rfl

end L2

namespace L2
open PySem PySem.Spec PyProof.Rows

/-- a value, without the heap -/
inductive V where
  | non | bl (b : Bool) | int (i : Int) | str (x : Str) | byt (b : Array UInt8) | flt (b : UInt64) | ref (a : Addr) | ty (n : String)
  deriving DecidableEq

def RelV : V → Value → Prop
  | .non, u => u = Value.none
  | .bl b, u => u = Value.bool b
  | .int i, u => ∃ t, u = Value.int i t
  | .str x, u => ∃ t, u = Value.str x t
  | .byt b, u => ∃ t, u = Value.bytes b t
  | .flt b, u => ∃ t, u = Value.float b t
  | .ref a, u => u = Value.ref a
  | .ty n, u => u = Value.type n

abbrev Vals : List V → List Value → Prop := Paired RelV
theorem Vals.length {xs : List V} {us : List Value} (r : Vals xs us) : xs.length = us.length := Paired.length r
theorem Vals.get : ∀ {xs : List V} {us : List Value} {i : Nat} {x : V}, Vals xs us → xs[i]? = some x → ∃ u, us[i]? = some u ∧ RelV x u
  | _, _, _, _, .nil, e => by simp at e
  | _, _, 0, _, .cons r _, e => by simp at e; subst e; exact ⟨_, rfl, r⟩
  | _, _, i + 1, x, .cons _ t, e => by
    obtain ⟨u, h1, h2⟩ := Vals.get (i := i) (x := x) t (by simpa using e)
    exact ⟨u, by simpa using h1, h2⟩
theorem Vals.set {x : V} {u : Value} (r : RelV x u) : ∀ {xs : List V} {us : List Value} (i : Nat), Vals xs us → Vals (xs.set i x) (us.set i u)
  | _, _, _, .nil => .nil
  | _, _, 0, .cons _ t => .cons r t
  | _, _, i + 1, .cons q t => .cons q (Vals.set r i t)
theorem Vals.append : ∀ {xs ys : List V} {us ws : List Value}, Vals xs us → Vals ys ws → Vals (xs ++ ys) (us ++ ws)
  | _, _, _, _, .nil, s => s
  | _, _, _, _, .cons r t, s => .cons r (Vals.append t s)
theorem Vals.take : ∀ {xs : List V} {us : List Value} (n : Nat), Vals xs us → Vals (xs.take n) (us.take n)
  | _, _, 0, _ => .nil
  | _, _, _ + 1, .nil => .nil
  | _, _, n + 1, .cons r t => .cons r (Vals.take n t)
theorem Vals.drop : ∀ {xs : List V} {us : List Value} (n : Nat), Vals xs us → Vals (xs.drop n) (us.drop n)
  | _, _, 0, r => r
  | _, _, _ + 1, .nil => .nil
  | _, _, n + 1, .cons _ t => Vals.drop n t
def RelO : Option V → Option Value → Prop
  | some v, some u => RelV v u
  | none, none => True
  | _, _ => False
def KV {κ : Type} : List (κ × V) → List (κ × Value) → Prop := Paired fun (p : κ × V) (q : κ × Value) => p.1 = q.1 ∧ RelV p.2 q.2

/-- a key of a dict (00_mix): an int or a text -/
def kV : Key → V
  | .inl i => .int i
  | .inr x => .str x

/-- what stands at a tracked address -/
inductive HO where
  /-- a list -/
  | lst (xs : List V)
  /-- a tuple (never changes) -/
  | tup (xs : List V)
  /-- a dict whose keys are ints and texts; one whose keys are tuples of ints and texts (the empty one is both) -/
  | dK (kvs : List (Key × V)) | dT (kvs : List (List Key × V))
  /-- a set of ints: its members, its size -/
  | set (S : Int → Bool) (n : Nat)
  /-- an instance of the class at C, its dict at dx, its attributes -/
  | ins (C dx : Addr) (fs : List (Str × V))
  /-- the dict of the instance at x -/
  | own (x : Addr)
  /-- the dict of an exception -/
  | xd (fs : List (Str × V))
  /-- a bound method, f of x -/
  | met (f x : Addr)
  /-- a range object lo, lo + 1, .. below hi -/
  | rng (lo hi : Int)
  /-- a thing that is known to the object (the script; a dict while a loop walks it): read, never written while it is so -/
  | frz (o : Obj) (u : HO)
  /-- a code object's table -/
  | tbl (ps : Array Value)
  /-- any other thing, by what is true of its one object (a def of one's own: SetO a S n := HO.ext fun h => ..) -/
  | ext (φ : Heap → Prop)

abbrev Hp := Addr → Option HO
def upd (H : Hp) (a : Addr) (o : HO) : Hp := fun b => if b = a then some o else H b
theorem upd_same {H : Hp} {a : Addr} {o : HO} : upd H a o a = some o := by unfold upd; rw [if_pos rfl]
theorem upd_ne {H : Hp} {a b : Addr} {o : HO} (h : b ≠ a) : upd H a o b = H b := by unfold upd; rw [if_neg h]
theorem ne_of_none {H : Hp} {a b : Addr} {o : HO} (h : H a = some o) (h' : H b = none) : a ≠ b := by
  intro e; subst e; rw [h] at h'; cases h'

section
variable (P : Program) (w : World)
def ObjOk (H : Hp) (h : Heap) (a : Addr) : HO → Prop
  | .lst xs => xs.length ≤ sizeLine ∧ ∃ (its : List Value) (n : Nat), Vals xs its ∧ h.get? a = some { cls := .type "list", data := .seq its.toArray n }
  | .tup xs => xs.length ≤ sizeLine ∧ ∃ its : List Value, Vals xs its ∧ IsTup h a its.toArray
  | .dK kvs => kvs.length ≤ sizeLine ∧ (a == sysModules) = false ∧ ∃ vs, KV kvs vs ∧ h.DictOf (mixKind P w) a vs
  | .dT kvs => kvs.length ≤ sizeLine ∧ (a == sysModules) = false ∧ ∃ xs : List (List Key × Addr × Value),
      Paired (fun (p : List Key × V) (q : List Key × Addr × Value) => p.1 = q.1 ∧ H q.2.1 = some (.tup (p.1.map kV)) ∧ RelV p.2 q.2.2) kvs xs ∧
      ∃ o es ep, h.get? a = some o ∧ o.ExactDict ∧ o.data = .dict es ep ∧ es.toList = xs.map (entryOfKey (tupleKind (mixKind P w))) ∧ (xs.map (·.1)).Nodup
  | .set S n => h.SetOf (intKind P w) a S n
  | .ins C dx fs => H dx = some (.own a) ∧ fs.length ≤ 1000 ∧ dx ≠ a ∧ h.get? a = some (PySem.W.instObj C dx) ∧
      ∃ mA, h.Ns1 dx mA ∧ (∀ f, RelO (fs.lookup f) (mA f)) ∧ PySem.Within mA (fs.map (·.1))
  | .own _ => ∃ o, h.get? a = some o
  | .xd fs => ∃ mA, h.Ns1 a mA ∧ ∀ f, RelO (fs.lookup f) (mA f)
  | .rng lo hi => ∃ t u v, h.get? a = some { cls := .type "range", data := .fields #[.int lo t, .int hi u, .int 1 v] }
  | .frz o u => h.get? a = some o ∧ ObjOk H h a u
  | .tbl ps => h.get? a = some { cls := .none, data := .fields ps }
  | .met f x => h.get? a = some (PySem.W.methodObj (.ref f) (.ref x))
  | .ext φ => φ h ∧ (∃ o, h.get? a = some o) ∧ ∀ h1 h2 : Heap, φ h1 → (∀ o, h1.get? a = some o → h2.get? a = some o) → φ h2
/-- the abstract heap is held -/
def HOk (H : Hp) (h : Heap) : Prop := ∀ a o, H a = some o → ObjOk P w H h a o
end

section
variable {P : Program} {w : World} {H H' : Hp} {h h' : Heap} {a : Addr} {o : HO}
theorem ObjOk.lt (x : ObjOk P w H h a o) : a < h.objs.size := by
  cases o with
  | lst xs => obtain ⟨_, _, _, _, e⟩ := x; exact Heap.lt_size e
  | tup xs => obtain ⟨_, _, _, p⟩ := x; exact p.lt
  | dK kvs => obtain ⟨_, _, _, _, o, _, _, e, _⟩ := x; exact Heap.lt_size e
  | dT kvs => obtain ⟨_, _, _, _, o, _, _, e, _⟩ := x; exact Heap.lt_size e
  | set S n => obtain ⟨o, _, _, _, e, _⟩ := x; exact Heap.lt_size e
  | ins C dx fs => obtain ⟨_, _, _, e, _⟩ := x; exact Heap.lt_size e
  | own y => obtain ⟨_, e⟩ := x; exact Heap.lt_size e
  | xd fs => obtain ⟨_, ⟨_, _, _, e, _⟩, _⟩ := x; exact Heap.lt_size e
  | rng lo hi => obtain ⟨_, _, _, e⟩ := x; exact Heap.lt_size e
  | frz ob u => obtain ⟨e, _⟩ := x; exact Heap.lt_size e
  | tbl ps => exact Heap.lt_size (show h.get? a = some _ from x)
  | met f y => exact Heap.lt_size (show h.get? a = some _ from x)
  | ext φ => obtain ⟨_, ⟨_, e⟩, _⟩ := x; exact Heap.lt_size e
theorem Paired.mapP {α β : Type} {F G : α → β → Prop} : ∀ {l₁ : List α} {l₂ : List β}, Paired F l₁ l₂ → (∀ a b, F a b → G a b) → Paired G l₁ l₂
  | _, _, .nil, _ => .nil
  | _, _, .cons r t, f => .cons (f _ _ r) (Paired.mapP t f)
/-- what an object's description leans on: its own object, its own dict, the tuples -/
theorem ObjOk.stay (x : ObjOk P w H h a o) (k : ∀ b u, (b = a ∨ H b = some (.own a)) → h.get? b = some u → h'.get? b = some u)
    (ho : ∀ b, H b = some (.own a) → H' b = some (.own a)) (ht : ∀ b xs, H b = some (.tup xs) → H' b = some (.tup xs)) : ObjOk P w H' h' a o := by
  induction o with
  | lst xs => obtain ⟨z, its, n, r, e⟩ := x; exact ⟨z, its, n, r, k _ _ (.inl rfl) e⟩
  | tup xs => obtain ⟨z, its, r, ob, e, c⟩ := x; exact ⟨z, its, r, ob, k _ _ (.inl rfl) e, c⟩
  | dK kvs => obtain ⟨z, y, vs, r, ob, es, ep, e, c⟩ := x; exact ⟨z, y, vs, r, ob, es, ep, k _ _ (.inl rfl) e, c⟩
  | dT kvs =>
    obtain ⟨z, y, xs, r, ob, es, ep, e, c⟩ := x
    exact ⟨z, y, xs, Paired.mapP r fun p q z => ⟨z.1, ht _ _ z.2.1, z.2.2⟩, ob, es, ep, k _ _ (.inl rfl) e, c⟩
  | set S n => obtain ⟨ob, es, ep, t, e, c⟩ := x; exact ⟨ob, es, ep, t, k _ _ (.inl rfl) e, c⟩
  | ins C dx fs =>
    obtain ⟨d, z, ne, e, mA, ⟨od, es, ep, e2, c⟩, r⟩ := x
    exact ⟨ho _ d, z, ne, k _ _ (.inl rfl) e, mA, ⟨od, es, ep, k _ _ (.inr d) e2, c⟩, r⟩
  | own y => obtain ⟨ob, e⟩ := x; exact ⟨ob, k _ _ (.inl rfl) e⟩
  | xd fs => obtain ⟨mA, ⟨od, es, ep, e, c⟩, r⟩ := x; exact ⟨mA, ⟨od, es, ep, k _ _ (.inl rfl) e, c⟩, r⟩
  | rng lo hi => obtain ⟨t, u, v, e⟩ := x; exact ⟨t, u, v, k _ _ (.inl rfl) e⟩
  | frz ob u ih => obtain ⟨e, q⟩ := x; exact ⟨k _ _ (.inl rfl) e, ih q⟩
  | tbl ps =>
    have e : h.get? a = some { cls := .none, data := .fields ps } := x
    show h'.get? a = some { cls := .none, data := .fields ps }
    exact k a _ (.inl rfl) e
  | met f y =>
    have e : h.get? a = some (PySem.W.methodObj (.ref f) (.ref y)) := x
    show h'.get? a = some (PySem.W.methodObj (.ref f) (.ref y))
    exact k a _ (.inl rfl) e
  | ext φ => obtain ⟨p, ⟨o, e⟩, st⟩ := x; exact ⟨st _ _ p fun o q => k _ _ (.inl rfl) q, ⟨o, k _ _ (.inl rfl) e⟩, st⟩
theorem HOk.lt (x : HOk P w H h) (e : H a = some o) : a < h.objs.size := (x a o e).lt
theorem HOk.fresh (x : HOk P w H h) (e : h.objs.size ≤ a) : H a = none := by
  cases q : H a with
  | none => rfl
  | some u => exact absurd (Nat.lt_of_lt_of_le (x.lt q) e) (Nat.lt_irrefl _)
/-- every object of the heap is kept -/
theorem HOk.kept (x : HOk P w H h) (k : ∀ b u, h.get? b = some u → h'.get? b = some u) : HOk P w H h' := fun a o e =>
  (x a o e).stay (fun b u _ q => k b u q) (fun _ q => q) fun _ _ q => q
/-- a new object is laid and tracked -/
theorem HOk.laid (x : HOk P w H h) (k : ∀ b u, h.get? b = some u → h'.get? b = some u) (hp : h.objs.size ≤ a) (new : ObjOk P w (upd H a o) h' a o) : HOk P w (upd H a o) h' := fun b u e => by
  have hn := x.fresh hp
  by_cases hb : b = a
  · subst hb; rw [upd_same] at e; cases e; exact new
  · rw [upd_ne hb] at e
    exact (x b u e).stay (fun c v _ q => k c v q) (fun c q => by rw [upd_ne (ne_of_none q hn)]; exact q) fun c xs q => by rw [upd_ne (ne_of_none q hn)]; exact q
end

/-- what may be read as u: it is u, or a known u -/
def Rd (H : Hp) (a : Addr) (u : HO) : Prop := H a = some u ∨ ∃ o, H a = some (.frz o u)
theorem Rd.of {H : Hp} {a : Addr} {u : HO} (h : H a = some u) : Rd H a u := .inl h
theorem Rd.ok {P : Program} {w : World} {H : Hp} {h : Heap} {a : Addr} {u : HO} (r : Rd H a u) (x : HOk P w H h) : ObjOk P w H h a u := by
  rcases r with r | ⟨o, r⟩
  · exact x a u r
  · obtain ⟨_, q⟩ := x a _ r
    exact q
/-- what may be written -/
def Mut : Option HO → Prop
  | some (.lst _) => True
  | some (.dK _) => True
  | some (.dT _) => True
  | some (.set _ _) => True
  | some (.ins _ _ _) => True
  | some (.ext _) => True
  | _ => False
section
variable {P : Program} {w : World} {H : Hp} {h h' : Heap} {x e : Addr} {o' : HO}
/-- the object at e is changed: x itself, or the dict of the instance x -/
theorem HOk.write (ok : HOk P w H h) (mu : Mut (H x)) (he : e = x ∨ H e = some (.own x)) (k : ∀ b u, b ≠ e → h.get? b = some u → h'.get? b = some u) (heo : ∃ u, h'.get? e = some u)
    (new : ObjOk P w (upd H x o') h' x o') : HOk P w (upd H x o') h' := fun b u q => by
  have nown : ∀ c y, H c = some (.own y) → c ≠ x := fun c y r z => by subst z; rw [r] at mu; exact mu
  have ntup : ∀ c xs, H c = some (.tup xs) → c ≠ x := fun c xs r z => by subst z; rw [r] at mu; exact mu
  by_cases hb : b = x
  · subst hb; rw [upd_same] at q; cases q; exact new
  · rw [upd_ne hb] at q
    by_cases hbe : b = e
    · have q' : H b = some (.own x) := by
        rcases he with z | z
        · exact absurd (hbe.trans z) hb
        · rw [hbe]; exact z
      rw [q] at q'; cases q'
      obtain ⟨v, hv⟩ := heo
      exact ⟨v, by rw [hbe]; exact hv⟩
    · refine (ok b u q).stay (fun c v hc r => k c v ?_ r) (fun c r => by rw [upd_ne (nown c b r)]; exact r) fun c xs r => by rw [upd_ne (ntup c xs r)]; exact r
      rcases hc with rfl | hc
      · exact hbe
      · rintro rfl
        rcases he with z | z
        · exact nown c b hc z
        · rw [hc] at z; cases z; exact hb rfl
end

/-! ### kept unless tracked; of the frames at fs (the callers') the slots may change (an exception that passes writes there); of the records at ex (iterators) nothing is said -/
structure Un (fs ex : List Addr) (H H' : Hp) (h h' : Heap) : Prop where
  keep : ∀ b o, h.get? b = some o → H b = none → b ∉ fs → b ∉ ex → h'.get? b = some o
  slot : ∀ b o, h.get? b = some o → H b = none → b ∈ fs → b ∉ ex → ∃ sl, h'.get? b = some { o with slots := sl }
  free : ∀ b o, h.get? b = some o → H b = none → b ∉ ex → H' b = none
  there : ∀ b o, h.get? b = some o → b ∉ ex → ∃ o', h'.get? b = some o'
  tups : ∀ b xs, H b = some (.tup xs) → H' b = some (.tup xs)
  frzs : ∀ b o u, H b = some (.frz o u) → H' b = some (.frz o u)
  tbls : ∀ b ps, H b = some (.tbl ps) → ∃ more, H' b = some (.tbl (ps ++ more))
section
variable {fs fs' ex ex' : List Addr} {H H1 H2 : Hp} {h h1 h2 h' : Heap} {a x e : Addr} {o : HO}
theorem Un.any (u : Un fs ex H H1 h h1) {b : Addr} {ob : Obj} (q : h.get? b = some ob) (n : H b = none) (hx : b ∉ ex) : ∃ sl, h1.get? b = some { ob with slots := sl } := by
  by_cases hb : b ∈ fs
  · exact u.slot b ob q n hb hx
  · exact ⟨ob.slots, u.keep b ob q n hb hx⟩
theorem Un.trans (a : Un fs ex H H1 h h1) (b : Un fs ex H1 H2 h1 h2) : Un fs ex H H2 h h2 where
  keep := fun c ob q n hc hx => b.keep c ob (a.keep c ob q n hc hx) (a.free c ob q n hx) hc hx
  slot := fun c ob q n hc hx => by
    obtain ⟨sl, e1⟩ := a.slot c ob q n hc hx
    obtain ⟨sl', e2⟩ := b.slot c _ e1 (a.free c ob q n hx) hc hx
    exact ⟨sl', e2⟩
  free := fun c ob q n hx => by
    obtain ⟨o', e1⟩ := a.there c ob q hx
    exact b.free c o' e1 (a.free c ob q n hx) hx
  there := fun c ob q hx => by
    obtain ⟨o', e1⟩ := a.there c ob q hx
    exact b.there c o' e1 hx
  tups := fun c xs q => b.tups c xs (a.tups c xs q)
  frzs := fun c ob xs q => b.frzs c ob xs (a.frzs c ob xs q)
  tbls := fun c ps q => by
    obtain ⟨m1, e1⟩ := a.tbls c ps q
    obtain ⟨m2, e2⟩ := b.tbls c _ e1
    exact ⟨m1 ++ m2, by rw [e2, Array.append_assoc]⟩
theorem Un.kept (k : ∀ b u, h.get? b = some u → h'.get? b = some u) : Un fs ex H H h h' :=
  ⟨fun b ob q _ _ _ => k b ob q, fun b ob q _ _ _ => ⟨ob.slots, k b ob q⟩, fun _ _ _ n _ => n, fun b ob q _ => ⟨ob, k b ob q⟩, fun _ _ q => q, fun _ _ _ q => q, fun _ ps q => ⟨#[], by rw [q]; simp⟩⟩
theorem Un.refl : Un fs ex H H h h := Un.kept fun _ _ q => q
theorem Un.laid (k : ∀ b u, h.get? b = some u → h'.get? b = some u) (hp : h.objs.size ≤ a) (hn : H a = none) : Un fs ex H (upd H a o) h h' where
  keep := fun b u q _ _ _ => k b u q
  slot := fun b u q _ _ _ => ⟨u.slots, k b u q⟩
  free := fun b u q n _ => by rw [upd_ne (Nat.ne_of_lt (Nat.lt_of_lt_of_le (Heap.lt_size q) hp))]; exact n
  there := fun b u q _ => ⟨u, k b u q⟩
  tups := fun b xs q => by rw [upd_ne (ne_of_none q hn)]; exact q
  frzs := fun b u xs q => by rw [upd_ne (ne_of_none q hn)]; exact q
  tbls := fun b ps q => ⟨#[], by rw [upd_ne (ne_of_none q hn), q]; simp⟩
theorem Un.write (mu : Mut (H x)) (he : e = x ∨ H e = some (.own x)) (k : ∀ b u, b ≠ e → h.get? b = some u → h'.get? b = some u) (heo : ∃ u, h'.get? e = some u) : Un fs ex H (upd H x o) h h' := by
  have hx : ∀ b, H b = none → b ≠ x := fun b n z => by subst z; rw [n] at mu; exact mu
  have hb : ∀ b, H b = none → b ≠ e := fun b n z => by
    subst z
    rcases he with r | r
    · exact hx b n r
    · rw [n] at r; cases r
  have hm : ∀ b u, H b = some u → ¬ Mut (some u) → b ≠ x := fun b u q nm z => by subst z; rw [q] at mu; exact nm mu
  refine ⟨fun b u q n _ _ => k b u (hb b n) q, fun b u q n _ _ => ⟨u.slots, k b u (hb b n) q⟩, fun b u q n _ => by rw [upd_ne (hx b n)]; exact n, fun b u q _ => ?_,
    fun b xs q => by rw [upd_ne (hm b _ q fun z => z)]; exact q, fun b u xs q => by rw [upd_ne (hm b _ q fun z => z)]; exact q, fun b ps q => ⟨#[], by rw [upd_ne (hm b _ q fun z => z), q]; simp⟩⟩
  by_cases hbe : b = e
  · subst hbe; exact heo
  · exact ⟨u, k b u hbe q⟩
theorem Un.mono (u : Un fs ex H H1 h h1) (hs : ∀ b ∈ fs, b ∈ fs') (hx : ∀ b ∈ ex, b ∈ ex') : Un fs' ex' H H1 h h1 :=
  ⟨fun b ob q n hb he => u.keep b ob q n (fun z => hb (hs b z)) fun z => he (hx b z), fun _ _ q n _ he => u.any q n fun z => he (hx _ z), fun b ob q n he => u.free b ob q n fun z => he (hx b z), fun b ob q he => u.there b ob q fun z => he (hx b z), u.tups, u.frzs, u.tbls⟩
end

/-! ### the heap without what is tracked -/
def trk (h : Heap) (H : Hp) : List Addr := (List.range h.objs.size).filter fun a => (H a).isSome
def hidT (h : Heap) (H : Hp) : Heap := PySem.W.hideAll h (trk h H)
theorem hidT_size (h : Heap) (H : Hp) : (hidT h H).objs.size = h.objs.size := PySem.W.hideAll_size _ _
theorem hidT_get {h : Heap} {H : Hp} {b : Addr} {o : Obj} (e : h.get? b = some o) (n : H b = none) : (hidT h H).get? b = some o :=
  PySem.W.hideAll_get _ e fun hm => by
    have q : (H b).isSome = true := (List.mem_filter.mp hm).2
    rw [n] at q; simp at q
theorem of_hidT {h : Heap} {H : Hp} {b : Addr} {o : Obj} (e : (hidT h H).get? b = some o) : h.get? b = some o ∧ H b = none := by
  have e' : h.get? b = some o := PySem.W.of_hideAll (trk h H) e
  refine ⟨e', ?_⟩
  cases q : H b with
  | none => rfl
  | some x =>
    have hm : b ∈ trk h H := List.mem_filter.mpr ⟨List.mem_range.mpr (Heap.lt_size e'), by simp [q]⟩
    have z : (hidT h H).get? b = none := PySem.W.hideAll_none (trk h H) hm
    rw [z] at e; cases e

/-! ### OpenK's ledger, filled with every new object but one -/
def allNews (g h : Heap) (L : Addr) : List (Addr × Obj) := (List.range h.objs.size).filterMap fun a => if a = L ∨ (g.get? a).isSome = true then none else (h.get? a).map fun o => (a, o)
def rest (g h : Heap) (L d : Addr) : List (Addr × Obj) := (allNews g h L).filter fun p => decide (p.1 ≠ d)
end L2

namespace L2
open PySem PySem.Spec PyProof.Rows

/-- the module's facts, over the base: the heap at the law's entry without what is tracked there -/
structure Mod (K : PySem.W.Frag) (mg : Str → Option Value) (base : Heap) : Prop where
  kin : K.In base
  glob : base.Ns mainGlobals mg
  blt : ∃ mb, base.Ns builtinsNs mb ∧ ∀ x : Str, x ≠ "__name__" → mb x = bootBuiltins x
  nolimit : base.NoLimit

/-- the context: a def's body (or a comprehension's block) running. base: fixed through the whole law; s₀, H₀: the entry; outer: the frames whose slots others may change (a def's callers); stack: all frames that run;
   ex: iterators that were made ahead of the entry and are walked here (a comprehension's); fn: the names whose cells were made at the entry (a def: all; a comprehension's block: its own); calm: not within an except suite; pn: pins that every state bears; xe: what is wanted of an exception that leaves the code -/
structure Cx where
  prog : Program
  w : World
  K : PySem.W.Frag
  mg : Str → Option Value
  base : Heap
  A : Around
  N : List Str
  s_0 : Shared
  H_0 : Hp
  env : Env
  outer : List Env
  stack : List Env
  ex : List Addr
  fn : Str → Bool
  calm : Bool
  pn : List (Addr × Obj)
  xe : Value → Shared → Prop
/-- the callers' frames -/
def frs (l : List Env) : List Addr := l.filterMap (·.frame)
abbrev Cx.fs (X : Cx) : List Addr := frs X.outer

def Vis (sc : Scope) (x : Str) : Prop := sc.names.lookup x = some .local ∨ sc.names.lookup x = some .cell ∨ sc.names.lookup x = some .free
def Loc (sc : Scope) (x : Str) : Prop := sc.names.lookup x = some .local ∨ sc.names.lookup x = some .cell
def Look (env : Env) (h : Heap) (m : Str → Option Value) (x : Str) (u : Value) : Prop :=
  (env.kindOf x = some .local ∧ m x = some u) ∨ ((env.kindOf x = some .cell ∨ env.kindOf x = some .free) ∧ ∃ c, env.cells.lookup x = some c ∧ h.IsCell c (some u))

structure Cx.Ok (X : Cx) : Prop where
  mod : Mod X.K X.mg X.base
  kind : X.env.scope.kind = .function
  glob : X.env.globals = mainGlobals
  blt : X.env.builtins = builtinsNs
  above : X.s_0.heap.objs.size ≤ X.env.locals
  inj : ∀ x y c, X.env.cells.lookup x = some c → X.env.cells.lookup y = some c → x = y
  has : ∀ x, (X.env.kindOf x = some .cell ∨ X.env.kindOf x = some .free) → ∃ c, X.env.cells.lookup x = some c
  cab : ∀ x c, X.fn x = true → X.env.cells.lookup x = some c → X.s_0.heap.objs.size ≤ c
  hd : X.calm = true → X.A.handled = none
  frames : X.A.frames = some X.stack
  stk : X.stack = X.outer ∨ (X.stack = X.env :: X.outer ∧ X.env.frame = some X.env.locals)
  exf : ∀ b ∈ X.ex, b ≠ X.env.locals ∧ ∀ x c, X.env.cells.lookup x = some c → c ≠ b
  bs : ∀ b o, X.base.get? b = some o → X.s_0.heap.get? b = some o ∧ X.H_0 b = none
  bsz : X.base.objs.size ≤ X.s_0.heap.objs.size
  noex : ∀ b o, X.base.get? b = some o → b ∉ X.ex
  exfs : ∀ b ∈ X.ex, b ∉ X.fs
  funs : X.s_0.heap.FunFrames X.base X.outer
  frf : ∀ b ∈ X.fs, X.H_0 b = none

structure Inv (X : Cx) (pins : List (Addr × Obj)) (σ : List (Option V)) (H : Hp) (s : Shared) : Prop where
  ok : X.Ok
  os : s.os = X.s_0.os
  bare : AllBare s.gens
  base : Un X.fs X.ex X.H_0 H X.s_0.heap s.heap
  loc : ∃ m, s.heap.Ns X.env.locals m ∧ ∀ (i : Nat) (x : Str) (v : V), X.N[i]? = some x → σ[i]? = some (some v) → Vis X.env.scope x → ∃ u, RelV v u ∧ Look X.env s.heap m x u
  cell : ∀ x c, X.env.cells.lookup x = some c → ∃ v, s.heap.IsCell c v
  free : H X.env.locals = none
  freeC : ∀ x c, X.env.cells.lookup x = some c → H c = none
  pin : ∀ p ∈ X.pn ++ pins, s.heap.get? p.1 = some p.2 ∧ H p.1 = none ∧ p.1 ≠ X.env.locals ∧ p.1 ∉ X.fs ∧ ∀ v, p.2.data ≠ .cell v
  hok : HOk X.prog X.w H s.heap
  len : σ.length = X.N.length

section
variable {X : Cx} {pins : List (Addr × Obj)} {σ : List (Option V)} {H H' : Hp} {s : Shared} {h' : Heap}

theorem Cx.Ok.nofr (ok : X.Ok) {b : Addr} {o : Obj} (e : X.base.get? b = some o) : b ∉ X.fs := fun hb => by
  have := (ok.funs.mem hb).1
  rw [e] at this; cases this
theorem Inv.bs (I : Inv X pins σ H s) : ∀ b o, X.base.get? b = some o → s.heap.get? b = some o ∧ H b = none := fun b o e =>
  ⟨I.base.keep b o (I.ok.bs b o e).1 (I.ok.bs b o e).2 (I.ok.nofr e) (I.ok.noex b o e), I.base.free b o (I.ok.bs b o e).1 (I.ok.bs b o e).2 (I.ok.noex b o e)⟩
theorem Inv.bk (I : Inv X pins σ H s) : ∀ b o, X.base.get? b = some o → s.heap.get? b = some o := fun b o e => (I.bs b o e).1
theorem Inv.mod (I : Inv X pins σ H s) : Mod X.K X.mg X.base := I.ok.mod
theorem Inv.kIn (I : Inv X pins σ H s) : X.K.In s.heap := I.ok.mod.kin.keeps I.bk
theorem Inv.nolimit (I : Inv X pins σ H s) : s.heap.NoLimit := I.ok.mod.nolimit.keeps I.bk
theorem Inv.lt (I : Inv X pins σ H s) : X.env.locals < s.heap.objs.size := let ⟨_, hn, _⟩ := I.loc; hn.lt
theorem Inv.sz (I : Inv X pins σ H s) : X.s_0.heap.objs.size ≤ s.heap.objs.size := Nat.le_trans I.ok.above (Nat.le_of_lt I.lt)
theorem Inv.nofs (I : Inv X pins σ H s) {a : Addr} (h : s.heap.objs.size ≤ a) : a ∉ X.fs := fun hb => by
  obtain ⟨_, o, ho, _⟩ := I.ok.funs.mem hb
  exact absurd (Nat.lt_of_lt_of_le (Heap.lt_size ho) (Nat.le_trans I.sz h)) (Nat.lt_irrefl _)
theorem Inv.cne (I : Inv X pins σ H s) : ∀ x c, X.env.cells.lookup x = some c → c ≠ X.env.locals := fun x c e z => by
  obtain ⟨v, o, ho, hd⟩ := I.cell x c e
  obtain ⟨m, ⟨o', es, ep, ho', hd', _⟩, _⟩ := I.loc
  rw [z, ho'] at ho; cases ho; rw [hd'] at hd; cases hd
theorem Inv.funs (I : Inv X pins σ H s) : s.heap.FunFrames X.base X.outer := by
  have all : ∀ (l : List Env), (∀ b ∈ frs l, b ∈ X.fs) → X.s_0.heap.FunFrames X.base l → s.heap.FunFrames X.base l := by
    intro l
    induction l with
    | nil => intro _ _; trivial
    | cons env r ih =>
      intro hs hl
      obtain ⟨hk, ⟨L, o, hf, hn, ho, hd⟩, hr⟩ := hl
      have hL : L ∈ X.fs := hs L (by unfold frs; rw [List.filterMap_cons, hf]; exact List.mem_cons_self)
      obtain ⟨sl, e⟩ := I.base.slot L o ho (I.ok.frf L hL) hL fun z => I.ok.exfs L z hL
      exact ⟨hk, ⟨L, _, hf, hn, e, hd⟩, ih (fun b hb => hs b (by unfold frs; rw [List.filterMap_cons, hf]; exact List.mem_cons_of_mem _ hb)) hr⟩
  exact all X.outer (fun _ hb => hb) I.ok.funs

/-- the frames that run, for a call -/
theorem Inv.stack (I : Inv X pins σ H s) : s.heap.FunFrames X.base X.stack := by
  rcases I.ok.stk with e | ⟨e, hf⟩
  · rw [e]; exact I.funs
  · rw [e]
    obtain ⟨m, hn, _⟩ := I.loc
    refine .cons (by rw [I.ok.kind]; decide) hf hn ?_ I.funs
    exact Heap.get?_none_of_le (Nat.le_trans I.ok.bsz I.ok.above)
theorem Inv.stkSub (I : Inv X pins σ H s) : ∀ b ∈ frs X.stack, b ∈ X.env.locals :: X.fs := fun b hb => by
  rcases I.ok.stk with e | ⟨e, hf⟩
  · rw [e] at hb; exact List.mem_cons_of_mem _ hb
  · rw [e] at hb
    unfold frs at hb
    rw [List.filterMap_cons, hf] at hb
    exact hb
theorem Inv.stkFree (I : Inv X pins σ H s) : ∀ b ∈ frs X.stack, H b = none := fun b hb => by
  rcases List.mem_cons.mp (I.stkSub b hb) with e | hb
  · rw [e]; exact I.free
  · obtain ⟨_, o, ho, _⟩ := I.ok.funs.mem hb
    exact I.base.free b o ho (I.ok.frf b hb) fun z => I.ok.exfs b z hb

/-- THE STEP: the untracked objects but the frame and the records at ch are kept (the callers' frames up to slots), the frame's map is kept, the new abstract heap is held -/
theorem Inv.step {g' : Array GenState} {t' : Nat} {d' : Drawn} {ch : List Addr} (I : Inv X pins σ H s)
    (hch : ∀ b ∈ ch, (b ∈ X.ex ∨ X.s_0.heap.objs.size ≤ b) ∧ b ≠ X.env.locals ∧ (∀ x c, X.env.cells.lookup x = some c → c ≠ b) ∧ ∀ p ∈ X.pn ++ pins, p.1 ≠ b)
    (keep : ∀ b o, b ≠ X.env.locals → b ∉ X.fs → b ∉ ch → s.heap.get? b = some o → H b = none → h'.get? b = some o)
    (slot : ∀ b o, b ≠ X.env.locals → b ∈ X.fs → b ∉ ch → s.heap.get? b = some o → H b = none → ∃ sl, h'.get? b = some { o with slots := sl }) (free : ∀ b o, b ∉ ch → s.heap.get? b = some o → H b = none → H' b = none)
    (there : ∀ b o, b ∉ ch → s.heap.get? b = some o → ∃ o', h'.get? b = some o')
    (tups : ∀ b xs, H b = some (.tup xs) → H' b = some (.tup xs)) (frzs : ∀ b o u, H b = some (.frz o u) → H' b = some (.frz o u)) (tbls : ∀ b ps, H b = some (.tbl ps) → ∃ more, H' b = some (.tbl (ps ++ more)))
    (ns : ∀ m, s.heap.Ns X.env.locals m → h'.Ns X.env.locals m) (hok : HOk X.prog X.w H' h') (hg : AllBare g') :
    Inv X pins σ H' { s with heap := h', gens := g', drawn := d', toks := t' } := by
  have neL : ∀ b o, X.s_0.heap.get? b = some o → b ≠ X.env.locals := fun b o e => Nat.ne_of_lt (Nat.lt_of_lt_of_le (Heap.lt_size e) I.ok.above)
  have neC : ∀ b o, X.s_0.heap.get? b = some o → b ∉ X.ex → b ∉ ch := fun b o e hx hb => by
    rcases (hch b hb).1 with z | z
    · exact hx z
    · exact absurd (Nat.lt_of_lt_of_le (Heap.lt_size e) z) (Nat.lt_irrefl _)
  have cellK : ∀ x c, X.env.cells.lookup x = some c → ∀ v, s.heap.IsCell c v → h'.IsCell c v := fun x c e v ⟨o, ho, hd⟩ => by
    have nch : c ∉ ch := fun z => (hch c z).2.2.1 x c e rfl
    by_cases hc : c ∈ X.fs
    · obtain ⟨sl, q⟩ := slot c o (I.cne x c e) hc nch ho (I.freeC x c e)
      exact ⟨_, q, hd⟩
    · exact ⟨o, keep c o (I.cne x c e) hc nch ho (I.freeC x c e), hd⟩
  refine ⟨I.ok, I.os, hg, ⟨fun b o e n hb hx => ?_, fun b o e n hb hx => ?_, fun b o e n hx => ?_, fun b o e hx => ?_, fun b xs e => tups b xs (I.base.tups b xs e), fun b o xs e => frzs b o xs (I.base.frzs b o xs e), fun b ps e => ?_⟩, ?_, fun x c e => ?_, ?_, fun x c e => ?_, fun p hp => ?_, hok, I.len⟩
  · exact keep b o (neL b o e) hb (neC b o e hx) (I.base.keep b o e n hb hx) (I.base.free b o e n hx)
  · obtain ⟨sl, e1⟩ := I.base.slot b o e n hb hx
    obtain ⟨sl', e2⟩ := slot b _ (neL b o e) hb (neC b o e hx) e1 (I.base.free b o e n hx)
    exact ⟨sl', e2⟩
  · obtain ⟨o', e1⟩ := I.base.there b o e hx
    exact free b o' (neC b o e hx) e1 (I.base.free b o e n hx)
  · obtain ⟨o', e1⟩ := I.base.there b o e hx
    exact there b o' (neC b o e hx) e1
  · obtain ⟨m1, e1⟩ := I.base.tbls b ps e
    obtain ⟨m2, e2⟩ := tbls b _ e1
    exact ⟨m1 ++ m2, by rw [e2, Array.append_assoc]⟩
  · obtain ⟨m, hn, hl⟩ := I.loc
    refine ⟨m, ns m hn, fun i x v e1 e2 e3 => ?_⟩
    obtain ⟨u, r, l⟩ := hl i x v e1 e2 e3
    refine ⟨u, r, ?_⟩
    rcases l with l | ⟨k, c, e, z⟩
    · exact .inl l
    · exact .inr ⟨k, c, e, cellK x c e _ z⟩
  · obtain ⟨v, z⟩ := I.cell x c e
    exact ⟨v, cellK x c e v z⟩
  · obtain ⟨m, ⟨o, _, _, ho, _⟩, _⟩ := I.loc
    exact free _ o (fun z => (hch _ z).2.1 rfl) ho I.free
  · obtain ⟨v, o, ho, hd⟩ := I.cell x c e
    exact free c o (fun z => (hch c z).2.2.1 x c e rfl) ho (I.freeC x c e)
  · obtain ⟨e, n, ne, nf, d⟩ := I.pin p hp
    have nch : p.1 ∉ ch := fun z => (hch p.1 z).2.2.2 p hp rfl
    exact ⟨keep p.1 p.2 ne nf nch e n, free p.1 p.2 nch e n, ne, nf, d⟩
/-- .. where the frame's own object is kept too -/
theorem Inv.un {t' : Nat} (I : Inv X pins σ H s) (u : Un X.fs [] H H' s.heap h') (hok : HOk X.prog X.w H' h') : Inv X pins σ H' { s with heap := h', toks := t' } := by
  obtain ⟨m, ⟨o, es, ep, ho, r⟩, _⟩ := id I.loc
  obtain ⟨sl, hL⟩ := u.any ho I.free (by simp)
  exact I.step (g' := s.gens) (d' := s.drawn) (ch := []) (fun _ z => nomatch z) (fun b o _ hb _ e n => u.keep b o e n hb (by simp)) (fun b o _ hb _ e n => u.slot b o e n hb (by simp)) (fun b o _ e n => u.free b o e n (by simp)) (fun b o _ e => u.there b o e (by simp)) u.tups u.frzs u.tbls (fun m' hm => by
    obtain ⟨o', es', ep', ho', r'⟩ := hm
    rw [ho] at ho'; cases ho'
    exact ⟨_, es', ep', hL, r'⟩) hok I.bare
/-- behind a call (or a comprehension's block): the slots of this frame may have changed too, the records at ch may have turned -/
theorem Inv.call {g' : Array GenState} {t' : Nat} {d' : Drawn} {ch : List Addr} (I : Inv X pins σ H s) (u : Un (frs X.stack) ch H H' s.heap h') (hok : HOk X.prog X.w H' h') (hg : AllBare g')
    (hch : ∀ b ∈ ch, (b ∈ X.ex ∨ X.s_0.heap.objs.size ≤ b) ∧ b ≠ X.env.locals ∧ (∀ x c, X.env.cells.lookup x = some c → c ≠ b) ∧ ∀ p ∈ X.pn ++ pins, p.1 ≠ b) :
    Inv X pins σ H' { s with heap := h', gens := g', drawn := d', toks := t' } := by
  obtain ⟨m, ⟨o, es, ep, ho, r⟩, _⟩ := id I.loc
  obtain ⟨sl, hL⟩ := u.any ho I.free fun z => (hch _ z).2.1 rfl
  exact I.step (ch := ch) hch (fun b o hL hb hc e n => u.keep b o e n (fun z => (List.mem_cons.mp (I.stkSub b z)).elim hL hb) hc) (fun b o _ _ hc e n => u.any e n hc) (fun b o hc e n => u.free b o e n hc) (fun b o hc e => u.there b o e hc) u.tups u.frzs u.tbls (fun m' hm => by
    obtain ⟨o', es', ep', ho', r'⟩ := hm
    rw [ho] at ho'; cases ho'
    exact ⟨_, es', ep', hL, r'⟩) hok hg
/-- an untracked record of ours (an iterator) has turned -/
theorem Inv.turned {t' : Nat} {it : Addr} (I : Inv X pins σ H s) (k : ∀ b o, b ≠ it → s.heap.get? b = some o → h'.get? b = some o) (hn : H it = none) (hL : it ≠ X.env.locals)
    (h1 : it ∈ X.ex ∨ X.s_0.heap.objs.size ≤ it) (h2 : ∀ x c, X.env.cells.lookup x = some c → c ≠ it) (h3 : ∀ p ∈ X.pn ++ pins, p.1 ≠ it) : Inv X pins σ H { s with heap := h', toks := t' } := by
  have nit : ∀ b u, H b = some u → b ≠ it := fun b u e z => by rw [z, hn] at e; cases e
  refine I.step (g' := s.gens) (d' := s.drawn) (ch := [it]) (fun b hb => ?_) (fun b o _ _ hc e _ => k b o (fun z => hc (by simp [z])) e) (fun b o _ _ hc e _ => ⟨o.slots, k b o (fun z => hc (by simp [z])) e⟩) (fun _ _ _ _ n => n)
    (fun b o hc e => ⟨o, k b o (fun z => hc (by simp [z])) e⟩) (fun _ _ e => e) (fun _ _ _ e => e) (fun b ps e => ⟨#[], by rw [e]; simp⟩) (fun m hm => ?_) (fun b u e => ?_) I.bare
  · have e : b = it := by simpa using hb
    subst e
    exact ⟨h1, hL, h2, h3⟩
  · obtain ⟨o, es, ep, ho, r⟩ := hm
    exact ⟨o, es, ep, k _ o (Ne.symm hL) ho, r⟩
  · refine (I.hok b u e).stay (fun c v hc q => k c v ?_ q) (fun _ q => q) fun _ _ q => q
    rcases hc with z | z
    · rw [z]; exact nit b u e
    · exact nit c _ z
theorem Inv.tok (I : Inv X pins σ H s) (t : Nat) : Inv X pins σ H { s with toks := t } := I.un (h' := s.heap) (t' := t) Un.refl I.hok
/-- all objects kept -/
theorem Inv.kept {t' : Nat} (I : Inv X pins σ H s) (k : ∀ b u, s.heap.get? b = some u → h'.get? b = some u) : Inv X pins σ H { s with heap := h', toks := t' } := I.un (Un.kept k) (I.hok.kept k)
/-- a new object laid and tracked -/
theorem Inv.laid {a : Addr} {o : HO} {t' : Nat} (I : Inv X pins σ H s) (k : ∀ b u, s.heap.get? b = some u → h'.get? b = some u) (hp : s.heap.objs.size ≤ a) (new : ObjOk X.prog X.w (upd H a o) h' a o) :
    Inv X pins σ (upd H a o) { s with heap := h', toks := t' } := I.un (Un.laid k hp (I.hok.fresh hp)) (I.hok.laid k hp new)
/-- an object written -/
theorem Inv.write {x e : Addr} {o : HO} {t' : Nat} (I : Inv X pins σ H s) (mu : Mut (H x)) (he : e = x ∨ H e = some (.own x)) (k : ∀ b u, b ≠ e → s.heap.get? b = some u → h'.get? b = some u) (heo : ∃ u, h'.get? e = some u)
    (new : ObjOk X.prog X.w (upd H x o) h' x o) : Inv X pins σ (upd H x o) { s with heap := h', toks := t' } := I.un (Un.write mu he k heo) (I.hok.write mu he k heo new)
/-- forgetting slots, pins -/
theorem Inv.weak {σ' : List (Option V)} (I : Inv X pins σ H s) (hl : σ'.length = σ.length) (w : ∀ (i : Nat) v, σ'[i]? = some (some v) → σ[i]? = some (some v)) : Inv X pins σ' H s :=
  ⟨I.ok, I.os, I.bare, I.base, let ⟨m, hn, hl'⟩ := I.loc; ⟨m, hn, fun i x v e1 e2 e3 => hl' i x v e1 (w i v e2) e3⟩, I.cell, I.free, I.freeC, I.pin, I.hok, hl.trans I.len⟩
theorem Inv.pins_of {pins' : List (Addr × Obj)} (I : Inv X pins σ H s) (h : ∀ p ∈ pins', s.heap.get? p.1 = some p.2 ∧ H p.1 = none ∧ p.1 ≠ X.env.locals ∧ p.1 ∉ X.fs ∧ ∀ v, p.2.data ≠ .cell v) : Inv X pins' σ H s :=
  ⟨I.ok, I.os, I.bare, I.base, I.loc, I.cell, I.free, I.freeC, fun p hp => (List.mem_append.mp hp).elim (fun z => I.pin p (List.mem_append_left _ z)) (h p), I.hok, I.len⟩

theorem nodup_ix {N : List Str} (hN : N.Nodup) {i j : Nat} {x : Str} (a : N[i]? = some x) (b : N[j]? = some x) : i = j := by
  obtain ⟨h1, e1⟩ := List.getElem?_eq_some_iff.mp a
  obtain ⟨h2, e2⟩ := List.getElem?_eq_some_iff.mp b
  exact (List.getElem_inj hN).mp (e1.trans e2.symm)

/-- a name is stored; what changed -/
theorem store_ok2 {M : Model} {A : Around} {E : Value → Shared → Prop} {i : Nat} {x : Str} {v : V} {u : Value} {Q : Unit → Shared → Prop} (I : Inv X pins σ H s) (hN : X.N.Nodup) (hi : X.N[i]? = some x) (hx : Loc X.env.scope x) (r : RelV v u)
    (h : ∀ s', Inv X pins (σ.set i (some v)) H s' → (∃ a, Heap.SameBut a s.heap s'.heap ∧ (a = X.env.locals ∨ X.env.cells.lookup x = some a)) → Q () s') (hf : X.fn x = true ∨ X.env.scope.names.lookup x = some .local := by first | exact .inl rfl | exact .inr rfl | assumption) : wpAny M A (storeName X.env x u) Q E s := by
  obtain ⟨m, hn, hl⟩ := id I.loc
  have hcls : (X.env.scope.kind == .class || (X.env.scope.kind == .module && X.env.locals != X.env.globals)) = false := by rw [I.ok.kind]; rfl
  have hiσ : i < σ.length := by rw [I.len]; exact (List.getElem?_eq_some_iff.mp hi).1
  have cne := I.cne
  have tracked : ∀ {a : Addr} {h' : Heap}, (∃ o, s.heap.get? a = some o ∧ H a = none) → Heap.SameBut a s.heap h' → HOk X.prog X.w H h' := fun {a h'} ha hs b ob e => by
    obtain ⟨_, _, hfree⟩ := ha
    refine (I.hok b ob e).stay (fun c w' hc q => (hs.2 c ?_).trans q) (fun _ q => q) fun _ _ q => q
    rintro rfl
    rcases hc with rfl | hc
    · rw [hfree] at e; cases e
    · rw [hfree] at hc; cases hc
  rcases hx with hk | hk
  · refine wpAny_storeName_local hk hn (fun h' hn' hs => ?_) hcls
    obtain ⟨oL, _, _, hoL, _⟩ := id hn
    refine h _ ⟨I.ok, I.os, I.bare, ⟨fun b o e n hb hx => ?_, fun b o e n hb hx => ?_, I.base.free, fun b o e hx => ?_, I.base.tups, I.base.frzs, I.base.tbls⟩, ⟨_, hn', fun j y v' e1 e2 e3 => ?_⟩, fun y c e => ?_, I.free, I.freeC, fun p hp => ?_, tracked ⟨oL, hoL, I.free⟩ hs, by simpa using I.len⟩ ⟨_, hs, .inl rfl⟩
    · exact (hs.2 b (Nat.ne_of_lt (Nat.lt_of_lt_of_le (Heap.lt_size e) I.ok.above))).trans (I.base.keep b o e n hb hx)
    · obtain ⟨sl, e1⟩ := I.base.slot b o e n hb hx
      exact ⟨sl, (hs.2 b (Nat.ne_of_lt (Nat.lt_of_lt_of_le (Heap.lt_size e) I.ok.above))).trans e1⟩
    · obtain ⟨o', e1⟩ := I.base.there b o e hx
      exact ⟨o', (hs.2 b (Nat.ne_of_lt (Nat.lt_of_lt_of_le (Heap.lt_size e) I.ok.above))).trans e1⟩
    · by_cases hj : j = i
      · subst hj
        rw [hi] at e1; cases e1
        rw [List.getElem?_set_self hiσ] at e2
        cases e2
        exact ⟨u, r, .inl ⟨hk, by simp⟩⟩
      · rw [List.getElem?_set_ne (Ne.symm hj)] at e2
        obtain ⟨u', r', q⟩ := hl j y v' e1 e2 e3
        refine ⟨u', r', ?_⟩
        rcases q with ⟨k, e⟩ | ⟨k, c, e, z⟩
        · refine .inl ⟨k, ?_⟩
          have : y ≠ x := fun e => hj (nodup_ix hN e1 (e ▸ hi))
          simp [this, e]
        · exact .inr ⟨k, c, e, z.sameBut hs (cne y c e)⟩
    · obtain ⟨w', z⟩ := I.cell y c e
      exact ⟨w', z.sameBut hs (cne y c e)⟩
    · obtain ⟨e, n, ne, nf, d⟩ := I.pin p hp
      exact ⟨(hs.2 p.1 ne).trans e, n, ne, nf, d⟩
  · have hfn : X.fn x = true := by
      rcases hf with z | z
      · exact z
      · rw [z] at hk; cases hk
    obtain ⟨c, hc⟩ := I.ok.has x (.inl hk)
    obtain ⟨w', z⟩ := I.cell x c hc
    refine wpAny_storeName_cell I.ok.kind hk hc z (fun h' hc' hs => ?_)
    obtain ⟨oc, hoc, hocd⟩ := id z
    refine h { s with heap := h' } ⟨I.ok, I.os, I.bare, ⟨fun b o e n hb hx => ?_, fun b o e n hb hx => ?_, I.base.free, fun b o e hx => ?_, I.base.tups, I.base.frzs, I.base.tbls⟩, ⟨m, hn.sameBut hs (Ne.symm (cne x c hc)), fun j y v' e1 e2 e3 => ?_⟩, fun y c' e => ?_, I.free, I.freeC, fun p hp => ?_, tracked ⟨oc, hoc, I.freeC x c hc⟩ hs, by simpa using I.len⟩ ⟨c, hs, .inr hc⟩
    · exact (hs.2 b (Nat.ne_of_lt (Nat.lt_of_lt_of_le (Heap.lt_size e) (I.ok.cab x c hfn hc)))).trans (I.base.keep b o e n hb hx)
    · obtain ⟨sl, e1⟩ := I.base.slot b o e n hb hx
      exact ⟨sl, (hs.2 b (Nat.ne_of_lt (Nat.lt_of_lt_of_le (Heap.lt_size e) (I.ok.cab x c hfn hc)))).trans e1⟩
    · obtain ⟨o', e1⟩ := I.base.there b o e hx
      exact ⟨o', (hs.2 b (Nat.ne_of_lt (Nat.lt_of_lt_of_le (Heap.lt_size e) (I.ok.cab x c hfn hc)))).trans e1⟩
    · by_cases hj : j = i
      · subst hj
        rw [hi] at e1; cases e1
        rw [List.getElem?_set_self hiσ] at e2
        cases e2
        exact ⟨u, r, .inr ⟨.inl hk, c, hc, hc'⟩⟩
      · rw [List.getElem?_set_ne (Ne.symm hj)] at e2
        obtain ⟨u', r', q⟩ := hl j y v' e1 e2 e3
        refine ⟨u', r', ?_⟩
        rcases q with q | ⟨k, c', e, z'⟩
        · exact .inl q
        · refine .inr ⟨k, c', e, z'.sameBut hs ?_⟩
          rintro rfl
          exact hj (nodup_ix hN e1 (I.ok.inj _ _ _ e hc ▸ hi))
    · by_cases hcc : c' = c
      · subst hcc; exact ⟨_, hc'⟩
      · obtain ⟨w2, z2⟩ := I.cell y c' e
        exact ⟨w2, z2.sameBut hs hcc⟩
    · obtain ⟨e, n, ne, nf, d⟩ := I.pin p hp
      refine ⟨(hs.2 p.1 ?_).trans e, n, ne, nf, d⟩
      intro q
      rw [q, hoc] at e
      have q' : oc = p.2 := Option.some.inj e
      exact d w' (by rw [← q']; exact hocd)
theorem store_ok {M : Model} {A : Around} {E : Value → Shared → Prop} {i : Nat} {x : Str} {v : V} {u : Value} {Q : Unit → Shared → Prop} (I : Inv X pins σ H s) (hN : X.N.Nodup) (hi : X.N[i]? = some x) (hx : Loc X.env.scope x) (r : RelV v u)
    (h : ∀ s', Inv X pins (σ.set i (some v)) H s' → Q () s') (hf : X.fn x = true ∨ X.env.scope.names.lookup x = some .local := by first | exact .inl rfl | exact .inr rfl | assumption) : wpAny M A (storeName X.env x u) Q E s :=
  store_ok2 I hN hi hx r (fun s' I' _ => h s' I') hf
/-- behind a call or a block, the state as it is -/
theorem Inv.call' {s' : Shared} {ch : List Addr} (I : Inv X pins σ H s) (ho : s'.os = s.os) (u : Un (frs X.stack) ch H H' s.heap s'.heap) (hok : HOk X.prog X.w H' s'.heap) (hg : AllBare s'.gens)
    (hch : ∀ b ∈ ch, (b ∈ X.ex ∨ X.s_0.heap.objs.size ≤ b) ∧ b ≠ X.env.locals ∧ (∀ x c, X.env.cells.lookup x = some c → c ≠ b) ∧ ∀ p ∈ X.pn ++ pins, p.1 ≠ b) : Inv X pins σ H' s' := by
  obtain ⟨h', g', d', t', o'⟩ := s'
  have e : o' = s.os := ho
  subst e
  exact I.call (g' := g') (t' := t') (d' := d') u hok hg hch
end

/-! ### the judgements -/
/-- an exception: its class, its own dict's address (where it has one), the abstract heap behind it -/
abbrev XK := Value → Option Addr → Hp → Prop
abbrev St := List (Option V)
abbrev VK := V → Hp → Prop
/-- an expression's reading; a test's; an argument list's -/
abbrev TE := St → Hp → VK → Prop
abbrev TT := St → Hp → (Bool → Hp → Prop) → Prop
abbrev TA := St → Hp → (List V → Hp → Prop) → Prop
/-- what is wanted behind a statement -/
structure Ends where
  nx : St → Hp → Prop
  rt : VK
  bk : St → Hp → Prop := fun _ _ => False
  ct : St → Hp → Prop := fun _ _ => False
abbrev TS := Ends → St → Hp → Prop

def EP (X : Cx) (pins : List (Addr × Obj)) (σ : St) (Q : VK) (u : Value) (s' : Shared) : Prop := ∃ v H', Inv X pins σ H' s' ∧ RelV v u ∧ Q v H'
def TP (X : Cx) (pins : List (Addr × Obj)) (σ : St) (Q : Bool → Hp → Prop) (b : Bool) (s' : Shared) : Prop := ∃ H', Inv X pins σ H' s' ∧ Q b H'
def AP (X : Cx) (pins : List (Addr × Obj)) (σ : St) (Q : List V → Hp → Prop) (us : List Value) (s' : Shared) : Prop := ∃ vs H', Inv X pins σ H' s' ∧ Vals vs us ∧ Q vs H'
def SP (X : Cx) (pins : List (Addr × Obj)) (D : Ends) (f : Flow) (s' : Shared) : Prop :=
  match f with
  | .next => ∃ σ' H', Inv X pins σ' H' s' ∧ D.nx σ' H'
  | .brk => ∃ σ' H', Inv X pins σ' H' s' ∧ D.bk σ' H'
  | .cont => ∃ σ' H', Inv X pins σ' H' s' ∧ D.ct σ' H'
  | .ret u => ∃ v σ' H', Inv X pins σ' H' s' ∧ RelV v u ∧ D.rt v H'

def PE (X : Cx) (e : Expr) (t : TE) : Prop :=
  ∀ (pins : List (Addr × Obj)) (s : Shared) (σ : St) (H : Hp) (Q : VK), Inv X pins σ H s → t σ H Q → wpAny (model X.prog X.w) X.A (eval e X.env) (EP X pins σ Q) X.xe s
def PT (X : Cx) (e : Expr) (t : TT) : Prop :=
  ∀ (pins : List (Addr × Obj)) (s : Shared) (σ : St) (H : Hp) (Q : Bool → Hp → Prop), Inv X pins σ H s → t σ H Q → wpAny (model X.prog X.w) X.A (isTrue e X.env (eval e X.env)) (TP X pins σ Q) X.xe s
/-- a test whatever its 'whole' is (and, or) -/
def PW (X : Cx) (e : Expr) (t : TT) : Prop :=
  ∀ (whole : Sem Value) (pins : List (Addr × Obj)) (s : Shared) (σ : St) (H : Hp) (Q : Bool → Hp → Prop), Inv X pins σ H s → t σ H Q → wpAny (model X.prog X.w) X.A (isTrue e X.env whole) (TP X pins σ Q) X.xe s
theorem PW.pt {X : Cx} {e : Expr} {t : TT} (h : PW X e t) : PT X e t := h _
/-- an argument list (no star), from the left -/
def PA (X : Cx) (es : List Expr) (t : TA) : Prop :=
  ∀ (pos : Pos) (pins : List (Addr × Obj)) (s : Shared) (σ : St) (H : Hp) (Q : List V → Hp → Prop), Inv X pins σ H s → t σ H Q → wpAny (model X.prog X.w) X.A (spliced (backTo pos (starEach es X.env))) (AP X pins σ Q) X.xe s
def PS (X : Cx) (st : Stmt) (t : TS) : Prop :=
  ∀ (pins : List (Addr × Obj)) (s : Shared) (σ : St) (H : Hp) (D : Ends), Inv X pins σ H s → t D σ H → wpAny (model X.prog X.w) X.A (exec st X.env) (SP X pins D) X.xe s
def PSs (X : Cx) (st : List Stmt) (t : TS) : Prop :=
  ∀ (pins : List (Addr × Obj)) (s : Shared) (σ : St) (H : Hp) (D : Ends), Inv X pins σ H s → t D σ H → wpAny (model X.prog X.w) X.A (execs st X.env) (SP X pins D) X.xe s
/-- weaken the end -/
theorem thn {α : Type} {t : Sem α} {Q Q' : α → Shared → Prop} {M : Model} {A : Around} {E : Value → Shared → Prop} {s : Shared} (h : wpAny M A t Q E s) (hQ : ∀ a s, Q a s → Q' a s) : wpAny M A t Q' E s := wpAny_mono h hQ fun _ _ x => x
end L2

namespace L2
open PySem PySem.Spec PyProof.Rows
section
variable {X : Cx}

/-! ### names and constants -/
def tVar (i : Nat) : TE := fun σ H Q => ∃ v, σ[i]? = some (some v) ∧ Q v H
def tC (v : V) : TE := fun _ H Q => Q v H
theorem pe_var {i : Nat} {x : Str} {pos : Pos} (hN : X.N[i]? = some x) (hv : Vis X.env.scope x) (hd : (x == ("__debug__" : Str)) = false := by decide) (hcd : (x == ("__classdict__" : Str)) = false := by decide) : PE X (.Name x pos) (tVar i) := by
  intro pins s σ H Q I h
  obtain ⟨v, e, h⟩ := h
  obtain ⟨m, hn, hl⟩ := I.loc
  obtain ⟨u, r, l⟩ := hl i x v hN e hv
  have fin : EP X pins σ Q u s := ⟨v, H, I, r, h⟩
  rcases l with ⟨hk, hm⟩ | ⟨hk, c, hc, hcell⟩
  · exact wpAny_Name (wpAny_loadName_local I.ok.kind hk hn hm fin) hd
  · rcases hk with hk | hk
    · exact wpAny_Name (wpAny_loadName_cell I.ok.kind hk hc hcell fin) hd
    · exact wpAny_Name (wpAny_loadName_free I.ok.kind hk hc hcell fin hcd) hd
theorem pe_int {i j pos} : PE X (.Constant (.int i) j pos) (tC (.int i)) := fun _ _ _ H _ I h => wpAny_Constant_int ⟨.int i, H, I.tok _, ⟨_, rfl⟩, h⟩
theorem pe_bl {b j pos} : PE X (.Constant (.bool b) j pos) (tC (.bl b)) := fun _ _ _ H _ I h => Constant_bool ⟨.bl b, H, I, rfl, h⟩
/-- a global name of the def -/
def Gl (X : Cx) (x : Str) : Prop := X.env.kindOf x = some .globalImplicit
theorem ld_glob {E : Value → Shared → Prop} {pins : List (Addr × Obj)} {s : Shared} {σ : St} {H : Hp} {x : Str} {u : Value} {pos : Pos} {Q : Value → Shared → Prop} (I : Inv X pins σ H s) (hg : Gl X x) (hm : X.mg x = some u) (h : Q u s)
    (hd : (x == ("__debug__" : Str)) = false := by decide) : wpAny (model X.prog X.w) X.A (eval (.Name x pos) X.env) Q E s :=
  Calls.Name_function_global I.ok.kind hg (Calls.loadGlobal_global (by rw [I.ok.glob]; exact I.mod.glob.keeps I.bk) hm h) hd
theorem ld_blt {E : Value → Shared → Prop} {pins : List (Addr × Obj)} {s : Shared} {σ : St} {H : Hp} {x : Str} {u : Value} {pos : Pos} {Q : Value → Shared → Prop} (I : Inv X pins σ H s) (hg : Gl X x) (hm : X.mg x = none) (hv : bootBuiltins x = some u) (h : Q u s)
    (hn : x ≠ "__name__" := by decide) (hd : (x == ("__debug__" : Str)) = false := by decide) : wpAny (model X.prog X.w) X.A (eval (.Name x pos) X.env) Q E s := by
  obtain ⟨mb, h1, h2⟩ := I.mod.blt
  exact Calls.Name_function_global I.ok.kind hg (Calls.loadGlobal_builtin (by rw [I.ok.glob]; exact I.mod.glob.keeps I.bk) hm (by rw [I.ok.blt]; exact h1.keeps I.bk) ((h2 x hn).trans hv) h) hd
/-- a module's constant, a class, a function, as a value -/
theorem pe_glob {x : Str} {v : V} {u : Value} {pos : Pos} (hg : Gl X x) (hm : X.mg x = some u) (r : RelV v u) (hd : (x == ("__debug__" : Str)) = false := by decide) : PE X (.Name x pos) (tC v) :=
  fun _ _ _ H _ I h => ld_glob I hg hm ⟨v, H, I, r, h⟩ hd
/-! ### arithmetic -/
variable {a b : Expr} {ta tb : TE} {pos : Pos}
/-! ### comparisons -/
/-! ### and, or, not -/
variable {tA tB' : TT} {rest : List Expr}
def tAnd (t u : TT) : TT := fun σ H Q => t σ H fun c H1 => if c = true then u σ H1 Q else Q false H1
def tOr (t u : TT) : TT := fun σ H Q => t σ H fun c H1 => if c = true then Q true H1 else u σ H1 Q
theorem pw_and1 (ha : PT X a tA) : PW X (.BoolOp .And [a] pos) tA := by
  intro wh pins s σ H Q I h
  refine isTrue_and (thn (ha pins s σ H Q I h) fun c s1 e => ?_)
  cases c with
  | true => exact isTrue_and_nil e
  | false => exact e
theorem pw_or1 (ha : PT X a tA) : PW X (.BoolOp .Or [a] pos) tA := by
  intro wh pins s σ H Q I h
  refine isTrue_or (thn (ha pins s σ H Q I h) fun c s1 e => ?_)
  cases c with
  | false => exact isTrue_or_nil e
  | true => exact e
theorem pw_and (ha : PT X a tA) (hb : PW X (.BoolOp .And (b :: rest) pos) tB') : PW X (.BoolOp .And (a :: b :: rest) pos) (tAnd tA tB') := by
  intro wh pins s σ H Q I h
  refine isTrue_and (thn (ha pins s σ H _ I h) fun c s1 ⟨H1, I1, q1⟩ => ?_)
  cases c with
  | true => exact hb wh pins s1 σ H1 Q I1 q1
  | false => exact ⟨H1, I1, q1⟩
theorem pw_or (ha : PT X a tA) (hb : PW X (.BoolOp .Or (b :: rest) pos) tB') : PW X (.BoolOp .Or (a :: b :: rest) pos) (tOr tA tB') := by
  intro wh pins s σ H Q I h
  refine isTrue_or (thn (ha pins s σ H _ I h) fun c s1 ⟨H1, I1, q1⟩ => ?_)
  cases c with
  | true => exact ⟨H1, I1, q1⟩
  | false => exact hb wh pins s1 σ H1 Q I1 q1
def tOrV (ta tb : TE) : TE := fun σ H Q => ta σ H fun x H1 => ∃ c, x = .bl c ∧ if c = true then Q (.bl true) H1 else tb σ H1 Q
def tNotV (ta : TE) : TE := fun σ H Q => ta σ H fun x H1 => ∃ c, x = .bl c ∧ Q (.bl (!c)) H1
theorem pe_one {op} {t : TE} (h : PE X a t) : PE X (.BoolOp op [a] pos) t := fun pins s σ H Q I hw => BoolOp_one (h pins s σ H Q I hw)
theorem pe_or (ha : PE X a ta) (hb : PE X (.BoolOp .Or (b :: rest) pos) tb) : PE X (.BoolOp .Or (a :: b :: rest) pos) (tOrV ta tb) := by
  intro pins s σ H Q I h
  refine BoolOp_or (thn (ha pins s σ H _ I h) fun v s1 ⟨x, H1, I1, r1, q1⟩ => ?_)
  obtain ⟨c, rfl, q1⟩ := q1
  cases r1
  refine wpAny_truthy_bool ?_
  cases c with
  | false => exact hb pins s1 σ H1 Q I1 q1
  | true => exact ⟨.bl true, H1, I1, rfl, q1⟩
theorem pe_not (ha : PE X a ta) : PE X (.UnaryOp .Not a pos) (tNotV ta) := by
  intro pins s σ H Q I h
  refine UnaryOp_ (thn (ha pins s σ H _ I h) fun v s1 ⟨x, H1, I1, r1, q1⟩ => ?_)
  obtain ⟨c, rfl, q1⟩ := q1
  cases r1
  exact not_of (wpAny_truthy_bool ⟨.bl (!c), H1, I1, rfl, q1⟩)
/-- a if t else b -/
def tIf (t : TT) (ta tb : TE) : TE := fun σ H Q => t σ H fun c H1 => if c = true then ta σ H1 Q else tb σ H1 Q
theorem pe_ifExp {c : Expr} (hc : PT X c tA) (ha : PE X a ta) (hb : PE X b tb) : PE X (.IfExp c a b pos) (tIf tA ta tb) := by
  intro pins s σ H Q I h
  refine wpAny_IfExp (thn (hc pins s σ H _ I h) fun d s1 ⟨H1, I1, q1⟩ => ?_)
  cases d with
  | true => exact ha pins s1 σ H1 Q I1 q1
  | false => exact hb pins s1 σ H1 Q I1 q1
end
end L2

namespace L2
open PySem PySem.Spec PyProof.Rows

/-! ### a list, a tuple that is read: tracked, frozen, or an object of the module -/
def SqL (K : PySem.W.Frag) (H : Hp) (a : Addr) (xs : List V) : Prop :=
  Rd H a (.lst xs) ∨
    ∃ (o : Obj) (its : Array Value) (n : Nat), K.lookup a = some o ∧ o.cls = .type "list" ∧ o.dict = none ∧ o.data = .seq its n ∧ its.size ≤ sizeLine ∧ Vals xs its.toList
def SqT (K : PySem.W.Frag) (H : Hp) (a : Addr) (xs : List V) : Prop :=
  Rd H a (.tup xs) ∨
    ∃ (o : Obj) (its : Array Value) (n : Nat), K.lookup a = some o ∧ o.cls = .type "tuple" ∧ o.data = .seq its n ∧ its.size ≤ sizeLine ∧ Vals xs its.toList
def absV : Value → Option V
  | .none => some .non
  | .bool b => some (.bl b)
  | .int i _ => some (.int i)
  | .str x _ => some (.str x)
  | .bytes b _ => some (.byt b)
  | .float b _ => some (.flt b)
  | .ref a => some (.ref a)
  | .type n => some (.ty n)
  | _ => none
theorem RelV.abs {x : V} {u : Value} (r : RelV x u) : absV u = some x := by
  cases x with
  | non => cases r; rfl
  | bl _ => cases r; rfl
  | int _ => obtain ⟨t, rfl⟩ := r; rfl
  | str _ => obtain ⟨t, rfl⟩ := r; rfl
  | byt _ => obtain ⟨t, rfl⟩ := r; rfl
  | flt _ => obtain ⟨t, rfl⟩ := r; rfl
  | ref _ => cases r; rfl
  | ty _ => cases r; rfl
theorem RelV.inj {x y : V} {u : Value} (r : RelV x u) (q : RelV y u) : x = y := Option.some.inj (r.abs.symm.trans q.abs)
theorem Vals.inj : ∀ {xs ys : List V} {us : List Value}, Vals xs us → Vals ys us → xs = ys
  | _, _, _, .nil, .nil => rfl
  | _, _, _, .cons r t, .cons r' t' => by rw [r.inj r', Vals.inj t t']
section
variable {X : Cx} {pins : List (Addr × Obj)} {σ : St} {H : Hp} {s : Shared} {a : Addr} {xs ys : List V}
theorem SqL.of {K : PySem.W.Frag} (h : H a = some (.lst xs)) : SqL K H a xs := .inl (.inl h)
theorem SqT.of {K : PySem.W.Frag} (h : H a = some (.tup xs)) : SqT K H a xs := .inl (.inl h)
theorem Inv.list (I : Inv X pins σ H s) (h : SqL X.K H a xs) : ∃ its : List Value, Vals xs its ∧ PlainL s.heap a its.toArray ∧ xs.length ≤ sizeLine := by
  rcases h with h | ⟨o, its, n, hk, hc, hd, hs, hz, r⟩
  · obtain ⟨z, its, n, r, e⟩ := h.ok I.hok
    exact ⟨its, r, ⟨_, n, e, rfl, rfl, rfl⟩, z⟩
  · refine ⟨its.toList, r, ⟨o, n, I.kIn a o hk, hc, hd, by simpa using hs⟩, ?_⟩
    have e := r.length
    simp only [Array.length_toList] at e
    omega
theorem Inv.tuple (I : Inv X pins σ H s) (h : SqT X.K H a xs) : ∃ its : List Value, Vals xs its ∧ IsTup s.heap a its.toArray ∧ xs.length ≤ sizeLine := by
  rcases h with h | ⟨o, its, n, hk, hc, hs, hz, r⟩
  · obtain ⟨z, its, r, p⟩ := h.ok I.hok
    exact ⟨its, r, p, z⟩
  · refine ⟨its.toList, r, ⟨o, I.kIn a o hk, hc, n, by simpa using hs⟩, ?_⟩
    have e := r.length
    simp only [Array.length_toList] at e
    omega
theorem Inv.list_inj (I : Inv X pins σ H s) (h : SqL X.K H a xs) (h' : SqL X.K H a ys) : xs = ys := by
  obtain ⟨its, r, ⟨o, n, e, _, _, d⟩, _⟩ := I.list h
  obtain ⟨its', r', ⟨o', n', e', _, _, d'⟩, _⟩ := I.list h'
  rw [e] at e'; cases e'
  rw [d] at d'
  injection d' with d1 _
  have : its = its' := by simpa using congrArg Array.toList d1
  subst this
  exact r.inj r'
end

/-! ### another wish about exceptions -/
abbrev Cx.wish (X : Cx) (E : Value → Shared → Prop) : Cx := { X with xe := E }
/-- no exception leaves -/
abbrev Cx.nox (X : Cx) : Cx := X.wish fun _ _ => False
theorem Cx.Ok.wish {X : Cx} (ok : X.Ok) (E : Value → Shared → Prop) : (X.wish E).Ok :=
  ⟨ok.mod, ok.kind, ok.glob, ok.blt, ok.above, ok.inj, ok.has, ok.cab, ok.hd, ok.frames, ok.stk, ok.exf, ok.bs, ok.bsz, ok.noex, ok.exfs, ok.funs, ok.frf⟩
theorem Cx.Ok.unwish {X : Cx} {E : Value → Shared → Prop} (ok : (X.wish E).Ok) : X.Ok :=
  ⟨ok.mod, ok.kind, ok.glob, ok.blt, ok.above, ok.inj, ok.has, ok.cab, ok.hd, ok.frames, ok.stk, ok.exf, ok.bs, ok.bsz, ok.noex, ok.exfs, ok.funs, ok.frf⟩
section
variable {X : Cx} {pins : List (Addr × Obj)} {σ : St} {H : Hp} {s : Shared} {E : Value → Shared → Prop}
theorem Inv.wish (I : Inv X pins σ H s) (E : Value → Shared → Prop) : Inv (X.wish E) pins σ H s := ⟨I.ok.wish E, I.os, I.bare, I.base, I.loc, I.cell, I.free, I.freeC, I.pin, I.hok, I.len⟩
theorem Inv.unwish (I : Inv (X.wish E) pins σ H s) : Inv X pins σ H s := ⟨I.ok.unwish, I.os, I.bare, I.base, I.loc, I.cell, I.free, I.freeC, I.pin, I.hok, I.len⟩
theorem SP.unwish {D : Ends} {f : Flow} {s' : Shared} (h : SP (X.wish E) pins D f s') : SP X pins D f s' := by
  cases f with
  | next => obtain ⟨σ', H', I, q⟩ := h; exact ⟨σ', H', I.unwish, q⟩
  | brk => obtain ⟨σ', H', I, q⟩ := h; exact ⟨σ', H', I.unwish, q⟩
  | cont => obtain ⟨σ', H', I, q⟩ := h; exact ⟨σ', H', I.unwish, q⟩
  | ret u => obtain ⟨v, σ', H', I, r, q⟩ := h; exact ⟨v, σ', H', I.unwish, r, q⟩
theorem PE.nox {e : Expr} {t : TE} (h : PE X.nox e t) : PE X e t := fun pins s σ H Q I hw =>
  wpAny_mono (h pins s σ H Q (I.wish _) hw) (fun _ _ ⟨v, H', I', r, q⟩ => ⟨v, H', I'.unwish, r, q⟩) fun _ _ z => False.elim z
theorem PT.nox {e : Expr} {t : TT} (h : PT X.nox e t) : PT X e t := fun pins s σ H Q I hw =>
  wpAny_mono (h pins s σ H Q (I.wish _) hw) (fun _ _ ⟨H', I', q⟩ => ⟨H', I'.unwish, q⟩) fun _ _ z => False.elim z
theorem PSs.nox {st : List Stmt} {t : TS} (h : PSs X.nox st t) : PSs X st t := fun pins s σ H D I hw =>
  wpAny_mono (h pins s σ H D (I.wish _) hw) (fun _ _ q => q.unwish) fun _ _ z => False.elim z
end

/-! ### blocks and small statements -/
section
variable {X : Cx} {st : Stmt} {rest : List Stmt} {t u : TS} {e : Expr} {te : TE} {pos : Pos}
def tNext : TS := fun D σ H => D.nx σ H
def tSeq (t u : TS) : TS := fun D σ H => t { D with nx := u D } σ H
theorem pss_nil : PSs X [] tNext := fun _ _ σ H _ I h => wpAny_execs_nil ⟨σ, H, I, h⟩
theorem pss_cons (h1 : PS X st t) (h2 : PSs X rest u) : PSs X (st :: rest) (tSeq t u) := by
  intro pins s σ H D I h
  refine wpAny_execs_cons (thn (h1 pins s σ H { D with nx := u D } I h) fun f s1 q => ?_)
  cases f with
  | next =>
    obtain ⟨σ', H', I', q⟩ := q
    exact h2 pins s1 σ' H' D I' q
  | ret v => exact q
  | brk => exact q
  | cont => exact q
theorem pss_one (h1 : PS X st t) : PSs X [st] t := by
  intro pins s σ H D I h
  refine wpAny_execs_cons (thn (h1 pins s σ H D I h) fun f s1 q => ?_)
  cases f with
  | next => exact wpAny_execs_nil q
  | ret v => exact q
  | brk => exact q
  | cont => exact q
/-- in a def's body nothing is shown -/
theorem Inv.quiet {pins : List (Addr × Obj)} {σ : St} {H : Hp} {s : Shared} (I : Inv X pins σ H s) : interactive X.env = false := by simp [interactive, I.ok.kind]
/-- an expression whose value is dropped -/
def tDrop (te : TE) : TS := fun D σ H => te σ H fun _ H1 => D.nx σ H1
theorem ps_expr (he : PE X e te) (hs : swapsWith e none pos.line X.env = pure false := by rfl) : PS X (.Expr e pos) (tDrop te) := by
  intro pins s σ H D I h
  exact wpAny_Expr_any (thn (he pins s σ H _ I h) fun v s1 ⟨x, H1, I1, r1, q1⟩ => ⟨σ, H1, I1, q1⟩) I.quiet hs
def tRet (te : TE) : TS := fun D σ H => te σ H D.rt
theorem ps_ret (he : PE X e te) : PS X (.Return (some e) pos) (tRet te) := by
  intro pins s σ H D I h
  exact wpAny_Return_some (thn (he pins s σ H _ I h) fun v s1 ⟨x, H1, I1, r1, q1⟩ => ⟨x, σ, H1, I1, r1, q1⟩)
def tIfS (c : TT) (t u : TS) : TS := fun D σ H => c σ H fun b H1 => if b = true then t D σ H1 else u D σ H1
theorem ps_if {c : Expr} {a b : List Stmt} {tc : TT} (hc : PT X c tc) (ha : PSs X a t) (hb : PSs X b u) : PS X (.If c a b pos) (tIfS tc t u) := by
  intro pins s σ H D I h
  refine wpAny_If (thn (hc pins s σ H _ I h) fun d s1 ⟨H1, I1, q1⟩ => ?_)
  cases d with
  | true => exact ha pins s1 σ H1 D I1 q1
  | false => exact hb pins s1 σ H1 D I1 q1
end

/-! ### targets -/
abbrev TG := V → St → Hp → (St → Hp → Prop) → Prop
abbrev TGs := List V → St → Hp → (St → Hp → Prop) → Prop
def PG (X : Cx) (target : Expr) (t : TG) : Prop :=
  ∀ (pins : List (Addr × Obj)) (s : Shared) (σ : St) (H : Hp) (v : V) (u : Value) (Q : St → Hp → Prop), Inv X pins σ H s → RelV v u → t v σ H Q →
    wpAny (model X.prog X.w) X.A (assign target X.env u) (fun _ s' => ∃ σ' H', Inv X pins σ' H' s' ∧ Q σ' H') X.xe s
/-- several targets, one after another -/
def PGs (X : Cx) (ts : List Expr) (t : TGs) : Prop :=
  ∀ (pins : List (Addr × Obj)) (s : Shared) (σ : St) (H : Hp) (vs : List V) (us : List Value) (Q : St → Hp → Prop), Inv X pins σ H s → Vals vs us → t vs σ H Q →
    wpAny (model X.prog X.w) X.A (assignInOrder ((assignEach ts X.env).map (·.2)) us) (fun _ s' => ∃ σ' H', Inv X pins σ' H' s' ∧ Q σ' H') X.xe s
/-- o[i] = v, by values -/
abbrev TSet := V → V → V → Hp → (Hp → Prop) → Prop
def PSet (X : Cx) (t : TSet) : Prop :=
  ∀ (pins : List (Addr × Obj)) (s : Shared) (σ : St) (H : Hp) (o i v : V) (ov iv u : Value) (Q : Hp → Prop), Inv X pins σ H s → RelV o ov → RelV i iv → RelV v u → t o i v H Q →
    wpAny (model X.prog X.w) X.A (setItem ov iv u) (fun _ s' => ∃ H', Inv X pins σ H' s' ∧ Q H') X.xe s
/-- a op= b, by values -/
abbrev TIp := V → V → Hp → VK → Prop
def PIp (X : Cx) (op : Operator) (t : TIp) : Prop :=
  ∀ (pins : List (Addr × Obj)) (s : Shared) (σ : St) (H : Hp) (x y : V) (v u : Value) (Q : VK), Inv X pins σ H s → RelV x v → RelV y u → t x y H Q →
    wpAny (model X.prog X.w) X.A (inplaceOp op v u) (EP X pins σ Q) X.xe s
section
variable {X : Cx} {pos : Pos}
def gName (i : Nat) : TG := fun v σ H Q => Q (σ.set i (some v)) H
theorem pg_name {i : Nat} {x : Str} (hN : X.N.Nodup) (hi : X.N[i]? = some x) (hx : Loc X.env.scope x) (hf : X.fn x = true ∨ X.env.scope.names.lookup x = some .local := by first | exact .inl rfl | exact .inr rfl | assumption) : PG X (.Name x pos) (gName i) := by
  intro pins s σ H v u Q I r h
  exact wpAny_assign_Name (store_ok I hN hi hx r (fun s' I' => ⟨_, H, I', h⟩) hf)
def gNil : TGs := fun vs σ H Q => vs = [] ∧ Q σ H
def gCons (t : TG) (u : TGs) : TGs := fun vs σ H Q => ∃ v r, vs = v :: r ∧ t v σ H fun σ' H' => u r σ' H' Q
theorem pgs_nil : PGs X [] gNil := by
  intro pins s σ H vs us Q I r h
  obtain ⟨e, h⟩ := h
  subst e
  cases r
  exact assignInOrder_nil ⟨σ, H, I, h⟩
theorem pgs_cons {e : Expr} {es : List Expr} {t : TG} {u : TGs} (h1 : PG X e t) (h2 : PGs X es u)
    (hs : (assignEach (e :: es) X.env).map (·.2) = assign e X.env :: (assignEach es X.env).map (·.2) := by rfl) : PGs X (e :: es) (gCons t u) := by
  intro pins s σ H vs us Q I r h
  obtain ⟨v, vr, e1, h⟩ := h
  subst e1
  cases r with
  | cons r rr =>
    rw [hs]
    refine assignInOrder_cons (thn (h1 pins s σ H _ _ _ I r h) fun _ s1 ⟨σ1, H1, I1, q1⟩ => ?_)
    exact h2 pins s1 σ1 H1 _ _ Q I1 rr q1
/-- (a, b, ..) = a tuple of that length -/
def gTup (K : PySem.W.Frag) (n : Nat) (t : TGs) : TG := fun v σ H Q => ∃ a xs, v = .ref a ∧ SqT K H a xs ∧ xs.length = n ∧ t xs σ H Q
theorem pg_tup {es : List Expr} {k : Nat} {t : TGs} {n : Nat} (hc : X.calm = true) (h : PGs X es t)
    (hn : (assignEach es X.env).length = n := by rfl) (hst : (assignEach es X.env).findIdx? (·.1) = none := by rfl) : PG X (.Tuple es k pos) (gTup X.K n t) := by
  intro pins s σ H v u Q I r hw
  obtain ⟨a, xs, e1, hq, hl, hw⟩ := hw
  subst e1
  cases r
  obtain ⟨its, rv, ht, hz⟩ := I.tuple hq
  refine assign_Tuple_tuple (I.ok.hd hc) ht (by simp [hn, ← hl, rv.length]) hst fun h' hx => ?_
  have I1 : Inv X pins σ H { s with heap := h' } := I.kept (t' := s.toks) fun b o e => hx b o (Nat.ne_of_lt (Heap.lt_size e)) e
  exact h pins _ σ H xs _ Q I1 (by simpa using rv) hw
/-- o[i] = .. -/
def gSub (to ti : TE) (t : TSet) : TG := fun v σ H Q => to σ H fun o H1 => ti σ H1 fun i H2 => t o i v H2 fun H3 => Q σ H3
theorem pg_sub {o i : Expr} {to ti : TE} {t : TSet} (ho : PE X o to) (hi : PE X i ti) (hs : PSet X t)
    (ha : ∀ v, assign (.Subscript o i pos) X.env v = (do
      let ov ← holding [v] (eval o X.env)
      let iv ← holding [v, ov] (eval i X.env)
      standAt pos
      holding [v, ov, iv] (setItem ov iv v)
      release [v, ov, iv] []) := by intro _; rfl) : PG X (.Subscript o i pos) (gSub to ti t) := by
  intro pins s σ H v u Q I r h
  rw [ha]
  refine wpAny_bind (wpAny_holding (thn (ho pins s σ H _ I h) fun ov s1 ⟨x, H1, I1, r1, q1⟩ => ?_))
  refine wpAny_bind (wpAny_holding (thn (hi pins s1 σ H1 _ I1 q1) fun iv s2 ⟨y, H2, I2, r2, q2⟩ => ?_))
  refine wpAny_bind (wpAny_standAt (wpAny_bind (wpAny_holding (thn (hs pins s2 σ H2 x y v ov iv u _ I2 r1 r2 r q2) fun _ s3 ⟨H3, I3, q3⟩ => ?_))))
  exact wpAny_release ⟨σ, H3, I3, q3⟩
/-- target = value -/
def tAsg (te : TE) (g : TG) : TS := fun D σ H => te σ H fun x H1 => g x σ H1 D.nx
theorem ps_asg {tg e : Expr} {te : TE} {g : TG} (he : PE X e te) (hg : PG X tg g) (hs : swapsWithSole [tg] e pos.line X.env = pure false := by rfl) (hw : swappedStores [tg] e X.env = pure none := by rfl)
    (h1 : (assignEach [tg] X.env).map (·.2) = [assign tg X.env] := by rfl) : PS X (.Assign [tg] e pos) (tAsg te g) := by
  intro pins s σ H D I h
  refine wpAny_Assign_stores (thn (he pins s σ H _ I h) fun v s1 ⟨x, H1, I1, r1, q1⟩ => ?_) hs hw
  rw [h1]
  exact thn (hg pins s1 σ H1 x v _ I1 r1 q1) fun _ s2 q => q
/-- name = value -/
theorem ps_set {i : Nat} {x : Str} {e : Expr} {te : TE} {pos' : Pos} (hN : X.N.Nodup) (hi : X.N[i]? = some x) (hx : Loc X.env.scope x) (he : PE X e te) (hs : swapsWith e (some (.Name x pos')) pos.line X.env = pure false := by rfl) (hf : X.fn x = true ∨ X.env.scope.names.lookup x = some .local := by first | exact .inl rfl | exact .inr rfl | assumption) :
    PS X (.Assign [.Name x pos'] e pos) (tAsg te (gName i)) := by
  intro pins s σ H D I h
  refine wpAny_Assign_Name (thn (he pins s σ H _ I h) fun v s1 ⟨y, H1, I1, r1, q1⟩ => ?_) hs
  exact store_ok I1 hN hi hx r1 (fun s2 I2 => ⟨_, H1, I2, q1⟩) hf
/-- name op= e -/
def tAug (i : Nat) (te : TE) (ti : TIp) : TS := fun D σ H => ∃ x, σ[i]? = some (some x) ∧ te σ H fun y H1 => ti x y H1 fun z H2 => D.nx (σ.set i (some z)) H2
theorem ps_aug {i : Nat} {x : Str} {e : Expr} {te : TE} {op : Operator} {ti : TIp} {pos' : Pos} (hN : X.N.Nodup) (hi : X.N[i]? = some x) (hx : Loc X.env.scope x) (he : PE X e te) (ho : PIp X op ti) (hf : X.fn x = true ∨ X.env.scope.names.lookup x = some .local := by first | exact .inl rfl | exact .inr rfl | assumption) :
    PS X (.AugAssign (.Name x pos') op e pos) (tAug i te ti) := by
  intro pins s σ H D I h
  obtain ⟨v, e1, h⟩ := h
  obtain ⟨m, hn, hl⟩ := I.loc
  have vis : Vis X.env.scope x := by rcases hx with k | k; exact .inl k; exact .inr (.inl k)
  obtain ⟨u, r, l⟩ := hl i x v hi e1 vis
  refine wpAny_AugAssign_Name ?_
  have go : wpAny (model X.prog X.w) X.A (eval e X.env) (fun w s₂ => wpAny (model X.prog X.w) X.A (inplaceOp op u w) (fun r s₃ => wpAny (model X.prog X.w) X.A (storeName X.env x r) (fun _ => SP X pins D .next) X.xe s₃) X.xe s₂) X.xe s := by
    refine thn (he pins s σ H _ I h) fun w s1 ⟨y, H1, I1, r1, q1⟩ => ?_
    refine thn (ho pins s1 σ H1 v y u w _ I1 r r1 q1) fun z s2 ⟨zv, H2, I2, r2, q2⟩ => ?_
    exact store_ok I2 hN hi hx r2 (fun s3 I3 => ⟨_, H2, I3, q2⟩) hf
  rcases l with ⟨hk, hm⟩ | ⟨hk, c, hc, hcell⟩
  · exact wpAny_loadName_local I.ok.kind hk hn hm go
  · rcases hk with hk | hk
    · exact wpAny_loadName_cell I.ok.kind hk hc hcell go
    · rcases hx with k | k
      · have : X.env.scope.names.lookup x = some .free := hk
        rw [k] at this; cases this
      · have : X.env.scope.names.lookup x = some .free := hk
        rw [k] at this; cases this
end

/-! ### while -/
section
variable {X : Cx} {pos : Pos}
end

/-! ### what a loop or a comprehension walks -/
/-- at turn i: it yields x (the heap may grow), or it stops -/
structure It where
  go : Nat → Hp → Prop
  yld : Nat → Hp → V → Hp → Prop
  stop : Nat → Hp → Prop
/-- the iterator's own objects may turn: they are not the frame's, not pinned, younger than the entry (or a comprehension's own) -/
def FpOk (X : Cx) (pins : List (Addr × Obj)) (H : Hp) (b : Addr) : Prop :=
  H b = none ∧ b ≠ X.env.locals ∧ b ∉ X.fs ∧ (b ∈ X.ex ∨ X.s_0.heap.objs.size ≤ b) ∧ (∀ x c, X.env.cells.lookup x = some c → c ≠ b) ∧ ∀ p ∈ X.pn ++ pins, p.1 ≠ b
theorem Inv.fpOk {X : Cx} {pins : List (Addr × Obj)} {σ : St} {H H' : Hp} {s : Shared} {b : Addr} (I : Inv X pins σ H s) (hb : s.heap.objs.size ≤ b) (hn : H' b = none) : FpOk X pins H' b := by
  refine ⟨hn, Nat.ne_of_gt (Nat.lt_of_lt_of_le I.lt hb), I.nofs hb, .inr (Nat.le_trans I.sz hb), fun x c e z => ?_, fun p hp z => ?_⟩
  · obtain ⟨v, q⟩ := I.cell x c e
    exact absurd (Nat.lt_of_lt_of_le q.lt (by rw [z]; exact hb)) (Nat.lt_irrefl _)
  · exact absurd (Nat.lt_of_lt_of_le (Heap.lt_size (I.pin p hp).1) (by rw [z]; exact hb)) (Nat.lt_irrefl _)
structure Turn (P : Program) (w : World) (K : PySem.W.Frag) (tg : Expr) (J : It) (fp : List Addr) (it : Addr) (tn : Nat → Heap → Prop) : Prop where
  mem : it ∈ fp
  obj : ∀ i h, tn i h → ∀ b ∈ fp, ∃ o, h.get? b = some o ∧ ∀ v, o.data ≠ .cell v
  keep : ∀ i h h', tn i h → (∀ b ∈ fp, ∀ o, h.get? b = some o → h'.get? b = some o) → tn i h'
  item : ∀ (X : Cx), X.prog = P → X.w = w → X.K = K → X.calm = true → ∀ (i : Nat) (pins : List (Addr × Obj)) (s : Shared) (σ : St) (H : Hp) (E : Value → Shared → Prop), Inv X pins σ H s → (∀ b ∈ fp, FpOk X pins H b) → tn i s.heap → J.go i H →
    wpAny (model P w) X.A (pyNext (.ref it)) (fun r s1 => ∃ u, r = some u ∧
      wpAny (model P w) X.A (letOwnedTupleGo tg (.ref it) u) (fun _ s2 => ∃ x H', Inv X pins σ H' s2 ∧ RelV x u ∧ J.yld i H x H' ∧ tn (i + 1) s2.heap ∧ ∀ b ∈ fp, H' b = none) E s1) E s
  done : ∀ (X : Cx), X.prog = P → X.w = w → X.K = K → X.calm = true → ∀ (i : Nat) (pins : List (Addr × Obj)) (s : Shared) (σ : St) (H : Hp) (E : Value → Shared → Prop), Inv X pins σ H s → (∀ b ∈ fp, FpOk X pins H b) → tn i s.heap → J.stop i H →
    wpAny (model P w) X.A (pyNext (.ref it)) (fun r s1 => r = none ∧ Inv X pins σ H s1) E s
  self : ∀ (A : Around) (i : Nat) (s : Shared) (Q : Value → Shared → Prop) (E : Value → Shared → Prop), tn i s.heap → Q (.ref it) s → wpAny (model P w) A (pyIter (.ref it)) Q E s
abbrev TI := St → Hp → (It → Hp → Prop) → Prop
/-- an iterator has come -/
def PIE (X : Cx) (pins : List (Addr × Obj)) (σ : St) (tg : Expr) (R : It → Hp → Prop) (itv : Value) (s2 : Shared) : Prop :=
  ∃ (it : Addr) (fp : List Addr) (tn : Nat → Heap → Prop) (J : It) (H' : Hp), itv = .ref it ∧ Inv X pins σ H' s2 ∧ Turn X.prog X.w X.K tg J fp it tn ∧ tn 0 s2.heap ∧ (∀ b ∈ fp, FpOk X pins H' b) ∧ R J H'
def PI (X : Cx) (tg iter : Expr) (wi : TI) : Prop :=
  ∀ (pins : List (Addr × Obj)) (s : Shared) (σ : St) (H : Hp) (R : It → Hp → Prop), Inv X pins σ H s → wi σ H R →
    wpAny (model X.prog X.w) X.A (eval iter X.env) (fun v s1 => wpAny (model X.prog X.w) X.A (pyIter v) (PIE X pins σ tg R) X.xe s1) X.xe s

/-- the step ahead of the store is nothing for an iterator that keeps no tuple -/
theorem go_of {M : Model} {A : Around} {E : Value → Shared → Prop} {s : Shared} {tg : Expr} {it : Addr} {u : Value} {o : Obj} {n : String} {vs : Array Value} {Q : Unit → Shared → Prop} (ho : s.heap.get? it = some o) (hc : o.cls = .type n) (hd : o.data = .fields vs)
    (hn : ["enumerate", "zip", "dict_itemiterator", "dict_reverseitemiterator", "odict_iterator", "itertools.zip_longest", "itertools.pairwise"].contains n = false) (hQ : Q () s) : wpAny M A (letOwnedTupleGo tg (.ref it) u) Q E s := by
  unfold letOwnedTupleGo
  cases tg <;> first
    | exact wpAny_pure hQ
    | (cases u <;> first
        | exact wpAny_pure hQ
        | (refine wpAny_bind (wpAny_load ho ?_)
           rw [hc, hd]
           show wpAny M A (if (["enumerate", "zip", "dict_itemiterator", "dict_reverseitemiterator", "odict_iterator", "itertools.zip_longest", "itertools.pairwise"].contains n && vs[0]? == some (rawInt _)) = true then _ else _) Q E s
           rw [if_neg (by intro h; rw [hn, Bool.false_and] at h; cases h)]
           exact wpAny_pure hQ))

/-- the list at a, as it stands at each turn (a loop may append to it) -/
def Itl (K : PySem.W.Frag) (a : Addr) : It :=
  ⟨fun i H => ∃ xs x, SqL K H a xs ∧ xs[i]? = some x, fun i H x H' => H' = H ∧ ∀ xs, SqL K H a xs → xs[i]? = some x, fun i H => ∃ xs, SqL K H a xs ∧ xs.length ≤ i⟩
/-- lo, lo + 1, .. (n of them) -/
def Itr (lo : Int) (n : Nat) : It := ⟨fun i _ => i < n, fun i H x H' => H' = H ∧ x = .int (lo + i), fun i _ => n ≤ i⟩
theorem turn_list {P : Program} {w : World} {K : PySem.W.Frag} {tg : Expr} (a it : Addr) : Turn P w K tg (Itl K a) [it] it (fun i h => h.IsListIter it a i) where
  mem := by simp
  obj := fun i h st b hb => by
    have e : b = it := by simpa using hb
    subst e
    obtain ⟨o, e, c, d⟩ := st
    exact ⟨o, e, fun v z => by rw [d] at z; cases z⟩
  keep := fun i h h' st k => st.at fun o e => k it (by simp) o e
  item := by
    intro X hP hw hK hc i pins s σ H E I hf st hg
    subst hP hw hK
    obtain ⟨xs, x, hq, hx⟩ := hg
    obtain ⟨its, rv, p, hz⟩ := I.list hq
    obtain ⟨u, hu, ru⟩ := rv.get hx
    obtain ⟨f0, f1, f2, f3, f4, f5⟩ := hf it (by simp)
    refine wpAny_pyNext_list_item st p.isList (x := u) (by simpa using hu) fun h' st' sb => ?_
    have I1 : Inv X pins σ H { s with heap := h' } := I.turned (t' := s.toks) (fun b o hb e => (sb.2 b hb).trans e) f0 f1 f3 f4 f5
    obtain ⟨o, e, c, d⟩ := id st'
    exact ⟨u, rfl, go_of (s := { s with heap := h' }) e c d (by decide) ⟨x, H, I1, ru, ⟨rfl, fun ys hy => by rw [I.list_inj hy hq]; exact hx⟩, st', fun b hb => (hf b hb).1⟩⟩
  done := by
    intro X hP hw hK hc i pins s σ H E I hf st hg
    subst hP hw hK
    obtain ⟨xs, hq, hx⟩ := hg
    obtain ⟨its, rv, p, hz⟩ := I.list hq
    obtain ⟨f0, f1, f2, f3, f4, f5⟩ := hf it (by simp)
    have hl := rv.length
    exact wpAny_pyNext_list_end (I.ok.hd hc) st p.isList (by simp; omega) fun h' eb => ⟨rfl, I.turned (t' := s.toks) (fun b o hb e => eb b o hb e) f0 f1 f3 f4 f5⟩
  self := fun _ _ _ _ _ st h => wpAny_pyIter_listiter st h
theorem turn_range {P : Program} {w : World} {K : PySem.W.Frag} {tg : Expr} (it : Addr) (lo : Int) (n : Nat) : Turn P w K tg (Itr lo n) [it] it (fun i h => IsRangeIter h it (lo + (i : Nat) * 1) ((n : Int) - (i : Nat)) 1) where
  mem := by simp
  obj := fun i h st b hb => by
    have e : b = it := by simpa using hb
    subst e
    exact ⟨_, st, fun v z => by
      have z' : Data.fields _ = Data.cell v := z
      cases z'⟩
  keep := fun i h h' st k => k it (by simp) _ st
  item := by
    intro X hP hw hK hc i pins s σ H E I hf st hg
    subst hP hw hK
    obtain ⟨f0, f1, f2, f3, f4, f5⟩ := hf it (by simp)
    have W := Walks.range (prog := X.prog) (w := X.w) (I.ok.hd hc) it lo 1 n
    refine W.item i s _ _ hg st fun v h' tk hv st' kk => ?_
    obtain ⟨t, rfl⟩ := hv
    have I1 : Inv X pins σ H { s with heap := h', toks := tk } := I.turned (fun b o hb e => kk b o (by simpa using hb) e) f0 f1 f3 f4 f5
    refine ⟨_, rfl, go_of (s := { s with heap := h', toks := tk }) (n := "range_iterator") st' rfl rfl (by decide) ⟨.int (lo + i), H, I1, ⟨t, ?_⟩, ⟨rfl, rfl⟩, st', fun b hb => (hf b hb).1⟩⟩
    rw [Int.mul_one]
  done := by
    intro X hP hw hK hc i pins s σ H E I hf st hg
    subst hP hw hK
    obtain ⟨f0, f1, f2, f3, f4, f5⟩ := hf it (by simp)
    exact wpAny_pyNext_range_end (I.ok.hd hc) st (by have : n ≤ i := hg; omega) fun h' eb => ⟨rfl, I.turned (t' := s.toks) (fun b o hb e => eb b o hb e) f0 f1 f3 f4 f5⟩
  self := fun _ _ _ _ _ st h => wpAny_pyIter_rangeiter st h
end L2

namespace L2
open PySem PySem.Spec PyProof.Rows
section
variable {X : Cx} {tg : Expr}
def iList (K : PySem.W.Frag) (tl : TE) : TI := fun σ H R => tl σ H fun x H1 => ∃ a, x = .ref a ∧ (∃ xs, SqL K H1 a xs) ∧ R (Itl K a) H1
theorem pi_list {l : Expr} {tl : TE} (hl : PE X l tl) : PI X tg l (iList X.K tl) := by
  intro pins s σ H R I h
  refine thn (hl pins s σ H _ I h) fun v s1 ⟨x, H1, I1, r1, q1⟩ => ?_
  obtain ⟨a, e, ⟨xs, hq⟩, q⟩ := q1
  subst e
  cases r1
  obtain ⟨its, rv, p, hz⟩ := I1.list hq
  refine wpAny_pyIter_list p.isList ?_
  refine ⟨s1.heap.objs.size, [s1.heap.objs.size], _, _, H1, rfl, I1.kept (t' := s1.toks) fun b o e => Heap.get?_push_of_some _ e, turn_list a _, ⟨_, Heap.get?_push_size _ rfl, rfl, rfl⟩, fun b hb => ?_, q⟩
  have e : b = s1.heap.objs.size := by simpa using hb
  subst e
  exact I1.fpOk (Nat.le_refl _) (I1.hok.fresh (Nat.le_refl _))
/-- a range object just made, walked -/
theorem range_it {pins : List (Addr × Obj)} {σ : St} {H : Hp} {s : Shared} {R : It → Hp → Prop} {E : Value → Shared → Prop} {lo hi : Int} {t u v : Tok} {tk : Nat} (I : Inv X pins σ H s) (h1 : -(2 ^ 62) ≤ lo) (h2 : lo < 2 ^ 62) (h3 : -(2 ^ 62) ≤ hi) (h4 : hi < 2 ^ 62)
    (q : R (Itr lo (hi - lo).toNat) H) : wpAny (model X.prog X.w) X.A (pyIter (.ref s.heap.objs.size)) (PIE X pins σ tg R) E { s with heap := s.heap.push { cls := .type "range", data := .fields #[.int lo t, .int hi u, .int 1 v] }, toks := tk } := by
  refine wpAny_pyIter_range (IsRange.new ..) (small_one h1 h2 h3 h4) ?_
  have I1 : Inv X pins σ H { s with heap := s.heap.push { cls := .type "range", data := .fields #[.int lo t, .int hi u, .int 1 v] }, toks := tk } := I.kept fun b o e => Heap.get?_push_of_some _ e
  refine ⟨(s.heap.push { cls := .type "range", data := .fields #[.int lo t, .int hi u, .int 1 v] }).objs.size, [(s.heap.push { cls := .type "range", data := .fields #[.int lo t, .int hi u, .int 1 v] }).objs.size], _, _, H, rfl,
    I1.kept (t' := tk) fun b o e => Heap.get?_push_of_some _ e, turn_range _ lo (hi - lo).toNat, ?_, fun b hb => ?_, q⟩
  · have e1 : lo + ((0 : Nat) : Int) * 1 = lo := by simp
    have e2 : (((hi - lo).toNat : Nat) : Int) - ((0 : Nat) : Int) = Builtin.Range.rangeSize lo hi 1 := by rw [rangeSize_one]; split <;> omega
    show IsRangeIter _ _ (lo + ((0 : Nat) : Int) * 1) ((((hi - lo).toNat : Nat) : Int) - ((0 : Nat) : Int)) 1
    rw [e1, e2]
    exact Heap.get?_push_size _ rfl
  · have e : b = (s.heap.push { cls := .type "range", data := .fields #[.int lo t, .int hi u, .int 1 v] }).objs.size := by simpa using hb
    subst e
    exact I1.fpOk (Nat.le_refl _) (I1.hok.fresh (Nat.le_refl _))
def iRng1 (ta : TA) : TI := fun σ H R => ta σ H fun vs H1 => ∃ j : Int, vs = [.int j] ∧ -(2 ^ 62) ≤ j ∧ j < 2 ^ 62 ∧ R (Itr 0 j.toNat) H1
theorem pi_range1 {a : Expr} {ta : TA} {p pos : Pos} (hg : Gl X "range") (hm : X.mg "range" = none) (ha : PA X [a] ta) (hs : starEach [a] X.env = [(false, eval a X.env)] := by rfl) : PI X tg (.Call (.Name "range" p) [a] [] pos) (iRng1 ta) := by
  intro pins s σ H R I h
  refine Call_ (ld_blt I hg hm boot_range (PyProof.Rows.callWith_type1 (thn (ha pos pins s σ H _ I h) fun us s1 ⟨vs, H1, I1, r1, q1⟩ => ?_) hs rfl))
  obtain ⟨j, e, q1, q2, q⟩ := q1
  subst e
  cases r1 with
  | cons r rr =>
    cases rr
    obtain ⟨t, rfl⟩ := r
    exact call_range_1 (range_it I1 (by omega) (by omega) q1 q2 (by simpa using q))
/-! ### for -/
/-- W: the invariant by the turn and a measure; N: what the body is to reach -/
def tFor (wi : TI) (g : TG) (tb : TS) : TS := fun D σ H => wi σ H fun J H1 => ∃ W : Nat → Nat → St → Hp → Prop, (∃ m, W 0 m σ H1) ∧ ∀ i m σ H, W i m σ H →
  (J.stop i H ∧ D.nx σ H) ∨ (J.go i H ∧ ∃ N : St → Hp → Prop, (∀ σ' H', N σ' H' → ∃ m', m' < m ∧ W (i + 1) m' σ' H') ∧ ∀ x H', J.yld i H x H' → g x σ H' fun σ2 H2 => tb { D with nx := N, ct := N, bk := D.nx } σ2 H2)
/-- the records at fp as they stand -/
def pinsAt (fp : List Addr) (h : Heap) : List (Addr × Obj) := fp.filterMap fun b => (h.get? b).map fun o => (b, o)
theorem mem_pinsAt {fp : List Addr} {h : Heap} {b : Addr} {o : Obj} (hb : b ∈ fp) (e : h.get? b = some o) : (b, o) ∈ pinsAt fp h := List.mem_filterMap.mpr ⟨b, hb, by rw [e]; rfl⟩
theorem of_pinsAt {fp : List Addr} {h : Heap} {p : Addr × Obj} (hp : p ∈ pinsAt fp h) : p.1 ∈ fp ∧ h.get? p.1 = some p.2 := by
  obtain ⟨b, hb, e⟩ := List.mem_filterMap.mp hp
  cases q : h.get? b with
  | none => rw [q] at e; cases e
  | some o =>
    rw [q] at e
    have e' : (b, o) = p := Option.some.inj e
    subst e'
    exact ⟨hb, q⟩
theorem Inv.pinned {pins : List (Addr × Obj)} {σ : St} {H : Hp} {s : Shared} {fp : List Addr} (I : Inv X pins σ H s) (hf : ∀ b ∈ fp, FpOk X pins H b) (ho : ∀ b ∈ fp, ∃ o, s.heap.get? b = some o ∧ ∀ v, o.data ≠ .cell v) : Inv X (pins ++ pinsAt fp s.heap) σ H s :=
  I.pins_of fun p hp => (List.mem_append.mp hp).elim (fun z => I.pin p (List.mem_append_right _ z)) fun z => by
    obtain ⟨hb, e⟩ := of_pinsAt z
    obtain ⟨f0, f1, f2, _⟩ := hf p.1 hb
    obtain ⟨o, e', d⟩ := ho p.1 hb
    rw [e] at e'; cases e'
    exact ⟨e, f0, f1, f2, d⟩
theorem Inv.unpinned {pins pl : List (Addr × Obj)} {σ : St} {H : Hp} {s : Shared} (I : Inv X (pins ++ pl) σ H s) : Inv X pins σ H s := I.pins_of fun p hp => I.pin p (List.mem_append_right _ (List.mem_append_left _ hp))
theorem ps_for {iter : Expr} {body : List Stmt} {wi : TI} {g : TG} {tb : TS} {pos : Pos} (hp : PassesOwn (model X.prog X.w) X.A X.env X.xe) (hc : X.calm = true) (hi : PI X tg iter wi) (hg : PG X tg g) (hb : PSs X body tb)
    (hs : ∀ x, foldedSetIterable iter X.env x = pure x := by intro _; rfl) : PS X (.For tg iter body [] pos) (tFor wi g tb) := by
  intro pins s σ H D I h
  refine wpAny_For (thn (hi pins s σ H _ I h) fun v s1 h1 => thn h1 fun itv s2 h2 => ?_) hs
  obtain ⟨it, fp, tn, J, H2, e, I2, T, st2, f2, W, ⟨m0, w0⟩, turn⟩ := h2
  subst e
  -- what stays true of the iterator's objects through the loop
  have stat : ∀ {H' : Hp}, (∀ b ∈ fp, H' b = none) → ∀ b ∈ fp, FpOk X pins H' b := fun hn b hb => ⟨hn b hb, (f2 b hb).2⟩
  refine codeAny_forLoop_any (fun n s' => ∃ i σ' H', Inv X pins σ' H' s' ∧ tn i s'.heap ∧ (∀ b ∈ fp, H' b = none) ∧ W i n σ' H') ?_ m0 ⟨0, σ, H2, I2, st2, fun b hb => (f2 b hb).1, w0⟩
  rintro n s3 ⟨i, σ3, H3, I3, st3, fr3, w3⟩
  rcases turn i n σ3 H3 w3 with ⟨stop, qn⟩ | ⟨go, N, hN, step⟩
  · refine wpAny_passesOwn hp (thn (T.done X rfl rfl rfl hc i pins s3 σ3 H3 X.xe I3 (stat fr3) st3 stop) fun r s4 ⟨hr, I4⟩ => ?_)
    subst hr
    exact wpAny_execs_nil ⟨σ3, H3, I4, qn⟩
  · refine wpAny_passesOwn hp (thn (T.item X rfl rfl rfl hc i pins s3 σ3 H3 X.xe I3 (stat fr3) st3 go) fun r s4 ⟨u, hr, h4⟩ => ?_)
    subst hr
    refine wpAny_passesOwn hp (thn h4 fun _ s5 ⟨x, H5, I5, r5, y5, st5, fr5⟩ => ?_)
    have I5' := I5.pinned (stat fr5) (T.obj _ _ st5)
    refine wpAny_passesOwn hp (thn (hg _ s5 σ3 H5 x u _ I5' r5 (step x H5 y5)) fun _ s6 ⟨σ6, H6, I6, q6⟩ => ?_)
    refine wpAny_passesOwn hp (thn (hb _ s6 σ6 H6 _ I6 q6) fun f s7 q7 => ?_)
    have again : ∀ {σ7 : St} {H7 : Hp}, Inv X (pins ++ pinsAt fp s5.heap) σ7 H7 s7 → N σ7 H7 → ∃ m, m < n ∧ ∃ i σ' H', Inv X pins σ' H' s7 ∧ tn i s7.heap ∧ (∀ b ∈ fp, H' b = none) ∧ W i m σ' H' := fun {σ7 H7} I7 n7 => by
      obtain ⟨m', hm, w7⟩ := hN σ7 H7 n7
      refine ⟨m', hm, i + 1, σ7, H7, I7.unpinned, T.keep _ _ _ st5 fun b hb o e => (I7.pin (b, o) (List.mem_append_right _ (List.mem_append_right _ (mem_pinsAt hb e)))).1, fun b hb => ?_, w7⟩
      obtain ⟨o, e, d⟩ := T.obj _ _ st5 b hb
      exact (I7.pin (b, o) (List.mem_append_right _ (List.mem_append_right _ (mem_pinsAt hb e)))).2.1
    cases f with
    | next => obtain ⟨σ7, H7, I7, n7⟩ := q7; exact again I7 n7
    | cont => obtain ⟨σ7, H7, I7, n7⟩ := q7; exact again I7 n7
    | brk => obtain ⟨σ7, H7, I7, q7⟩ := q7; exact ⟨σ7, H7, I7.unpinned, q7⟩
    | ret v => obtain ⟨x7, σ7, H7, I7, r7, q7⟩ := q7; exact ⟨x7, σ7, H7, I7.unpinned, r7, q7⟩
end

/-! ### the forms one uses -/
/-- over a list that the body leaves as it is -/
theorem for_list {K : PySem.W.Frag} {a : Addr} {xs : List V} {g : TG} {tb : TS} {D : Ends} {σ : St} {H : Hp} (Pv : Nat → St → Hp → Prop) (h0 : Pv 0 σ H) (hl : ∀ i σ H, i ≤ xs.length → Pv i σ H → SqL K H a xs)
    (hs : ∀ i x σ H, xs[i]? = some x → Pv i σ H → g x σ H fun σ2 H2 => tb { D with nx := Pv (i + 1), ct := Pv (i + 1), bk := D.nx } σ2 H2) (hd : ∀ σ H, Pv xs.length σ H → D.nx σ H) :
    ∃ W : Nat → Nat → St → Hp → Prop, (∃ m, W 0 m σ H) ∧ ∀ i m σ H, W i m σ H →
      ((Itl K a).stop i H ∧ D.nx σ H) ∨ ((Itl K a).go i H ∧ ∃ N : St → Hp → Prop, (∀ σ' H', N σ' H' → ∃ m', m' < m ∧ W (i + 1) m' σ' H') ∧ ∀ x H', (Itl K a).yld i H x H' → g x σ H' fun σ2 H2 => tb { D with nx := N, ct := N, bk := D.nx } σ2 H2) := by
  refine ⟨fun i m σ H => m = xs.length - i ∧ i ≤ xs.length ∧ Pv i σ H, ⟨xs.length, by simp, Nat.zero_le _, h0⟩, ?_⟩
  rintro i m σ H ⟨rfl, hi, p⟩
  have q := hl i σ H hi p
  by_cases hlt : i < xs.length
  · refine .inr ⟨⟨xs, xs[i], q, by simp [hlt]⟩, Pv (i + 1), fun σ' H' p' => ⟨xs.length - (i + 1), by omega, rfl, hlt, p'⟩, fun x H' y => ?_⟩
    obtain ⟨e, y⟩ := y
    subst e
    exact hs i x σ _ (y xs q) p
  · have e : i = xs.length := by omega
    subst e
    exact .inl ⟨⟨xs, q, Nat.le_refl _⟩, hd σ H p⟩
theorem for_range {lo : Int} {n : Nat} {g : TG} {tb : TS} {D : Ends} {σ : St} {H : Hp} (Pv : Nat → St → Hp → Prop) (h0 : Pv 0 σ H)
    (hs : ∀ i σ H, i < n → Pv i σ H → g (.int (lo + i)) σ H fun σ2 H2 => tb { D with nx := Pv (i + 1), ct := Pv (i + 1), bk := D.nx } σ2 H2) (hd : ∀ σ H, Pv n σ H → D.nx σ H) :
    ∃ W : Nat → Nat → St → Hp → Prop, (∃ m, W 0 m σ H) ∧ ∀ i m σ H, W i m σ H →
      ((Itr lo n).stop i H ∧ D.nx σ H) ∨ ((Itr lo n).go i H ∧ ∃ N : St → Hp → Prop, (∀ σ' H', N σ' H' → ∃ m', m' < m ∧ W (i + 1) m' σ' H') ∧ ∀ x H', (Itr lo n).yld i H x H' → g x σ H' fun σ2 H2 => tb { D with nx := N, ct := N, bk := D.nx } σ2 H2) := by
  refine ⟨fun i m σ H => m = n - i ∧ i ≤ n ∧ Pv i σ H, ⟨n, by simp, Nat.zero_le _, h0⟩, ?_⟩
  rintro i m σ H ⟨rfl, hi, p⟩
  by_cases hlt : i < n
  · refine .inr ⟨hlt, Pv (i + 1), fun σ' H' p' => ⟨n - (i + 1), by omega, rfl, hlt, p'⟩, fun x H' y => ?_⟩
    obtain ⟨e, y⟩ := y
    subst e y
    exact hs i σ _ hlt p
  · have e : i = n := by omega
    subst e
    exact .inl ⟨Nat.le_refl _, hd σ H p⟩
end L2

namespace L2
open PySem PySem.Spec PyProof.Rows

abbrev R2 := V → V → Hp → VK → Prop
/-- a two-place operation on values: f is binaryOp op, inplaceOp op or compareOp op -/
def OpR (X : Cx) (f : Value → Value → Sem Value) (r : R2) : Prop :=
  ∀ (pins : List (Addr × Obj)) (s : Shared) (σ : St) (H : Hp) (x y : V) (v u : Value) (Q : VK), Inv X pins σ H s → RelV x v → RelV y u → r x y H Q →
    wpAny (model X.prog X.w) X.A (f v u) (EP X pins σ Q) X.xe s
/-- a one-place operation -/
def UnR (X : Cx) (f : Value → Sem Value) (r : V → Hp → VK → Prop) : Prop :=
  ∀ (pins : List (Addr × Obj)) (s : Shared) (σ : St) (H : Hp) (x : V) (v : Value) (Q : VK), Inv X pins σ H s → RelV x v → r x H Q →
    wpAny (model X.prog X.w) X.A (f v) (EP X pins σ Q) X.xe s
/-- a call of a value that is known (a builtin, a type) with values -/
def CallR (X : Cx) (f : Value) (r : List V → Hp → VK → Prop) : Prop :=
  ∀ (pins : List (Addr × Obj)) (s : Shared) (σ : St) (H : Hp) (xs : List V) (us : List Value) (Q : VK), Inv X pins σ H s → Vals xs us → r xs H Q →
    wpAny (model X.prog X.w) X.A (call f us) (EP X pins σ Q) X.xe s
/-- a value's truth -/
def TruR (X : Cx) (r : V → Hp → (Bool → Hp → Prop) → Prop) : Prop :=
  ∀ (pins : List (Addr × Obj)) (s : Shared) (σ : St) (H : Hp) (x : V) (v : Value) (Q : Bool → Hp → Prop), Inv X pins σ H s → RelV x v → r x H Q →
    wpAny (model X.prog X.w) X.A (truthy v) (TP X pins σ Q) X.xe s

def tOp (r : R2) (ta tb : TE) : TE := fun σ H Q => ta σ H fun x H1 => tb σ H1 fun y H2 => r x y H2 Q
def tUn (r : V → Hp → VK → Prop) (ta : TE) : TE := fun σ H Q => ta σ H fun x H1 => r x H1 Q
/-- ints in, under C, and a value out -/
def rI (C : Int → Int → Prop) (g : Int → Int → V) : R2 := fun x y H Q => ∃ i j, x = .int i ∧ y = .int j ∧ C i j ∧ Q (g i j) H
def rI0 (g : Int → Int → V) : R2 := fun x y H Q => ∃ i j, x = .int i ∧ y = .int j ∧ Q (g i j) H
def rU (g : Int → V) : V → Hp → VK → Prop := fun x H Q => ∃ i, x = .int i ∧ Q (g i) H

section
variable {X : Cx} {a b c : Expr} {ta tb tc : TE} {pos : Pos}

theorem binT (ha : PE X a ta) (hb : PE X b tb) {pins : List (Addr × Obj)} {s : Shared} {σ : St} {H : Hp} {R : V → V → Hp → Prop} (I : Inv X pins σ H s)
    (h : ta σ H fun x H1 => tb σ H1 fun y H2 => R x y H2) {Q : Value → Shared → Prop} {f : Value → Value → Sem Value}
    (hf : ∀ v u s2 x y H2, Inv X pins σ H2 s2 → RelV x v → RelV y u → R x y H2 → wpAny (model X.prog X.w) X.A (f v u) Q X.xe s2) :
    wpAny (model X.prog X.w) X.A (eval a X.env) (fun v s₁ => wpAny (model X.prog X.w) X.A (eval b X.env) (fun u s₂ => wpAny (model X.prog X.w) X.A (f v u) Q X.xe s₂) X.xe s₁) X.xe s := by
  refine thn (ha pins s σ H _ I h) fun v s1 ⟨x, H1, I1, r1, q1⟩ => ?_
  refine thn (hb pins s1 σ H1 _ I1 q1) fun u s2 ⟨y, H2, I2, r2, q2⟩ => ?_
  exact hf v u s2 x y H2 I2 r1 r2 q2

theorem pe_op {op : Operator} {r : R2} (ho : OpR X (binaryOp op) r) (ha : PE X a ta) (hb : PE X b tb) : PE X (.BinOp a op b pos) (tOp r ta tb) := by
  intro pins s σ H Q I h
  exact wpAny_BinOp (binT ha hb I h fun v u s2 x y H2 I2 rx ry q => ho pins s2 σ H2 x y v u Q I2 rx ry q)
theorem pe_un {op : UnaryOp} {r : V → Hp → VK → Prop} (ho : UnR X (unaryOp op) r) (ha : PE X a ta) : PE X (.UnaryOp op a pos) (tUn r ta) := by
  intro pins s σ H Q I h
  exact UnaryOp_ (thn (ha pins s σ H _ I h) fun v s1 ⟨x, H1, I1, r1, q1⟩ => ho pins s1 σ H1 x v Q I1 r1 q1)
/-! ### ints -/
theorem opI {f : Value → Value → Sem Value} {C : Int → Int → Prop} {g : Int → Int → Int}
    (rule : ∀ (i j : Int) (t u : Tok) (s : Shared) (Q : Value → Shared → Prop) (E : Value → Shared → Prop), C i j → Q (.int (g i j) s.toks) { s with toks := s.toks + 1 } → wpAny (model X.prog X.w) X.A (f (.int i t) (.int j u)) Q E s) :
    OpR X f (rI C fun i j => .int (g i j)) := by
  intro pins s σ H x y v u Q I rx ry h
  obtain ⟨i, j, rfl, rfl, hc, q⟩ := h
  obtain ⟨t, rfl⟩ := rx
  obtain ⟨t', rfl⟩ := ry
  exact rule i j t t' s _ _ hc ⟨.int (g i j), H, I.tok _, ⟨_, rfl⟩, q⟩
theorem opI0 {f : Value → Value → Sem Value} {g : Int → Int → Int}
    (rule : ∀ (i j : Int) (t u : Tok) (s : Shared) (Q : Value → Shared → Prop) (E : Value → Shared → Prop), Q (.int (g i j) s.toks) { s with toks := s.toks + 1 } → wpAny (model X.prog X.w) X.A (f (.int i t) (.int j u)) Q E s) :
    OpR X f (rI0 fun i j => .int (g i j)) := by
  intro pins s σ H x y v u Q I rx ry h
  obtain ⟨i, j, rfl, rfl, q⟩ := h
  obtain ⟨t, rfl⟩ := rx
  obtain ⟨t', rfl⟩ := ry
  exact rule i j t t' s _ _ ⟨.int (g i j), H, I.tok _, ⟨_, rfl⟩, q⟩
theorem opB0 {f : Value → Value → Sem Value} {g : Int → Int → Bool}
    (rule : ∀ (i j : Int) (t u : Tok) (s : Shared) (Q : Value → Shared → Prop) (E : Value → Shared → Prop), Q (.bool (g i j)) s → wpAny (model X.prog X.w) X.A (f (.int i t) (.int j u)) Q E s) :
    OpR X f (rI0 fun i j => .bl (g i j)) := by
  intro pins s σ H x y v u Q I rx ry h
  obtain ⟨i, j, rfl, rfl, q⟩ := h
  obtain ⟨t, rfl⟩ := rx
  obtain ⟨t', rfl⟩ := ry
  exact rule i j t t' s _ _ ⟨.bl (g i j), H, I, rfl, q⟩

def CDiv (i j : Int) : Prop := 0 < j ∧ j < 1073741824
def CPow (i j : Int) : Prop := 0 ≤ j ∧ j ≤ 1000000 ∧ i.natAbs < 2 ^ 64
def CMul (i j : Int) : Prop := (-(2 ^ 64) < i ∧ i < 2 ^ 64) ∨ (-(2 ^ 64) < j ∧ j < 2 ^ 64)
theorem CMul.ok {i j : Int} (h : CMul i j) : IntMulOk i j := by
  rcases h with ⟨h1, h2⟩ | ⟨h1, h2⟩
  · exact .of_left (intBits_le_64 h1 h2)
  · exact .of_right (intBits_le_64 h1 h2)
theorem two_pow_nn (k : Nat) : (0 : Int) ≤ 2 ^ k := by
  rw [two_pow_cast]
  exact Int.natCast_nonneg _

theorem op_add : OpR X (binaryOp .Add) (rI0 fun i j => .int (i + j)) := opI0 fun _ _ _ _ _ _ _ q => add_int q
theorem op_sub : OpR X (binaryOp .Sub) (rI0 fun i j => .int (i - j)) := opI0 fun _ _ _ _ _ _ _ q => sub_int q
theorem op_mul : OpR X (binaryOp .Mult) (rI CMul fun i j => .int (i * j)) := opI fun _ _ _ _ _ _ _ hc q => mul_int q hc.ok
/-- // by a positive divisor -/
theorem op_fdiv : OpR X (binaryOp .FloorDiv) (rI CDiv fun i j => .int (i / j)) := opI fun i j _ _ _ _ _ hc q => by
  have h1 : (0 : Int) < j := hc.1
  have h2 : j < 1073741824 := hc.2
  exact floordiv_int (by omega) (by rw [Int.fdiv_eq_ediv_of_nonneg i (by omega)]; exact q) (.inl (PyProof.noPylong_small (by omega)))
/-- % by a positive divisor of any size -/
theorem op_mod : OpR X (binaryOp .Mod) (rI (fun _ j => 0 < j) fun i j => .int (i % j)) := opI fun i j _ _ _ _ _ hc q => by
  have h1 : (0 : Int) < j := hc
  exact mod_int' (by omega) (by rw [Int.fmod_eq_emod_of_nonneg i (by omega)]; exact q)
theorem op_pow : OpR X (binaryOp .Pow) (rI CPow fun i j => .int (i ^ j.toNat)) := opI fun _ _ _ _ _ _ _ hc q => pow_int_small hc.1 hc.2.1 hc.2.2 q
theorem op_shl : OpR X (binaryOp .LShift) (rI CPow fun i j => .int (i * 2 ^ j.toNat)) := opI fun _ _ _ _ _ _ _ hc q => lshift_int_small hc.1 hc.2.1 hc.2.2 q
theorem op_shr : OpR X (binaryOp .RShift) (rI (fun _ j => 0 ≤ j) fun i j => .int (i / 2 ^ j.toNat)) := opI fun i j _ _ _ _ _ hc q =>
  rshift_int hc (by rw [Int.fdiv_eq_ediv_of_nonneg i (two_pow_nn _)]; exact q)
theorem op_and : OpR X (binaryOp .BitAnd) (rI0 fun i j => .int (Builtin.bitAnd i j)) := opI0 fun _ _ _ _ _ _ _ q => and_int q
theorem op_or : OpR X (binaryOp .BitOr) (rI0 fun i j => .int (Builtin.bitOr i j)) := opI0 fun _ _ _ _ _ _ _ q => or_int q
theorem op_xor : OpR X (binaryOp .BitXor) (rI0 fun i j => .int (Builtin.bitXor i j)) := opI0 fun _ _ _ _ _ _ _ q => xor_int q

theorem iop_add : OpR X (inplaceOp .Add) (rI0 fun i j => .int (i + j)) := opI0 fun _ _ _ _ _ _ _ q => iadd_int q
theorem unI {f : Value → Sem Value} {g : Int → Int}
    (rule : ∀ (i : Int) (t : Tok) (s : Shared) (Q : Value → Shared → Prop) (E : Value → Shared → Prop), Q (.int (g i) s.toks) { s with toks := s.toks + 1 } → wpAny (model X.prog X.w) X.A (f (.int i t)) Q E s) :
    UnR X f (rU fun i => .int (g i)) := by
  intro pins s σ H x v Q I rx h
  obtain ⟨i, rfl, q⟩ := h
  obtain ⟨t, rfl⟩ := rx
  exact rule i t s _ _ ⟨.int (g i), H, I.tok _, ⟨_, rfl⟩, q⟩
theorem un_neg : UnR X (unaryOp .USub) (rU fun i => .int (-i)) := unI fun _ _ _ _ _ q => neg_int q
/-! ### bools among ints: n += (a < b) -/
end

/-! ### comparisons -/
/-- the scalars that == tells apart as data does -/
def scal : V → V → Bool
  | .non, .non => true | .non, .int _ => true | .int _, .non => true | .non, .bl _ => true | .bl _, .non => true | .non, .str _ => true | .str _, .non => true
  | .int _, .int _ => true | .bl _, .bl _ => true | .str _, .str _ => true | .byt _, .byt _ => true
  | .int _, .str _ => true | .str _, .int _ => true | .bl _, .str _ => true | .str _, .bl _ => true
  | _, _ => false
def rEq : R2 := fun x y H Q => scal x y = true ∧ Q (.bl (decide (x = y))) H
def rNe : R2 := fun x y H Q => scal x y = true ∧ Q (.bl (!decide (x = y))) H

theorem dec_int {i j : Int} : decide (V.int i = V.int j) = (i == j) := by
  rw [Bool.eq_iff_iff]
  simp
theorem dec_bl {i j : Bool} : decide (V.bl i = V.bl j) = (i == j) := by
  rw [Bool.eq_iff_iff]
  simp
theorem dec_str {i j : Str} : decide (V.str i = V.str j) = (i == j) := by
  rw [Bool.eq_iff_iff]
  simp
theorem dec_byt {i j : Array UInt8} : decide (V.byt i = V.byt j) = (i.toList == j.toList) := by
  rw [Bool.eq_iff_iff]
  cases i
  cases j
  simp

section
variable {X : Cx} {a b c : Expr} {ta tb tc : TE} {pos : Pos}
theorem fin_bl {pins : List (Addr × Obj)} {σ : St} {H : Hp} {s : Shared} {Q : VK} {k k' : Bool} (I : Inv X pins σ H s) (q : Q (.bl k) H) (e : k = k') : EP X pins σ Q (.bool k') s := by
  subst e
  exact ⟨.bl k, H, I, rfl, q⟩
theorem op_eq : OpR X (compareOp .Eq) rEq := by
  intro pins s σ H x y v u Q I rx ry h
  obtain ⟨hs, q⟩ := h
  cases x with
  | non =>
    cases rx
    cases y with
    | non => cases ry; exact PySem.EqNone.eq_none_none (fin_bl I q (by simp))
    | bl j => cases ry; exact PySem.EqNone.eq_none_bool (fin_bl I q (by simp))
    | int j => obtain ⟨t', rfl⟩ := ry; exact PySem.EqNone.eq_none_int (fin_bl I q (by simp))
    | str j => obtain ⟨t', rfl⟩ := ry; exact PySem.EqNone.eq_none_str (fin_bl I q (by simp))
    | _ => exact absurd (show false = true from hs) Bool.false_ne_true
  | bl i =>
    cases rx
    cases y with
    | non => cases ry; exact PySem.EqNone.eq_bool_none (fin_bl I q (by simp))
    | bl j => cases ry; exact eq_bool (fin_bl I q dec_bl)
    | str j => obtain ⟨t', rfl⟩ := ry; exact PySem.EqMixed.eq_bool_str (fin_bl I q (by simp))
    | _ => exact absurd (show false = true from hs) Bool.false_ne_true
  | int i =>
    obtain ⟨t, rfl⟩ := rx
    cases y with
    | non => cases ry; exact PySem.EqNone.eq_int_none (fin_bl I q (by simp))
    | int j => obtain ⟨t', rfl⟩ := ry; exact eq_int (fin_bl I q dec_int)
    | str j => obtain ⟨t', rfl⟩ := ry; exact PySem.EqMixed.eq_int_str (fin_bl I q (by simp))
    | _ => exact absurd (show false = true from hs) Bool.false_ne_true
  | str i =>
    obtain ⟨t, rfl⟩ := rx
    cases y with
    | non => cases ry; exact PySem.EqNone.eq_str_none (fin_bl I q (by simp))
    | bl j => cases ry; exact PySem.EqMixed.eq_str_bool (fin_bl I q (by simp))
    | int j => obtain ⟨t', rfl⟩ := ry; exact PySem.EqMixed.eq_str_int (fin_bl I q (by simp))
    | str j => obtain ⟨t', rfl⟩ := ry; exact eq_str (fin_bl I q dec_str)
    | _ => exact absurd (show false = true from hs) Bool.false_ne_true
  | byt i =>
    obtain ⟨t, rfl⟩ := rx
    cases y with
    | byt j => obtain ⟨t', rfl⟩ := ry; exact PySem.W.eq_bytes (fin_bl I q dec_byt)
    | _ => exact absurd (show false = true from hs) Bool.false_ne_true
  | _ => cases y <;> exact absurd (show false = true from hs) Bool.false_ne_true
theorem op_ne : OpR X (compareOp .NotEq) rNe := by
  intro pins s σ H x y v u Q I rx ry h
  obtain ⟨hs, q⟩ := h
  cases x with
  | non =>
    cases rx
    cases y with
    | non => cases ry; exact PySem.EqNone.ne_none_none (fin_bl I q (by simp))
    | bl j => cases ry; exact PySem.EqNone.ne_none_bool (fin_bl I q (by simp))
    | int j => obtain ⟨t', rfl⟩ := ry; exact PySem.EqNone.ne_none_int (fin_bl I q (by simp))
    | str j => obtain ⟨t', rfl⟩ := ry; exact PySem.EqNone.ne_none_str (fin_bl I q (by simp))
    | _ => exact absurd (show false = true from hs) Bool.false_ne_true
  | bl i =>
    cases rx
    cases y with
    | non => cases ry; exact PySem.EqNone.ne_bool_none (fin_bl I q (by simp))
    | bl j => cases ry; exact ne_bool (fin_bl I q (congrArg not dec_bl))
    | str j => obtain ⟨t', rfl⟩ := ry; exact PySem.EqMixed.ne_bool_str (fin_bl I q (by simp))
    | _ => exact absurd (show false = true from hs) Bool.false_ne_true
  | int i =>
    obtain ⟨t, rfl⟩ := rx
    cases y with
    | non => cases ry; exact PySem.EqNone.ne_int_none (fin_bl I q (by simp))
    | int j => obtain ⟨t', rfl⟩ := ry; exact ne_int (fin_bl I q (congrArg not dec_int))
    | str j => obtain ⟨t', rfl⟩ := ry; exact PySem.EqMixed.ne_int_str (fin_bl I q (by simp))
    | _ => exact absurd (show false = true from hs) Bool.false_ne_true
  | str i =>
    obtain ⟨t, rfl⟩ := rx
    cases y with
    | non => cases ry; exact PySem.EqNone.ne_str_none (fin_bl I q (by simp))
    | bl j => cases ry; exact PySem.EqMixed.ne_str_bool (fin_bl I q (by simp))
    | int j => obtain ⟨t', rfl⟩ := ry; exact PySem.EqMixed.ne_str_int (fin_bl I q (by simp))
    | str j => obtain ⟨t', rfl⟩ := ry; exact ne_str (fin_bl I q (congrArg not dec_str))
    | _ => exact absurd (show false = true from hs) Bool.false_ne_true
  | byt i =>
    obtain ⟨t, rfl⟩ := rx
    cases y with
    | byt j => obtain ⟨t', rfl⟩ := ry; exact PySem.W.ne_bytes (fin_bl I q (congrArg not dec_byt))
    | _ => exact absurd (show false = true from hs) Bool.false_ne_true
  | _ => cases y <;> exact absurd (show false = true from hs) Bool.false_ne_true

theorem op_lt : OpR X (compareOp .Lt) (rI0 fun i j => .bl (decide (i < j))) := opB0 fun _ _ _ _ _ _ _ q => lt_int q
theorem op_le : OpR X (compareOp .LtE) (rI0 fun i j => .bl (decide (i ≤ j))) := opB0 fun _ _ _ _ _ _ _ q => le_int q
theorem op_gt : OpR X (compareOp .Gt) (rI0 fun i j => .bl (decide (j < i))) := opB0 fun _ _ _ _ _ _ _ q => gt_int q
theorem op_ge : OpR X (compareOp .GtE) (rI0 fun i j => .bl (decide (j ≤ i))) := opB0 fun _ _ _ _ _ _ _ q => ge_int q
/-- two rules for one operation: by cases -/
theorem OpR.or {f : Value → Value → Sem Value} {r r' : R2} (h : OpR X f r) (h' : OpR X f r') : OpR X f (fun x y H Q => r x y H Q ∨ r' x y H Q) := by
  intro pins s σ H x y v u Q I rx ry q
  rcases q with q | q
  · exact h pins s σ H x y v u Q I rx ry q
  · exact h' pins s σ H x y v u Q I rx ry q

theorem nomark (b : Expr) {op : CmpOp} (h : op ≠ .In := by decide) (h2 : op ≠ .NotIn := by decide) : behindInMarks op b = false := by
  have e1 : (op == CmpOp.In) = false := by cases op <;> first | rfl | exact absurd rfl h
  have e2 : (op == CmpOp.NotIn) = false := by cases op <;> first | rfl | exact absurd rfl h2
  cases b <;> simp [behindInMarks, e1, e2]
/-- a comparison as a value; hm: nomark b, or (for in, not in) by with_unfolding_all rfl -/
theorem pe_cmpR {op : CmpOp} {r : R2} (ho : OpR X (compareOp op) r) (ha : PE X a ta) (hb : PE X b tb) (hm : behindInMarks op b = false) : PE X (.Compare a [op] [b] pos) (tOp r ta tb) := by
  intro pins s σ H Q I h
  exact wpAny_Compare1 (binT ha hb I h fun v u s2 x y H2 I2 rx ry q => ho pins s2 σ H2 x y v u Q I2 rx ry q) hm
/-- a reading of a value as a test -/
def tTest (t : TE) : TT := fun σ H Q => t σ H fun x H' => ∃ k, x = .bl k ∧ Q k H'
theorem pt_cmpR {op : CmpOp} {r : R2} (ho : OpR X (compareOp op) r) (ha : PE X a ta) (hb : PE X b tb) (hm : behindInMarks op b = false) : PT X (.Compare a [op] [b] pos) (tTest (tOp r ta tb)) := by
  intro pins s σ H Q I h
  refine wpAny_isTrue_Compare1 (thn (ha pins s σ H _ I h) fun v s1 ⟨x, H1, I1, r1, q1⟩ => thn (hb pins s1 σ H1 _ I1 q1) fun u s2 ⟨y, H2, I2, r2, q2⟩ =>
    thn (ho pins s2 σ H2 x y v u _ I2 r1 r2 q2) fun c s3 ⟨z, H3, I3, r3, k, e, q3⟩ => ?_) hm
  subst e
  cases r3
  exact wpAny_truthy_bool ⟨H3, I3, q3⟩
/-! ### truth -/
/-- a value's truth by the abstract heap -/
def TruV (K : PySem.W.Frag) (x : V) (H : Hp) (k : Bool) : Prop :=
  match x with
  | .non => k = false
  | .bl b => k = b
  | .int i => k = (i != 0)
  | .str y => y.length ≤ sizeLine ∧ k = ((y.length : Int) != 0)
  | .byt y => y.size ≤ sizeLine ∧ k = ((y.size : Int) != 0)
  | .ref p => (∃ xs, SqL K H p xs ∧ k = !xs.isEmpty) ∨ (∃ xs, SqT K H p xs ∧ k = !xs.isEmpty) ∨ ∃ kvs, H p = some (.dK kvs) ∧ k = !kvs.isEmpty
  | _ => False
theorem isEmpty_kv {κ : Type} {kvs : List (κ × V)} {vs : List (κ × Value)} (r : KV kvs vs) : (!vs.isEmpty) = !kvs.isEmpty := by
  cases r <;> rfl
theorem isEmpty_of {xs : List V} {its : List Value} (r : Vals xs its) : (!its.toArray.isEmpty) = !xs.isEmpty := by
  cases r <;> simp
theorem line63 : (sizeLine : Nat) < 2 ^ 63 := by rw [sizeLine_eq]; decide
theorem tru_ok : TruR X (fun x H Q => ∃ k, TruV X.K x H k ∧ Q k H) := by
  intro pins s σ H x v Q I rx h
  obtain ⟨k, e, q⟩ := h
  have hl := line63
  have hs : sizeLine = 16777216 := sizeLine_eq
  cases x with
  | non =>
    cases rx
    have e' : k = false := e
    subst e'
    exact truthy_none ⟨H, I, q⟩
  | bl b =>
    cases rx
    have e' : k = b := e
    subst e'
    exact wpAny_truthy_bool ⟨H, I, q⟩
  | int i =>
    obtain ⟨t, rfl⟩ := rx
    have e' : k = (i != 0) := e
    subst e'
    exact PySem.P.truthy_int ⟨H, I, q⟩
  | str y =>
    obtain ⟨t, rfl⟩ := rx
    obtain ⟨hy, e'⟩ : y.length ≤ sizeLine ∧ k = ((y.length : Int) != 0) := e
    subst e'
    exact PySem.P.truthy_str (by omega) ⟨H, I.tok _, q⟩
  | byt y =>
    obtain ⟨t, rfl⟩ := rx
    obtain ⟨hy, e'⟩ : y.size ≤ sizeLine ∧ k = ((y.size : Int) != 0) := e
    subst e'
    exact PySem.W.truthy_bytes (by omega) ⟨H, I.tok _, q⟩
  | ref p =>
    cases rx
    have e' : (∃ xs, SqL X.K H p xs ∧ k = !xs.isEmpty) ∨ (∃ xs, SqT X.K H p xs ∧ k = !xs.isEmpty) ∨ ∃ kvs, H p = some (.dK kvs) ∧ k = !kvs.isEmpty := e
    rcases e' with ⟨xs, hx, e'⟩ | ⟨xs, hx, e'⟩ | ⟨kvs, hx, e'⟩
    · subst e'
      obtain ⟨its, r, pl, hz⟩ := I.list hx
      have hlen := r.length
      exact wpAny_truthy_list pl.isList (by simp only [List.size_toArray]; omega) ⟨H, I.tok _, by rw [isEmpty_of r]; exact q⟩
    · subst e'
      obtain ⟨its, r, pl, hz⟩ := I.tuple hx
      have hlen := r.length
      exact truthy_tuple pl (by simp only [List.size_toArray]; omega) ⟨H, I.tok _, by rw [isEmpty_of r]; exact q⟩
    · subst e'
      obtain ⟨hz, hS, vs, r, m⟩ : kvs.length ≤ sizeLine ∧ (p == sysModules) = false ∧ ∃ vs, KV kvs vs ∧ s.heap.DictOf (mixKind X.prog X.w) p vs := I.hok p _ hx
      have hlen : kvs.length = vs.length := Paired.length r
      exact wpAny_truthy_dict hS m (by omega) ⟨H, I.tok _, by rw [isEmpty_kv r]; exact q⟩
  | _ => exact (show False from e).elim
/-- any expression whose test is its value's truth (a name, a call, a subscript, a field ..: he by fun _ => rfl) -/
theorem pt_truth (ha : PE X a ta) (he : ∀ whole, isTrue a X.env whole = (do let v ← whole; standAt a.pos; holding [v] (truthy v))) :
    PT X a (fun σ H Q => ta σ H fun x H' => ∃ k, TruV X.K x H' k ∧ Q k H') := by
  intro pins s σ H Q I h
  exact isTrue_plain (thn (ha pins s σ H _ I h) fun v s1 ⟨x, H1, I1, r1, q1⟩ => tru_ok pins s1 σ H1 x v Q I1 r1 q1) (he _)

/-! ### strs and bytes -/
/-! ### scalar builtins, by CallR -/
theorem vals1 {x : V} {us : List Value} (r : Vals [x] us) : ∃ u, us = [u] ∧ RelV x u := by
  cases r with
  | cons r1 r2 => cases r2; exact ⟨_, rfl, r1⟩
/-- len of a str, a bytes, a list, a tuple -/
def LenV (K : PySem.W.Frag) (x : V) (H : Hp) (n : Nat) : Prop :=
  match x with
  | .str y => y.length ≤ sizeLine ∧ n = y.length
  | .byt y => y.size ≤ sizeLine ∧ n = y.size
  | .ref p => (∃ xs, SqL K H p xs ∧ n = xs.length) ∨ ∃ xs, SqT K H p xs ∧ n = xs.length
  | _ => False
theorem call_len : CallR X (.builtin "len") (fun xs H Q => ∃ x n, xs = [x] ∧ LenV X.K x H n ∧ Q (.int n) H) := by
  intro pins s σ H xs us Q I r h
  obtain ⟨x, n, rfl, e, q⟩ := h
  obtain ⟨u, rfl, rx⟩ := vals1 r
  have hl := line63
  have hs : sizeLine = 16777216 := sizeLine_eq
  cases x with
  | str y =>
    obtain ⟨t, rfl⟩ := rx
    obtain ⟨hy, e'⟩ : y.length ≤ sizeLine ∧ n = y.length := e
    subst e'
    exact len_str (by omega) ⟨.int _, H, I.tok _, ⟨_, rfl⟩, q⟩
  | byt y =>
    obtain ⟨t, rfl⟩ := rx
    obtain ⟨hy, e'⟩ : y.size ≤ sizeLine ∧ n = y.size := e
    subst e'
    exact PySem.W.len_bytes (by omega) ⟨.int _, H, I.tok _, ⟨_, rfl⟩, q⟩
  | ref p =>
    cases rx
    have e' : (∃ xs, SqL X.K H p xs ∧ n = xs.length) ∨ ∃ xs, SqT X.K H p xs ∧ n = xs.length := e
    rcases e' with ⟨xs, hx, e'⟩ | ⟨xs, hx, e'⟩
    · subst e'
      obtain ⟨its, r', pl, hz⟩ := I.list hx
      have hlen := r'.length
      exact Calls.call_len_list pl.isList (by simp only [List.size_toArray]; omega) ⟨.int xs.length, H, I.tok _, ⟨_, by simp only [List.size_toArray]; rw [hlen]⟩, q⟩
    · subst e'
      obtain ⟨its, r', pl, hz⟩ := I.tuple hx
      have hlen := r'.length
      exact len_tuple pl (by simp only [List.size_toArray]; omega) ⟨.int xs.length, H, I.tok _, ⟨_, by simp only [List.size_toArray]; rw [hlen]⟩, q⟩
  | _ => exact (show False from e).elim
end
end L2

namespace L2
open PySem PySem.Spec PyProof.Rows

/-! ### an instance, its attributes a map -/
structure ObjM (h : Heap) (x dx C : Addr) (mA : Str → Option Value) : Prop where
  obj : h.get? x = some (PySem.W.instObj C dx)
  ns : h.Ns1 dx mA
  ne : dx ≠ x

theorem lookIn_ns {h : Heap} {dx : Addr} {mA : Str → Option Value} (n : h.Ns1 dx mA) : ∃ od, h.get? dx = some od ∧ ∀ name, PySem.W.lookIn name od = some (mA name) := by
  obtain ⟨o, es, ep, ho, hd, hk, _, hm⟩ := n
  refine ⟨o, ho, fun name => ?_⟩
  have e := hm name
  unfold nsFind findBy at e
  rw [← Array.find?_toList] at e
  unfold PySem.W.lookIn
  rw [hd]
  dsimp only
  split
  · rename_i y q
    rw [q] at e
    exact congrArg some e
  · rename_i q
    rw [q] at e
    have a : es.toList.any (·.refKey) = false := by
      rw [List.any_eq_false]
      intro y hy
      obtain ⟨z, t, hkey⟩ := hk y (Array.mem_toList_iff.mp hy)
      simp [DictEntry.refKey, hkey]
    have a' : ¬ es.toList.any (·.refKey) = true := by rw [a]; exact Bool.false_ne_true
    rw [if_neg a']
    exact congrArg some e

theorem ObjM.look {h : Heap} {x dx C : Addr} {mA : Str → Option Value} (I : ObjM h x dx C mA) : ∃ od, PySem.W.InstAt h x (PySem.W.instObj C dx) C (some od) ∧ ∀ name, PySem.W.lookIn name od = some (mA name) :=
  let ⟨od, ho, hl⟩ := lookIn_ns I.ns
  ⟨od, ⟨I.obj, rfl, rfl, ho⟩, hl⟩

section
variable {prog : Program} {w : World} {A : Around} {E : Value → Shared → Prop} {s : Shared} {K : PySem.W.Frag} {x dx C f : Addr} {mA : Str → Option Value} {name : Str} {v : Value}

theorem get_map {expr : Bool} {Q : Value → Shared → Prop} (X : K.In s.heap) (I : ObjM s.heap x dx C mA) (hg : PySem.W.plainGet K C name = true) (hh : PySem.W.hasDictIn K C = true)
    (ha : PySem.W.findIn K (.ref C) name = some none) (hv : mA name = some v) (hv' : PySem.W.handedIn v = true) (h : Q v { s with toks := s.toks + 1 }) :
    wpAny (model prog w) A (getAttr (.ref x) name expr) Q E s := by
  obtain ⟨od, J, hl⟩ := I.look
  exact PySem.W.get_value X J (PySem.W.plainGet_of hg).1 (PySem.W.findObj_own hh ha rfl (by rw [hl, hv])) hv' h

end

/-! ### the attributes as a list of pairs -/
section
variable {P : Program} {w : World} {H H' : Hp} {h h' : Heap} {a C dx : Addr} {fs fs' : List (Str × V)}
end

/-! ### what of the text a class must have -/
structure Cls (K : PySem.W.Frag) (C : Addr) : Prop where
  pg : PySem.W.plainGet K C Str.empty = true
  hd : PySem.W.hasDictIn K C = true
  po : PySem.W.plainOver K C = true
  sa : PySem.W.findIn K (.ref C) "__setattr__" = some (some (.builtin "object.__setattr__"))
theorem Cls.get {K : PySem.W.Frag} {C : Addr} (c : Cls K C) (f : Str) : PySem.W.plainGet K C f = true := c.pg
/-- a constant of the class -/
structure Con (K : PySem.W.Frag) (C : Addr) (f : Str) (v : V) (u : Value) : Prop where
  at_ : PySem.W.findIn K (.ref C) f = some (some u)
  rel : RelV v u
  get : PySem.W.specialIn K u "__get__" = some none
  cp : PySem.W.copiedNames.contains f = false
/-- a method: a plain def of the class or of one above it -/
structure Meth (K : PySem.W.Frag) (C : Addr) (m : Str) (f : Addr) : Prop where
  at_ : PySem.W.findIn K (.ref C) m = some (some (.ref f))
  fn : PySem.W.isFn K (.ref f) = true
  kp : PySem.W.keepIn K (.ref f) = true

section
variable {X : Cx} {pins : List (Addr × Obj)} {σ : St} {H : Hp} {s : Shared} {a C dx : Addr} {fs : List (Str × V)} {f : Str} {v : V} {A : Around} {E : Value → Shared → Prop}

/-- a new instance, tracked, without attributes -/
theorem Inv.made (I : Inv X pins σ H s) : Inv X pins σ (upd (upd H s.heap.objs.size (.own (s.heap.objs.size + 1))) (s.heap.objs.size + 1) (.ins C s.heap.objs.size []))
    { s with heap := (s.heap.push PySem.W.emptyDict).push (PySem.W.instObj C s.heap.objs.size) } := by
  have e1 : (s.heap.push PySem.W.emptyDict).get? s.heap.objs.size = some PySem.W.emptyDict := Heap.get?_push_size s.heap rfl
  have e2 : ((s.heap.push PySem.W.emptyDict).push (PySem.W.instObj C s.heap.objs.size)).get? (s.heap.objs.size + 1) = some (PySem.W.instObj C s.heap.objs.size) := by
    have := Heap.get?_push_size (s.heap.push PySem.W.emptyDict) (o := PySem.W.instObj C s.heap.objs.size) rfl
    rwa [Heap.size_push] at this
  have e3 : (s.heap.push PySem.W.emptyDict).Ns s.heap.objs.size (fun _ => none) := ⟨PySem.W.emptyDict, #[], _, e1, rfl, (fun e he => absurd he (by simp)), fun _ => rfl⟩
  have I1 := I.laid (a := s.heap.objs.size) (o := .own (s.heap.objs.size + 1)) (h' := s.heap.push PySem.W.emptyDict) (t' := s.toks) (fun b u q => Heap.get?_push_of_some _ q) (Nat.le_refl _) ⟨_, e1⟩
  refine I1.laid (a := s.heap.objs.size + 1) (o := .ins C s.heap.objs.size []) (t' := s.toks) (fun b u q => Heap.get?_push_of_some _ q) (Nat.le_of_eq (Heap.size_push _ _)) ?_
  have ne : s.heap.objs.size ≠ s.heap.objs.size + 1 := Nat.ne_of_lt (Nat.lt_succ_self _)
  refine ⟨by rw [upd_ne ne, upd_same], Nat.zero_le _, ne, e2, fun _ => none, (Heap.Ns1.of_empty e3).at fun o q => Heap.get?_push_of_some _ q, fun _ => True.intro, fun y hy => absurd rfl hy⟩

end

/-! ### readings and rules -/
section
variable {X : Cx} {o e value : Expr} {f : Str} {pos pos' tpos : Pos} {ta tv : TE}
end

/-! ### isinstance -/
section
variable {X : Cx} {pins : List (Addr × Obj)} {σ : St} {H : Hp} {s : Shared} {A : Around} {E : Value → Shared → Prop} {Q : Value → Shared → Prop} {c : Value} {b : Bool}
/-- the type of a value, as the fragment's deciders take it; for an instance its class -/
inductive TyOf (K : PySem.W.Frag) (H : Hp) : V → Value → Prop where
  | non : TyOf K H .non (.type "NoneType")
  | bl (x : Bool) : TyOf K H (.bl x) (.type "bool")
  | int (i : Int) : TyOf K H (.int i) (.type "int")
  | str (x : Str) : TyOf K H (.str x) (.type "str")
  | flt (x : UInt64) : TyOf K H (.flt x) (.type "float")
  | lst {a : Addr} {xs : List V} (e : H a = some (.lst xs)) : TyOf K H (.ref a) (.type "list")
  | frz {a : Addr} {o : Obj} {xs : List V} (e : H a = some (.frz o (.lst xs))) : TyOf K H (.ref a) (.type "list")
  | tup {a : Addr} {xs : List V} (e : H a = some (.tup xs)) : TyOf K H (.ref a) (.type "tuple")
  | dK {a : Addr} {kvs : List (Key × V)} (e : H a = some (.dK kvs)) : TyOf K H (.ref a) (.type "dict")
  | dT {a : Addr} {kvs : List (List Key × V)} (e : H a = some (.dT kvs)) : TyOf K H (.ref a) (.type "dict")
  | ins {a C dx : Addr} {fs : List (Str × V)} (e : H a = some (.ins C dx fs)) (cl : Cls K C) (ha : PySem.W.findIn K (.ref C) "__class__" = some (some (.builtin "object.__class__")))
      (hn : PySem.W.specialIn K (.builtin "object.__class__") "__get__" = some (some (.builtin "getset_descriptor.__get__"))) (htk : PySem.W.takesIn K (.builtin "object.__class__") = some true)
      (hm : PySem.W.mroIn K C (.type "object") = some true) : TyOf K H (.ref a) (.ref C)
end
end L2

namespace L2
open PySem PySem.Spec PyProof.Rows

/-! ### room -/
structure Room (k : Nat) (A : Around) : Prop where
  hd : A.handled = none
  dp : A.depth + 3 * k + 5 < recursionLimit
  un : A.units + 16 * k + 200 < cLine
theorem Room.mono {j k : Nat} {A : Around} (r : Room k A) (h : j ≤ k) : Room j A := ⟨r.hd, by have := r.dp; omega, by have := r.un; omega⟩
theorem Room.deeper {k : Nat} {A : Around} (r : Room (k + 1) A) (env : Env) : Room k (A.deeper env) :=
  ⟨r.hd, by have := r.dp; show A.depth + 1 + 3 * k + 5 < _; omega, by have := r.un; show A.units + 3 + 16 * k + 200 < _; omega⟩
theorem Room.in1 {k : Nat} {A : Around} (r : Room (k + 1) A) : Room k A.in1 :=
  ⟨r.hd, by have := r.dp; show A.depth + 3 * k + 5 < _; omega, by have := r.un; show A.units + 1 + 16 * k + 200 < _; omega⟩
theorem Room.depth {k : Nat} {A : Around} (r : Room k A) : A.depth < recursionLimit := by have := r.dp; omega
theorem Room.units {k : Nat} {A : Around} (r : Room k A) : A.units + 64 < cLine := by have := r.un; omega
/-! ### argument lists and displays -/
def tNil : TA := fun _ H Q => Q [] H
def tCons (ta : TE) (tr : TA) : TA := fun σ H Q => ta σ H fun x H1 => tr σ H1 fun xs H2 => Q (x :: xs) H2
section
variable {X : Cx} {e : Expr} {es : List Expr} {te : TE} {t : TA} {pos : Pos}
theorem pa_nil : PA X [] tNil := fun _ _ _ _ H Q I h => Calls.spliced_nil ⟨[], H, I, .nil, h⟩
theorem pa_cons (ha : PE X e te) (hr : PA X es t) (hs : starEach (e :: es) X.env = (false, eval e X.env) :: starEach es X.env := by rfl) : PA X (e :: es) (tCons te t) := by
  intro pos pins s σ H Q I h
  rw [hs]
  show wpAny _ _ (spliced ((false, eval e X.env) :: backTo pos (starEach es X.env))) _ _ s
  refine Calls.spliced_cons (thn (ha pins s σ H _ I h) fun u s1 ⟨x, H1, I1, r1, q1⟩ => ?_)
  exact thn (hr pos pins s1 σ H1 _ I1 q1) fun us s2 ⟨xs, H2, I2, r2, q2⟩ => ⟨x :: xs, H2, I2, .cons r1 r2, q2⟩

def tLst (t : TA) : TE := fun σ H Q => t σ H fun xs H1 => xs.length ≤ sizeLine ∧ ∀ p, H1 p = none → Q (.ref p) (upd H1 p (.lst xs))
theorem pe_lst (h : PA X es t) : PE X (.List es pos) (tLst t) := by
  intro pins s σ H Q I hq
  refine wpAny_List_spliced (thn (h pos pins s σ H _ I hq) fun us s1 ⟨xs, H1, I1, r, z, q⟩ => ⟨by rw [← r.length]; exact z, ?_⟩)
  have hf : H1 s1.heap.objs.size = none := I1.hok.fresh (Nat.le_refl _)
  refine ⟨.ref s1.heap.objs.size, upd H1 s1.heap.objs.size (.lst xs), I1.laid (t' := s1.toks) (fun b u e => Heap.get?_push_of_some _ e) (Nat.le_refl _) ?_, rfl, q _ hf⟩
  exact ⟨z, us, 0, r, Heap.get?_push_size _ rfl⟩
end

/-! ### what a def promises -/
/-- a def's promise: the bound arguments in the parameters' order, the heap, the wanted end, the wanted exception -/
abbrev Sp := List V → Hp → VK → XK → Prop
/-- how an exception lies behind a call (file 08 gives it): the callers' frames, abstract heap and state ahead of the call, the wish, the exception, the state -/
abbrev CXT := List Env → Hp → Shared → XK → Value → Shared → Prop

/-- the state at a call -/
structure Env0 (P : Program) (w : World) (K : PySem.W.Frag) (mg : Str → Option Value) (base : Heap) (A : Around) (outer : List Env) (s : Shared) (H : Hp) : Prop where
  frames : A.frames = some outer
  mod : Mod K mg base
  bs : ∀ b o, base.get? b = some o → s.heap.get? b = some o ∧ H b = none
  bsz : base.objs.size ≤ s.heap.objs.size
  funs : s.heap.FunFrames base outer
  frf : ∀ b ∈ frs outer, H b = none
  hok : HOk P w H s.heap
  bare : AllBare s.gens
/-- a call's end -/
def CE (outer : List Env) (P : Program) (w : World) (H : Hp) (s : Shared) (Q : VK) (u : Value) (s' : Shared) : Prop :=
  ∃ v H', s'.os = s.os ∧ AllBare s'.gens ∧ Un (frs outer) [] H H' s.heap s'.heap ∧ HOk P w H' s'.heap ∧ RelV v u ∧ Q v H'
def CR (CX : CXT) (outer : List Env) (P : Program) (w : World) (H : Hp) (s : Shared) (Q : VK) (E : XK) (r : Result) (s' : Shared) : Prop :=
  match r with
  | .ok (.ret u) => CE outer P w H s Q u s'
  | .ok _ => False
  | .error e => CX outer H s E e s'
structure FnOk (P : Program) (w : World) (K : PySem.W.Frag) (mg : Str → Option Value) (base : Heap) (CX : CXT) (k : Nat) (f : Addr) (fd : FuncData) (ps : List Str) (sp : Sp) : Prop where
  len : ∀ vs H Q E, sp vs H Q E → vs.length = ps.length
  run : ∀ (A : Around) (outer : List Env) (s : Shared) (H : Hp) (args : Args) (us : List Value) (vs : List V) (Q : VK) (E : XK), Room k A → Env0 P w K mg base A outer s H → BindsTo s fd args (ps.zip us) → Vals vs us → sp vs H Q E →
    codeAny (model P w) A (.call (.ref f) args) (CR CX outer P w H s Q E) s
theorem FnOk.mono {P : Program} {w : World} {K : PySem.W.Frag} {mg : Str → Option Value} {base : Heap} {CX : CXT} {j k : Nat} {f : Addr} {fd : FuncData} {ps : List Str} {sp : Sp} (F : FnOk P w K mg base CX j f fd ps sp) (h : j ≤ k) :
    FnOk P w K mg base CX k f fd ps sp := ⟨F.len, fun A outer s H args us vs Q E hr => F.run A outer s H args us vs Q E (hr.mono h)⟩
theorem Env0.in1 {P : Program} {w : World} {K : PySem.W.Frag} {mg : Str → Option Value} {base : Heap} {A : Around} {outer : List Env} {s : Shared} {H : Hp} (e : Env0 P w K mg base A outer s H) :
    Env0 P w K mg base A.in1 outer s H := ⟨e.frames, e.mod, e.bs, e.bsz, e.funs, e.frf, e.hok, e.bare⟩

section
variable {X : Cx} {pins : List (Addr × Obj)} {σ : St} {H : Hp} {s s' : Shared}
/-- from a body: what a callee wants -/
theorem Inv.env0 (I : Inv X pins σ H s) : Env0 X.prog X.w X.K X.mg X.base X.A X.stack s H :=
  ⟨I.ok.frames, I.ok.mod, I.bs, Nat.le_trans I.ok.bsz I.sz, I.stack, I.stkFree, I.hok, I.bare⟩
/-- behind a call -/
theorem Inv.after {Q : VK} {u : Value} (I : Inv X pins σ H s) (h : CE X.stack X.prog X.w H s Q u s') : EP X pins σ Q u s' := by
  obtain ⟨v, H', os, bare, un, hok, r, q⟩ := h
  obtain ⟨hh, g, d, t, os'⟩ := s'
  obtain rfl : os' = s.os := os
  exact ⟨v, H', I.call (h' := hh) (g' := g) (d' := d) (t' := t) (ch := []) un hok bare (fun b z => absurd z (by simp)), r, q⟩
end

/-! ### calls -/
/-- f(..): the written arguments, then the defaults dvs; E: what is wanted of an exception -/
def tCall (sp : Sp) (dvs : List V) (E : XK) (t : TA) : TE := fun σ H Q => t σ H fun vs H1 => sp (vs ++ dvs) H1 Q E
/-- how the parameters are bound: us the positional arguments, kw the keywords' values by name, ds the defaults that fill up -/
def Binds (K : PySem.W.Frag) (fd : FuncData) (ps : List Str) (ds : List Value) : Prop :=
  ∀ (s : Shared) (us : List Value), K.In s.heap → (us ++ ds).length = ps.length → BindsTo s fd ⟨us, []⟩ (ps.zip (us ++ ds))
/-- every parameter is given -/
theorem Binds.all {K : PySem.W.Frag} {fd : FuncData} {ps : List Str} (h : ∀ us : List Value, us.length = ps.length → bindArgs fd ⟨us, []⟩ = pure (ps.zip us)) : Binds K fd ps [] := fun s us _ hl => by
  rw [List.append_nil] at hl ⊢
  exact .of_eq (h us hl)

/-- an exception of a callee reaches what this body wants of exceptions -/
def Passes (CX : CXT) (X : Cx) (E : XK) : Prop := ∀ (pins : List (Addr × Obj)) (σ : St) (H : Hp) (s : Shared) (e : Value) (s' : Shared), Inv X pins σ H s → CX X.stack H s E e s' → X.xe e s'

section
variable {X : Cx} {CX : CXT} {k : Nat} {f C : Addr} {fd : FuncData} {ps : List Str} {sp : Sp} {dvs : List V} {ds : List Value} {E : XK} {x m : Str} {p pos apos : Pos} {e o : Expr} {es : List Expr} {ta : TE} {t : TA}

/-- the callee runs -/
theorem run_fn {pins : List (Addr × Obj)} {σ : St} {H : Hp} {s : Shared} {Q : VK} {us : List Value} {vs : List V} (F : FnOk X.prog X.w X.K X.mg X.base CX k f fd ps sp) (hr : Room k X.A) (hb : Binds X.K fd ps ds) (hd : Vals dvs ds) (hx : Passes CX X E)
    (I : Inv X pins σ H s) (r : Vals vs us) (h : sp (vs ++ dvs) H Q E) : wpAny (model X.prog X.w) X.A (call (.ref f) us) (EP X pins σ Q) X.xe s := by
  have r2 : Vals (vs ++ dvs) (us ++ ds) := r.append hd
  have hl : (us ++ ds).length = ps.length := by rw [← r2.length]; exact F.len _ _ _ _ h
  refine wpAny_call (codeAny_mono (F.run X.A X.stack s H ⟨us, []⟩ (us ++ ds) (vs ++ dvs) Q E hr I.env0 (hb s us I.kIn hl) r2 h) fun r s' hq => ?_)
  cases r with
  | error e => exact hx pins σ H s e s' I hq
  | ok fl =>
    cases fl with
    | ret u => exact I.after hq
    | next => exact False.elim hq
    | brk => exact False.elim hq
    | cont => exact False.elim hq

theorem pe_call (F : FnOk X.prog X.w X.K X.mg X.base CX k f fd ps sp) (hr : Room k X.A) (hg : Gl X x) (hm : X.mg x = some (.ref f)) (hk : PySem.W.keepIn X.K (.ref f) = true) (hb : Binds X.K fd ps ds) (hd : Vals dvs ds) (hx : Passes CX X E)
    (ha : PA X (e :: es) t) (hdb : (x == ("__debug__" : Str)) = false := by decide) (he : starEach (e :: es) X.env = (false, eval e X.env) :: starEach es X.env := by rfl) (hpl : (backTo pos (starEach es X.env)).any (·.1) = false := by rfl) :
    PE X (.Call (.Name x p) (e :: es) [] pos) (tCall sp dvs E t) := by
  intro pins s σ H Q I h
  refine wpAny_Call_Name_kw (ld_glob I hg hm ?_ hdb)
  refine PySem.W.callWith_K (h₀ := X.base) I.ok.mod.kin hk (thn (ha pos pins s σ H _ I h) fun us s1 ⟨vs, H1, I1, r, q⟩ => ⟨I1.kIn, ?_⟩) he hpl
  exact run_fn F hr hb hd hx I1 r q
/-- what a class must have to be made -/
structure Mk (K : PySem.W.Frag) (C f : Addr) : Prop where
  makes : PySem.W.makesIn K C = true
  init : PySem.W.findIn K (.ref C) "__init__" = some (some (.ref f))
  fn : PySem.W.isFn K (.ref f) = true
  kp : PySem.W.keepIn K (.ref C) = true

end

/-! ### keywords -/
section
variable {X : Cx} {CX : CXT} {k : Nat} {f C : Addr} {fd : FuncData} {ps ks : List Str} {sp : Sp} {E : XK} {x m : Str} {p pos apos kpos : Pos} {e o : Expr} {es : List Expr} {kws : List Keyword} {te ta : TE} {t tk : TA} {nm : Option Str}
/-- how a call with keywords binds: g puts the positional values us and the keywords' values ws (names ks) in the parameters' order, defaults among them -/
structure KBinds (K : PySem.W.Frag) (fd : FuncData) (ps ks : List Str) (g : List Value → List Value → List Value) (gV : List V → List V → List V) : Prop where
  to : ∀ (s : Shared) (us ws : List Value), K.In s.heap → (g us ws).length = ps.length → BindsTo s fd ⟨us, ks.zip ws⟩ (ps.zip (g us ws))
  rel : ∀ {vs : List V} {us : List Value} {zs : List V} {ws : List Value}, Vals vs us → Vals zs ws → Vals (gV vs zs) (g us ws)
variable {g : List Value → List Value → List Value} {gV : List V → List V → List V}
end

/-! ### a def's body keeps its promise -/
/-- names: the parameters first -/
structure FnScope (N P : List Str) (sc : Scope) : Prop where
  kind : sc.kind = .function
  co : sc.isCoroutine = false
  gen : sc.isGenerator = false
  nd : N.Nodup
  pre : N.take P.length = P
  par : ∀ x ∈ P, sc.names.lookup x = some .local ∨ sc.names.lookup x = some .cell
  nofree : ∀ y ∈ sc.names, y.2 ≠ .free

theorem bindL_out {kindOf : Str → Option NameKind} {x : Str} : ∀ {binds : List (Str × Value)} {m : Str → Option Value}, (∀ v, (x, v) ∉ binds) → bindL kindOf binds m x = m x
  | [], _, _ => rfl
  | (n, v) :: r, m, h => by
    unfold bindL
    rw [bindL_out fun w hw => h w (List.mem_cons_of_mem _ hw)]
    split
    · have : x ≠ n := by rintro rfl; exact h v List.mem_cons_self
      simp [this]
    · rfl
theorem bindC_out {kindOf : Str → Option NameKind} {x : Str} : ∀ {binds : List (Str × Value)} {m : Str → Option Value}, (∀ v, (x, v) ∉ binds) → bindC kindOf binds m x = m x
  | [], _, _ => rfl
  | (n, v) :: r, m, h => by
    unfold bindC
    rw [bindC_out fun w hw => h w (List.mem_cons_of_mem _ hw)]
    split
    · rfl
    · have : x ≠ n := by rintro rfl; exact h v List.mem_cons_self
      simp [this]
theorem bindL_get {kindOf : Str → Option NameKind} {x : Str} {v : Value} : ∀ {P : List Str} {vs : List Value} {i : Nat} {m : Str → Option Value}, P.Nodup → P[i]? = some x → vs[i]? = some v → kindOf x = some .local →
    bindL kindOf (P.zip vs) m x = some v
  | [], _, _, _, _, h, _, _ => by simp at h
  | _ :: _, [], _, _, _, _, h, _ => by simp at h
  | p :: P, w :: vs, 0, m, nd, h1, h2, hk => by
    simp at h1 h2; subst h1; subst h2
    show bindL kindOf ((p, w) :: P.zip vs) m p = _
    unfold bindL
    rw [bindL_out fun v hv => (List.nodup_cons.mp nd).1 (List.of_mem_zip hv).1, if_pos hk]
    simp
  | p :: P, w :: vs, i + 1, m, nd, h1, h2, hk => by
    show bindL kindOf ((p, w) :: P.zip vs) m x = _
    unfold bindL
    exact bindL_get (i := i) (List.nodup_cons.mp nd).2 (by simpa using h1) (by simpa using h2) hk
theorem bindC_get {kindOf : Str → Option NameKind} {x : Str} {v : Value} : ∀ {P : List Str} {vs : List Value} {i : Nat} {m : Str → Option Value}, P.Nodup → P[i]? = some x → vs[i]? = some v → kindOf x ≠ some .local →
    bindC kindOf (P.zip vs) m x = some v
  | [], _, _, _, _, h, _, _ => by simp at h
  | _ :: _, [], _, _, _, _, h, _ => by simp at h
  | p :: P, w :: vs, 0, m, nd, h1, h2, hk => by
    simp at h1 h2; subst h1; subst h2
    show bindC kindOf ((p, w) :: P.zip vs) m p = _
    unfold bindC
    rw [bindC_out fun v hv => (List.nodup_cons.mp nd).1 (List.of_mem_zip hv).1, if_neg hk]
    simp
  | p :: P, w :: vs, i + 1, m, nd, h1, h2, hk => by
    show bindC kindOf ((p, w) :: P.zip vs) m x = _
    unfold bindC
    exact bindC_get (i := i) (List.nodup_cons.mp nd).2 (by simpa using h1) (by simpa using h2) hk

/-- the names' values at the entry -/
def start (N : List Str) (vs : List V) : St := vs.map some ++ List.replicate (N.length - vs.length) none

/-- the context of a def's body, at its entry; an exception leaves the frame, then lies as CX says -/
def cxOf (CX : CXT) (P : Program) (w : World) (K : PySem.W.Frag) (mg : Str → Option Value) (base : Heap) (N : List Str) (qual : Str) (scope : Scope) (f : Addr) (cd : Value) (A : Around) (outer : List Env) (s : Shared) (H : Hp) (E : XK) : Cx where
  prog := P
  w := w
  K := K
  mg := mg
  base := base
  A := A.deeper (envOfC qual scope s.heap.objs.size f cd)
  N := N
  s_0 := s
  H_0 := H
  env := envOfC qual scope s.heap.objs.size f cd
  outer := outer
  stack := envOfC qual scope s.heap.objs.size f cd :: outer
  ex := []
  calm := true
  fn := fun _ => true
  pn := []
  xe := fun e s' => wpAny (model P w) (A.deeper (envOfC qual scope s.heap.objs.size f cd)) (leaving (envOfC qual scope s.heap.objs.size f cd) e) (fun _ s'' => CX outer H s E e s'') (fun e' s'' => CX outer H s E e' s'') s'

theorem cell_has {sc : Scope} {n : Nat} {x : Str} (h : sc.names.lookup x = some .cell) : ∃ c, (cellsFrom n sc.names []).lookup x = some c := by
  have q := PySem.W.cellsFrom_some sc.names n [] (.inl h)
  exact Option.isSome_iff_exists.mp q

theorem inv_start {CX : CXT} {P : Program} {w : World} {K : PySem.W.Frag} {mg : Str → Option Value} {base : Heap} {N ps : List Str} {qual : Str} {scope : Scope} {f : Addr} {cd : Value} {A : Around} {outer : List Env} {s s1 : Shared} {H : Hp} {E : XK} {us : List Value} {vs : List V}
    (S : FnScope N ps scope) (hd : A.handled = none) (e0 : Env0 P w K mg base A outer s H) (hl : vs.length = ps.length) (r : Vals vs us)
    (x : InCallC s s.heap.objs.size (bindL (envOfC qual scope s.heap.objs.size f cd).kindOf (ps.zip us) fun _ => none) (cellsFrom (s.heap.objs.size + 1) scope.names []) (bindC (envOfC qual scope s.heap.objs.size f cd).kindOf (ps.zip us) fun _ => none) s1) :
    Inv (cxOf CX P w K mg base N qual scope f cd A outer s H E) [] (start N vs) H s1 := by
  have hpl : ps.length ≤ N.length := by have := congrArg List.length S.pre; rw [List.length_take] at this; omega
  obtain ⟨h1, tk, rfl, hk⟩ := x.done
  have noA : ∀ b : Addr, b ∉ (cxOf CX P w K mg base N qual scope f cd A outer s H E).ex := fun b z => absurd (show b ∈ ([] : List Addr) from z) (by simp)
  refine ⟨⟨e0.mod, S.kind, rfl, rfl, Nat.le_refl _, fun y z c h1 h2 => ?_, fun y hy => ?_, fun y c _ h => ?_, fun _ => hd, Around.frames_deeper e0.frames, .inr ⟨rfl, rfl⟩, fun b z => absurd z (noA b), e0.bs, e0.bsz, fun b _ _ => noA b, fun b z => absurd z (noA b), e0.funs, e0.frf⟩,
    rfl, e0.bare, Un.kept hk, ⟨_, x.toInCall.ns, fun i y v h1 h2 h3 => ?_⟩, fun y c h => ⟨_, x.cell y c h⟩, e0.hok.fresh (Nat.le_refl _), fun y c h => ?_, fun p hp => absurd (show p ∈ ([] : List (Addr × Obj)) from hp) (by simp), e0.hok.kept hk, ?_⟩
  · exact name_of_addr x.apart (PySem.mem_of_lookup h1) (PySem.mem_of_lookup h2)
  · have hy : scope.names.lookup y = some .cell ∨ scope.names.lookup y = some .free := hy
    rcases hy with hy | hy
    · exact cell_has hy
    · exact absurd rfl (S.nofree _ (PySem.mem_of_lookup hy))
  · exact Nat.le_of_lt (x.above y c (PySem.mem_of_lookup h))
  · have hi : i < vs.length := by
      unfold start at h2
      by_cases hi : i < vs.length
      · exact hi
      · rw [List.getElem?_append_right (by simpa using hi)] at h2
        rw [List.getElem?_replicate] at h2
        split at h2 <;> cases h2
    have ha : vs[i]? = some v := by
      unfold start at h2
      rw [List.getElem?_append_left (by simpa using hi), List.getElem?_map] at h2
      cases e : vs[i]? with
      | none => rw [e] at h2; cases h2
      | some a => rw [e] at h2; cases h2; rfl
    obtain ⟨u, hu, rv⟩ := r.get ha
    have hp : ps[i]? = some y := by
      rw [← S.pre, List.getElem?_take_of_lt (by omega)]; exact h1
    have ndP : ps.Nodup := by rw [← S.pre]; exact S.nd.sublist (List.take_sublist _ _)
    refine ⟨u, rv, ?_⟩
    rcases S.par y (List.mem_of_getElem? hp) with k | k
    · exact .inl ⟨k, bindL_get ndP hp hu k⟩
    · obtain ⟨c, e⟩ := cell_has (n := s.heap.objs.size + 1) k
      refine .inr ⟨.inl k, c, e, ?_⟩
      have q := x.cell y c e
      rw [bindC_get ndP hp hu (by show scope.names.lookup y ≠ _; rw [k]; decide)] at q
      exact q
  · exact e0.hok.fresh (Nat.le_of_lt (x.above y c (PySem.mem_of_lookup h)))
  · unfold start
    show _ = N.length
    rw [List.length_append, List.length_map, List.length_replicate]
    omega

/-- THE RULE: a def (or a method) of the text, by its body. The body's reading t is chosen for each entry; it is run at the parameters' values -/
theorem fn_of {CX : CXT} {P : Program} {w : World} {K : PySem.W.Frag} {mg : Str → Option Value} {base : Heap} {k : Nat} {f : Addr} {name qual : Str} {params : Arguments} {body : List Stmt} {scope : Scope} {dV kV doc pm cdv ct oc : Value} {an od : Option Addr}
    {osl : Array (Option Value)} {N ps : List Str} {sp : Sp} (lk : K.lookup f = some ⟨oc, od, .func (PySem.W.fnOf name qual params body scope dV kV doc pm an cdv ct), osl⟩) (hcd : PySem.W.codeIn K cdv qual = true) (S : FnScope N ps scope)
    (len : ∀ vs H Q E, sp vs H Q E → vs.length = ps.length)
    (hbody : ∀ (A : Around) (outer : List Env) (s : Shared) (H : Hp) (vs : List V) (Q : VK) (E : XK), Room k (A.deeper (envOfC qual scope s.heap.objs.size f cdv)) → sp vs H Q E →
      ∃ t, PSs (cxOf CX P w K mg base N qual scope f cdv A outer s H E) body t ∧ t { nx := fun _ H' => Q .non H', rt := Q } (start N vs) H) :
    FnOk P w K mg base CX (k + 1) f (PySem.W.fnOf name qual params body scope dV kV doc pm an cdv ct) ps sp := by
  refine ⟨len, fun A outer s H args us vs Q E hr e0 hb r hsp => ?_⟩
  have hl := len _ _ _ _ hsp
  have KX : K.In s.heap := e0.mod.kin.keeps fun b o e => (e0.bs b o e).1
  have lim : s.heap.NoLimit := e0.mod.nolimit.keeps fun b o e => (e0.bs b o e).1
  have hkind : ∀ y ∈ ps.zip us, scope.names.lookup y.1 = some .local ∨ (scope.names.lookup y.1 = some .cell ∧ ((cellsFrom (s.heap.objs.size + 1) scope.names []).lookup y.1).isSome = true) := fun ⟨n, v⟩ hy => by
    rcases S.par n (List.of_mem_zip hy).1 with q | q
    · exact .inl q
    · exact .inr ⟨q, PySem.W.cellsFrom_some _ _ _ (.inl q)⟩
  refine codeAny_call_function hr.depth (KX _ _ lk) rfl S.co S.gen rfl (PySem.W.codeRec_of KX hcd) (hb _ _ _ _ ?_)
  refine wpAny_newFunctionEnv_cells S.kind hkind fun env he s1 x => ?_
  subst he
  refine ⟨lim.keeps x.toInCall.keep, codeAny_func ?_⟩
  obtain ⟨t, ht, hq⟩ := hbody A outer s H vs Q E (hr.deeper _) hsp
  have I : Inv (cxOf CX P w K mg base N qual scope f cdv A outer s H E) [] (start N vs) H s1 := inv_start S hr.hd e0 hl r x
  refine wpAny_mono (ht [] s1 (start N vs) H _ I hq) (fun fl s' hs => ?_) fun e s' hs => hs
  have fin : ∀ {σ' : St} {H' : Hp} {v : V} {u : Value}, Inv (cxOf CX P w K mg base N qual scope f cdv A outer s H E) [] σ' H' s' → RelV v u → Q v H' → CE outer P w H s Q u s' :=
    fun {σ' H' v u} J rv q => ⟨v, H', J.os, J.bare, J.base, J.hok, rv, q⟩
  cases fl with
  | ret u =>
    obtain ⟨v, σ', H', J, rv, q⟩ := hs
    exact fin J rv q
  | next =>
    obtain ⟨σ', H', J, q⟩ := hs
    exact fin (v := V.non) (u := Value.none) J rfl q
  | brk =>
    obtain ⟨_, _, _, q⟩ := hs
    exact False.elim q
  | cont =>
    obtain ⟨_, _, _, q⟩ := hs
    exact False.elim q
end L2

namespace L2
open PySem PySem.Spec PyProof.Rows
section
variable {X : Cx} {x : Str} {p pos : Pos} {e : Expr} {es : List Expr} {t : TA} {id T : String} {r : List V → Hp → VK → Prop}

def tCB (r : List V → Hp → VK → Prop) (t : TA) : TE := fun σ H Q => t σ H fun vs H1 => r vs H1 Q
/-- f(e, ..), f a built-in function -/
theorem pe_callB (hc : CallR X (.builtin id) r) (hg : Gl X x) (hm : X.mg x = none) (hv : bootBuiltins x = some (.builtin id)) (ha : PA X (e :: es) t) (hn : x ≠ "__name__" := by decide) (hdb : (x == ("__debug__" : Str)) = false := by decide)
    (he : starEach (e :: es) X.env = (false, eval e X.env) :: starEach es X.env := by rfl) (hpl : (backTo pos (starEach es X.env)).any (·.1) = false := by rfl) : PE X (.Call (.Name x p) (e :: es) [] pos) (tCB r t) := by
  intro pins s σ H Q I h
  refine wpAny_Call_Name_kw (ld_blt I hg hm hv ?_ hn hdb)
  exact PyProof.Rows.callWith_builtin1 (thn (ha pos pins s σ H _ I h) fun us s1 ⟨vs, H1, I1, r1, q1⟩ => hc pins s1 σ H1 vs us Q I1 r1 q1) he hpl
/-- T(e, ..), T a built-in type -/
theorem pe_callTy (hc : CallR X (.type T) r) (hg : Gl X x) (hm : X.mg x = none) (hv : bootBuiltins x = some (.type T)) (ha : PA X (e :: es) t) (hn : x ≠ "__name__" := by decide) (hdb : (x == ("__debug__" : Str)) = false := by decide)
    (he : starEach (e :: es) X.env = (false, eval e X.env) :: starEach es X.env := by rfl) (hpl : (backTo pos (starEach es X.env)).any (·.1) = false := by rfl) : PE X (.Call (.Name x p) (e :: es) [] pos) (tCB r t) := by
  intro pins s σ H Q I h
  refine wpAny_Call_Name_kw (ld_blt I hg hm hv ?_ hn hdb)
  exact PyProof.Rows.callWith_type1 (thn (ha pos pins s σ H _ I h) fun us s1 ⟨vs, H1, I1, r1, q1⟩ => hc pins s1 σ H1 vs us Q I1 r1 q1) he hpl
end
end L2

namespace HT
open PySem PyProof.Rows

section
open PySem.SeqAt
open PySem.AutoSeq1 (wpAny_loadPart')
open PySem.MeetsSeq PySem.MeetsSeq2 PySem.MeetsSeq3

end

section
variable {prog : Program} {w : World} {A : Around} {E : Value → Shared → Prop} {s : Shared}

/-! ### t[a:b], not the whole -/
/-- a slice's bound as a place among n (d where it is left out) -/
def sIx (n d : Nat) : Option Int → Nat
  | none => d
  | some v => if v < 0 then (v + (n : Int)).toNat else min v.toNat n
end
end HT

namespace L2
open PySem PySem.Spec PyProof.Rows

/-! ### the parts of a slice -/
abbrev TO := St → Hp → (Option Int → Hp → Prop) → Prop
/-- a slice's part (left out, or an int) -/
def PO (X : Cx) (e : Option Expr) (t : TO) : Prop :=
  ∀ (pins : List (Addr × Obj)) (s : Shared) (σ : St) (H : Hp) (Q : Option Int → Hp → Prop), Inv X pins σ H s → t σ H Q →
    wpAny (model X.prog X.w) X.A (evalPart e X.env) (fun u s' => ∃ o H', Inv X pins σ H' s' ∧ IsPart u o ∧ Q o H') X.xe s
def tNoPart : TO := fun _ H Q => Q none H
def tPart (t : TE) : TO := fun σ H Q => t σ H fun x H1 => ∃ i, x = .int i ∧ Q (some i) H1

section
variable {X : Cx} {e : Expr} {te : TE} {lo hi : Option Expr} {tl th : TO} {pos p2 : Pos}

theorem po_none : PO X none tNoPart := by
  intro pins s σ H Q I h
  rw [evalPart_none]
  exact wpAny_pure ⟨none, H, I, .none, h⟩
theorem po_some (h : PE X e te) : PO X (some e) (tPart te) := by
  intro pins s σ H Q I hw
  rw [evalPart_some]
  refine thn (h pins s σ H _ I hw) fun u s1 ⟨x, H1, I1, r1, q1⟩ => ?_
  obtain ⟨i, rfl, q⟩ := q1
  obtain ⟨t, rfl⟩ := r1
  exact ⟨some i, H1, I1, .int i t, q⟩

/-- what a slice of a value is, by values: the slice object stands at sl -/
def SlR (X : Cx) (r : V → Option Int → Option Int → Hp → VK → Prop) : Prop :=
  ∀ (pins : List (Addr × Obj)) (s : Shared) (σ : St) (H : Hp) (x : V) (v vl vu : Value) (lo hi : Option Int) (sl : Addr) (Q : VK), Inv X pins σ H s → RelV x v → s.heap.IsSliceOf sl vl vu .none → IsPart vl lo → IsPart vu hi → r x lo hi H Q →
    ∃ T id, typeLookup (.type T) "__getitem__" = pure (some (.builtin id)) ∧ s.TypeIs v T ∧ wpAny (model X.prog X.w) X.A (getItem v (.ref sl)) (EP X pins σ Q) X.xe s
theorem SlR.or {r r' : V → Option Int → Option Int → Hp → VK → Prop} (h : SlR X r) (h' : SlR X r') : SlR X (fun x lo hi H Q => r x lo hi H Q ∨ r' x lo hi H Q) := by
  intro pins s σ H x v vl vu lo hi sl Q I rx hs pl pu q
  rcases q with q | q
  · exact h pins s σ H x v vl vu lo hi sl Q I rx hs pl pu q
  · exact h' pins s σ H x v vl vu lo hi sl Q I rx hs pl pu q
def tSl (r : V → Option Int → Option Int → Hp → VK → Prop) (te : TE) (tl th : TO) : TE := fun σ H Q => te σ H fun x H1 => tl σ H1 fun l H2 => th σ H2 fun u H3 => r x l u H3 Q
/-- a[lo:hi], any a -/
theorem pe_slice {r : V → Option Int → Option Int → Hp → VK → Prop} (hr : SlR X r) (he : PE X e te) (hl : PO X lo tl) (hu : PO X hi th) : PE X (.Subscript e (.Slice lo hi none p2) pos) (tSl r te tl th) := by
  intro pins s σ H Q I h
  refine Subscript_ (thn (he pins s σ H _ I h) fun v s1 ⟨x, H1, I1, r1, q1⟩ => ?_)
  refine wpAny_Slice (thn (hl pins s1 σ H1 _ I1 q1) fun vl s2 ⟨l, H2, I2, pl, q2⟩ => thn (hu pins s2 σ H2 _ I2 q2) fun vu s3 ⟨u, H3, I3, pu, q3⟩ => ?_)
  rw [evalPart_none]
  refine wpAny_pure ?_
  have I4 : Inv X pins σ H3 { s3 with heap := s3.heap.push { cls := .type "slice", data := .fields #[vl, vu, .none] } } := I3.kept (t' := s3.toks) fun b ob q => Heap.get?_push_of_some _ q
  obtain ⟨T, id, hT, ht, hg⟩ := hr pins { s3 with heap := s3.heap.push { cls := .type "slice", data := .fields #[vl, vu, .none] } } σ H3 x v vl vu l u s3.heap.objs.size Q I4 r1 (Heap.IsSliceOf.new ..) pl pu q3
  show wpAny (model X.prog X.w) X.A (subscriptTail e (.Slice lo hi none p2) v (.ref s3.heap.objs.size)) (EP X pins σ Q) X.xe { s3 with heap := s3.heap.push { cls := .type "slice", data := .fields #[vl, vu, .none] } }
  exact tail_any (ops := [.ref s3.heap.objs.size, v]) ht hT hg (by with_unfolding_all rfl)

/-- the items of xs[lo:hi] -/
def cutV (xs : List V) (lo hi : Option Int) : List V := (xs.drop (HT.sIx xs.length 0 lo)).take (HT.sIx xs.length xs.length hi - HT.sIx xs.length 0 lo)
theorem cutV_length (xs : List V) (lo hi : Option Int) : (cutV xs lo hi).length ≤ xs.length := by
  unfold cutV
  rw [List.length_take, List.length_drop]
  omega
/-! ### t < u, t + u -/
end
end L2

namespace L2
open PySem PySem.Spec PyProof.Rows

/-! ### places -/
/-- the place that an index of any sign means -/
def ixN (n : Nat) (i : Int) : Option Nat := if 0 ≤ i then (if i < n then some i.toNat else none) else if -(n : Int) ≤ i then some (i + n).toNat else none
def atI {α : Type} (xs : List α) (i : Int) : Option α := (ixN xs.length i).bind fun j => xs[j]?
theorem ixN_seq {n : Nat} {i : Int} {j : Nat} (h : ixN n i = some j) : seqIndex? i n = some j ∧ j < n ∧ -(n : Int) ≤ i ∧ i < n := by
  unfold ixN at h
  by_cases h0 : 0 ≤ i
  · rw [if_pos h0] at h
    by_cases h1 : i < n
    · rw [if_pos h1] at h
      have e : i.toNat = j := Option.some.inj h
      exact ⟨by rw [seqIndex_of h0 h1, e], by omega, by omega, h1⟩
    · rw [if_neg h1] at h; cases h
  · rw [if_neg h0] at h
    by_cases h1 : -(n : Int) ≤ i
    · rw [if_pos h1] at h
      have e : (i + n).toNat = j := Option.some.inj h
      exact ⟨by rw [seqIndex_neg (by omega) h1, e], by omega, h1, by omega⟩
    · rw [if_neg h1] at h; cases h
theorem atI_get {α : Type} {xs : List α} {i : Int} {v : α} (h : atI xs i = some v) : ∃ j, seqIndex? i xs.length = some j ∧ xs[j]? = some v ∧ j < xs.length ∧ -(xs.length : Int) ≤ i ∧ i < xs.length := by
  unfold atI at h
  cases e : ixN xs.length i with
  | none => rw [e] at h; cases h
  | some j =>
    rw [e] at h
    obtain ⟨h1, h2, h3, h4⟩ := ixN_seq e
    exact ⟨j, h1, h, h2, h3, h4⟩
theorem atI_nat {α : Type} {xs : List α} {j : Nat} {v : α} (h : xs[j]? = some v) : atI xs (j : Int) = some v := by
  have hj : j < xs.length := (List.getElem?_eq_some_iff.mp h).1
  have e : ixN xs.length (j : Int) = some j := by
    unfold ixN
    rw [if_pos (by omega), if_pos (by omega)]; simp
  unfold atI; rw [e]; exact h
/-! ### what may be subscripted -/
/-- what stands as an index of a plain subscript -/
def PlainIx (b : Expr) : Prop := ∀ o i, subscripted b false o i = operate [o, i] (getItem o i)
/-- a subscript by values -/
def IxR (X : Cx) (r : R2) : Prop :=
  ∀ (value slice : Expr) (pins : List (Addr × Obj)) (s : Shared) (σ : St) (H : Hp) (x y : V) (v u : Value) (Q : VK), Inv X pins σ H s → RelV x v → RelV y u → r x y H Q →
    subscripted slice false v u = operate [v, u] (getItem v u) → wpAny (model X.prog X.w) X.A (subscriptTail value slice v u) (EP X pins σ Q) X.xe s
/-- a call of a builtin's method by values: the receiver, the arguments -/
def MtR (X : Cx) (id : String) (r : V → List V → Hp → VK → Prop) : Prop :=
  ∀ (pins : List (Addr × Obj)) (s : Shared) (σ : St) (H : Hp) (x : V) (xs : List V) (v : Value) (us : List Value) (Q : VK), Inv X pins σ H s → RelV x v → Vals xs us → r x xs H Q →
    wpAny (model X.prog X.w) X.A (call (.builtin id) (v :: us)) (EP X pins σ Q) X.xe s
section
variable {X : Cx} {a b : Expr} {ta tb : TE} {pos : Pos}
theorem IxR.or {r r' : R2} (h : IxR X r) (h' : IxR X r') : IxR X (fun x y H Q => r x y H Q ∨ r' x y H Q) := by
  intro value slice pins s σ H x y v u Q I rx ry q hs
  rcases q with q | q
  · exact h value slice pins s σ H x y v u Q I rx ry q hs
  · exact h' value slice pins s σ H x y v u Q I rx ry q hs
theorem MtR.or {id : String} {r r' : V → List V → Hp → VK → Prop} (h : MtR X id r) (h' : MtR X id r') : MtR X id (fun x xs H Q => r x xs H Q ∨ r' x xs H Q) := by
  intro pins s σ H x xs v us Q I rx rs q
  rcases q with q | q
  · exact h pins s σ H x xs v us Q I rx rs q
  · exact h' pins s σ H x xs v us Q I rx rs q
/-- a[b] -/
theorem pe_ix {r : R2} (hr : IxR X r) (ha : PE X a ta) (hb : PE X b tb) (hs : PlainIx b) : PE X (.Subscript a b pos) (tOp r ta tb) := by
  intro pins s σ H Q I h
  exact Subscript_ (binT ha hb I h fun v u s2 x y H2 I2 rx ry q => hr a b pins s2 σ H2 x y v u Q I2 rx ry q (hs _ _))

def rIxL (K : PySem.W.Frag) : R2 := fun x y H Q => ∃ p xs i v, x = .ref p ∧ y = .int i ∧ SqL K H p xs ∧ atI xs i = some v ∧ Q v H
def rIxT (K : PySem.W.Frag) : R2 := fun x y H Q => ∃ p xs i v, x = .ref p ∧ y = .int i ∧ SqT K H p xs ∧ atI xs i = some v ∧ Q v H
theorem ix_list : IxR X (rIxL X.K) := by
  intro value slice pins s σ H x y v u Q I rx ry h hs
  obtain ⟨p, xs, i, z, rfl, rfl, hq, he, q⟩ := h
  cases rx
  obtain ⟨t, rfl⟩ := ry
  obtain ⟨its, r, pl, hz⟩ := I.list hq
  obtain ⟨j, h1, h2, h3, h4, h5⟩ := atI_get he
  obtain ⟨w, ew, rw'⟩ := r.get h2
  have hl := r.length
  have hn := line63
  have fin : EP X pins σ Q w s := ⟨z, H, I, rw', q⟩
  by_cases h0 : 0 ≤ i
  · have hj : i.toNat = j := by
      rw [seqIndex_of h0 h5] at h1
      exact Option.some.inj h1
    exact item_listR pl.isList h0 (by omega) (by rw [hj]; simpa using ew) fin hs
  · have hj : (i + (its.toArray.size : Int)).toNat = j := by
      rw [seqIndex_neg (by omega) h4] at h1
      rw [List.size_toArray, ← hl]
      exact Option.some.inj h1
    exact subscriptTail_builtinR (x := w) pl.isList.typeIs slot_list_getitem.lookup
      (wpAny_getItem_list_neg (Q := fun r s' => r = w ∧ EP X pins σ Q r s') pl.isList (by omega) (by rw [List.size_toArray] <;> omega) (by omega) (by rw [hj]; simpa using ew) ⟨rfl, fin⟩) hs
theorem ix_tup : IxR X (rIxT X.K) := by
  intro value slice pins s σ H x y v u Q I rx ry h hs
  obtain ⟨p, xs, i, z, rfl, rfl, hq, he, q⟩ := h
  cases rx
  obtain ⟨t, rfl⟩ := ry
  obtain ⟨its, r, pl, hz⟩ := I.tuple hq
  obtain ⟨j, h1, h2, h3, h4, h5⟩ := atI_get he
  obtain ⟨w, ew, rw'⟩ := r.get h2
  have hl := r.length
  have hn := line63
  have fin : EP X pins σ Q w s := ⟨z, H, I, rw', q⟩
  exact subscriptTail_builtinR (x := w) pl.typeIs slot_tuple_getitem.lookup
    (getItem_tuple (j := j) (Q := fun r s' => r = w ∧ EP X pins σ Q r s') pl (by omega) (by omega) (by rw [List.size_toArray, ← hl]; exact h1) (by simpa using ew) ⟨rfl, fin⟩) hs
/-! ### xs[i] = v, any sign -/
/-- the list's object behind a store -/
theorem mapSeq_set (its : List Value) (n j : Nat) (u : Value) : Obj.mapSeq (·.setIfInBounds j u) { cls := .type "list", data := .seq its.toArray n } = { cls := .type "list", data := .seq (its.set j u).toArray n } := by
  simp [Obj.mapSeq]
theorem Inv.lst {pins : List (Addr × Obj)} {σ : St} {H : Hp} {s : Shared} {p : Addr} {xs : List V} (I : Inv X pins σ H s) (h : H p = some (.lst xs)) :
    ∃ (its : List Value) (n : Nat), Vals xs its ∧ s.heap.get? p = some { cls := .type "list", data := .seq its.toArray n } ∧ xs.length ≤ sizeLine := by
  obtain ⟨z, its, n, r, e⟩ := I.hok p _ h
  exact ⟨its, n, r, e, z⟩
/-- the list at p is written by an update of its object -/
theorem Inv.lstUpd {pins : List (Addr × Obj)} {σ : St} {H : Hp} {s : Shared} {p : Addr} {xs ys : List V} {its its' : List Value} {n n' : Nat} {f : Obj → Obj} (I : Inv X pins σ H s) (h : H p = some (.lst xs))
    (ho : s.heap.get? p = some { cls := .type "list", data := .seq its.toArray n }) (hf : f { cls := .type "list", data := .seq its.toArray n } = { cls := .type "list", data := .seq its'.toArray n' }) (r : Vals ys its') (hz : ys.length ≤ sizeLine) (t : Nat) :
    Inv X pins σ (upd H p (.lst ys)) { s with heap := s.heap.update p f, toks := t } := by
  have e : (s.heap.update p f).get? p = some { cls := .type "list", data := .seq its'.toArray n' } := by
    rw [Heap.get?_update_self f ho (by rw [hf] <;> rfl), hf]
  refine I.write (x := p) (e := p) (by rw [h]; trivial) (.inl rfl) (fun b u hb q => (Heap.get?_update_other _ _ (Ne.symm hb)).trans q) ⟨_, e⟩ ?_
  exact ⟨hz, its', n', r, e⟩
def rSetL : V → V → V → Hp → (Hp → Prop) → Prop := fun o i v H Q => ∃ p xs k j, o = .ref p ∧ i = .int k ∧ H p = some (.lst xs) ∧ ixN xs.length k = some j ∧ Q (upd H p (.lst (xs.set j v)))
theorem set_list : PSet X rSetL := by
  intro pins s σ H o i v ov iv u Q I ro ri rv h
  obtain ⟨p, xs, k, j, rfl, rfl, hp, hj, q⟩ := h
  cases ro
  obtain ⟨t, rfl⟩ := ri
  obtain ⟨its, n, r, ho, hz⟩ := I.lst hp
  obtain ⟨h1, h2, h3, h4⟩ := ixN_seq hj
  have hl := r.length
  have hn := line63
  have I' : Inv X pins σ (upd H p (.lst (xs.set j v))) { s with heap := s.heap.update p (Obj.mapSeq (·.setIfInBounds j u)) } :=
    I.lstUpd hp ho (mapSeq_set its n j u) (r.set rv j) (by rw [List.length_set]; exact hz) s.toks
  by_cases h0 : 0 ≤ k
  · have hk : k.toNat = j := by
      rw [seqIndex_of h0 h4] at h1
      exact Option.some.inj h1
    exact PySem.W.ki_setAt ho h0 (by omega) (by rw [List.size_toArray, ← hl]; exact h4) (by rw [hk]; exact ⟨_, I', q⟩)
  · have hk : (k + (its.toArray.size : Int)).toNat = j := by
      rw [seqIndex_neg (by omega) h3] at h1
      rw [List.size_toArray, ← hl]
      exact Option.some.inj h1
    exact PySem.W.ki_setBack ho (by omega) (by rw [List.size_toArray, ← hl]; exact h3) (by omega) (by rw [hk]; exact ⟨_, I', q⟩)

/-! ### slices -/
theorem slice_bounds (lo hi : Option Int) (n : Nat) : (sliceBounds lo hi none n).1 = ((HT.sIx n 0 lo : Nat) : Int) ∧ (sliceBounds lo hi none n).2.1 = ((HT.sIx n n hi : Nat) : Int) ∧ (sliceBounds lo hi none n).2.2 = 1 := by
  refine ⟨?_, ?_, rfl⟩
  · cases lo with
    | none => simp [sliceBounds, HT.sIx]
    | some i =>
      simp only [sliceBounds, HT.sIx, Option.getD_none, show (1 : Int) > 0 by decide, if_true]
      by_cases h : i < 0
      · simp only [h, if_true] <;> omega
      · simp only [h, if_false] <;> omega
  · cases hi with
    | none => simp [sliceBounds, HT.sIx]
    | some i =>
      simp only [sliceBounds, HT.sIx, Option.getD_none, show (1 : Int) > 0 by decide, if_true]
      by_cases h : i < 0
      · simp only [h, if_true] <;> omega
      · simp only [h, if_false] <;> omega
theorem slicePick_cut (its : List Value) (lo hi : Option Int) : slicePick its.toArray lo hi none = ((its.drop (HT.sIx its.length 0 lo)).take (HT.sIx its.length its.length hi - HT.sIx its.length 0 lo)).toArray := by
  obtain ⟨h1, h2, h3⟩ := slice_bounds lo hi its.toArray.size
  unfold slicePick
  rw [h1, h2, h3]
  simp only [sliceRange_one, pick_run, List.size_toArray] <;> rfl
/-- xs[lo:hi] of a list: a new list -/
def rSlL (K : PySem.W.Frag) : V → Option Int → Option Int → Hp → VK → Prop := fun x lo hi H Q => ∃ a xs, x = .ref a ∧ SqL K H a xs ∧ ∀ p, H p = none → Q (.ref p) (upd H p (.lst (cutV xs lo hi)))
theorem sl_list : SlR X (rSlL X.K) := by
  intro pins s σ H x v vl vu lo hi sl Q I rx hs pl pu h
  obtain ⟨a, xs, rfl, hx, q⟩ := h
  cases rx
  obtain ⟨its, r, ht, hz⟩ := I.list hx
  have hlen := r.length
  refine ⟨"list", _, slot_list_getitem.lookup, ht.isList.typeIs, ?_⟩
  refine wpAny_getItem_list_slice ht.isList hs pl pu .none (by simp) ?_ (by rw [List.size_toArray] <;> omega)
  rw [slicePick_cut, ← hlen]
  refine ⟨.ref s.heap.objs.size, _, I.laid (t' := s.toks) (o := .lst (cutV xs lo hi)) (fun b ob q => Heap.get?_push_of_some _ q) (Nat.le_refl _) ?_, rfl, q _ (I.hok.fresh (Nat.le_refl _))⟩
  exact ⟨Nat.le_trans (cutV_length xs lo hi) hz, _, 0, (r.drop (HT.sIx xs.length 0 lo)).take (HT.sIx xs.length xs.length hi - HT.sIx xs.length 0 lo), Heap.get?_push_size _ rfl⟩

/-! ### in, not in: flat items -/
/-! ### len, list(x), tuple(x) of any list or tuple that is read -/
theorem CallR.or {f : Value} {r r' : List V → Hp → VK → Prop} (h : CallR X f r) (h' : CallR X f r') : CallR X f (fun xs H Q => r xs H Q ∨ r' xs H Q) := by
  intro pins s σ H xs us Q I rs q
  rcases q with q | q
  · exact h pins s σ H xs us Q I rs q
  · exact h' pins s σ H xs us Q I rs q
theorem call_list_of : CallR X (.type "list") (fun xs H Q => ∃ p ys, xs = [.ref p] ∧ (SqL X.K H p ys ∨ SqT X.K H p ys) ∧ ∀ l, H l = none → Q (.ref l) (upd H l (.lst ys))) := by
  intro pins s σ H xs us Q I r h
  obtain ⟨p, ys, rfl, hq, q⟩ := h
  obtain ⟨u, rfl, rx⟩ := vals1 r
  cases rx
  have fin : ∀ (its : List Value), Vals ys its → ys.length ≤ sizeLine → ∀ (h' : Heap) (c' : Nat), (∀ b o', s.heap.get? b = some o' → h'.get? b = some o') →
      h'.get? s.heap.objs.size = some { cls := .type "list", dict := none, data := .seq its.toArray c', slots := #[] } → EP X pins σ Q (.ref s.heap.objs.size) { s with heap := h' } := fun its r' hz h' c' kp e =>
    ⟨.ref s.heap.objs.size, _, I.laid (t' := s.toks) kp (Nat.le_refl _) (show ObjOk X.prog X.w _ h' _ (.lst ys) from ⟨hz, its, c', r', e⟩), rfl, q _ (I.hok.fresh (Nat.le_refl _))⟩
  rcases hq with hq | hq
  · obtain ⟨its, r', pl, hz⟩ := I.list hq
    have hlen := r'.length
    obtain ⟨o, ho, hc, n, hd⟩ := pl.isList
    exact call_list_seq p (.inl rfl) ho hc hd (fun h' c' kp e => fin its r' hz h' c' kp e) (by simp only [List.size_toArray] <;> omega)
  · obtain ⟨its, r', pl, hz⟩ := I.tuple hq
    have hlen := r'.length
    obtain ⟨o, ho, hc, n, hd⟩ := pl
    exact call_list_seq p (.inr rfl) ho hc hd (fun h' c' kp e => fin its r' hz h' c' kp e) (by simp only [List.size_toArray] <;> omega)
/-! ### the call of a builtin's method: o.m(..) -/
/-- the value is of that builtin type -/
def tyV (K : PySem.W.Frag) (T : String) (x : V) (H : Hp) : Prop := match x with
  | .str _ => T = "str"
  | .int _ => T = "int"
  | .ref p => (T = "list" ∧ ∃ xs, SqL K H p xs) ∨ (T = "tuple" ∧ ∃ o, K.lookup p = some o ∧ o.cls = .type "tuple" ∧ o.dict = none) ∨
      (T = "dict" ∧ ((∃ kvs, H p = some (.dK kvs)) ∨ ∃ kvs, H p = some (.dT kvs))) ∨ (T = "set" ∧ ∃ S n, H p = some (.set S n))
  | _ => False
theorem tyV_is {pins : List (Addr × Obj)} {σ : St} {H : Hp} {s : Shared} {T : String} {x : V} {v : Value} (I : Inv X pins σ H s) (r : RelV x v) (ty : tyV X.K T x H) :
    s.TypeIs v T ∧ ∀ a, v = .ref a → ∃ ob, s.heap.get? a = some ob ∧ ob.dict = none := by
  cases x with
  | str z =>
    obtain ⟨t, rfl⟩ := r
    cases (show T = "str" from ty)
    exact ⟨typeIs_str s z t, fun _ e => nomatch e⟩
  | int i =>
    obtain ⟨t, rfl⟩ := r
    cases (show T = "int" from ty)
    exact ⟨typeIs_int s i t, fun _ e => nomatch e⟩
  | ref p =>
    cases r
    rcases ty with ⟨rfl, xs, hq⟩ | ⟨rfl, o, hk, hc, hd⟩ | ⟨rfl, hk⟩ | ⟨rfl, S, n, hk⟩
    · obtain ⟨its, _, pl, _⟩ := I.list hq
      refine ⟨pl.isList.typeIs, fun a e => ?_⟩
      cases e
      obtain ⟨o, n, e, c, hd, _⟩ := pl
      exact ⟨o, e, hd⟩
    · refine ⟨⟨o, I.kIn p o hk, hc⟩, fun a e => ?_⟩
      cases e
      exact ⟨o, I.kIn _ o hk, hd⟩
    · have z : ∃ o, s.heap.get? p = some o ∧ o.ExactDict := by
        rcases hk with ⟨kvs, hk⟩ | ⟨kvs, hk⟩
        · obtain ⟨_, _, _, _, o, _, _, e, ex, _⟩ := I.hok p _ hk
          exact ⟨o, e, ex⟩
        · obtain ⟨_, _, _, _, o, _, _, e, ex, _⟩ := I.hok p _ hk
          exact ⟨o, e, ex⟩
      obtain ⟨o, e, ex⟩ := z
      refine ⟨⟨o, e, ex.1⟩, fun a e2 => ?_⟩
      cases e2
      exact ⟨o, e, ex.2.1⟩
    · obtain ⟨o, _, _, _, e, ex, _⟩ := I.hok p _ hk
      refine ⟨⟨o, e, ex.1⟩, fun a e2 => ?_⟩
      cases e2
      exact ⟨o, e, ex.2.1⟩
  | _ => exact False.elim ty
def tBM (K : PySem.W.Frag) (T : String) (r : V → List V → Hp → VK → Prop) (to : TE) (t : TA) : TE := fun σ H Q => to σ H fun x H1 => tyV K T x H1 ∧ t σ H1 fun xs H2 => r x xs H2 Q
variable {o e : Expr} {es : List Expr} {to : TE} {t : TA} {name : Str} {apos cpos : Pos} {T id : String} {r : V → List V → Hp → VK → Prop}
theorem pe_bm (pa : PlainAttrs T) (slot : Slot T name id) (hty : typeOf (.builtin id) = pure (.type "method_descriptor")) (hm : MtR X id r) (ho : PE X o to) (ha : PA X (e :: es) t)
    (hbase : attributeBase o name X.env (eval o X.env) = eval o X.env := by rfl)
    (hfew : ((backTo cpos (starEach (e :: es) X.env)).all (fun x => !x.1) && (backToKw cpos (keywordEach [] X.env)).all (fun x => x.1.isSome)
      && decide ((e :: es).length + ([] : List Keyword).length + (if ([] : List Keyword).isEmpty then 0 else 1) < 30)) = true := by rfl)
    (hline : (apos.endLine == cpos.line) = true := by rfl) (hs : starEach (e :: es) X.env = (false, eval e X.env) :: starEach es X.env := by rfl) (hplain : (backTo cpos (starEach es X.env)).any (·.1) = false := by rfl) :
    PE X (.Call (.Attribute o name apos) (e :: es) [] cpos) (tBM X.K T r to t) := by
  intro pins s σ H Q I h
  refine wpAny_Call_method_late hbase hfew hline rfl (thn (ho pins s σ H _ I h) fun v s1 ⟨x, H1, I1, r1, ty, q1⟩ => ?_)
  obtain ⟨h1, h2⟩ := tyV_is I1 r1 ty
  refine ⟨T, id, pa, slot, hty, h1, h2, ?_⟩
  have hA := ha cpos pins s1 σ H1 _ I1 q1
  rw [hs] at hA ⊢
  refine Calls.callWith_builtin (by show (false || (backTo cpos (starEach es X.env)).any (·.1)) = false; rw [hplain] <;> rfl) (Calls.evalArgs_plain ?_)
  exact thn hA fun us s2 ⟨vs, H2, I2, r2, q2⟩ => hm pins s2 σ H2 x vs v us Q I2 r1 r2 q2
/- xs.append(e), list.index on a module's tuple .. are MtR facts of 06m -/
end
end L2

namespace L2
open PySem PySem.Spec PyProof.Rows

def MtM (X : Cx) (id : String) (r : V → List V → Hp → VK → Prop) : Prop :=
  ∀ (pins : List (Addr × Obj)) (s : Shared) (σ : St) (H : Hp) (x : V) (xs : List V) (v : Value) (us : List Value) (Q : VK), Inv X pins σ H s → RelV x v → Vals xs us → r x xs H Q →
    wpAny (model X.prog X.w) X.A (call (.builtin id) (v :: us)) (EP X pins σ Q) X.xe s

/-! ### lists of values -/
theorem Vals.one : ∀ {x : V} {us : List Value}, Vals [x] us → ∃ u, us = [u] ∧ RelV x u
  | _, _, .cons r .nil => ⟨_, rfl, r⟩
theorem Vals.two : ∀ {x y : V} {us : List Value}, Vals [x, y] us → ∃ u v, us = [u, v] ∧ RelV x u ∧ RelV y v
  | _, _, _, .cons r (.cons q .nil) => ⟨_, _, rfl, r, q⟩
theorem Vals.zero : ∀ {us : List Value}, Vals [] us → us = []
  | _, .nil => rfl
theorem Vals.reverse {xs : List V} {us : List Value} (h : Vals xs us) : Vals xs.reverse us.reverse := by
  induction h with
  | nil => exact .nil
  | cons r t ih => rw [List.reverse_cons, List.reverse_cons]; exact Vals.append ih (.cons r .nil)
theorem Vals.rep {xs : List V} {us : List Value} (h : Vals xs us) : ∀ k : Nat, Vals (List.replicate k xs).flatten (List.replicate k us).flatten
  | 0 => .nil
  | k + 1 => by
    rw [List.replicate_succ, List.replicate_succ, List.flatten_cons, List.flatten_cons]
    exact Vals.append h (Vals.rep h k)
theorem foldl_rep (its : List Value) : ∀ (k : Nat) (acc : List Value),
    List.foldl (fun x1 x2 => x1 ++ x2) acc.toArray (List.replicate k its.toArray) = (acc ++ (List.replicate k its).flatten).toArray
  | 0, acc => by simp
  | k + 1, acc => by
    have e : acc.toArray ++ its.toArray = (acc ++ its).toArray := by simp
    have e2 : (acc ++ its) ++ (List.replicate k its).flatten = acc ++ (List.replicate (k + 1) its).flatten := by
      rw [List.replicate_succ, List.flatten_cons, List.append_assoc]
    rw [← e2, ← foldl_rep its k (acc ++ its), ← e, List.replicate_succ, List.foldl_cons]

section
variable {X : Cx} {pins : List (Addr × Obj)} {σ : St} {H : Hp} {s : Shared} {l b : Addr} {xs ys zs : List V}

/-! ### the two steps: a tracked list is rewritten, a new list is laid -/
theorem Inv.lset {its its' : List Value} {n : Nat} {f : Array Value → Array Value} {t' : Nat} (I : Inv X pins σ H s) (hH : H l = some (.lst xs))
    (e : s.heap.get? l = some { cls := .type "list", data := .seq its.toArray n }) (hf : f its.toArray = its'.toArray) (hv : Vals ys its') (hz : ys.length ≤ sizeLine) :
    Inv X pins σ (upd H l (.lst ys)) { s with heap := s.heap.update l (Obj.mapSeq f), toks := t' } := by
  have q := PySem.IsL.update e f
  rw [hf] at q
  refine I.write (x := l) (e := l) (by rw [hH]; exact trivial) (.inl rfl) (fun b' u hb hu => (Heap.get?_update_other s.heap (Obj.mapSeq f) (Ne.symm hb)).trans hu) ⟨_, q⟩ ?_
  exact ⟨hz, its', _, hv, q⟩
theorem Inv.lnew {its : List Value} {t' : Nat} (I : Inv X pins σ H s) (hv : Vals ys its) (hz : ys.length ≤ sizeLine) :
    Inv X pins σ (upd H s.heap.objs.size (.lst ys)) { s with heap := s.heap.push { cls := .type "list", data := .seq its.toArray }, toks := t' } :=
  I.laid (fun _ _ q => Heap.get?_push_of_some _ q) (Nat.le_refl _) ⟨hz, its, 0, hv, Heap.get?_push_size _ rfl⟩
theorem Inv.fresh (I : Inv X pins σ H s) : H s.heap.objs.size = none := I.hok.fresh (Nat.le_refl _)
theorem Inv.lstM (I : Inv X pins σ H s) (hH : H l = some (.lst xs)) : xs.length ≤ sizeLine ∧ ∃ (its : List Value) (n : Nat), Vals xs its ∧ xs.length = its.length ∧ s.heap.get? l = some { cls := .type "list", data := .seq its.toArray n } := by
  obtain ⟨z, its, n, r, e⟩ := I.hok l _ hH
  exact ⟨z, its, n, r, r.length, e⟩

theorem notLongL {n : Nat} (h : n ≤ sizeLine) : Builtin.List.listTooLong n = false := by
  unfold Builtin.List.listTooLong
  exact decide_eq_false (by omega)
end

section
variable {X : Cx}

/-! ### methods -/
def rAppend : V → List V → Hp → VK → Prop := fun x vs H Q => ∃ l xs y, x = .ref l ∧ vs = [y] ∧ H l = some (.lst xs) ∧ xs.length < sizeLine ∧ Q .non (upd H l (.lst (xs ++ [y])))
theorem mt_append : MtM X "list.append" rAppend := by
  intro pins s σ H x vs v us Q I rx rv h
  obtain ⟨l, xs, y, rfl, rfl, hH, hz, q⟩ := h
  cases rx
  obtain ⟨u, rfl, ru⟩ := rv.one
  obtain ⟨z, its, n, r, hl, e⟩ := I.lstM hH
  refine call_meets F.slot_list_append ⟨_, e, rfl⟩ F.entry_list_append (F.args_list_append_2 _ _) (PySem.list_append l its.toArray n u (by rw [List.size_toArray]; omega)) ⟨e, ?_⟩
  refine ⟨.non, _, I.lset (its' := its ++ [u]) hH e (by simp) (r.append (.cons ru .nil)) ?_, rfl, q⟩
  rw [List.length_append, List.length_singleton]
  omega

/-! ### list + list, list += list, list * int -/
def rCat : R2 := fun x y H Q => ∃ l b xs zs, x = .ref l ∧ y = .ref b ∧ H l = some (.lst xs) ∧ H b = some (.lst zs) ∧ xs.length + zs.length ≤ sizeLine ∧ ∀ p, H p = none → Q (.ref p) (upd H p (.lst (xs ++ zs)))
theorem op_cat : OpR X (binaryOp .Add) rCat := by
  intro pins s σ H x y v u Q I rx ry h
  obtain ⟨l, b, xs, zs, rfl, rfl, hH, hB, hz, q⟩ := h
  cases rx
  cases ry
  obtain ⟨z, its, n, r, hl, e⟩ := I.lstM hH
  obtain ⟨z2, its2, n2, r2, hl2, e2⟩ := I.lstM hB
  refine PySem.P.add_list e e2 ?_ (by rw [List.size_toArray, List.size_toArray]; omega)
  have ea : its.toArray ++ its2.toArray = (its ++ its2).toArray := by simp
  rw [ea]
  exact ⟨.ref _, _, I.lnew (t' := s.toks) (r.append r2) (by rw [List.length_append]; omega), rfl, q _ I.fresh⟩
/-- a list times an int (a negative one is nothing) -/
def rRep : R2 := fun x y H Q => ∃ l k xs, x = .ref l ∧ y = .int k ∧ H l = some (.lst xs) ∧ -(2 ^ 63) ≤ k ∧ k < 2 ^ 63 ∧ xs.length * k.toNat ≤ sizeLine ∧
  ∀ p, H p = none → Q (.ref p) (upd H p (.lst (List.replicate k.toNat xs).flatten))
theorem len_rep {α : Type} (xs : List α) (k : Nat) : (List.replicate k xs).flatten.length = k * xs.length := by
  induction k with
  | zero => simp
  | succ k ih => rw [List.replicate_succ, List.flatten_cons, List.length_append, ih, Nat.succ_mul, Nat.add_comm]
theorem op_rep : OpR X (binaryOp .Mult) rRep := by
  intro pins s σ H x y v u Q I rx ry h
  obtain ⟨l, k, xs, rfl, rfl, hH, h1, h2, hz, q⟩ := h
  cases rx
  obtain ⟨t, rfl⟩ := ry
  obtain ⟨z, its, n, r, hl, e⟩ := I.lstM hH
  have hlen : its.toArray.size * k.toNat ≤ sizeLine := by rw [List.size_toArray, ← hl]; exact hz
  have hcap : ¬ its.toArray.size * k.toNat > (2 ^ 63 - 1) / 8 := by
    have : (sizeLine : Nat) ≤ (2 ^ 63 - 1) / 8 := by decide
    omega
  have hfit : ¬ (!Builtin.List.listFitsIndex k) = true := by
    rw [fitsIndex_both h1 h2]
    exact Bool.false_ne_true
  have hlong : ¬ Builtin.List.listTooLong (its.toArray.size * k.toNat) = true := by
    rw [notLongL hlen]
    exact Bool.false_ne_true
  have hnew : List.foldl (fun x1 x2 => x1 ++ x2) #[] (List.replicate (if its.toArray.isEmpty = true then 0 else k.toNat) its.toArray) = (List.replicate k.toNat its).flatten.toArray := by
    have f0 : ∀ m : Nat, List.foldl (fun x1 x2 => x1 ++ x2) #[] (List.replicate m its.toArray) = (List.replicate m its).flatten.toArray := fun m => by
      have := foldl_rep its m []
      rw [List.nil_append] at this
      exact this
    rw [f0]
    cases its with
    | nil => simp
    | cons a r' => rw [if_neg (by simp)]
  refine wpAny_binaryOp_repeat_ref (T := "list") (U := "int") (by decide) ⟨_, e, rfl⟩ (fun s' => typeIs_int s' k t) noFill_list_mul F.fills_int_mul F.slot_int_rmul repeat_list F.slot_int_index.lookup
    (call_meets F.slot_int_rmul (typeIs_int s k t) F.entry_int_rmul (F.args_int_rmul_2 _ _) (int___rmul___int_list k t l its.toArray n)
      ⟨e, rfl, ⟨_, e, rfl⟩, call_meets F.slot_list_mul ⟨_, e, rfl⟩ F.entry_list_mul (F.args_list_mul_2 _ _) (AutoListH.list___mul___list_int_3 l its.toArray n k t hfit hcap hlong) ⟨e, ?_⟩⟩)
  rw [hnew]
  exact ⟨.ref _, _, I.lnew (t' := s.toks) (r.rep k.toNat) (by rw [len_rep, Nat.mul_comm]; exact hz), rfl, q _ I.fresh⟩

/-! ### del xs[i] -/
end

/-! ### xs[a:b] = ys -/
section
variable {prog : Program} {w : World} {A : Around} {E : Value → Shared → Prop} {s : Shared}
end

section
variable {X : Cx}
end
end L2

namespace L2
open PySem PySem.Spec PyProof.Rows

theorem Vals.ints : ∀ {ns : List Int} {us : List Value}, Vals (ns.map V.int) us → IntsAre us ns
  | [], us, h => by
    rw [List.map_nil] at h
    cases h
    exact IntsAre.nil
  | n :: ns, us, h => by
    rw [List.map_cons] at h
    cases h with
    | cons r t =>
      obtain ⟨k, rfl⟩ := r
      exact IntsAre.cons n k (Vals.ints t)
theorem Vals.strs : ∀ {xs : List Str} {us : List Value}, Vals (xs.map V.str) us → StrsAre us xs
  | [], us, h => by
    rw [List.map_nil] at h
    cases h
    exact StrsAre.nil
  | x :: xs, us, h => by
    rw [List.map_cons] at h
    cases h with
    | cons r t =>
      obtain ⟨k, rfl⟩ := r
      exact StrsAre.cons x k (Vals.strs t)
theorem Vals.ref1 {a : Addr} {us : List Value} (r : Vals [V.ref a] us) : us = [Value.ref a] := by
  cases r with
  | cons r t =>
    cases t
    cases r
    rfl
/-! ### the library's walks over a list of ints, kept objects alone -/
section
variable {prog : Program} {w : World} {A : Around} {E : Value → Shared → Prop} {s : Shared} {l : Addr} {its : List Value} {ns : List Int} {Q : Value → Shared → Prop}
end

/-! ### the calls, by values (CallR of 03t; MtR of 06l) -/
section
variable {X : Cx}
/-! sorted, sort (fewer than 64 items: the library's own bound) -/
end

/-! ### list.index, flat items -/
section
variable {X : Cx}
end

/-! ### type(x) of an own instance; is, is not of a module's class -/
section
variable {X : Cx}
end

/-! ### any(xs), all(xs) of a list of bools -/
theorem iter_any {prog : Program} {w : World} {A : Around} {E : Value → Shared → Prop} {s : Shared} {l : Addr} {items : Array Value} {Q : Value → Shared → Prop} (hl : s.heap.IsList l items)
    (h : ∀ s₂ : Shared, s₂ = { s with heap := s.heap.push { cls := .type "list_iterator", data := .fields #[.ref l, .int 0 0] } } →
      (s₂.heap.IsListIter s.heap.objs.size l 0 ∧ s₂.heap.IsList l items) → l ≠ s.heap.objs.size → Q (.ref s.heap.objs.size) s₂) : wpAny (model prog w) A (pyIter (.ref l)) Q E s := by
  have hlt : l < s.heap.objs.size := by obtain ⟨_, e, _⟩ := hl; exact Heap.lt_size e
  exact wpAny_pyIter_list hl (h _ rfl ⟨⟨_, Heap.get?_push_size _ rfl, rfl, rfl⟩, hl.push _⟩ (Nat.ne_of_lt hlt))
theorem any_range : ∀ bs : List Bool, (List.range bs.length).any (fun i => bs.getD i false) = bs.any id
  | [] => rfl
  | b :: bs => by
    rw [List.length_cons, List.range_succ_eq_map, List.any_cons, List.any_map, List.any_cons, ← any_range bs]
    all_goals rfl
section
variable {X : Cx}
end

/-! ### == and != of data at any depth: none, bools, ints, texts, lists, tuples -/
mutual
inductive Dp (K : PySem.W.Frag) (H : Hp) : V → PyData → Prop
  | non : Dp K H .non .none
  | bl (b : Bool) : Dp K H (.bl b) (.bool b)
  | int (i : Int) : Dp K H (.int i) (.int i)
  | str (x : Str) : Dp K H (.str x) (.str x)
  | lst {a : Addr} {xs : List V} {ds : List PyData} : SqL K H a xs → DpAll K H xs ds → Dp K H (.ref a) (.list ds)
  | tup {a : Addr} {xs : List V} {ds : List PyData} : SqT K H a xs → DpAll K H xs ds → Dp K H (.ref a) (.tuple ds)
inductive DpAll (K : PySem.W.Frag) (H : Hp) : List V → List PyData → Prop
  | nil : DpAll K H [] []
  | cons {v : V} {vs : List V} {d : PyData} {ds : List PyData} : Dp K H v d → DpAll K H vs ds → DpAll K H (v :: vs) (d :: ds)
end
section
variable {X : Cx} {pins : List (Addr × Obj)} {σ : St} {H : Hp} {s : Shared}
mutual
theorem Dp.reads (I : Inv X pins σ H s) : ∀ (d : PyData) (v : V) (u : Value), Dp X.K H v d → RelV v u → ∃ as, Reads s.heap u d as
  | .none, _, _, h, r => by
    cases h
    cases r
    exact ⟨_, Reads.none⟩
  | .bool b, _, _, h, r => by
    cases h
    cases r
    exact ⟨_, Reads.bool b⟩
  | .int i, _, _, h, r => by
    cases h
    obtain ⟨t, rfl⟩ := r
    exact ⟨_, Reads.int i t⟩
  | .str x, _, _, h, r => by
    cases h
    obtain ⟨t, rfl⟩ := r
    exact ⟨_, Reads.str x t⟩
  | .list ds, _, _, h, r => by
    cases h with
    | lst hs ha =>
      cases r
      obtain ⟨its, rv, ⟨o, n, ho, hc, _, hd⟩, _⟩ := I.list hs
      obtain ⟨as, hr⟩ := Dp.readsAll I ds _ its ha rv
      exact ⟨_, Reads.list ho hc hd hr⟩
  | .tuple ds, _, _, h, r => by
    cases h with
    | tup hs ha =>
      cases r
      obtain ⟨its, rv, ⟨o, ho, hc, n, hd⟩, _⟩ := I.tuple hs
      obtain ⟨as, hr⟩ := Dp.readsAll I ds _ its ha rv
      exact ⟨_, Reads.tuple ho hc hd hr⟩
  | .dict _, _, _, h, _ => by cases h
theorem Dp.readsAll (I : Inv X pins σ H s) : ∀ (ds : List PyData) (vs : List V) (us : List Value), DpAll X.K H vs ds → Vals vs us → ∃ as, ReadsAll s.heap us ds as
  | [], _, _, h, r => by
    cases h
    cases r
    exact ⟨_, ReadsAll.nil⟩
  | d :: ds, _, _, h, r => by
    cases h with
    | cons h1 h2 =>
      cases r with
      | cons r1 r2 =>
        obtain ⟨as, q1⟩ := Dp.reads I d _ _ h1 r1
        obtain ⟨bs, q2⟩ := Dp.readsAll I ds _ _ h2 r2
        exact ⟨_, ReadsAll.cons q1 q2⟩
end
end
section
variable {X : Cx}
end
end L2

namespace L2
open PySem PySem.Spec PyProof.Rows
abbrev CellAt (h : Heap) (c : Addr) (v : Option Value) : Prop := h.IsCell c v
def relS (scope sc : Scope) : Scope :=
  { scope with names := scope.names.map fun (n, k) => if (k == .free && sc.kind == .function && sc.names.lookup n == some .cell) then (n, .cell) else (n, k) }

def cloFrom (cells : List (Str × Addr)) : List (Str × NameKind) → List (Str × Addr) → List (Str × Addr)
  | [], acc => acc
  | (n, k) :: r, acc => if k == .free then cloFrom cells r ((n, (cells.lookup n).getD 0) :: acc) else cloFrom cells r acc

theorem closure_loop (env : Env) (f : Str × NameKind → List (Str × Addr) → Sem (ForInStep (List (Str × Addr))))
    (hf : ∀ n k c, f (n, k) c = if k == .free then (do let a ← cellOf env n; pure (.yield ((n, a) :: c))) else pure (.yield c)) :
    ∀ (names : List (Str × NameKind)) (acc : List (Str × Addr)), (∀ y ∈ names, y.2 = .free → ∃ c, env.cells.lookup y.1 = some c) → forIn names acc f = pure (cloFrom env.cells names acc)
  | [], acc, _ => by rw [List.forIn_nil]; rfl
  | (n, k) :: r, acc, h => by
    rw [List.forIn_cons, hf]
    have ih := fun acc => closure_loop env f hf r acc fun y hy => h y (List.mem_cons_of_mem _ hy)
    unfold cloFrom
    by_cases hk : (k == NameKind.free) = true
    · rw [if_pos hk, if_pos hk]
      obtain ⟨c, hc⟩ := h (n, k) List.mem_cons_self (by simpa using hk)
      have e : cellOf env n = pure c := by unfold cellOf; rw [hc]
      rw [e]
      have e2 : (env.cells.lookup n).getD 0 = c := by rw [hc]; rfl
      rw [e2]
      exact ih _
    · rw [if_neg hk, if_neg hk]
      exact ih _
theorem closure_ok {scope : Scope} {env : Env} (h : ∀ y ∈ scope.names, y.2 = .free → ∃ c, env.cells.lookup y.1 = some c) : closureFor scope env = pure (cloFrom env.cells scope.names []) := by
  simp only [closureFor]
  rw [closure_loop env _ (fun n k c => rfl) scope.names [] h]
  rfl

theorem mem_lookup {α : Type} : ∀ {l : List (Str × α)} {n : Str} {c : α}, (n, c) ∈ l → ∃ c', l.lookup n = some c'
  | (k, v) :: r, n, c, h => by
    rw [List.lookup_cons]
    cases hb : n == k with
    | true => exact ⟨_, rfl⟩
    | false =>
      rcases List.mem_cons.mp h with e | h
      · cases e; simp at hb
      · exact mem_lookup h

theorem cloFrom_mem {cells : List (Str × Addr)} : ∀ {names : List (Str × NameKind)} {acc : List (Str × Addr)} {n : Str} {c : Addr}, (n, c) ∈ cloFrom cells names acc → (n, c) ∈ acc ∨ ((n, .free) ∈ names ∧ c = (cells.lookup n).getD 0)
  | [], _, _, _, h => .inl h
  | (m, k) :: r, acc, n, c, h => by
    unfold cloFrom at h
    split at h
    · rename_i hk
      have hk : k = .free := by simpa using hk
      rcases cloFrom_mem h with h | ⟨h1, h2⟩
      · rcases List.mem_cons.mp h with e | h
        · cases e; exact .inr ⟨hk ▸ List.mem_cons_self, rfl⟩
        · exact .inl h
      · exact .inr ⟨List.mem_cons_of_mem _ h1, h2⟩
    · rcases cloFrom_mem h with h | ⟨h1, h2⟩
      · exact .inl h
      · exact .inr ⟨List.mem_cons_of_mem _ h1, h2⟩
theorem cloFrom_acc {cells : List (Str × Addr)} : ∀ {names : List (Str × NameKind)} {acc : List (Str × Addr)} {p : Str × Addr}, p ∈ acc → p ∈ cloFrom cells names acc
  | [], _, _, h => h
  | (m, k) :: r, acc, p, h => by
    unfold cloFrom
    split
    · exact cloFrom_acc (List.mem_cons_of_mem _ h)
    · exact cloFrom_acc h
theorem cloFrom_has {cells : List (Str × Addr)} : ∀ {names : List (Str × NameKind)} {acc : List (Str × Addr)} {n : Str}, (n, .free) ∈ names → (n, (cells.lookup n).getD 0) ∈ cloFrom cells names acc
  | (m, k) :: r, acc, n, h => by
    unfold cloFrom
    rcases List.mem_cons.mp h with e | h
    · cases e
      exact cloFrom_acc List.mem_cons_self
    · split
      · exact cloFrom_has h
      · exact cloFrom_has h

theorem cells_mem : ∀ {names : List (Str × NameKind)} {h : Heap} {acc : List (Str × Addr)} {x : Str} {c : Addr}, (x, c) ∈ cellsFrom h.objs.size names acc →
    (x, c) ∈ acc ∨ ((x, .cell) ∈ names ∧ h.objs.size ≤ c ∧ CellAt (pushCells h names) c none)
  | [], _, _, _, _, h => .inl h
  | (n, k) :: r, h, acc, x, c, hm => by
    unfold cellsFrom at hm
    unfold pushCells
    split at hm
    · rename_i hk
      rw [if_pos hk]
      have hk : k = .cell := by simpa using hk
      rw [← Heap.size_push h { cls := .type "cell", data := .cell none }] at hm
      rcases cells_mem hm with hm | ⟨h1, h2, h3⟩
      · rcases List.mem_cons.mp hm with e | hm
        · cases e
          exact .inr ⟨hk ▸ List.mem_cons_self, Nat.le_refl _, _, pushCells_keeps r _ _ _ (Heap.get?_push_size _ rfl), rfl⟩
        · exact .inl hm
      · rw [Heap.size_push] at h2
        exact .inr ⟨List.mem_cons_of_mem _ h1, Nat.le_of_succ_le h2, h3⟩
    · rename_i hk
      rw [if_neg hk]
      rcases cells_mem hm with hm | ⟨h1, h2, h3⟩
      · exact .inl hm
      · exact .inr ⟨List.mem_cons_of_mem _ h1, h2, h3⟩
theorem cells_acc : ∀ {names : List (Str × NameKind)} {n : Nat} {acc : List (Str × Addr)} {p : Str × Addr}, p ∈ acc → p ∈ cellsFrom n names acc
  | [], _, _, _, h => h
  | (m, k) :: r, n, acc, p, h => by
    unfold cellsFrom
    split
    · exact cells_acc (List.mem_cons_of_mem _ h)
    · exact cells_acc h
theorem cells_has : ∀ {names : List (Str × NameKind)} {n : Nat} {acc : List (Str × Addr)} {x : Str}, (x, .cell) ∈ names → ∃ c, (x, c) ∈ cellsFrom n names acc
  | (m, k) :: r, n, acc, x, h => by
    unfold cellsFrom
    rcases List.mem_cons.mp h with e | h
    · cases e
      exact ⟨n, cells_acc List.mem_cons_self⟩
    · split
      · exact cells_has h
      · exact cells_has h
theorem cells_inj : ∀ {names : List (Str × NameKind)} {h : Heap} {acc : List (Str × Addr)} {x y : Str} {c : Addr}, (∀ p ∈ acc, p.2 < h.objs.size) → (∀ x y c, (x, c) ∈ acc → (y, c) ∈ acc → x = y) →
    (x, c) ∈ cellsFrom h.objs.size names acc → (y, c) ∈ cellsFrom h.objs.size names acc → x = y
  | [], _, _, _, _, _, _, hi, h1, h2 => hi _ _ _ h1 h2
  | (n, k) :: r, h, acc, x, y, c, hl, hi, h1, h2 => by
    unfold cellsFrom at h1 h2
    split at h1
    · rename_i hk
      rw [if_pos hk] at h2
      rw [← Heap.size_push h { cls := .type "cell", data := .cell none }] at h1 h2
      refine cells_inj (h := h.push _) (fun p hp => ?_) (fun x y c a b => ?_) h1 h2
      · rw [Heap.size_push]
        rcases List.mem_cons.mp hp with rfl | hp
        · exact Nat.lt_succ_self _
        · exact Nat.lt_succ_of_lt (hl p hp)
      · rcases List.mem_cons.mp a with e | a <;> rcases List.mem_cons.mp b with e' | b
        · cases e; cases e'; rfl
        · cases e; exact absurd (hl _ b) (Nat.lt_irrefl _)
        · cases e'; exact absurd (hl _ a) (Nat.lt_irrefl _)
        · exact hi _ _ _ a b
    · rename_i hk
      rw [if_neg hk] at h2
      exact cells_inj hl hi h1 h2

theorem newEnv_comp {M : Model} {A : Around} {E : Value → Shared → Prop} {s : Shared} {scope : Scope} {globals : Addr} {closure : List (Str × Addr)} {qual : Str} {func : Option Addr} {code : Value} {around : Env} {builtins : Addr} {Q : Env → Shared → Prop}
    (h : Q (newEnv scope s.heap.objs.size globals (cellsFrom (s.heap.objs.size + 1) scope.names closure) qual func code (some around) builtins)
      { s with heap := pushCells (s.heap.push { cls := .type "dict", data := .dict #[] }) scope.names }) :
    wpAny M A (newFunctionEnv scope globals closure [] qual func code (some around) builtins) Q E s := by
  simp only [newFunctionEnv, Option.isSome_some, if_true]
  refine wpAny_bind (wpAny_alloc ?_)
  refine wpAny_bind (wpAny_layCells _ (fun n k c => rfl) scope.names closure _ _ ?_)
  rw [show ({ s with heap := s.heap.push { cls := .type "dict", data := .dict #[] } } : Shared).heap.objs.size = s.heap.objs.size + 1 from Heap.size_push ..]
  rw [List.forIn_nil]
  exact wpAny_bind (wpAny_pure (wpAny_pure h))

/-- every name of the written scope, in the scope that runs -/
theorem lookup_relS {sc : Scope} : ∀ {names : List (Str × NameKind)} {x : Str} {k : NameKind},
    (names.map fun (n, k) => if (k == NameKind.free && sc.kind == .function && sc.names.lookup n == some .cell) then (n, NameKind.cell) else (n, k)).lookup x = some k →
    ∃ k', names.lookup x = some k' ∧ (k = k' ∨ (k' = .free ∧ k = .cell))
  | [], _, _, h => by simp at h
  | (n, k₀) :: r, x, k, h => by
    have ih := @lookup_relS sc r x k
    have h' : List.lookup x ((if (k₀ == NameKind.free && sc.kind == .function && sc.names.lookup n == some .cell) = true then (n, NameKind.cell) else (n, k₀)) :: (r.map _)) = some k := h
    cases hx : x == n with
    | true =>
      simp only [List.lookup_cons, hx]
      by_cases hc : (k₀ == NameKind.free && sc.kind == .function && sc.names.lookup n == some .cell) = true
      · rw [if_pos hc] at h'
        simp only [List.lookup_cons, hx] at h'
        cases h'
        simp only [Bool.and_eq_true, beq_iff_eq] at hc
        exact ⟨k₀, rfl, .inr ⟨hc.1.1, rfl⟩⟩
      · rw [if_neg hc] at h'
        simp only [List.lookup_cons, hx] at h'
        cases h'
        exact ⟨_, rfl, .inl rfl⟩
    | false =>
      simp only [List.lookup_cons, hx]
      by_cases hc : (k₀ == NameKind.free && sc.kind == .function && sc.names.lookup n == some .cell) = true
      · rw [if_pos hc] at h'
        simp only [List.lookup_cons, hx] at h'
        exact ih h'
      · rw [if_neg hc] at h'
        simp only [List.lookup_cons, hx] at h'
        exact ih h'
/-- the names of a comprehension's block: its own (with their places in N), or captured -/
structure BlkOk (N : List Str) (sc scope : Scope) (own : List (Str × Nat)) : Prop where
  kind : scope.kind = .function
  uniq : ∀ y ∈ scope.names, scope.names.lookup y.1 = some y.2
  ix : ∀ p ∈ own, N[p.2]? = some p.1
  free : ∀ y ∈ scope.names, y.2 = .free → sc.names.lookup y.1 = some .cell ∨ sc.names.lookup y.1 = some .free
  own : ∀ y ∈ scope.names, y.2 = .local ∨ y.2 = .cell → y.1 ∈ own.map (·.1) ∨ y.1 ∉ N
/-- the slots of the block's own names forgotten -/
def wipe (σ : St) : List Nat → St
  | [] => σ
  | v :: vs => (wipe σ vs).set v none
theorem wipe_length (σ : St) : ∀ vs : List Nat, (wipe σ vs).length = σ.length
  | [] => rfl
  | v :: vs => by unfold wipe; rw [List.length_set, wipe_length σ vs]
theorem wipe_some {σ : St} {i : Nat} {x : V} : ∀ {vs : List Nat}, (wipe σ vs)[i]? = some (some x) → σ[i]? = some (some x) ∧ i ∉ vs
  | [], h => ⟨h, by simp⟩
  | v :: vs, h => by
    unfold wipe at h
    by_cases hi : v = i
    · subst hi
      by_cases hv : v < (wipe σ vs).length
      · rw [List.getElem?_set_self hv] at h; cases h
      · rw [List.getElem?_eq_none (by simpa using hv)] at h; cases h
    · rw [List.getElem?_set_ne hi] at h
      obtain ⟨h1, h2⟩ := wipe_some h
      exact ⟨h1, by simp only [List.mem_cons, not_or]; exact ⟨fun e => hi e.symm, h2⟩⟩

/-- the context of a block that starts at s, its iterator's objects at fp -/
abbrev Cx.blk (X : Cx) (s : Shared) (H : Hp) (scope : Scope) (cenv : Env) (fp : List Addr) : Cx := { X with s_0 := s, H_0 := H, env := cenv, outer := X.stack, ex := fp, fn := fun x => scope.names.lookup x == some .cell, pn := [], xe := fun _ _ => False }
section
variable {X : Cx} {pins : List (Addr × Obj)} {σ : St} {H : Hp} {s : Shared}
theorem block_start {scope : Scope} {own : List (Str × Nat)} {fp : List Addr} (I : Inv X pins σ H s) (ok : BlkOk X.N X.env.scope scope own) (hN : X.N.Nodup) (hfp : ∀ b ∈ fp, FpOk X pins H b ∧ b < s.heap.objs.size) :
    Inv (X.blk s H scope (compEnvC scope (cellsFrom (s.heap.objs.size + 1) scope.names (cloFrom X.env.cells scope.names [])) s.heap.objs.size X.env) fp) [] (wipe σ (own.map (·.2))) H { s with heap := pushCells (s.heap.push { cls := .type "dict", data := .dict #[] }) scope.names } := by
  have hfree : ∀ y ∈ scope.names, y.2 = .free → ∃ c, X.env.cells.lookup y.1 = some c := fun y hy e => by
    rcases ok.free y hy e with k | k
    · exact I.ok.has _ (.inl k)
    · exact I.ok.has _ (.inr k)
  generalize hcenv : compEnvC scope (cellsFrom (s.heap.objs.size + 1) scope.names (cloFrom X.env.cells scope.names [])) s.heap.objs.size X.env = cenv
  have kp : ∀ b o, s.heap.get? b = some o → (pushCells (s.heap.push { cls := .type "dict", data := .dict #[] }) scope.names).get? b = some o := fun b o e => pushCells_keeps _ _ _ _ (Heap.get?_push_of_some _ e)
  have hL : cenv.locals = s.heap.objs.size := by rw [← hcenv]; rfl
  have hcl : cenv.cells = cellsFrom (s.heap.objs.size + 1) scope.names (cloFrom X.env.cells scope.names []) := by rw [← hcenv]; rfl
  have hsc : cenv.scope = relS scope X.env.scope := by rw [← hcenv]; rfl
  rw [← Heap.size_push s.heap { cls := .type "dict", data := .dict #[] }] at hcl
  have cm : ∀ {y c}, (y, c) ∈ cloFrom X.env.cells scope.names [] → X.env.cells.lookup y = some c ∧ c < s.heap.objs.size := fun {y c} hm => by
    rcases cloFrom_mem hm with hm | ⟨h1, rfl⟩
    · cases hm
    · obtain ⟨c, hc⟩ := hfree _ h1 rfl
      rw [hc]
      obtain ⟨w, z⟩ := I.cell _ _ hc
      exact ⟨rfl, z.lt⟩
  have mem : ∀ {y c}, cenv.cells.lookup y = some c → (X.env.cells.lookup y = some c ∧ c < s.heap.objs.size) ∨ (s.heap.objs.size + 1 ≤ c ∧ CellAt (pushCells (s.heap.push { cls := .type "dict", data := .dict #[] }) scope.names) c none) := fun {y c} e => by
    rw [hcl] at e
    rcases cells_mem (PySem.mem_of_lookup e) with hm | ⟨_, h2, h3⟩
    · exact .inl (cm hm)
    · rw [Heap.size_push] at h2; exact .inr ⟨h2, h3⟩
  have look : ∀ {y}, scope.names.lookup y = some .free → ∃ c, cenv.cells.lookup y = some c ∧ X.env.cells.lookup y = some c := fun {y} hl => by
    have hy : (y, NameKind.free) ∈ scope.names := PySem.mem_of_lookup hl
    obtain ⟨c', e'⟩ := mem_lookup (cells_acc (names := scope.names) (n := (s.heap.push { cls := .type "dict", data := .dict #[] }).objs.size) (cloFrom_has (cells := X.env.cells) (acc := []) hy))
    rw [← hcl] at e'
    refine ⟨c', e', ?_⟩
    rw [hcl] at e'
    rcases cells_mem (PySem.mem_of_lookup e') with hm | ⟨h1, _, _⟩
    · exact (cm hm).1
    · have := ok.uniq _ h1
      rw [hl] at this; cases this
  have okB : (X.blk s H scope cenv fp).Ok := by
    refine ⟨I.ok.mod, by show cenv.scope.kind = _; rw [hsc]; exact ok.kind, by show cenv.globals = _; rw [← hcenv]; exact I.ok.glob, by show cenv.builtins = _; rw [← hcenv]; exact I.ok.blt, by show s.heap.objs.size ≤ cenv.locals; rw [hL]; exact Nat.le_refl _,
      fun y z c e1 e2 => ?_, fun y hy => ?_, fun y c z e => ?_, I.ok.hd, I.ok.frames, .inl rfl, fun b hb => ⟨?_, fun y c e z => ?_⟩, I.bs, Nat.le_trans I.ok.bsz I.sz, fun b o e hb => ?_, fun b hb z => ?_, I.stack, I.stkFree⟩
    · have e1 : cenv.cells.lookup y = some c := e1
      have e2 : cenv.cells.lookup z = some c := e2
      rw [hcl] at e1 e2
      refine cells_inj (fun p hp => ?_) (fun y z c a b => I.ok.inj y z c (cm a).1 (cm b).1) (PySem.mem_of_lookup e1) (PySem.mem_of_lookup e2)
      rw [Heap.size_push]
      exact Nat.lt_succ_of_lt (cm (y := p.1) (c := p.2) hp).2
    · show ∃ c, cenv.cells.lookup y = some c
      have key : ∀ k, cenv.kindOf y = some k → (k = .cell ∨ k = .free) → ∃ c, cenv.cells.lookup y = some c := fun k hk hk' => by
        unfold Env.kindOf at hk
        rw [hsc] at hk
        obtain ⟨k', e, r⟩ := lookup_relS hk
        have : k' = .cell ∨ k' = .free := by
          rcases r with rfl | ⟨rfl, _⟩
          · exact hk'
          · exact .inr rfl
        rcases this with rfl | rfl
        · obtain ⟨c, hm⟩ := cells_has (n := (s.heap.push { cls := .type "dict", data := .dict #[] }).objs.size) (acc := cloFrom X.env.cells scope.names []) (PySem.mem_of_lookup e)
          obtain ⟨c', e'⟩ := mem_lookup hm
          exact ⟨c', by rw [hcl]; exact e'⟩
        · obtain ⟨c, h1, _⟩ := look e
          exact ⟨c, h1⟩
      rcases hy with hy | hy
      · exact key _ hy (.inl rfl)
      · exact key _ hy (.inr rfl)
    · have z : (scope.names.lookup y == some NameKind.cell) = true := z
      have z : scope.names.lookup y = some .cell := by simpa using z
      have e : cenv.cells.lookup y = some c := e
      rw [hcl] at e
      rcases cells_mem (PySem.mem_of_lookup e) with hm | ⟨_, h2, _⟩
      · rcases cloFrom_mem hm with hm | ⟨h1, _⟩
        · cases hm
        · have q := ok.uniq _ h1
          rw [z] at q; cases q
      · rw [Heap.size_push] at h2
        exact Nat.le_of_succ_le h2
    · show b ≠ cenv.locals
      rw [hL]; exact Nat.ne_of_lt (hfp b hb).2
    · have e : cenv.cells.lookup y = some c := e
      rcases mem e with ⟨h1, _⟩ | ⟨h1, _⟩
      · exact (hfp b hb).1.2.2.2.2.1 y c h1 z
      · have h2 : s.heap.objs.size + 1 ≤ b := by rw [← z]; exact h1
        exact absurd (Nat.lt_of_lt_of_le (hfp b hb).2 (Nat.le_of_succ_le h2)) (Nat.lt_irrefl _)
    · rcases (hfp b hb).1.2.2.2.1 with z | z
      · exact I.ok.noex b o e z
      · exact absurd (Nat.lt_of_lt_of_le (Heap.lt_size e) (Nat.le_trans I.ok.bsz z)) (Nat.lt_irrefl _)
    · rcases List.mem_cons.mp (I.stkSub b z) with z | z
      · exact (hfp b hb).1.2.1 z
      · exact (hfp b hb).1.2.2.1 z
  refine ⟨okB, rfl, I.bare, Un.kept kp, ⟨fun _ => none, ?_, fun i y av e1 e2 e3 => ?_⟩, fun y c e => ?_, ?_, fun y c e => ?_, fun p hp => ?_, I.hok.kept kp, by rw [wipe_length]; exact I.len⟩
  · show Heap.Ns _ cenv.locals _
    rw [hL]
    exact Heap.Ns.keeps (Heap.Ns.new ..) fun b o e => pushCells_keeps _ _ _ _ e
  · obtain ⟨e2, hne⟩ := wipe_some e2
    have hfr : scope.names.lookup y = some .free ∧ (cenv.kindOf y = some .cell ∨ cenv.kindOf y = some .free) := by
      have key : ∀ k, cenv.scope.names.lookup y = some k → k = .local ∨ k = .cell ∨ k = .free → scope.names.lookup y = some .free ∧ (cenv.kindOf y = some .cell ∨ cenv.kindOf y = some .free) := fun k hk hk' => by
        have hk0 := hk
        rw [hsc] at hk
        obtain ⟨k', e, r⟩ := lookup_relS hk
        have no : ¬ (k' = .local ∨ k' = .cell) := fun hh => by
          rcases ok.own _ (PySem.mem_of_lookup e) hh with e' | e'
          · obtain ⟨p, hp, hpy⟩ := List.mem_map.mp e'
            have e3 := ok.ix p hp
            have : p.1 = y := hpy
            rw [this] at e3
            exact hne (List.mem_map.mpr ⟨p, hp, nodup_ix hN e3 e1⟩)
          · exact e' (List.mem_of_getElem? e1)
        rcases r with rfl | ⟨rfl, rfl⟩
        · rcases hk' with rfl | rfl | rfl
          · exact absurd (.inl rfl) no
          · exact absurd (.inr rfl) no
          · exact ⟨e, .inr hk0⟩
        · exact ⟨e, .inl hk0⟩
      have e3 : Vis cenv.scope y := e3
      rcases e3 with e3 | e3 | e3
      · exact key _ e3 (.inl rfl)
      · exact key _ e3 (.inr (.inl rfl))
      · exact key _ e3 (.inr (.inr rfl))
    obtain ⟨m, hn, hl⟩ := I.loc
    have hvis : Vis X.env.scope y := (ok.free _ (PySem.mem_of_lookup hfr.1) rfl).elim (fun k => .inr (.inl k)) (fun k => .inr (.inr k))
    obtain ⟨w, r, q⟩ := hl i y av e1 e2 hvis
    refine ⟨w, r, .inr ⟨hfr.2, ?_⟩⟩
    obtain ⟨c, h1, h2⟩ := look hfr.1
    rcases q with ⟨k, _⟩ | ⟨_, c', e', z⟩
    · have k : X.env.scope.names.lookup y = some .local := k
      rcases ok.free _ (PySem.mem_of_lookup hfr.1) rfl with k' | k' <;> rw [show X.env.scope.names.lookup y = _ from k'] at k <;> cases k
    · rw [h2] at e'; cases e'
      exact ⟨c, h1, z.keeps kp⟩
  · have e : cenv.cells.lookup y = some c := e
    rcases mem e with ⟨h1, _⟩ | ⟨_, z⟩
    · obtain ⟨w, z⟩ := I.cell y c h1
      exact ⟨w, z.keeps kp⟩
    · exact ⟨_, z⟩
  · show H cenv.locals = none
    rw [hL]; exact I.hok.fresh (Nat.le_refl _)
  · have e : cenv.cells.lookup y = some c := e
    rcases mem e with ⟨h1, _⟩ | ⟨h1, _⟩
    · exact I.freeC y c h1
    · exact I.hok.fresh (Nat.le_of_succ_le h1)
  · exact absurd (show p ∈ ([] : List (Addr × Obj)) ++ [] from hp) (by simp)

/-- an item appended to a tracked list -/
theorem app_ok {E : Value → Shared → Prop} {D : Addr} {xs : List V} {y : V} {v : Value} {Q : Value → Shared → Prop} (I : Inv X pins σ H s) (hD : H D = some (.lst xs)) (hz : xs.length < sizeLine) (r : RelV y v)
    (h : ∀ s', Inv X pins σ (upd H D (.lst (xs ++ [y]))) s' → Q .none s') : wpAny (model X.prog X.w) X.A (call (.builtin "list.append") [.ref D, v]) Q E s := by
  obtain ⟨hz', its, n, ri, e⟩ := I.hok D _ hD
  have hl := ri.length
  refine append_at (hsz := by rw [List.size_toArray]; omega) e fun h' sb ho' => ?_
  refine h { s with heap := h' } (I.write (t' := s.toks) (by rw [hD]; trivial) (.inl rfl) (fun b u hb q => (sb.2 b hb).trans q) ⟨_, ho'⟩ ⟨by rw [List.length_append]; exact hz, its ++ [v], n + 1, ri.append (.cons r .nil), ?_⟩)
  rw [ho']
  simp

/-- a clause's tests -/
def PTs (X : Cx) (ifs : List Expr) (t : TT) : Prop :=
  ∀ (pins : List (Addr × Obj)) (s : Shared) (σ : St) (H : Hp) (Q : Bool → Hp → Prop), Inv X pins σ H s → t σ H Q →
    wpAny (model X.prog X.w) X.A (forIn ifs true fun c r => if r = true then do let ok ← isTrue c X.env (eval c X.env); pure (ForInStep.yield ok) else pure (ForInStep.yield r)) (TP X pins σ Q) X.xe s
def tYes : TT := fun _ H Q => Q true H
theorem pts_nil : PTs X [] tYes := fun _ _ _ H _ I h => wpAny_tests_nil ⟨H, I, h⟩
theorem pts_one {c : Expr} {t : TT} (h : PT X c t) : PTs X [c] t := fun pins s σ H Q I hw => wpAny_tests_one (h pins s σ H Q I hw)
end

theorem thnF {α : Type} {t : Sem α} {Q Q' : α → Shared → Prop} {M : Model} {A : Around} {E : Value → Shared → Prop} {s : Shared} (h : wpAny M A t Q (fun _ _ => False) s) (hQ : ∀ a s, Q a s → Q' a s) : wpAny M A t Q' E s := wpAny_mono h hQ fun _ _ z => False.elim z

/-- the loop of a list comprehension's block, the target of any form (codeAny_compLoop_tests asks a target that no tuple goes to; statement and proof follow it, PyProof/CompMap.lean:41-61, with the step letOwnedTupleGo kept) -/
theorem compLoop_any {prog : Program} {w : World} {A : Around} {R : Result → Shared → Prop} {s : Shared} {elt target iter : Expr} {ifs : List Expr} {scope : Scope} {pos : Pos} {it acc : Value} {env : Env} (I : Nat → Shared → Prop)
    (turn : ∀ n s, I n s → wpAny (model prog w) A (pyNext it) (fun r s₁ => match r with
      | none => R (.ok .next) s₁
      | some v => wpAny (model prog w) A (letOwnedTupleGo target it v) (fun _ s₁' => wpAny (model prog w) A (assign target env v) (fun _ s₂ =>
          wpAny (model prog w) A (forIn ifs true fun c r => if r = true then do let ok ← isTrue c env (eval c env); pure (ForInStep.yield ok) else pure (ForInStep.yield r)) (fun ok s₃ =>
            if ok = true then wpAny (model prog w) A (eval elt env) (fun x s₄ =>
              wpAny (model prog w) A (call (.builtin "list.append") [acc, x]) (fun _ s₅ => ∃ m, m < n ∧ I m s₅) (notedBy (model prog w) A env fun e s' => R (.error e) s') s₄) (notedBy (model prog w) A env fun e s' => R (.error e) s') s₃
            else ∃ m, m < n ∧ I m s₃) (notedBy (model prog w) A env fun e s' => R (.error e) s') s₂) (notedBy (model prog w) A env fun e s' => R (.error e) s') s₁') (notedBy (model prog w) A env fun e s' => R (.error e) s') s₁) (notedBy (model prog w) A env fun e s' => R (.error e) s') s)
    (n : Nat) (h : I n s) :
    codeAny (model prog w) A (.compLoop (.ListComp elt [⟨target, iter, ifs, 0⟩] scope pos) 0 it acc env) R s := by
  refine codeAny_loop rfl I (fun n s hI => ?_) n h
  show wpAny _ A ((compTurn (.ListComp elt [⟨target, iter, ifs, 0⟩] scope pos) 0 it acc env).onRaise (fun x => do noteFrame x env; theTreesLotGoes x)) _ _ s
  refine wpAny_noted ?_
  rw [compTurn_list]
  refine wpAny_bind (wpAny_standAt (wpAny_bind (wpAny_mono (turn n s hI) (fun r s₁ h₁ => ?_) fun _ _ h' => h')))
  cases r with
  | none => exact wpAny_pure h₁
  | some v =>
    refine wpAny_bind (wpAny_mono h₁ (fun _ s₁' h₁' => ?_) fun _ _ h' => h')
    refine wpAny_bind (wpAny_mono h₁' (fun _ s₂ h₂ => wpAny_bind (wpAny_mono h₂ (fun ok s₃ h₃ => ?_) fun _ _ h' => h')) fun _ _ h' => h')
    cases ok with
    | false => exact wpAny_pure ⟨rfl, h₃⟩
    | true =>
      exact wpAny_bind (wpAny_bind (wpAny_mono h₃ (fun x s₄ h₄ => wpAny_bind (wpAny_mono h₄ (fun _ s₅ h₅ => wpAny_pure (wpAny_pure ⟨rfl, h₅⟩)) fun _ _ h' => h')) fun _ _ h' => h'))

section
variable {X : Cx}
/-- [elt for target in iter if ..]: D the new list; W by the turn and a measure, Nx what a turn is to reach -/
def tLc (wi : TI) (g : TG) (tt : TT) (te : TE) (vs : List Nat) : TE := fun σ H Q => wi σ H fun J H1 => ∀ D, H1 D = none → ∃ W : Nat → Nat → Hp → Prop, (∃ m, W 0 m (upd H1 D (.lst []))) ∧ ∀ i m H, W i m H →
  (J.stop i H ∧ Q (.ref D) H) ∨ (J.go i H ∧ ∃ Nx : Hp → Prop, (∀ H', Nx H' → ∃ m', m' < m ∧ W (i + 1) m' H') ∧ ∀ x H', J.yld i H x H' → g x (wipe σ vs) H' fun σ2 H2 => wipe σ2 vs = wipe σ vs ∧ tt σ2 H2 fun b H3 =>
    if b = true then te σ2 H3 fun y H4 => ∃ acc, H4 D = some (.lst acc) ∧ acc.length < sizeLine ∧ Nx (upd H4 D (.lst (acc ++ [y]))) else Nx H3)
theorem lc_core {pins : List (Addr × Obj)} {s : Shared} {σ : St} {H : Hp} {Q : VK} {elt tg iter : Expr} {ifs : List Expr} {scope : Scope} {own : List (Str × Nat)} {pos pos' : Pos} {wi : TI} {g : TG} {tt : TT} {te : TE} {use : Option (Value → Sem Unit)} {Qf : Value → Shared → Prop}
    (hc : X.calm = true) (hN : X.N.Nodup) (I : Inv X pins σ H s) (hi : PI X tg iter wi) (ok : BlkOk X.N X.env.scope scope own)
    (hg : ∀ (s : Shared) (H : Hp) (C : Addr) (cl : List (Str × Addr)) (fp : List Addr), PG (X.blk s H scope (compEnvC scope cl C X.env) fp) tg g) (ht : ∀ (s : Shared) (H : Hp) (C : Addr) (cl : List (Str × Addr)) (fp : List Addr), PTs (X.blk s H scope (compEnvC scope cl C X.env) fp) ifs tt)
    (he : ∀ (s : Shared) (H : Hp) (C : Addr) (cl : List (Str × Addr)) (fp : List Addr), PE (X.blk s H scope (compEnvC scope cl C X.env) fp) elt te) (hs : ∀ x, foldedSetIterable iter X.env x = pure x)
    (h : tLc wi g tt te (own.map (·.2)) σ H Q)
    (hRR : ∀ D C s' m H', Inv X pins σ H' s' → Q (.ref D) H' → s'.heap.Ns C m → FpOk X pins H' C → compPost (model X.prog X.w) X.A X.xe use Qf (.ref D) C (.ok .next) s') :
    wpAny (model X.prog X.w) X.A (comprehension (.ListComp elt [⟨tg, iter, ifs, 0⟩] scope pos) scope X.env pos' (newList []) false (eval iter X.env) use) Qf X.xe s := by
  have hfree : ∀ y ∈ scope.names, y.2 = .free → ∃ c, X.env.cells.lookup y.1 = some c := fun y hy e => by
    rcases ok.free y hy e with k | k
    · exact I.ok.has _ (.inl k)
    · exact I.ok.has _ (.inr k)
  refine wpAny_comprehension_free (use := use) rfl hs (closure_ok hfree) ok.kind (fun y hy e => by rw [ok.uniq y hy, e])
    (thn (hi pins s σ H _ I h) fun xv s1 hx => thn hx fun itv s2 h2 => ?_)
  obtain ⟨it, fp, tn, J, H2, e, I2, T, st2, f2, q⟩ := h2
  subst e
  refine wpAny_newObj_type (newEnv_comp ?_) (by show 0 ≤ sizeLine; decide)
  generalize hD : s2.heap.objs.size = D
  have hDn : H2 D = none := I2.hok.fresh (Nat.le_of_eq hD)
  obtain ⟨W, ⟨m0, w0⟩, turn⟩ := q D hDn
  -- the new list
  generalize hs3 : ({ s2 with heap := s2.heap.push { cls := .type "list", data := .seq ([] : List Value).toArray } } : Shared) = s3
  have I3 : Inv X pins σ (upd H2 D (.lst [])) s3 := by
    rw [← hs3]
    refine I2.laid (t' := s2.toks) (fun b o e => Heap.get?_push_of_some _ e) (Nat.le_of_eq hD) ⟨Nat.zero_le _, [], 0, .nil, ?_⟩
    rw [← hD]
    exact Heap.get?_push_size _ rfl
  have h3 : s3.heap = s2.heap.push { cls := .type "list", data := .seq ([] : List Value).toArray } := by rw [← hs3]
  have sz : ∀ b ∈ fp, b < s2.heap.objs.size := fun b hb => by
    obtain ⟨o, e, _⟩ := T.obj _ _ st2 b hb
    exact Heap.lt_size e
  have f3 : ∀ b ∈ fp, FpOk X pins (upd H2 D (.lst [])) b ∧ b < s3.heap.objs.size := fun b hb => by
    have hlt := sz b hb
    refine ⟨⟨?_, (f2 b hb).2⟩, by rw [h3, Heap.size_push]; exact Nat.lt_succ_of_lt hlt⟩
    rw [upd_ne (by rw [← hD]; exact Nat.ne_of_lt hlt)]
    exact (f2 b hb).1
  have st3 : tn 0 s3.heap := T.keep _ _ _ st2 fun b _ o e => by rw [h3]; exact Heap.get?_push_of_some _ e
  have I4 := block_start I3 ok hN f3
  have pg := hg s3 (upd H2 D (.lst [])) s3.heap.objs.size (cellsFrom (s3.heap.objs.size + 1) scope.names (cloFrom X.env.cells scope.names [])) fp
  have pt := ht s3 (upd H2 D (.lst [])) s3.heap.objs.size (cellsFrom (s3.heap.objs.size + 1) scope.names (cloFrom X.env.cells scope.names [])) fp
  have pe := he s3 (upd H2 D (.lst [])) s3.heap.objs.size (cellsFrom (s3.heap.objs.size + 1) scope.names (cloFrom X.env.cells scope.names [])) fp
  show codeAny _ _ (.compStart (.ListComp elt [⟨tg, iter, ifs, 0⟩] scope pos) 0 (.ref it) (.ref D) (compEnvC scope (cellsFrom (s3.heap.objs.size + 1) scope.names (cloFrom X.env.cells scope.names [])) s3.heap.objs.size X.env)) (compPost (model X.prog X.w) X.A X.xe use Qf (.ref D) s3.heap.objs.size) { s3 with heap := pushCells (s3.heap.push { cls := .type "dict", data := .dict #[] }) scope.names }
  have nfp : ∀ b ∈ fp, (upd H2 D (.lst [])) b = none := fun b hb => (f3 b hb).1.1
  generalize hce : compEnvC scope (cellsFrom (s3.heap.objs.size + 1) scope.names (cloFrom X.env.cells scope.names [])) s3.heap.objs.size X.env = ce at I4 pg pt pe ⊢
  have cL : ce.locals = s3.heap.objs.size := by subst hce; rfl
  generalize hH3 : upd H2 D (.lst []) = H3 at I3 I4 pg pt pe w0 nfp f3
  generalize hs4 : ({ s3 with heap := pushCells (s3.heap.push { cls := .type "dict", data := .dict #[] }) scope.names } : Shared) = s4 at I4 ⊢
  have st4 : tn 0 s4.heap := T.keep _ _ _ st3 fun b _ o e => by rw [← hs4]; exact pushCells_keeps _ _ _ _ (Heap.get?_push_of_some _ e)
  have stat : ∀ {σ' : St} {H' : Hp} {s' : Shared}, Inv (X.blk s3 H3 scope ce fp) [] σ' H' s' → (∀ b ∈ fp, H' b = none) → ∀ b ∈ fp, FpOk (X.blk s3 H3 scope ce fp) [] H' b := fun {σ' H' s'} I' hn b hb =>
    ⟨hn b hb, (I'.ok.exf b hb).1, I'.ok.exfs b hb, .inl hb, fun x c e => (I'.ok.exf b hb).2 x c e, fun p hp => absurd (show p ∈ ([] : List (Addr × Obj)) ++ [] from hp) (by simp)⟩
  have loop : codeAny (model X.prog X.w) X.A (.compLoop (.ListComp elt [⟨tg, iter, ifs, 0⟩] scope pos) 0 (.ref it) (.ref D) ce) (compPost (model X.prog X.w) X.A X.xe use Qf (.ref D) s3.heap.objs.size) s4 := by
    refine compLoop_any (fun n s' => ∃ i H', Inv (X.blk s3 H3 scope ce fp) [] (wipe σ (own.map (·.2))) H' s' ∧ tn i s'.heap ∧ (∀ b ∈ fp, H' b = none) ∧ W i n H') ?_ m0 ⟨0, H3, I4, st4, nfp, w0⟩
    rintro n s5 ⟨i, H5, I5, st5, n5, w5⟩
    rcases turn i n H5 w5 with ⟨stop, qq⟩ | ⟨go, Nx, hNx, step⟩
    · have td := T.done (X.blk s3 H3 scope ce fp) rfl rfl rfl hc i [] s5 _ H5 (fun _ _ => False) I5 (stat I5 n5) st5 stop
      refine thnF td fun r s6 ⟨hr, I6⟩ => ?_
      subst hr
      -- back in the def's context
      have I7 : Inv X pins σ H5 s6 := I3.call' (ch := fp) I6.os I6.base I6.hok I6.bare fun b hb => ⟨(f3 b hb).1.2.2.2.1, (f3 b hb).1.2.1, (f3 b hb).1.2.2.2.2.1, (f3 b hb).1.2.2.2.2.2⟩
      have nC : H5 s3.heap.objs.size = none := by
        have z : H5 ce.locals = none := I6.free
        rw [cL] at z
        exact z
      obtain ⟨m, hn, _⟩ := I6.loc
      have hn : s6.heap.Ns ce.locals m := hn
      rw [cL] at hn
      exact hRR D s3.heap.objs.size s6 m H5 I7 qq hn (I3.fpOk (Nat.le_refl _) nC)
    · have ti := T.item (X.blk s3 H3 scope ce fp) rfl rfl rfl hc i [] s5 _ H5 (fun _ _ => False) I5 (stat I5 n5) st5 go
      refine thnF ti fun r s6 ⟨u, hr, h6⟩ => ?_
      subst hr
      refine thnF h6 fun _ s7 ⟨x, H7, I7, r7, y7, st7, n7⟩ => ?_
      have I7' := I7.pinned (stat I7 n7) (T.obj _ _ st7)
      refine thnF (pg _ s7 _ H7 x u _ I7' r7 (step x H7 y7)) fun _ s8 ⟨σ8, H8, I8, hw8, q8⟩ => ?_
      refine thnF (pt _ s8 σ8 H8 _ I8 q8) fun b s9 ⟨H9, I9, q9⟩ => ?_
      -- the turn's end
      have fin : ∀ {s' : Shared} {H' : Hp}, Inv (X.blk s3 H3 scope ce fp) ([] ++ pinsAt fp s7.heap) σ8 H' s' → Nx H' → ∃ m, m < n ∧ ∃ i H', Inv (X.blk s3 H3 scope ce fp) [] (wipe σ (own.map (·.2))) H' s' ∧ tn i s'.heap ∧ (∀ b ∈ fp, H' b = none) ∧ W i m H' := fun {s' H'} I' nx => by
        obtain ⟨m', hm, w'⟩ := hNx H' nx
        have pin' : ∀ b ∈ fp, ∀ o, s7.heap.get? b = some o → s'.heap.get? b = some o ∧ H' b = none := fun b hb o e =>
          let z := I'.pin (b, o) (List.mem_append_right _ (List.mem_append_right _ (mem_pinsAt hb e)))
          ⟨z.1, z.2.1⟩
        have hl : (wipe σ (own.map (·.2))).length = σ8.length := by rw [← hw8, wipe_length]
        refine ⟨m', hm, i + 1, H', (I'.unpinned (pins := [])).weak hl (fun j v e => ?_), T.keep _ _ _ st7 fun b hb o e => (pin' b hb o e).1, fun b hb => ?_, w'⟩
        · rw [← hw8] at e
          exact (wipe_some e).1
        · obtain ⟨o, e, _⟩ := T.obj _ _ st7 b hb
          exact (pin' b hb o e).2
      cases b with
      | false =>
        simp only [Bool.false_eq_true, if_false] at q9 ⊢
        exact fin I9 q9
      | true =>
        simp only [if_true] at q9 ⊢
        refine thnF (pe _ s9 σ8 H9 _ I9 q9) fun z s10 ⟨yv, H10, I10, r10, acc, hD10, hz10, nx⟩ => ?_
        exact app_ok (X := X.blk s3 H3 scope ce fp) I10 hD10 hz10 r10 fun s11 I11 => fin I11 nx
  exact codeAny_compStart_list loop (T.self X.A 0 _ _ _ st4 loop)
/-- as a value -/
theorem pe_lc {elt tg iter : Expr} {ifs : List Expr} {scope : Scope} {own : List (Str × Nat)} {pos : Pos} {wi : TI} {g : TG} {tt : TT} {te : TE} (hc : X.calm = true) (hN : X.N.Nodup) (hi : PI X tg iter wi) (ok : BlkOk X.N X.env.scope scope own)
    (hg : ∀ (s : Shared) (H : Hp) (C : Addr) (cl : List (Str × Addr)) (fp : List Addr), PG (X.blk s H scope (compEnvC scope cl C X.env) fp) tg g) (ht : ∀ (s : Shared) (H : Hp) (C : Addr) (cl : List (Str × Addr)) (fp : List Addr), PTs (X.blk s H scope (compEnvC scope cl C X.env) fp) ifs tt)
    (he : ∀ (s : Shared) (H : Hp) (C : Addr) (cl : List (Str × Addr)) (fp : List Addr), PE (X.blk s H scope (compEnvC scope cl C X.env) fp) elt te) (hs : ∀ x, foldedSetIterable iter X.env x = pure x := by intro _; rfl) :
    PE X (.ListComp elt [⟨tg, iter, ifs, 0⟩] scope pos) (tLc wi g tt te (own.map (·.2))) := by
  intro pins s σ H Q I h
  rw [eval_ListComp]
  refine lc_core hc hN I hi ok hg ht he hs h fun D C s' m H' I' q hn f => ⟨m, hn, fun h'' sb => ?_⟩
  obtain ⟨f0, f1, f2, f3, f4, f5⟩ := f
  exact ⟨.ref D, H', I'.turned (t' := s'.toks) (fun b o hb e => (sb.2 b hb).trans e) f0 f1 f3 f4 f5, rfl, q⟩
/-- name = [..] on one line, the name a local -/
theorem ps_setLc {i : Nat} {y : Str} {py : Pos} {elt tg iter : Expr} {ifs : List Expr} {scope : Scope} {own : List (Str × Nat)} {pos spos : Pos} {wi : TI} {g : TG} {tt : TT} {te : TE} (hc : X.calm = true) (hN : X.N.Nodup) (hy : X.N[i]? = some y) (hyl : X.env.scope.names.lookup y = some .local)
    (hsw : swapsWith (.ListComp elt [⟨tg, iter, ifs, 0⟩] scope pos) (some (.Name y py)) spos.line X.env = pure true) (hi : PI X tg iter wi) (ok : BlkOk X.N X.env.scope scope own)
    (hg : ∀ (s : Shared) (H : Hp) (C : Addr) (cl : List (Str × Addr)) (fp : List Addr), PG (X.blk s H scope (compEnvC scope cl C X.env) fp) tg g) (ht : ∀ (s : Shared) (H : Hp) (C : Addr) (cl : List (Str × Addr)) (fp : List Addr), PTs (X.blk s H scope (compEnvC scope cl C X.env) fp) ifs tt)
    (he : ∀ (s : Shared) (H : Hp) (C : Addr) (cl : List (Str × Addr)) (fp : List Addr), PE (X.blk s H scope (compEnvC scope cl C X.env) fp) elt te) (hs : ∀ x, foldedSetIterable iter X.env x = pure x := by intro _; rfl) :
    PS X (.Assign [.Name y py] (.ListComp elt [⟨tg, iter, ifs, 0⟩] scope pos) spos) (tAsg (tLc wi g tt te (own.map (·.2))) (gName i)) := by
  intro pins s σ H D I h
  rw [exec_Assign_Name_used _ _ _ _ hsw]
  refine wpAny_bind (wpAny_standAt (wpAny_bind ?_))
  show wpAny _ X.A (do let _ ← comprehension (.ListComp elt [⟨tg, iter, ifs, 0⟩] scope pos) scope X.env (firstIterPos [⟨tg, iter, ifs, 0⟩] pos) (newList []) false (eval iter X.env) (some (assign (.Name y py) X.env))) _ _ s
  have h : tLc wi g tt te (own.map (·.2)) σ H (fun x H1 => gName i x σ H1 D.nx) := h
  refine wpAny_bind (thn (lc_core (Qf := fun _ s' => SP X pins D .next s') hc hN I hi ok hg ht he hs h fun L C s' m H' I' q hn f => ?_) fun _ s' hq => wpAny_pure (wpAny_pure hq))
  show wpAny _ _ (assign (.Name y py) X.env (.ref L)) _ _ _
  refine wpAny_assign_Name (store_ok2 (v := V.ref L) I' hN hy (.inl hyl) rfl (fun s2 I2 ⟨a, sb, ha⟩ => ?_) (.inr hyl))
  obtain ⟨f0, f1, f2, f3, f4, f5⟩ := f
  have haC : C ≠ a := by
    rcases ha with z | z
    · rw [z]; exact f1
    · exact fun e => f4 y a z e.symm
  refine ⟨m, hn.sameBut sb haC, fun h3 sb3 => ?_⟩
  exact ⟨_, H', I2.turned (t' := s2.toks) (fun b o hb e => (sb3.2 b hb).trans e) f0 f1 f3 f4 f5, q⟩
theorem sw_true {elt : Expr} {gs : List Comprehension} {scope : Scope} {pos py : Pos} {y : Str} {l : Nat} {env : Env} (hk : env.scope.kind = .function) (hy : env.scope.names.lookup y = some .local) (hl : (py.line == pos.line) = true)
    (ha : (scope.names.any fun (n, k) => n == y && (k == .local || k == .cell)) = false) : swapsWith (.ListComp elt gs scope pos) (some (.Name y py)) l env = pure true := by
  have ky : env.kindOf y = some .local := hy
  have hb : env.blockKind = .function := by unfold Env.blockKind; rw [hk]; rfl
  unfold swapsWith
  simp only [hb, ky, ha, Expr.pos, hl]
  rfl
end

/-! ### the forms one uses -/
/-- over a range: Pv by the turn and the heap (the new list at D within) -/
theorem lc_range {lo : Int} {n : Nat} {g : TG} {tt : TT} {te : TE} {vs : List Nat} {σ : St} {H1 : Hp} {D : Addr} {Qd : Hp → Prop} (Pv : Nat → Hp → Prop) (h0 : Pv 0 (upd H1 D (.lst [])))
    (hs : ∀ i H, i < n → Pv i H → g (.int (lo + i)) (wipe σ vs) H fun σ2 H2 => wipe σ2 vs = wipe σ vs ∧ tt σ2 H2 fun b H3 =>
      if b = true then te σ2 H3 fun y H4 => ∃ acc, H4 D = some (.lst acc) ∧ acc.length < sizeLine ∧ Pv (i + 1) (upd H4 D (.lst (acc ++ [y]))) else Pv (i + 1) H3) (hd : ∀ H, Pv n H → Qd H) :
    ∃ W : Nat → Nat → Hp → Prop, (∃ m, W 0 m (upd H1 D (.lst []))) ∧ ∀ i m H, W i m H →
      ((Itr lo n).stop i H ∧ Qd H) ∨ ((Itr lo n).go i H ∧ ∃ Nx : Hp → Prop, (∀ H', Nx H' → ∃ m', m' < m ∧ W (i + 1) m' H') ∧ ∀ x H', (Itr lo n).yld i H x H' → g x (wipe σ vs) H' fun σ2 H2 => wipe σ2 vs = wipe σ vs ∧ tt σ2 H2 fun b H3 =>
        if b = true then te σ2 H3 fun y H4 => ∃ acc, H4 D = some (.lst acc) ∧ acc.length < sizeLine ∧ Nx (upd H4 D (.lst (acc ++ [y]))) else Nx H3) := by
  refine ⟨fun i m H => m = n - i ∧ i ≤ n ∧ Pv i H, ⟨n, by simp, Nat.zero_le _, h0⟩, ?_⟩
  rintro i m H ⟨rfl, hi, p⟩
  by_cases hlt : i < n
  · refine .inr ⟨hlt, Pv (i + 1), fun H' p' => ⟨n - (i + 1), by omega, rfl, hlt, p'⟩, fun x H' y => ?_⟩
    obtain ⟨e, y⟩ := y
    subst e y
    exact hs i _ hlt p
  · have e : i = n := by omega
    subst e
    exact .inl ⟨Nat.le_refl _, hd H p⟩
/-- over a list that the block leaves as it is -/
theorem lc_list {K : PySem.W.Frag} {a : Addr} {xs : List V} {g : TG} {tt : TT} {te : TE} {vs : List Nat} {σ : St} {H1 : Hp} {D : Addr} {Qd : Hp → Prop} (Pv : Nat → Hp → Prop) (h0 : Pv 0 (upd H1 D (.lst []))) (hl : ∀ i H, i ≤ xs.length → Pv i H → SqL K H a xs)
    (hs : ∀ i x H, xs[i]? = some x → Pv i H → g x (wipe σ vs) H fun σ2 H2 => wipe σ2 vs = wipe σ vs ∧ tt σ2 H2 fun b H3 =>
      if b = true then te σ2 H3 fun y H4 => ∃ acc, H4 D = some (.lst acc) ∧ acc.length < sizeLine ∧ Pv (i + 1) (upd H4 D (.lst (acc ++ [y]))) else Pv (i + 1) H3) (hd : ∀ H, Pv xs.length H → Qd H) :
    ∃ W : Nat → Nat → Hp → Prop, (∃ m, W 0 m (upd H1 D (.lst []))) ∧ ∀ i m H, W i m H →
      ((Itl K a).stop i H ∧ Qd H) ∨ ((Itl K a).go i H ∧ ∃ Nx : Hp → Prop, (∀ H', Nx H' → ∃ m', m' < m ∧ W (i + 1) m' H') ∧ ∀ x H', (Itl K a).yld i H x H' → g x (wipe σ vs) H' fun σ2 H2 => wipe σ2 vs = wipe σ vs ∧ tt σ2 H2 fun b H3 =>
        if b = true then te σ2 H3 fun y H4 => ∃ acc, H4 D = some (.lst acc) ∧ acc.length < sizeLine ∧ Nx (upd H4 D (.lst (acc ++ [y]))) else Nx H3) := by
  refine ⟨fun i m H => m = xs.length - i ∧ i ≤ xs.length ∧ Pv i H, ⟨xs.length, by simp, Nat.zero_le _, h0⟩, ?_⟩
  rintro i m H ⟨rfl, hi, p⟩
  have q := hl i H hi p
  by_cases hlt : i < xs.length
  · refine .inr ⟨⟨xs, xs[i], q, by simp [hlt]⟩, Pv (i + 1), fun H' p' => ⟨xs.length - (i + 1), by omega, rfl, hlt, p'⟩, fun x H' y => ?_⟩
    obtain ⟨e, y⟩ := y
    subst e
    exact hs i x _ (y xs q) p
  · have e : i = xs.length := by omega
    subst e
    exact .inl ⟨⟨xs, q, Nat.le_refl _⟩, hd H p⟩
def blkC (N : List Str) (sc scope : Scope) (own : List (Str × Nat)) : Bool :=
  (match scope.kind with | .function => true | _ => false) && (scope.names.all fun y => decide (scope.names.lookup y.1 = some y.2)) && (own.all fun p => decide (N[p.2]? = some p.1)) &&
    (scope.names.all fun y => match y.2 with
      | .free => (match sc.names.lookup y.1 with | some .cell => true | some .free => true | _ => false)
      | .local => decide (y.1 ∈ own.map (·.1)) || decide (y.1 ∉ N)
      | .cell => decide (y.1 ∈ own.map (·.1)) || decide (y.1 ∉ N)
      | _ => true)
theorem blkOk_by {N : List Str} {sc scope : Scope} {own : List (Str × Nat)} (h : blkC N sc scope own = true) : BlkOk N sc scope own := by
  unfold blkC at h
  simp only [Bool.and_eq_true, List.all_eq_true, decide_eq_true_eq] at h
  obtain ⟨⟨⟨h1, h2⟩, h3⟩, h4⟩ := h
  refine ⟨?_, h2, h3, fun y hy e => ?_, fun y hy e => ?_⟩
  · split at h1
    · assumption
    · cases h1
  · have q := h4 y hy
    simp only [e] at q
    split at q <;> first | exact .inl (by assumption) | exact .inr (by assumption) | cases q
  · have q := h4 y hy
    rcases e with e | e <;> (simp only [e, Bool.or_eq_true, decide_eq_true_eq] at q; exact q)
end L2

namespace L2
open PySem PySem.Spec PyProof.Rows

section
variable {prog : Program} {w : World} {A : Around} {R : Result → Shared → Prop} {s : Shared} {elt t0 i0 t1 i1 : Expr} {ifs0 ifs1 : List Expr} {scope : Scope} {pos : Pos} {it acc : Value} {env : Env}
end

section
variable {X : Cx}
end
end L2

namespace L2
open PySem PySem.Spec PyProof.Rows

/-! ### lists of pairs as tables -/
section
variable {κ : Type} [DecidableEq κ]
def valV (kvs : List (κ × V)) (k : κ) : Option V := (kvs.find? fun kv => decide (kv.1 = k)).map (·.2)
/-- in its place, or at the end -/
def putK (kvs : List (κ × V)) (k : κ) (v : V) : List (κ × V) :=
  if (kvs.any fun kv => decide (kv.1 = k)) = true then kvs.map (fun kv => if kv.1 = k then (kv.1, v) else kv) else kvs ++ [(k, v)]
def dropK (kvs : List (κ × V)) (k : κ) : List (κ × V) := kvs.filter fun kv => decide (kv.1 ≠ k)

theorem valV_pos {p : κ × V} {r : List (κ × V)} {k : κ} (e : p.1 = k) : valV (p :: r) k = some p.2 := by simp [valV, List.find?_cons, e]
theorem valV_neg {p : κ × V} {r : List (κ × V)} {k : κ} (e : ¬ p.1 = k) : valV (p :: r) k = valV r k := by simp [valV, List.find?_cons, e]
theorem valV_any (k : κ) : ∀ kvs : List (κ × V), (kvs.any fun kv => decide (kv.1 = k)) = (valV kvs k).isSome
  | [] => rfl
  | p :: r => by
    rw [List.any_cons]
    by_cases e : p.1 = k
    · simp only [valV_pos e, decide_eq_true e, Bool.true_or, Option.isSome_some]
    · rw [valV_neg e, decide_eq_false e, Bool.false_or]; exact valV_any k r
theorem RelO.isSome_eq {o : Option V} {u : Option Value} (r : RelO o u) : o.isSome = u.isSome := by
  cases o with
  | none => cases u with
    | none => rfl
    | some _ => exact (show False from r).elim
  | some _ => cases u with
    | none => exact (show False from r).elim
    | some _ => rfl
theorem RelO.getD {o : Option V} {u : Option Value} {d : V} {d' : Value} (r : RelO o u) (rd : RelV d d') : RelV (o.getD d) (u.getD d') := by
  cases o with
  | none => cases u with
    | none => exact rd
    | some _ => exact (show False from r).elim
  | some _ => cases u with
    | none => exact (show False from r).elim
    | some _ => exact r

/-- raw tables of the same keys -/
theorem KV.val {kvs : List (κ × V)} {vs : List (κ × Value)} (r : KV kvs vs) (k : κ) : RelO (valV kvs k) (valueAt vs k) := by
  unfold KV at r
  induction r with
  | nil => exact True.intro
  | @cons p q ps qs h t ih =>
    obtain ⟨h1, h2⟩ := h
    by_cases e : p.1 = k
    · have e' : q.1 = k := h1.symm.trans e
      have b : valueAt (q :: qs) k = some q.2 := by simp [valueAt, List.find?_cons, e']
      rw [valV_pos e, b]; exact h2
    · have e' : ¬ q.1 = k := fun z => e (h1.trans z)
      have b : valueAt (q :: qs) k = valueAt qs k := by simp [valueAt, List.find?_cons, e']
      rw [valV_neg e, b]; exact ih
theorem KV.any {kvs : List (κ × V)} {vs : List (κ × Value)} (r : KV kvs vs) (k : κ) : (kvs.any fun kv => decide (kv.1 = k)) = vs.any fun kv => decide (kv.1 = k) := by
  unfold KV at r
  induction r with
  | nil => rfl
  | cons h t ih => rw [List.any_cons, List.any_cons, ih, h.1]
theorem KV.repl {kvs : List (κ × V)} {vs : List (κ × Value)} (r : KV kvs vs) (k : κ) {y : V} {u : Value} (ry : RelV y u) :
    KV (kvs.map fun kv => if kv.1 = k then (kv.1, y) else kv) (vs.map fun kv => if kv.1 = k then (kv.1, u) else kv) := by
  unfold KV at r ⊢
  induction r with
  | nil => exact .nil
  | @cons p q ps qs h t ih =>
    rw [List.map_cons, List.map_cons]
    refine .cons ?_ ih
    obtain ⟨h1, h2⟩ := h
    by_cases e : p.1 = k
    · rw [if_pos e, if_pos (h1.symm.trans e)]; exact ⟨h1, ry⟩
    · rw [if_neg e, if_neg (fun z => e (h1.trans z))]; exact ⟨h1, h2⟩
theorem KV.put {kvs : List (κ × V)} {vs : List (κ × Value)} (r : KV kvs vs) (k : κ) {y : V} {u : Value} (ry : RelV y u) : KV (putK kvs k y) (stored vs k u) := by
  unfold putK stored
  rw [r.any k]
  by_cases e : (vs.any fun kv => decide (kv.1 = k)) = true
  · rw [if_pos e, if_pos e]; exact r.repl k ry
  · rw [if_neg e, if_neg e]; exact Paired.snoc r ⟨rfl, ry⟩
theorem KV.drop {kvs : List (κ × V)} {vs : List (κ × Value)} (r : KV kvs vs) (k : κ) : KV (dropK kvs k) (without vs k) := by
  unfold KV at r ⊢
  unfold dropK without
  induction r with
  | nil => exact .nil
  | @cons p q ps qs h t ih =>
    obtain ⟨h1, h2⟩ := h
    rw [List.filter_cons, List.filter_cons]
    by_cases e : p.1 = k
    · have a : ¬ decide (p.1 ≠ k) = true := by simp [e]
      have b : ¬ decide (q.1 ≠ k) = true := by simp [h1.symm.trans e]
      rw [if_neg a, if_neg b]; exact ih
    · have e' : ¬ q.1 = k := fun z => e (h1.trans z)
      have a : decide (p.1 ≠ k) = true := by simp [e]
      have b : decide (q.1 ≠ k) = true := by simp [e']
      rw [if_pos a, if_pos b]; exact .cons ⟨h1, h2⟩ ih
theorem KV.keys {kvs : List (κ × V)} {vs : List (κ × Value)} (r : KV kvs vs) : kvs.map (·.1) = vs.map (·.1) := by
  unfold KV at r
  induction r with
  | nil => rfl
  | cons h t ih => rw [List.map_cons, List.map_cons, ih, h.1]
theorem KV.length {kvs : List (κ × V)} {vs : List (κ × Value)} (r : KV kvs vs) : kvs.length = vs.length := Paired.length r
end


/-! ### a tracked dict, its keys ints and texts or tuples of these -/
/-- raw entries of a dict with tuple keys -/
abbrev KT (H : Hp) : List (List Key × V) → List (List Key × Addr × Value) → Prop := Paired fun p q => p.1 = q.1 ∧ H q.2.1 = some (.tup (p.1.map kV)) ∧ RelV p.2 q.2.2
theorem KT.val {H : Hp} {kvs : List (List Key × V)} {xs : List (List Key × Addr × Value)} (r : KT H kvs xs) (k : List Key) : RelO (valV kvs k) ((atKey xs k).map (·.2)) := by
  induction r with
  | nil => exact True.intro
  | @cons p q ps qs h t ih =>
    obtain ⟨h1, _, h2⟩ := h
    by_cases e : p.1 = k
    · have e' : q.1 = k := h1.symm.trans e
      have b : atKey (q :: qs) k = some q.2 := by simp [atKey, List.find?_cons, e']
      rw [valV_pos e, b]; exact h2
    · have e' : ¬ q.1 = k := fun z => e (h1.trans z)
      have b : atKey (q :: qs) k = atKey qs k := by simp [atKey, List.find?_cons, e']
      rw [valV_neg e, b]; exact ih
theorem KT.repl {H : Hp} {kvs : List (List Key × V)} {xs : List (List Key × Addr × Value)} (r : KT H kvs xs) (k : List Key) {y : V} {u : Value} (ry : RelV y u) :
    KT H (kvs.map fun kv => if kv.1 = k then (kv.1, y) else kv) (xs.map (putAt k u)) := by
  induction r with
  | nil => exact .nil
  | @cons p q ps qs h t ih =>
    rw [List.map_cons, List.map_cons]
    refine .cons ?_ ih
    obtain ⟨h1, h2, h3⟩ := h
    unfold putAt
    by_cases e : p.1 = k
    · rw [if_pos e, if_pos (h1.symm.trans e)]; exact ⟨h1, h2, ry⟩
    · rw [if_neg e, if_neg (fun z => e (h1.trans z))]; exact ⟨h1, h2, h3⟩
theorem KT.put {H : Hp} {kvs : List (List Key × V)} {xs : List (List Key × Addr × Value)} (r : KT H kvs xs) (k : List Key) {b : Addr} {y : V} {u : Value} (hb : H b = some (.tup (k.map kV))) (ry : RelV y u) :
    KT H (putK kvs k y) (storedH xs k b u) := by
  have e : (kvs.any fun kv => decide (kv.1 = k)) = (atKey xs k).isSome := by
    rw [valV_any, (r.val k).isSome_eq, Option.isSome_map]
  unfold putK storedH
  rw [e]
  by_cases q : (atKey xs k).isSome = true
  · rw [if_pos q, if_pos q]; exact r.repl k ry
  · rw [if_neg q, if_neg q]; exact Paired.snoc r ⟨rfl, hb, ry⟩
theorem KT.keeps {H H' : Hp} {kvs : List (List Key × V)} {xs : List (List Key × Addr × Value)} (r : KT H kvs xs) (ht : ∀ b ys, H b = some (.tup ys) → H' b = some (.tup ys)) : KT H' kvs xs :=
  Paired.mapP r fun _ _ z => ⟨z.1, ht _ _ z.2.1, z.2.2⟩

section
variable {P : Program} {w : World} {H : Hp} {h : Heap} {a : Addr}
end

/-- what the dict at a holds at the key y -/
def DGet (H : Hp) (a : Addr) (y : V) (r : Option V) : Prop :=
  (∃ kvs k, Rd H a (.dK kvs) ∧ y = kV k ∧ r = valV kvs k) ∨ ∃ kvs k b, Rd H a (.dT kvs) ∧ y = .ref b ∧ H b = some (.tup (k.map kV)) ∧ r = valV kvs k
/-- the heap behind a[y] = v -/
def DPut (H : Hp) (a : Addr) (y v : V) (H' : Hp) : Prop :=
  (∃ kvs k, H a = some (.dK kvs) ∧ y = kV k ∧ kvs.length < sizeLine ∧ H' = upd H a (.dK (putK kvs k v))) ∨
  ∃ kvs k b, H a = some (.dT kvs) ∧ y = .ref b ∧ H b = some (.tup (k.map kV)) ∧ kvs.length < sizeLine ∧ H' = upd H a (.dT (putK kvs k v))
theorem DGet.k {H : Hp} {a : Addr} {kvs : List (Key × V)} {k : Key} (e : H a = some (.dK kvs)) : DGet H a (kV k) (valV kvs k) := .inl ⟨kvs, k, .inl e, rfl, rfl⟩
theorem DGet.t {H : Hp} {a b : Addr} {kvs : List (List Key × V)} {k : List Key} (e : H a = some (.dT kvs)) (eb : H b = some (.tup (k.map kV))) : DGet H a (.ref b) (valV kvs k) := .inr ⟨kvs, k, b, .inl e, rfl, eb, rfl⟩
theorem DPut.k {H : Hp} {a : Addr} {kvs : List (Key × V)} {k : Key} {v : V} (e : H a = some (.dK kvs)) (hl : kvs.length < sizeLine) : DPut H a (kV k) v (upd H a (.dK (putK kvs k v))) := .inl ⟨kvs, k, e, rfl, hl, rfl⟩
theorem DPut.t {H : Hp} {a b : Addr} {kvs : List (List Key × V)} {k : List Key} {v : V} (e : H a = some (.dT kvs)) (eb : H b = some (.tup (k.map kV))) (hl : kvs.length < sizeLine) :
    DPut H a (.ref b) v (upd H a (.dT (putK kvs k v))) := .inr ⟨kvs, k, b, e, rfl, eb, hl, rfl⟩


section
variable {X : Cx} {pins : List (Addr × Obj)} {σ : St} {H : Hp} {s : Shared} {a : Addr} {y v : V} {u r : Value} {o : Option V} {A : Around} {E : Value → Shared → Prop}

theorem Inv.big (I : Inv X pins σ H s) : sysModules < s.heap.objs.size := by
  have h : mainGlobals < s.heap.objs.size := (I.mod.glob.keeps I.bk).lt
  exact Nat.lt_trans (by decide) h

end

section
variable {X : Cx} {pins : List (Addr × Obj)} {σ : St} {H : Hp} {s : Shared} {a : Addr} {kvs : List (Key × V)} {k : Key} {u : Value} {A : Around} {E : Value → Shared → Prop}
end


/-! ### readings and rules -/
section
variable {X : Cx} {o i e value : Expr} {pos pos' tpos : Pos} {td ty tv : TE}
end


/-! ### displays -/
section
variable {X : Cx} {pos : Pos}
end

/-! ### methods -/
/-- a method call o.m(e) of a built-in, with one argument: what must be seen of the text -/
structure M1 (X : Cx) (o : Expr) (m : Str) (apos : Pos) (e : Expr) (cpos : Pos) : Prop where
  base : attributeBase o m X.env (eval o X.env) = eval o X.env
  few : ((backTo cpos (starEach [e] X.env)).all (fun x => !x.1) && (backToKw cpos (keywordEach [] X.env)).all (fun x => x.1.isSome)
    && decide (([e] : List Expr).length + ([] : List Keyword).length + (if ([] : List Keyword).isEmpty then 0 else 1) < 30)) = true
  line : (apos.endLine == cpos.line) = true
  trees : backTo cpos (starEach [e] X.env) = [(false, eval e X.env)]
structure M2 (X : Cx) (o : Expr) (m : Str) (apos : Pos) (e f : Expr) (cpos : Pos) : Prop where
  base : attributeBase o m X.env (eval o X.env) = eval o X.env
  few : ((backTo cpos (starEach [e, f] X.env)).all (fun x => !x.1) && (backToKw cpos (keywordEach [] X.env)).all (fun x => x.1.isSome)
    && decide (([e, f] : List Expr).length + ([] : List Keyword).length + (if ([] : List Keyword).isEmpty then 0 else 1) < 30)) = true
  line : (apos.endLine == cpos.line) = true
  trees : backTo cpos (starEach [e, f] X.env) = [(false, eval e X.env), (false, eval f X.env)]

section
variable {X : Cx} {pins : List (Addr × Obj)} {σ : St} {H : Hp} {s : Shared} {a : Addr} {y d : V} {u r : Value} {o : Option V} {A : Around} {E : Value → Shared → Prop}
end

section
variable {X : Cx} {o e f : Expr} {apos cpos : Pos} {td ty tx : TE}
end

/-! ### dict(d): a copy -/
section
variable {X : Cx} {pins : List (Addr × Obj)} {σ : St} {H : Hp} {s : Shared} {a : Addr} {kvs : List (Key × V)} {A : Around} {E : Value → Shared → Prop}
end


section
variable {X : Cx} {pins : List (Addr × Obj)} {σ : St} {H : Hp} {s : Shared} {a : Addr} {y : V} {u : Value} {A : Around} {E : Value → Shared → Prop}
end
end L2

namespace L2
open PySem PySem.Spec PyProof.Rows

section
variable {prog : Program} {w : World} {A : Around} {E : Value → Shared → Prop}
end

section
variable {X : Cx}
end
end L2

namespace L2
open PySem PySem.Spec PyProof.Rows

section
variable {X : Cx} {pins : List (Addr × Obj)} {σ : St} {H : Hp} {s : Shared} {h' : Heap}
/-- several records of ours have turned -/
theorem Inv.turnedL {t' : Nat} {ch : List Addr} (I : Inv X pins σ H s) (k : ∀ b o, b ∉ ch → s.heap.get? b = some o → h'.get? b = some o) (hf : ∀ b ∈ ch, FpOk X pins H b) : Inv X pins σ H { s with heap := h', toks := t' } := by
  have nit : ∀ b u, H b = some u → b ∉ ch := fun b u e z => by
    have q := (hf b z).1
    rw [q] at e; cases e
  refine I.step (g' := s.gens) (d' := s.drawn) (ch := ch) (fun b hb => ⟨(hf b hb).2.2.2.1, (hf b hb).2.1, (hf b hb).2.2.2.2.1, (hf b hb).2.2.2.2.2⟩) (fun b o _ _ hc e _ => k b o hc e) (fun b o _ _ hc e _ => ⟨o.slots, k b o hc e⟩)
    (fun _ _ _ _ n => n) (fun b o hc e => ⟨o, k b o hc e⟩) (fun _ _ e => e) (fun _ _ _ e => e) (fun b ps e => ⟨#[], by rw [e]; simp⟩) (fun m hm => ?_) (fun b u e => ?_) I.bare
  · obtain ⟨o, es, ep, ho, r⟩ := hm
    exact ⟨o, es, ep, k _ o (fun z => (hf _ z).2.1 rfl) ho, r⟩
  · refine (I.hok b u e).stay (fun c v hc q => k c v ?_ q) (fun _ q => q) fun _ _ q => q
    rcases hc with z | z
    · rw [z]; exact nit b u e
    · exact nit c _ z
/-- .. and one new object is laid -/
theorem Inv.turnedNew {t' : Nat} {ch : List Addr} {T : Addr} {ob : HO} (I : Inv X pins σ H s) (k : ∀ b o, b ∉ ch → s.heap.get? b = some o → h'.get? b = some o) (hf : ∀ b ∈ ch, FpOk X pins H b) (hT : s.heap.objs.size ≤ T)
    (new : ObjOk X.prog X.w (upd H T ob) h' T ob) : Inv X pins σ (upd H T ob) { s with heap := h', toks := t' } := by
  have hn : H T = none := I.hok.fresh hT
  have nit : ∀ b u, H b = some u → b ∉ ch := fun b u e z => by
    have q := (hf b z).1
    rw [q] at e; cases e
  refine I.step (g' := s.gens) (d' := s.drawn) (ch := ch) (fun b hb => ⟨(hf b hb).2.2.2.1, (hf b hb).2.1, (hf b hb).2.2.2.2.1, (hf b hb).2.2.2.2.2⟩) (fun b o _ _ hc e _ => k b o hc e) (fun b o _ _ hc e _ => ⟨o.slots, k b o hc e⟩)
    (fun b o _ e n => ?_) (fun b o hc e => ⟨o, k b o hc e⟩) (fun b xs e => ?_) (fun b o u e => ?_) (fun b ps e => ⟨#[], ?_⟩) (fun m hm => ?_) (fun b u e => ?_) I.bare
  · rw [upd_ne (Nat.ne_of_lt (Nat.lt_of_lt_of_le (Heap.lt_size e) hT))]; exact n
  · rw [upd_ne (ne_of_none e hn)]; exact e
  · rw [upd_ne (ne_of_none e hn)]; exact e
  · rw [upd_ne (ne_of_none e hn), e]; simp
  · obtain ⟨o, es, ep, ho, r⟩ := hm
    exact ⟨o, es, ep, k _ o (fun z => (hf _ z).2.1 rfl) ho, r⟩
  · by_cases hb : b = T
    · subst hb
      rw [upd_same] at e
      cases e
      exact new
    · rw [upd_ne hb] at e
      refine (I.hok b u e).stay (fun c v hc q => k c v ?_ q) (fun c q => by rw [upd_ne (ne_of_none q hn)]; exact q) fun c xs q => by rw [upd_ne (ne_of_none q hn)]; exact q
      rcases hc with z | z
      · rw [z]; exact nit b u e
      · exact nit c _ z

/-! ### locking a thing while a statement runs -/
end
section
variable {X : Cx}
/-! ### one iterator just laid -/
end

/-! ### range with a step -/
section
variable {X : Cx} {tg : Expr}
end
/-! ### reversed(list) -/
section
variable {X : Cx} {tg : Expr}
end

/-! ### a str -/
/-! ### a dict's keys: any dict's entries -/
section
variable {prog : Program} {w : World} {A : Around} {E : Value → Shared → Prop} {s : Shared}
end

/-! ### a locked dict -/
section
variable {X : Cx} {pins : List (Addr × Obj)} {σ : St} {H : Hp} {s : Shared} {d : Addr} {o : Obj}
end

section
variable {P : Program} {w : World} {K : PySem.W.Frag} {tg : Expr} {d : Addr} {o : Obj} {es : Array DictEntry} {ep : Nat}
end

/-! ### for k in d, d.keys(), d.values(), d.items() -/
section
variable {X : Cx} {tg e : Expr} {td : TE} {apos cpos : Pos}
end

/-! ### enumerate(list) -/
/-- the list at a as it stands at each turn, each item in a new pair -/
def Ite (K : PySem.W.Frag) (a : Addr) : It :=
  ⟨fun i H => ∃ (xs : List V) (x : V), SqL K H a xs ∧ xs[i]? = some x, fun i H v H' => ∃ T x, v = .ref T ∧ H T = none ∧ H' = upd H T (.tup [.int (i : Nat), x]) ∧ ∀ xs, SqL K H a xs → xs[i]? = some x, fun i H => ∃ xs : List V, SqL K H a xs ∧ xs.length ≤ i⟩
theorem turn_enum {P : Program} {w : World} {K : PySem.W.Frag} {elts : List Expr} {kk : Nat} {tpos : Pos} (a e it : Addr) :
    Turn P w K (.Tuple elts kk tpos) (Ite K a) [e, it] e (fun i h => (∃ old, IsEnum h e it ((i : Nat) : Int) old) ∧ h.IsListIter it a i ∧ e ≠ it) where
  mem := by simp
  obj := fun i h st b hb => by
    obtain ⟨⟨old, he⟩, ⟨o, ho, hc, hd⟩, _⟩ := st
    have e' : b = e ∨ b = it := by simpa using hb
    rcases e' with z | z
    · rw [z]; exact ⟨_, he, fun v q => nomatch q⟩
    · rw [z]; exact ⟨o, ho, fun v q => by rw [hd] at q; cases q⟩
  keep := fun i h h' st k => let ⟨⟨old, he⟩, hi, hne⟩ := st; ⟨⟨old, k e (by simp) _ he⟩, hi.at fun o q => k it (by simp) o q, hne⟩
  item := by
    intro X hP hw hK hc i pins s σ H E I hf st hg
    subst hP hw hK
    obtain ⟨⟨old, he⟩, hit, hne⟩ := st
    obtain ⟨xs, x, hq, hx⟩ := hg
    obtain ⟨its, rv, p, hz⟩ := I.list hq
    obtain ⟨u, hu, ru⟩ := rv.get hx
    have hel : e < s.heap.objs.size := Heap.lt_size he
    have hil : it < s.heap.objs.size := by obtain ⟨_, q, _⟩ := hit; exact Heap.lt_size q
    refine wpAny_pyNext_enum_item he hit p.isList (x := u) (by simpa using hu) hne fun h' ho hit' hT hsz hk => ?_
    refine ⟨_, rfl, wpAny_letOwnedTupleGo_enum (s := { s with heap := h', toks := s.toks + 1 }) ho fun h'' he' sb => ?_⟩
    have hT2 : h''.get? s.heap.objs.size = some { cls := .type "tuple", data := .seq #[.int i s.toks, u] } := (sb.2 _ (Nat.ne_of_gt hel)).trans hT
    have new : ObjOk X.prog X.w (upd H s.heap.objs.size (.tup [.int (i : Nat), x])) h'' s.heap.objs.size (.tup [.int (i : Nat), x]) :=
      ⟨by show 2 ≤ sizeLine; decide, [.int i s.toks, u], .cons ⟨_, rfl⟩ (.cons ru .nil), ⟨_, hT2, rfl, _, rfl⟩⟩
    have I1 : Inv X pins σ (upd H s.heap.objs.size (.tup [.int (i : Nat), x])) { s with heap := h'', toks := s.toks + 1 } :=
      I.turnedNew (ch := [e, it]) (fun b ob hb q => (sb.2 b (fun z => hb (by simp [z]))).trans (hk b ob (fun z => hb (by simp [z])) (fun z => hb (by simp [z])) q)) hf (Nat.le_refl _) new
    refine ⟨.ref s.heap.objs.size, _, I1, rfl, ⟨_, x, rfl, I.hok.fresh (Nat.le_refl _), rfl, fun ys hy => by rw [I.list_inj hy hq]; exact hx⟩, ⟨⟨u, ?_⟩, hit'.at fun o q => (sb.2 it (Ne.symm hne)).trans q, hne⟩, fun b hb => ?_⟩
    · have e1 : ((i + 1 : Nat) : Int) = (i : Int) + 1 := by omega
      rw [e1]; exact he'
    · have hb' : b < s.heap.objs.size := by
        have e' : b = e ∨ b = it := by simpa using hb
        rcases e' with z | z
        · rw [z]; exact hel
        · rw [z]; exact hil
      rw [upd_ne (Nat.ne_of_lt hb')]
      exact (hf b hb).1
  done := by
    intro X hP hw hK hc i pins s σ H E I hf st hg
    subst hP hw hK
    obtain ⟨⟨old, he⟩, hit, hne⟩ := st
    obtain ⟨xs, hq, hx⟩ := hg
    obtain ⟨its, rv, p, hz⟩ := I.list hq
    obtain ⟨f0, f1, f2, f3, f4, f5⟩ := hf it (by simp)
    have hl := rv.length
    exact wpAny_pyNext_enum_end (I.ok.hd hc) he hit p.isList (by simp; omega) fun h' eb => ⟨rfl, I.turned (t' := s.toks) (fun b o hb q => eb b o hb q) f0 f1 f3 f4 f5⟩
  self := fun A i s Q E st h => let ⟨⟨_, he⟩, _⟩ := st; wpAny_pyIter_enum he h
def iEnum (K : PySem.W.Frag) (ta : TA) : TI := fun σ H R => ta σ H fun vs H1 => ∃ a xs, vs = [.ref a] ∧ SqL K H1 a xs ∧ R (Ite K a) H1
theorem pi_enum {X : Cx} {e : Expr} {ta : TA} {p pos tpos : Pos} {elts : List Expr} {kk : Nat} (hg : Gl X "enumerate") (hm : X.mg "enumerate" = none) (ha : PA X [e] ta) (hs : starEach [e] X.env = [(false, eval e X.env)] := by rfl) :
    PI X (.Tuple elts kk tpos) (.Call (.Name "enumerate" p) [e] [] pos) (iEnum X.K ta) := by
  intro pins s σ H R I h
  refine Call_ (ld_blt I hg hm boot_enumerate (PyProof.Rows.callWith_type1 (thn (ha pos pins s σ H _ I h) fun us s1 ⟨vs, H1, I1, r1, q1⟩ => ?_) hs rfl))
  obtain ⟨a, xs, ex, hq, q⟩ := q1
  subst ex
  cases r1 with
  | cons r rr =>
    cases rr
    cases r
    obtain ⟨its, rv, p', hz⟩ := I1.list hq
    refine call_enumerate_list p'.isList fun h' he hit hsz hk => wpAny_pyIter_enum he ?_
    have I2 : Inv X pins σ H1 { s1 with heap := h' } := I1.kept (t' := s1.toks) hk
    refine ⟨s1.heap.objs.size + 1, [s1.heap.objs.size + 1, s1.heap.objs.size], _, _, H1, rfl, I2, turn_enum a (s1.heap.objs.size + 1) s1.heap.objs.size, ⟨⟨.none, he⟩, hit, Nat.succ_ne_self _⟩, fun b hb => ?_, q⟩
    have e' : b = s1.heap.objs.size + 1 ∨ b = s1.heap.objs.size := by simpa using hb
    have hle : s1.heap.objs.size ≤ b := by
      rcases e' with z | z
      · rw [z]; exact Nat.le_add_right _ _
      · rw [z]; exact Nat.le_refl _
    exact I1.fpOk hle (I1.hok.fresh hle)
/-! ### zip(list, list) -/
theorem boot_zip5 : bootBuiltins "zip" = some (.type "zip") := by decide +kernel
/-- the lists at a and b as they stand at each turn, the items in new pairs -/
def Itz (K : PySem.W.Frag) (a b : Addr) : It :=
  ⟨fun i H => ∃ (xs ys : List V) (x y : V), SqL K H a xs ∧ SqL K H b ys ∧ xs[i]? = some x ∧ ys[i]? = some y,
    fun i H v H' => ∃ T x y, v = .ref T ∧ H T = none ∧ H' = upd H T (.tup [x, y]) ∧ (∀ xs, SqL K H a xs → xs[i]? = some x) ∧ ∀ ys, SqL K H b ys → ys[i]? = some y,
    fun i H => ∃ xs ys : List V, SqL K H a xs ∧ SqL K H b ys ∧ (xs.length ≤ i ∨ ys.length ≤ i)⟩
theorem turn_zip {P : Program} {w : World} {K : PySem.W.Frag} {elts : List Expr} {kk : Nat} {tpos : Pos} {a b z TI TO i1 i2 : Addr} (D : ZipApart z TI TO i1 i2 a b) :
    Turn P w K (.Tuple elts kk tpos) (Itz K a b) [z, TI, TO, i1, i2] z (fun i h => IsZip h z TI TO .none ∧ IsPair h TI (.ref i1) (.ref i2) ∧ (∃ x y, IsPair h TO x y) ∧ h.IsListIter i1 a i ∧ h.IsListIter i2 b i) where
  mem := by simp
  obj := fun i h st c hc => by
    obtain ⟨hz, hTI, ⟨x, y, hTO⟩, ⟨o1, e1, _, d1⟩, ⟨o2, e2, _, d2⟩⟩ := st
    have e' : c = z ∨ c = TI ∨ c = TO ∨ c = i1 ∨ c = i2 := by simpa using hc
    rcases e' with q | q | q | q | q
    · rw [q]; exact ⟨_, hz, fun v q => nomatch q⟩
    · rw [q]; exact ⟨_, hTI, fun v q => nomatch q⟩
    · rw [q]; exact ⟨_, hTO, fun v q => nomatch q⟩
    · rw [q]; exact ⟨o1, e1, fun v q => by rw [d1] at q; cases q⟩
    · rw [q]; exact ⟨o2, e2, fun v q => by rw [d2] at q; cases q⟩
  keep := fun i h h' st k => by
    obtain ⟨hz, hTI, ⟨x, y, hTO⟩, h1, h2⟩ := st
    exact ⟨k z (by simp) _ hz, k TI (by simp) _ hTI, ⟨x, y, k TO (by simp) _ hTO⟩, h1.at fun o q => k i1 (by simp) o q, h2.at fun o q => k i2 (by simp) o q⟩
  item := by
    intro X hP hw hK hc i pins s σ H E I hf st hg
    subst hP hw hK
    obtain ⟨hz, hTI, ⟨x0, y0, hTO⟩, h1, h2⟩ := st
    obtain ⟨xs, ys, x, y, hqx, hqy, hx, hy⟩ := hg
    obtain ⟨its, rv, p, _⟩ := I.list hqx
    obtain ⟨its2, rv2, p2, _⟩ := I.list hqy
    obtain ⟨u, hu, ru⟩ := rv.get hx
    obtain ⟨u2, hu2, ru2⟩ := rv2.get hy
    have hzl : z < s.heap.objs.size := Heap.lt_size hz
    refine wpAny_pyNext_zip_item D hz hTI hTO h1 h2 p.isList p2.isList (x := u) (y := u2) (by simpa using hu) (by simpa using hu2) fun h' z' TO' h1' h2' hT hsz hk => ?_
    refine ⟨_, rfl, wpAny_letOwnedTupleGo_zip (s := { s with heap := h' }) z' fun h'' z'' sb => ?_⟩
    have hT2 : h''.get? s.heap.objs.size = some { cls := .type "tuple", data := .seq #[u, u2] } := (sb.2 _ (Nat.ne_of_gt hzl)).trans hT
    have new : ObjOk X.prog X.w (upd H s.heap.objs.size (.tup [x, y])) h'' s.heap.objs.size (.tup [x, y]) :=
      ⟨by show 2 ≤ sizeLine; decide, [u, u2], .cons ru (.cons ru2 .nil), ⟨_, hT2, rfl, _, rfl⟩⟩
    have I1 : Inv X pins σ (upd H s.heap.objs.size (.tup [x, y])) { s with heap := h'' } :=
      I.turnedNew (t' := s.toks) (ch := [z, TI, TO, i1, i2]) (fun c o hb q => (sb.2 c (fun q' => hb (by simp [q']))).trans (hk c o (fun q' => hb (by simp [q'])) (fun q' => hb (by simp [q'])) (fun q' => hb (by simp [q'])) (fun q' => hb (by simp [q'])) q)) hf (Nat.le_refl _) new
    refine ⟨.ref s.heap.objs.size, _, I1, rfl, ⟨_, x, y, rfl, I.hok.fresh (Nat.le_refl _), rfl, fun l hl => by rw [I.list_inj hl hqx]; exact hx, fun l hl => by rw [I.list_inj hl hqy]; exact hy⟩, ⟨z'', ?_, ⟨u, u2, ?_⟩, ?_, ?_⟩, fun c hcm => ?_⟩
    · exact (sb.2 _ D.TIz).trans (hk _ _ D.TIz D.TITO D.TIi1 D.TIi2 hTI)
    · exact (sb.2 _ D.TOz).trans TO'
    · exact h1'.at fun o q => (sb.2 _ D.i1z).trans q
    · exact h2'.at fun o q => (sb.2 _ D.i2z).trans q
    · have hlt : c < s.heap.objs.size := by
        have e' : c = z ∨ c = TI ∨ c = TO ∨ c = i1 ∨ c = i2 := by simpa using hcm
        rcases e' with q | q | q | q | q
        · rw [q]; exact hzl
        · rw [q]; exact Heap.lt_size hTI
        · rw [q]; exact Heap.lt_size hTO
        · rw [q]; obtain ⟨_, e1, _⟩ := h1; exact Heap.lt_size e1
        · rw [q]; obtain ⟨_, e2, _⟩ := h2; exact Heap.lt_size e2
      rw [upd_ne (Nat.ne_of_lt hlt)]
      exact (hf c hcm).1
  done := by
    intro X hP hw hK hc i pins s σ H E I hf st hg
    subst hP hw hK
    obtain ⟨hz, hTI, ⟨x0, y0, hTO⟩, h1, h2⟩ := st
    obtain ⟨xs, ys, hqx, hqy, hend⟩ := hg
    obtain ⟨its, rv, p, _⟩ := I.list hqx
    obtain ⟨its2, rv2, p2, _⟩ := I.list hqy
    have l1 := rv.length
    have l2 := rv2.length
    have he : its.toArray[i]? = none ∨ its2.toArray[i]? = none := by
      rcases hend with q | q
      · exact .inl (by simp; omega)
      · exact .inr (by simp; omega)
    exact wpAny_pyNext_zip_end (I.ok.hd hc) D hz hTI hTO h1 h2 p.isList p2.isList he fun h' hk => ⟨rfl, I.turnedL (t' := s.toks) (ch := [z, TI, TO, i1, i2]) (fun c o hb q =>
      hk c o (fun q' => hb (by simp [q'])) (fun q' => hb (by simp [q'])) (fun q' => hb (by simp [q'])) (fun q' => hb (by simp [q'])) q) hf⟩
  self := fun A i s Q E st h => wpAny_pyIter_zip st.1 h
def iZip (K : PySem.W.Frag) (ta : TA) : TI := fun σ H R => ta σ H fun vs H1 => ∃ a b xs ys, vs = [.ref a, .ref b] ∧ SqL K H1 a xs ∧ SqL K H1 b ys ∧ R (Itz K a b) H1
theorem pi_zip {X : Cx} {e e2 : Expr} {ta : TA} {p pos tpos : Pos} {elts : List Expr} {kk : Nat} (hg : Gl X "zip") (hm : X.mg "zip" = none) (ha : PA X [e, e2] ta)
    (hs : starEach [e, e2] X.env = (false, eval e X.env) :: starEach [e2] X.env := by rfl) (hpl : (backTo pos (starEach [e2] X.env)).any (·.1) = false := by rfl) :
    PI X (.Tuple elts kk tpos) (.Call (.Name "zip" p) [e, e2] [] pos) (iZip X.K ta) := by
  intro pins s σ H R I h
  refine Call_ (ld_blt I hg hm boot_zip5 (PyProof.Rows.callWith_type1 (thn (ha pos pins s σ H _ I h) fun us s1 ⟨vs, H1, I1, r1, q1⟩ => ?_) hs hpl))
  obtain ⟨a, b, xs, ys, ex, hqx, hqy, q⟩ := q1
  subst ex
  cases r1 with
  | cons r rr =>
    cases rr with
    | cons r' rr =>
      cases rr
      cases r
      cases r'
      obtain ⟨its, rv, p1, _⟩ := I1.list hqx
      obtain ⟨its2, rv2, p2, _⟩ := I1.list hqy
      have la : a < s1.heap.objs.size := p1.lt
      have lb : b < s1.heap.objs.size := p2.lt
      refine call_zip_2 p1.isList p2.isList fun h' hz hTI hTO h1 h2 hsz hk => wpAny_pyIter_zip hz ?_
      have I2 : Inv X pins σ H1 { s1 with heap := h' } := I1.kept (t' := s1.toks) hk
      refine ⟨s1.heap.objs.size + 4, [s1.heap.objs.size + 4, s1.heap.objs.size + 2, s1.heap.objs.size + 3, s1.heap.objs.size, s1.heap.objs.size + 1], _, _, H1, rfl, I2, turn_zip (PySem.W.ktu_apart s1.heap.objs.size a b la lb), ⟨hz, hTI, ⟨_, _, hTO⟩, h1, h2⟩, fun c hcm => ?_, q⟩
      have e' : c = s1.heap.objs.size + 4 ∨ c = s1.heap.objs.size + 2 ∨ c = s1.heap.objs.size + 3 ∨ c = s1.heap.objs.size ∨ c = s1.heap.objs.size + 1 := by simpa using hcm
      have hle : s1.heap.objs.size ≤ c := by
        rcases e' with z | z | z | z | z
        · rw [z]; exact Nat.le_add_right _ _
        · rw [z]; exact Nat.le_add_right _ _
        · rw [z]; exact Nat.le_add_right _ _
        · rw [z]; exact Nat.le_refl _
        · rw [z]; exact Nat.le_add_right _ _
      exact I1.fpOk hle (I1.hok.fresh hle)
end L2

section 
namespace Bits
open PySem PyProof.Rows

end Bits
end 

section 
namespace TL
open PySem PySem.Builtin PySem.Builtin.Str PySem.StrLaws

abbrev tl (x : Str) : List Nat := x.cps.toList
/-! ### the list functions -/
/-- S stands at the head of l -/
def pre (S l : List Nat) : Bool := l.take S.length == S
/-- l cut at each S from the left; k signs are still to be passed over -/
def spl (S : List Nat) : Nat → List Nat → List Nat → List (List Nat)
  | _, acc, [] => [acc]
  | 0, acc, c :: r => if pre S (c :: r) = true then acc :: spl S (S.length - 1) [] r else spl S 0 (acc ++ [c]) r
  | k + 1, acc, _ :: r => spl S k acc r
/-- what stands before the first S, and behind it -/
def par (S : List Nat) : List Nat → List Nat → Option (List Nat × List Nat)
  | _, [] => none
  | acc, c :: r => if pre S (c :: r) = true then some (acc, (c :: r).drop S.length) else par S (acc ++ [c]) r

/-! ### the model's split and partition are these -/
/-! ### computing spl and par -/
/-! ### digits -/
/-! ### words: x.split() -/
end TL
end 

namespace L2
open PySem PySem.Spec PyProof.Rows

section
variable {X : Cx} {pins : List (Addr × Obj)} {σ : St} {H : Hp} {s : Shared} {Q : VK}
end

section
variable {X : Cx}

/-! ### of a text alone -/
/-! ### of a text and a text -/
end

section
variable {X : Cx} {o e : Expr} {to te : TE}
end
end L2

namespace L2
open PySem PySem.Spec PyProof.Rows

section
variable {X : Cx}
end

/-! ### slices of a text -/
theorem IsPart.raw {v : Value} {o : Option Int} (p : IsPart v o) : ∃ l : Option (Int × Tok), v = partValue l ∧ l.map (·.1) = o := by
  cases p with
  | none => exact ⟨none, rfl, rfl⟩
  | int i t => exact ⟨some (i, t), rfl, rfl⟩

end L2

namespace Att
open PySem PySem.W PySem.Calls PyProof.Rows

/-! ### the script -/
theorem ints_of_wellAll {P : Params} {h : Heap} : ∀ (ns : List Int) (vs : List Value), WellAll P h vs (ns.map WData.int) → IntsAre vs ns := by
  intro ns
  induction ns with
  | nil =>
    intro vs w
    rw [List.map_nil] at w
    cases w
    exact .nil
  | cons n ns ih =>
    intro vs w
    rw [List.map_cons] at w
    cases w with
    | cons a b =>
      cases a
      exact .cons _ _ (ih _ b)

theorem script_of {l : OpenLaw} {n : Nat} (hn : l.most = some n) {P : Params} {h : Heap} {args : List WData} {vals : List Value}
    (hpre : l.row.toRowW.claim.pre args = true) (hwl : WellAll P h vals args) :
    ∃ a vs ns, vals = [Value.ref a] ∧ args = [WData.list (ns.map WData.int)] ∧ h.get? a = some { cls := .type "list", data := .seq vs.toArray } ∧ IntsAre vs ns ∧ ns.length ≤ n := by
  have hsh : WShape.hasAll [] args [.list .int] = true := (pre_splitW hpre).1
  have hc : l.pre.holds [] { args := args } = true := (pre_splitW hpre).2
  obtain ⟨d, r, rfl, h1, h2⟩ := hasAllW_cons hsh
  obtain rfl := hasAllW_nil h2
  obtain ⟨xs, rfl, h3⟩ := hasW_list h1
  obtain ⟨ns, rfl⟩ := items_int h3
  have hlen : ns.length ≤ n := by
    unfold OpenLaw.pre at hc
    have h4 : (WTm.not (.lt (.lit (.int (n : Int))) (.len (.arg 0)))).holds [] { args := [.list (ns.map .int)] } = true := by
      have h4 := (holds_andW hc).1
      rw [hn] at h4
      exact h4
    have h5 := condW_of h4 (w_not (w_lt w_lit (w_len_list (w_arg rfl))))
    rw [List.length_map] at h5
    refine Nat.le_of_not_lt fun q => ?_
    have q' : (n : Int) < ((ns.length : Nat) : Int) := by omega
    first
      | (rw [decide_eq_true q'] at h5; exact absurd h5 (by decide))
      | (simp at h5; omega)
  cases hwl with
  | cons w1 w2 =>
    cases w2
    cases w1 with
    | list ho hall => exact ⟨_, _, ns, rfl, rfl, ho, ints_of_wellAll ns _ hall, hlen⟩

theorem post_true (l : OpenLaw) (args : List WData) : l.row.toRowW.claim.post args (.bool true) args = true :=
  postW_of (r := l.row.toRowW) (X := (true == true))
    (show WShape.has [] (.bool true) .bool = true by first | rfl | decide | simp [WShape.has, WShape.arms, WShape.armsAll])
    (show (WTm.eq .res (.lit (.bool true))).value [] { args := args, res := some (.bool true), after := args } = some (.bool (true == true)) from w_eq_bool (w_res rfl) w_lit) rfl

/-! ### the attachment: holds_open's last premise (the goal 'hc' behind k_head) from a wpAny of the law's body -/
/-- the same from a codeAny of the CALL (for a layer whose function contracts speak of calls) -/
theorem attach_call {l : OpenLaw} {n : Nat} {q : Program} {loose : List Str} {XP : (Str → Option Value) → Heap → Prop} {YP : World → Heap → Prop} {d : DefRec}
    (hn : l.most = some n) (hdf : d.params.defaults = [])
    (call : ∀ (w : World) (s₀ s₁ : Shared) (mg mb : Str → Option Value) (fa : Addr) (o : Obj) (pm cd doc : Value) (a : Addr) (vs : List Value) (ns : List Int),
      Ground q loose [] XP w s₀ mg mb s₁.heap → YP w s₁.heap →
      s₁.heap.get? fa = some o → o.data = .func (docDef d.name d.params d.body d.scope pm cd doc) → s₁.heap.CodeRec cd d.name → mg d.name = some (.ref fa) →
      s₁.heap.get? a = some { cls := .type "list", data := .seq vs.toArray } → IntsAre vs ns → ns.length ≤ n → s₁.gens = #[] →
      codeAny (model l.prog w) callerA (.call (.ref fa) ⟨[.ref a], []⟩) (fun r s' => r = .ok (.ret (.bool true)) ∧ OldK s₁.heap s'.heap ∧ s'.os = s₁.os ∧ AllBare s'.gens) s₁) :
    WalkO q loose XP YP l.row.toRowW d [] (fun f vs => PySem.call f vs) := by
  intro w s₀ s₁ mg mb G Y fa o pm cd doc dV kV ho hd hcd hD hmg hg args vals as hpre hlay hrd hwl hlo
  obtain rfl : dV = .none := Dflts.none hD hdf
  obtain rfl : kV = .none := Dflts.noKw hD
  obtain ⟨a, vs, ns, rfl, rfl, hobj, hints, hlen⟩ := script_of hn hpre hwl
  refine enter_call (codeAny_mono (call w s₀ s₁ mg mb fa o pm cd doc a vs ns G Y ho (fd_plain hd) hcd hmg hobj hints hlen hg) fun r s' hq => ?_)
  obtain ⟨rfl, h2, h3, h4⟩ := hq
  exact ⟨.inl ⟨.bool true, .bool true, [], rfl, fun _ => rfl, .bool true, post_true l _, fun _ => ⟨List.Pairwise.nil, fun _ hm => (nomatch hm)⟩⟩, h2, h3, h4⟩

/-! ### rules over ANY heap (no ledger) from facts about the written part K: the library's own take a ledger (News) for what they write -/
section
variable {prog : Program} {w : World} {A : Around} {E : Value → Shared → Prop} {s : Shared} {K : Frag}

/-! the whole heap as the ledger: makes every rule that writes through a ledger a rule over any heap -/
def ledger (h : Heap) (L d : Addr) : List (Addr × Obj) := (List.range h.objs.size).filterMap fun a => if a = L ∨ a = d then none else (h.get? a).map fun o => (a, o)
end
end Att

namespace L2
open PySem PySem.Spec PyProof.Rows

theorem vals_ints : ∀ {vs : List Value} {ns : List Int}, IntsAre vs ns → Vals (ns.map V.int) vs
  | _, _, .nil => .nil
  | _, _, .cons n t h => .cons ⟨t, rfl⟩ (vals_ints h)

/-- nothing is tracked but the script, known to the object (or it is an object of the module) -/
def Only (H : Hp) : Prop := ∀ b, H b = none ∨ ∃ o xs, H b = some (.frz o (.lst xs))

/-- THE HEAD: the law's promise, at the heap behind the top. F, the promise of the law's def, may use that base is part of the heap (so K.In base, base.Ns mainGlobals mg stand in Mod) -/
theorem law_call {P : Program} {w : World} {K : PySem.W.Frag} {mg mb : Str → Option Value} {CX : CXT} {k : Nat} {fa a : Addr} {fd : FuncData} {x : Str} {sp : Sp} {s₁ : Shared} {vs : List Value} {ns : List Int}
    (KX : K.In s₁.heap) (hns : s₁.heap.Ns mainGlobals mg) (hb : s₁.heap.Ns builtinsNs mb) (hbb : ∀ x : Str, x ≠ "__name__" → mb x = bootBuiltins x) (hlim : s₁.heap.NoLimit) (hg : s₁.gens = #[])
    (ha : s₁.heap.get? a = some { cls := .type "list", data := .seq vs.toArray }) (hi : IntsAre vs ns) (hl : ns.length ≤ sizeLine) (hr : Room k callerA)
    (F : ∀ base : Heap, K.In base → base.Ns mainGlobals mg → FnOk P w K mg base CX k fa fd [x] sp) (hbind : ∀ (s : Shared) (u : Value), BindsTo s fd ⟨[u], []⟩ [(x, u)])
    (hsp : ∀ H : Hp, Only H → SqL K H a (ns.map V.int) → sp [.ref a] H (fun v _ => v = .bl true) fun _ _ _ => False)
    (hCX : ∀ H e s', CX [] H s₁ (fun _ _ _ => False) e s' → False) :
    codeAny (model P w) callerA (.call (.ref fa) ⟨[.ref a], []⟩) (fun r s' => r = .ok (.ret (.bool true)) ∧ OldK s₁.heap s'.heap ∧ s'.os = s₁.os ∧ AllBare s'.gens) s₁ := by
  have rv := vals_ints hi
  have lenV := hi.length
  -- from an abstract heap in which nothing but the script may be tracked
  have core : ∀ H : Hp, Only H → SqL K H a (ns.map V.int) → HOk P w H s₁.heap → (∀ b, H b ≠ none → b = a) → (H a ≠ none → K.lookup a = none) →
      codeAny (model P w) callerA (.call (.ref fa) ⟨[.ref a], []⟩) (fun r s' => r = .ok (.ret (.bool true)) ∧ OldK s₁.heap s'.heap ∧ s'.os = s₁.os ∧ AllBare s'.gens) s₁ := by
    intro H hO hS hok hA hK
    have base_of : ∀ {b : Addr} {o : Obj}, s₁.heap.get? b = some o → H b = none → (hidT s₁.heap H).get? b = some o := fun e n => hidT_get e n
    have noA : ∀ {b : Addr} {o : Obj} {es : Array DictEntry} {ep : Nat}, s₁.heap.get? b = some o → o.data = .dict es ep → H b = none := fun {b o es ep} e d => by
      cases q : H b with
      | none => rfl
      | some u =>
        have e' : b = a := hA b (by rw [q]; simp)
        subst e'
        rw [ha] at e; cases e
        have d' : Data.seq vs.toArray _ = Data.dict es ep := d
        cases d'
    have nsK : ∀ {b : Addr} {m : Str → Option Value}, s₁.heap.Ns b m → (hidT s₁.heap H).Ns b m := fun {b m} ⟨o, es, ep, e, d, r⟩ => ⟨o, es, ep, base_of e (noA e d), d, r⟩
    have hKb : K.In (hidT s₁.heap H) := fun b o e => base_of (KX b o e) (by
      cases q : H b with
      | none => rfl
      | some u =>
        have e' : b = a := hA b (by rw [q]; simp)
        subst e'
        rw [hK (by rw [q]; simp)] at e; cases e)
    have hM : Mod K mg (hidT s₁.heap H) := ⟨hKb, nsK hns, ⟨mb, nsK hb, hbb⟩, let ⟨mc, h1, h2⟩ := hlim; ⟨mc, nsK h1, h2⟩⟩
    have e0 : Env0 P w K mg (hidT s₁.heap H) callerA [] s₁ H := ⟨rfl, hM, fun b o e => of_hidT e, Nat.le_of_eq (hidT_size _ _), trivial, fun b hb => absurd (show b ∈ ([] : List Addr) from hb) (by simp), hok, .of_eq hg⟩
    refine codeAny_mono ((F _ hKb (nsK hns)).run callerA [] s₁ H ⟨[.ref a], []⟩ [.ref a] [.ref a] _ _ hr e0 (hbind s₁ (.ref a)) (.cons rfl .nil) (hsp H hO hS)) fun r s' h => ?_
    cases r with
    | error e => exact (hCX H e s' h).elim
    | ok fl =>
      cases fl with
      | next => exact False.elim h
      | brk => exact False.elim h
      | cont => exact False.elim h
      | ret u =>
        obtain ⟨v, H', os, bare, un, hok', r', q⟩ := h
        have q' : v = .bl true := q
        subst q'
        obtain rfl : u = Value.bool true := r'
        refine ⟨rfl, OldK.of_keep fun b o e => ?_, os, bare⟩
        cases q : H b with
        | none => exact un.keep b o e q (by intro z; exact absurd (show b ∈ ([] : List Addr) from z) (by simp)) (by simp)
        | some u =>
          rcases hO b with z | ⟨ob, xs, z⟩
          · rw [q] at z; cases z
          · have z2 := un.frzs b ob _ z
            obtain ⟨e1, _⟩ := hok b _ z
            obtain ⟨e2, _⟩ := hok' b _ z2
            rw [e] at e1; cases e1
            exact e2
  cases hk : K.lookup a with
  | some o =>
    -- the script is one of the module's own objects
    have e := KX a o hk
    rw [ha] at e
    cases e
    refine core (fun _ => none) (fun _ => .inl rfl) (.inr ⟨_, vs.toArray, _, hk, rfl, rfl, rfl, by rw [List.size_toArray, lenV]; exact hl, by simpa using rv⟩) (fun b u z => by have z' : (none : Option HO) = some u := z; cases z') (fun b z => absurd rfl z) fun z => absurd rfl z
  | none =>
    refine core (fun b => if b = a then some (.frz { cls := .type "list", data := .seq vs.toArray } (.lst (ns.map V.int))) else none) (fun b => ?_) (.inl (.inr ⟨{ cls := .type "list", data := .seq vs.toArray }, if_pos rfl⟩)) (fun b u z => ?_) (fun b z => ?_) fun _ => hk
    · by_cases hb : b = a
      · exact .inr ⟨_, _, if_pos hb⟩
      · exact .inl (if_neg hb)
    · by_cases hb : b = a
      · have z' := (if_pos hb).symm.trans z
        cases z'
        subst hb
        exact ⟨ha, by rw [List.length_map]; exact hl, vs, _, rv, ha⟩
      · have z' := (if_neg hb).symm.trans z
        cases z'
    · by_cases hb : b = a
      · exact hb
      · exact absurd (if_neg hb) z
end L2

namespace L2
open PySem PySem.Spec PyProof.Rows

abbrev KOf {K : PySem.W.Frag} {h : Heap} (_ : K.In h) : PySem.W.Frag := K

/-- the goal that k_head leaves (case hc), from the law's promise. F gives the function object fd (K's own) once, then the promise over every base -/
theorem walk_of {l : PySem.W.OpenLaw} {n k : Nat} {q : Program} {loose : List Str} {XP : (Str → Option Value) → Heap → Prop} {YP : World → Heap → Prop} {d : DefRec} {K : Params → PySem.W.Frag} {CX : World → CXT} {sp : World → Sp} {x : Str}
    (hn : l.most = some n) (hn2 : n ≤ sizeLine) (hdf : d.params.defaults = []) (hr : Room k callerA)
    (hY : ∀ (w : World) (h : Heap), YP w h → (K w.params).In h)
    (F : ∀ (w : World) (mg : Str → Option Value) (fa : Addr) (h : Heap), (K w.params).In h → h.Ns mainGlobals mg → mg d.name = some (.ref fa) →
      ∃ fd : FuncData, (∀ (s : Shared) (u : Value), BindsTo s fd ⟨[u], []⟩ [(x, u)]) ∧
        ∀ base : Heap, (K w.params).In base → base.Ns mainGlobals mg → FnOk l.prog w (K w.params) mg base (CX w) k fa fd [x] (sp w))
    (hsp : ∀ (w : World) (H : Hp) (a : Addr) (ns : List Int), ns.length ≤ n → Only H → SqL (K w.params) H a (ns.map V.int) → sp w [.ref a] H (fun v _ => v = .bl true) fun _ _ _ => False)
    (hCX : ∀ (w : World) (H : Hp) (s : Shared) (e : Value) (s' : Shared), CX w [] H s (fun _ _ _ => False) e s' → False) :
    PySem.W.WalkO q loose XP YP l.row.toRowW d [] (fun f vs => PySem.call f vs) := by
  refine Att.attach_call hn hdf fun w s₀ s₁ mg mb fa o pm cd doc a vs ns G Y ho hd hcd hmg hobj hints hlen hg => ?_
  have KX := hY w _ Y
  obtain ⟨fd, hb, hF⟩ := F w mg fa _ KX G.T.g hmg
  exact law_call KX G.T.g G.T.b G.T.builtins G.T.nolimit hg hobj hints (Nat.le_trans hlen hn2) hr hF hb (fun H hO hS => hsp w H a ns hlen hO hS) fun H e s' => hCX w H s₁ e s'
end L2

/- THE LAST THEOREM (shape; LID, My.* are yours):
   My.Adr: a structure of the addresses that your layer names (classes, functions); My.Txt K t: a structure (Prop) of the equations over K;
   My.txt_mk : {K} {implicit addresses ..} (e1 : nsIn K mainGlobals "law" = some (some (.ref f))) (e2 : K.lookup f = some ⟨oc, od, .func (fnOf "law" "law" params body scope dV kV doc pm an cdv ct), sl⟩) (e3 : codeIn K cdv "law" = true) .. : ∃ t, My.Txt K t

set_option maxRecDepth 100000 in
set_option maxHeartbeats 0 in
theorem PySem.Challenge.cw_LID_holds : PySem.Challenge.rw_LID.Holds := by
  w_on; o_law; k_head; (case hw => w_witness2)
  k_fill
  refine L2.walk_of (l := PySem.Challenge.rw_LID) (n := 63) (k := 40) (x := "script") (CX := fun w => ..) (sp := fun _ => My.sp_law) rfl (by decide) rfl ⟨rfl, by decide, by decide⟩ (fun w h Y => PySem.W.kIn_of Y) ?F ?S ?C
  case F =>
    intro w mg fa h KX G hmg
    have T : ∃ t, My.Txt (L2.KOf KX) t := by
      dsimp only [L2.KOf]                          -- K must stand as «<heap const> w.params» for k_is
      refine' My.txt_mk ?e1 ?e2 ?e3 ..
      (case e1 => PySem.W.k_is)                    -- in the order: a name -> its address -> its object -> its parts
      (case e2 => PySem.W.k_is)
      ..
    obtain ⟨t, T⟩ := T
    have e0 := hmg.symm.trans (PySem.W.mg_of KX G T.law)
    cases e0                                       -- fa is the law's own address
    exact ⟨_, fun s u => .of_eq rfl, fun base kb nb => My.law_fn T kb nb⟩     -- if «.of_eq rfl» comes too early: refine' ⟨_, ?b, fun base kb nb => My.law_fn T kb nb⟩; exact fun s u => .of_eq rfl
  case S => exact fun w H a ns hl hO hS => ..
  case C => exact ..
(the tactic k_is has no namespace: write k_is) -/

/-! SHORT WORDS over the layer: a def of the text, its body, what a loop and a test want. -/
namespace L2
open PySem PySem.Spec PyProof.Rows

/-! ### the text by places -/
def defArgs (s : Stmt) : Arguments := match s with
  | .FunctionDef _ a _ _ _ _ _ _ _ _ => a
  | _ => { posonlyargs := [], args := [], vararg := none, kwonlyargs := [], kw_defaults := [], kwarg := none, defaults := [] }
def defBody (s : Stmt) : List Stmt := match s with
  | .FunctionDef _ _ b _ _ _ _ _ _ _ => b
  | _ => []
def defScope (s : Stmt) : Scope := match s with
  | .FunctionDef _ _ _ _ _ _ sc _ _ _ => sc
  | _ => { kind := .function, names := [], isGenerator := false, isCoroutine := false }

/-! ### no exception leaves a def -/
abbrev CX0 : CXT := fun _ _ _ _ _ _ => False
abbrev E0 : XK := fun _ _ _ => False
theorem pass0 {X : Cx} : Passes CX0 X E0 := fun _ _ _ _ _ _ _ h => h.elim

/-! ### a def (or method) of the text as it stands behind the top -/
structure Fun (K : PySem.W.Frag) (x qual : Str) (st : Stmt) (f : Addr) (fd : FuncData) : Prop where
  ex : ∃ (oc : Value) (od : Option Addr) (kV doc pm : Value) (an : Option Addr) (cdv ct : Value) (osl : Array (Option Value)),
    fd = PySem.W.fnOf x qual (defArgs st) (defBody st) (defScope st) .none kV doc pm an cdv ct ∧ K.lookup f = some ⟨oc, od, .func fd, osl⟩ ∧ PySem.W.codeIn K cdv qual = true
  kp : PySem.W.keepIn K (.ref f) = true
section
variable {P : Program} {w : World} {K : PySem.W.Frag} {mg : Str → Option Value} {base : Heap}
/-- THE RULE for a def: its body as a term of rules, and the reading of that term -/
theorem Fun.ok {x qual : Str} {st : Stmt} {f : Addr} {fd : FuncData} {N ps : List Str} {k : Nat} {sp : Sp} (F : Fun K x qual st f fd) (S : FnScope N ps (defScope st)) (len : ∀ vs H Q E, sp vs H Q E → vs.length = ps.length)
    (hbody : ∀ (cdv : Value) (A : Around) (outer : List Env) (s : Shared) (H : Hp) (vs : List V) (Q : VK) (E : XK), Room k (A.deeper (envOfC qual (defScope st) s.heap.objs.size f cdv)) → sp vs H Q E →
      ∃ t, PSs (cxOf CX0 P w K mg base N qual (defScope st) f cdv A outer s H E).nox (defBody st) t ∧ t { nx := fun _ H' => Q .non H', rt := Q } (start N vs) H) : FnOk P w K mg base CX0 (k + 1) f fd ps sp := by
  obtain ⟨oc, od, kV, doc, pm, an, cdv, ct, osl, rfl, lk, hcd⟩ := F.ex
  refine fn_of lk hcd S len fun A outer s H vs Q E hr hsp => ?_
  obtain ⟨t, h, q⟩ := hbody cdv A outer s H vs Q E hr hsp
  exact ⟨t, h.nox, q⟩
/-- how its arguments bind (no defaults): h is «fun _ _ _ _ _ _ us hl => match us, hl with | [_, _], _ => rfl», one _ a parameter -/
theorem Fun.binds {x qual : Str} {st : Stmt} {f : Addr} {fd : FuncData} {ps : List Str} (F : Fun K x qual st f fd)
    (h : ∀ (kV doc pm : Value) (an : Option Addr) (cdv ct : Value) (us : List Value), us.length = ps.length → bindArgs (PySem.W.fnOf x qual (defArgs st) (defBody st) (defScope st) .none kV doc pm an cdv ct) ⟨us, []⟩ = pure (ps.zip us)) : Binds K fd ps [] := by
  obtain ⟨oc, od, kV, doc, pm, an, cdv, ct, osl, rfl, lk, hcd⟩ := F.ex
  exact .all (h kV doc pm an cdv ct)
theorem fun_mk {x qual : Str} {st : Stmt} {f : Addr} {oc : Value} {od an : Option Addr} {osl : Array (Option Value)} {kV doc pm cdv ct : Value} (l : K.lookup f = some ⟨oc, od, .func (PySem.W.fnOf x qual (defArgs st) (defBody st) (defScope st) .none kV doc pm an cdv ct), osl⟩)
    (c : PySem.W.codeIn K cdv qual = true) (k : PySem.W.keepIn K (.ref f) = true) : Fun K x qual st f (PySem.W.fnOf x qual (defArgs st) (defBody st) (defScope st) .none kV doc pm an cdv ct) := ⟨⟨oc, od, kV, doc, pm, an, cdv, ct, osl, rfl, l, c⟩, k⟩
end
/-! ### expressions in short: the name that stands in the i-th slot -/
section
variable {X : Cx}
theorem pv (i : Nat) {x : Str} {pos : Pos} (hN : X.N[i]? = some x := by rfl) (hv : Vis X.env.scope x := by first | exact Or.inl rfl | exact Or.inr (Or.inl rfl) | exact Or.inr (Or.inr rfl)) (hd : (x == ("__debug__" : Str)) = false := by decide)
    (hcd : (x == ("__classdict__" : Str)) = false := by decide) : PE X (.Name x pos) (tVar i) := pe_var hN hv hd hcd
end

/-! ### tests -/
theorem iteF {A B : Prop} (h : B) : if false = true then A else B := by
  rw [if_neg Bool.false_ne_true]
  exact h
theorem iteT {A B : Prop} (h : A) : if true = true then A else B := by
  rw [if_pos rfl]
  exact h
theorem ite2 {c A B : Prop} [Decidable c] (h1 : c → A) (h2 : ¬ c → B) : if c then A else B := by
  by_cases h : c
  · rw [if_pos h]
    exact h1 h
  · rw [if_neg h]
    exact h2 h
/-! ### heaps -/
/-- all that was tracked is as it was -/
def Same (H H' : Hp) : Prop := ∀ b o, H b = some o → H' b = some o
theorem Same.refl (H : Hp) : Same H H := fun _ _ h => h
theorem Same.trans {H H1 H2 : Hp} (a : Same H H1) (b : Same H1 H2) : Same H H2 := fun c o h => b c o (a c o h)
theorem Same.free {H H' : Hp} (e : Same H H') {l : Addr} (h : H' l = Option.none) : H l = Option.none := by
  cases q : H l with
  | none => rfl
  | some o =>
    rw [e l o q] at h
    cases h
theorem Same.seq {K : PySem.W.Frag} {H H' : Hp} {a : Addr} {xs : List V} (e : Same H H') (h : SqL K H a xs) : SqL K H' a xs := by
  rcases h with (h | ⟨o, h⟩) | h
  · exact .inl (.inl (e _ _ h))
  · exact .inl (.inr ⟨o, e _ _ h⟩)
  · exact .inr h

/-! ### a dict's pairs: keys that differ -/
section
variable {κ : Type} [DecidableEq κ]
end
/-! ### lists -/
/-- a new instance and its __init__ leave all that was tracked as it was -/
theorem Same.made {H H1 : Hp} {x dx C : Addr} (nx : H x = Option.none) (nd : H dx = Option.none) (k : ∀ b o, (upd (upd H dx (.own x)) x (.ins C dx [])) b = some o → b ≠ x → H1 b = some o) : Same H H1 := fun b o e =>
  k b o (by rw [upd_ne (ne_of_none e nx), upd_ne (ne_of_none e nd)]; exact e) (ne_of_none e nx)
end L2

section
set_option Elab.async false
set_option linter.all false
set_option maxRecDepth 100000
set_option maxHeartbeats 2000000
namespace L2
open PySem PySem.Spec PyProof.Rows
open PySem.W (WData Codec OpenSpec Well WellAll ReadsW ReadsAllW)
/-! ### an answer as data -/
mutual
/-- x stands for the datum d, lists and tuples all the way -/
inductive Dw (K : PySem.W.Frag) (H : Hp) : V → WData → Prop
  | non : Dw K H .non .none
  | bl (b : Bool) : Dw K H (.bl b) (.bool b)
  | int (i : Int) : Dw K H (.int i) (.int i)
  | str (x : Str) : Dw K H (.str x) (.str x)
  | byt (b : Array UInt8) : Dw K H (.byt b) (.bytes b.toList)
  | lst {a : Addr} {xs : List V} {ds : List WData} : SqL K H a xs → DwAll K H xs ds → Dw K H (.ref a) (.list ds)
  | tup {a : Addr} {xs : List V} {ds : List WData} : SqT K H a xs → DwAll K H xs ds → Dw K H (.ref a) (.tuple ds)
inductive DwAll (K : PySem.W.Frag) (H : Hp) : List V → List WData → Prop
  | nil : DwAll K H [] []
  | cons {v : V} {vs : List V} {d : WData} {ds : List WData} : Dw K H v d → DwAll K H vs ds → DwAll K H (v :: vs) (d :: ds)
end
theorem dw_ints {K : PySem.W.Frag} {H : Hp} : ∀ ns : List Int, DwAll K H (ns.map V.int) (ns.map WData.int)
  | [] => .nil
  | n :: r => .cons (.int n) (dw_ints r)
theorem ints_dw {K : PySem.W.Frag} {H : Hp} : ∀ (ns : List Int) (xs : List V), DwAll K H xs (ns.map WData.int) → xs = ns.map V.int
  | [], xs, h => by
    cases h
    rfl
  | n :: r, xs, h => by
    cases h with
    | cons h1 h2 =>
      cases h1
      rw [ints_dw r _ h2] <;> rfl
section
variable {P : Program} {w : World} {K : PySem.W.Frag} {H : Hp} {h : Heap} {R : PySem.W.WRecords} {cl : Str → Option Addr}
theorem sqL_at {a : Addr} {xs : List V} (hok : HOk P w H h) (KX : K.In h) (q : SqL K H a xs) : ∃ (its : List Value) (o : Obj) (n : Nat), Vals xs its ∧ h.get? a = some o ∧ o.cls = .type "list" ∧ o.data = .seq its.toArray n := by
  rcases q with q | ⟨o, its, n, e, hc, _, hd, _, hv⟩
  · obtain ⟨_, its, n, hv, e⟩ := (show ObjOk P w H h a (.lst xs) from q.ok hok)
    exact ⟨its, _, n, hv, e, rfl, rfl⟩
  · exact ⟨its.toList, o, n, hv, KX _ _ e, hc, by simp [hd]⟩
theorem sqT_at {a : Addr} {xs : List V} (hok : HOk P w H h) (KX : K.In h) (q : SqT K H a xs) : ∃ (its : List Value) (o : Obj) (n : Nat), Vals xs its ∧ h.get? a = some o ∧ o.cls = .type "tuple" ∧ o.data = .seq its.toArray n := by
  rcases q with q | ⟨o, its, n, e, hc, hd, _, hv⟩
  · obtain ⟨_, its, hv, o, e, hc, n, hd⟩ := (show ObjOk P w H h a (.tup xs) from q.ok hok)
    exact ⟨its, o, n, hv, e, hc, hd⟩
  · exact ⟨its.toList, o, n, hv, KX _ _ e, hc, by simp [hd]⟩
mutual
theorem Dw.reads (hok : HOk P w H h) (KX : K.In h) : ∀ (d : WData) (v : V) (u : Value), Dw K H v d → RelV v u → ∃ as, ReadsW R cl h u d as
  | .none, _, _, x, r => by
    cases x
    cases r
    exact ⟨_, ReadsW.none⟩
  | .bool b, _, _, x, r => by
    cases x
    cases r
    exact ⟨_, ReadsW.bool b⟩
  | .int i, _, _, x, r => by
    cases x
    obtain ⟨t, rfl⟩ := r
    exact ⟨_, ReadsW.int i t⟩
  | .str s, _, _, x, r => by
    cases x
    obtain ⟨t, rfl⟩ := r
    exact ⟨_, ReadsW.str s t⟩
  | .bytes b, _, _, x, r => by
    cases x
    obtain ⟨t, rfl⟩ := r
    exact ⟨_, ReadsW.bytes _ t⟩
  | .list ds, _, _, x, r => by
    cases x with
    | lst hs ha =>
      cases r
      obtain ⟨its, o, n, rv, ho, hc, hd⟩ := sqL_at hok KX hs
      obtain ⟨as, hr⟩ := Dw.readsAll hok KX ds _ its ha rv
      exact ⟨_, ReadsW.list ho hc hd hr⟩
  | .tuple ds, _, _, x, r => by
    cases x with
    | tup hs ha =>
      cases r
      obtain ⟨its, o, n, rv, ho, hc, hd⟩ := sqT_at hok KX hs
      obtain ⟨as, hr⟩ := Dw.readsAll hok KX ds _ its ha rv
      exact ⟨_, ReadsW.tuple ho hc hd hr⟩
  | .float _, _, _, x, _ => by cases x
  | .dict _, _, _, x, _ => by cases x
  | .bytearray _, _, _, x, _ => by cases x
  | .set _, _, _, x, _ => by cases x
  | .frozenset _, _, _, x, _ => by cases x
  | .obj _ _, _, _, x, _ => by cases x
theorem Dw.readsAll (hok : HOk P w H h) (KX : K.In h) : ∀ (ds : List WData) (vs : List V) (us : List Value), DwAll K H vs ds → Vals vs us → ∃ as, ReadsAllW R cl h us ds as
  | [], _, _, x, r => by
    cases x
    cases r
    exact ⟨_, ReadsAllW.nil⟩
  | d :: ds, _, _, x, r => by
    cases x with
    | cons h1 h2 =>
      cases r with
      | cons r1 r2 =>
        obtain ⟨as, q1⟩ := Dw.reads hok KX d _ _ h1 r1
        obtain ⟨bs, q2⟩ := Dw.readsAll hok KX ds _ _ h2 r2
        exact ⟨_, ReadsAllW.cons q1 q2⟩
end
end
/-! ### the arguments -/
mutual
/-- data that a codec tells -/
def plW : WData → Bool
  | .none => true
  | .bool _ => true
  | .int _ => true
  | .str _ => true
  | .bytes _ => true
  | .list xs => plWs xs
  | .tuple xs => plWs xs
  | _ => false
def plWs : List WData → Bool
  | [] => true
  | x :: r => plW x && plWs r
end
theorem plWs_map {α : Type} {f : α → WData} (h : ∀ a, plW (f a) = true) : ∀ l : List α, plWs (l.map f) = true
  | [] => rfl
  | x :: r => by
    show (plW (f x) && plWs (r.map f)) = true
    rw [h x, plWs_map h r] <;> rfl
theorem pl_enc : ∀ (c : Codec) (a : c.denote), plW (c.enc a) = true
  | .unit, _ => rfl
  | .bool, _ => rfl
  | .int _ _, _ => rfl
  | .nat _ _, _ => rfl
  | .u8, _ => rfl
  | .bytes _ _, _ => rfl
  | .text _ _ _ _, _ => rfl
  | .list _ _ c, a => plWs_map (fun x => pl_enc c x) a
  | .pair c d, a => by
    show (plW (c.enc a.1) && (plW (d.enc a.2) && true)) = true
    rw [pl_enc c a.1, pl_enc d a.2] <;> rfl
  | .triple c d e, a => by
    show (plW (c.enc a.1) && (plW (d.enc a.2.1) && (plW (e.enc a.2.2) && true))) = true
    rw [pl_enc c a.1, pl_enc d a.2.1, pl_enc e a.2.2] <;> rfl
  | .option c, none => rfl
  | .option c, some x => pl_enc c x
theorem pl_encAll : ∀ (cs : List Codec) (a : Codec.denoteAll cs), plWs (Codec.encAll cs a) = true
  | [], _ => rfl
  | c :: cs, a => by
    show (plW (c.enc a.1) && plWs (Codec.encAll cs a.2)) = true
    rw [pl_enc c a.1, pl_encAll cs a.2] <;> rfl
theorem weight_mem : ∀ {xs : List WData} {d : WData}, d ∈ xs → d.weight ≤ WData.weightAll xs
  | [], d, h => absurd h (by simp)
  | x :: r, d, h => by
    show d.weight ≤ x.weight + 1 + WData.weightAll r
    rcases List.mem_cons.mp h with e | m
    · rw [e]
      omega
    · have z := weight_mem m
      omega
def toV : Value → V
  | .none => .non
  | .bool b => .bl b
  | .int i _ => .int i
  | .str x _ => .str x
  | .bytes b _ => .byt b
  | .ref a => .ref a
  | _ => .non
/-- a value of the arguments, its objects among A -/
def OkU (A : List Addr) : Value → Prop
  | .none => True
  | .bool _ => True
  | .int _ _ => True
  | .str _ _ => True
  | .bytes _ _ => True
  | .ref a => a ∈ A
  | _ => False
theorem OkU.mono {A B : List Addr} (h : ∀ a ∈ A, a ∈ B) : ∀ {u : Value}, OkU A u → OkU B u := fun {u} x => by
  cases u with
  | ref a => exact h a x
  | none => trivial
  | bool b => trivial
  | int i t => trivial
  | str s t => trivial
  | bytes b t => trivial
  | _ => exact False.elim x
theorem relV_toV {A : List Addr} {u : Value} (x : OkU A u) : RelV (toV u) u := by
  cases u with
  | ref a => rfl
  | none => rfl
  | bool b => rfl
  | int i t => exact ⟨t, rfl⟩
  | str s t => exact ⟨t, rfl⟩
  | bytes b t => exact ⟨t, rfl⟩
  | _ => exact False.elim x
theorem vals_toV {A : List Addr} : ∀ {vs : List Value}, (∀ u ∈ vs, OkU A u) → Vals (vs.map toV) vs
  | [], _ => .nil
  | u :: r, h => .cons (relV_toV (h u (List.mem_cons_self ..))) (vals_toV fun x hx => h x (List.mem_cons_of_mem _ hx))
/-- an object of the arguments -/
def ArgOb (h : Heap) (A : List Addr) (a : Addr) : Prop := ∃ vs : List Value, vs.length ≤ sizeLine ∧ (∀ u ∈ vs, OkU A u) ∧
  (h.get? a = some { cls := .type "list", data := .seq vs.toArray } ∨ h.get? a = some { cls := .type "tuple", data := .seq vs.toArray })
theorem ArgOb.mono {h : Heap} {A B : List Addr} {a : Addr} (k : ∀ a ∈ A, a ∈ B) (x : ArgOb h A a) : ArgOb h B a := by
  obtain ⟨vs, h1, h2, h3⟩ := x
  exact ⟨vs, h1, fun u hu => (h2 u hu).mono k, h3⟩
theorem wellAll_len {P : Params} {h : Heap} : ∀ {vs : List Value} {ds : List WData}, WellAll P h vs ds → vs.length = ds.length
  | _, _, .nil => rfl
  | _, _, .cons _ b => by
    show _ + 1 = _ + 1
    rw [wellAll_len b]
theorem well_list {P : Params} {h : Heap} {v : Value} {ds : List WData} (x : Well P h v (.list ds)) : ∃ (a : Addr) (vs : List Value), v = .ref a ∧ h.get? a = some { cls := .type "list", data := .seq vs.toArray } ∧ WellAll P h vs ds := by
  cases x with
  | list ho hall => exact ⟨_, _, rfl, ho, hall⟩
theorem well_tuple {P : Params} {h : Heap} {v : Value} {ds : List WData} (x : Well P h v (.tuple ds)) : ∃ (a : Addr) (vs : List Value), v = .ref a ∧ h.get? a = some { cls := .type "tuple", data := .seq vs.toArray } ∧ WellAll P h vs ds := by
  cases x with
  | tuple ho hall => exact ⟨_, _, rfl, ho, hall⟩
theorem well_cons {P : Params} {h : Heap} {us : List Value} {d : WData} {ds : List WData} (x : WellAll P h us (d :: ds)) : ∃ (v : Value) (vs : List Value), us = v :: vs ∧ Well P h v d ∧ WellAll P h vs ds := by
  cases x with
  | cons a b => exact ⟨_, _, rfl, a, b⟩
theorem line_of {n : Nat} (h : n ≤ 1048576) : n ≤ sizeLine := Nat.le_trans h (by decide)
section
variable {P : Params} {h : Heap}
mutual
theorem area_one : ∀ (d : WData) (v : Value), Well P h v d → plW d = true → d.weight ≤ 1048576 → ∃ A : List Addr, OkU A v ∧ ∀ a ∈ A, ArgOb h A a
  | .none, _, x, _, _ => by
    cases x
    exact ⟨[], trivial, fun a m => absurd m (by simp)⟩
  | .bool b, _, x, _, _ => by
    cases x
    exact ⟨[], trivial, fun a m => absurd m (by simp)⟩
  | .int i, _, x, _, _ => by
    cases x
    exact ⟨[], trivial, fun a m => absurd m (by simp)⟩
  | .str s, _, x, _, _ => by
    cases x
    exact ⟨[], trivial, fun a m => absurd m (by simp)⟩
  | .bytes b, _, x, _, _ => by
    cases x
    exact ⟨[], trivial, fun a m => absurd m (by simp)⟩
  | .list ds, _, x, p, z => by
    obtain ⟨a, vs, rfl, ho, hall⟩ := well_list x
    have z2 : WData.weightAll ds ≤ 1048576 := z
    obtain ⟨A, h1, h2⟩ := area_all ds _ hall p fun d hd => Nat.le_trans (weight_mem hd) z2
    have k : ∀ b ∈ A, b ∈ a :: A := fun b hb => List.mem_cons_of_mem _ hb
    refine ⟨a :: A, List.mem_cons_self .., fun b hb => ?_⟩
    rcases List.mem_cons.mp hb with e | m
    · rw [e]
      exact ⟨vs, line_of (by rw [wellAll_len hall]; exact Nat.le_trans (PySem.W.length_le_weightAllW ds) z2), fun u hu => (h1 u hu).mono k, .inl ho⟩
    · exact (h2 b m).mono k
  | .tuple ds, _, x, p, z => by
    obtain ⟨a, vs, rfl, ho, hall⟩ := well_tuple x
    have z2 : WData.weightAll ds ≤ 1048576 := z
    obtain ⟨A, h1, h2⟩ := area_all ds _ hall p fun d hd => Nat.le_trans (weight_mem hd) z2
    have k : ∀ b ∈ A, b ∈ a :: A := fun b hb => List.mem_cons_of_mem _ hb
    refine ⟨a :: A, List.mem_cons_self .., fun b hb => ?_⟩
    rcases List.mem_cons.mp hb with e | m
    · rw [e]
      exact ⟨vs, line_of (by rw [wellAll_len hall]; exact Nat.le_trans (PySem.W.length_le_weightAllW ds) z2), fun u hu => (h1 u hu).mono k, .inr ho⟩
    · exact (h2 b m).mono k
  | .float _, _, _, p, _ => Bool.noConfusion (show false = true from p)
  | .dict _, _, _, p, _ => Bool.noConfusion (show false = true from p)
  | .bytearray _, _, _, p, _ => Bool.noConfusion (show false = true from p)
  | .set _, _, _, p, _ => Bool.noConfusion (show false = true from p)
  | .frozenset _, _, _, p, _ => Bool.noConfusion (show false = true from p)
  | .obj _ _, _, _, p, _ => Bool.noConfusion (show false = true from p)
theorem area_all : ∀ (ds : List WData) (vs : List Value), WellAll P h vs ds → plWs ds = true → (∀ d ∈ ds, d.weight ≤ 1048576) → ∃ A : List Addr, (∀ u ∈ vs, OkU A u) ∧ ∀ a ∈ A, ArgOb h A a
  | [], _, x, _, _ => by
    cases x
    exact ⟨[], fun u m => absurd m (by simp), fun a m => absurd m (by simp)⟩
  | d :: ds, _, x, p, z => by
    obtain ⟨v, vs, rfl, x1, x2⟩ := well_cons x
    have q : plW d = true ∧ plWs ds = true := Bool.and_eq_true_iff.mp p
    obtain ⟨A, a1, a2⟩ := area_one d v x1 q.1 (z d (List.mem_cons_self ..))
    obtain ⟨B, b1, b2⟩ := area_all ds vs x2 q.2 fun e he => z e (List.mem_cons_of_mem _ he)
    have kA : ∀ b ∈ A, b ∈ A ++ B := fun b hb => List.mem_append.mpr (.inl hb)
    have kB : ∀ b ∈ B, b ∈ A ++ B := fun b hb => List.mem_append.mpr (.inr hb)
    refine ⟨A ++ B, fun u hu => ?_, fun b hb => ?_⟩
    · rcases List.mem_cons.mp hu with e | m
      · rw [e]
        exact a1.mono kA
      · exact (b1 u m).mono kB
    · rcases List.mem_append.mp hb with m | m
      · exact (a2 b m).mono kA
      · exact (b2 b m).mono kB
end
end
/-- what is tracked of an argument's object -/
def hoOf (o : Obj) : Option HO := match o.data with
  | .seq vs _ => if (o.cls == Value.type "list") = true then some (.frz o (.lst (vs.toList.map toV))) else some (.frz o (.tup (vs.toList.map toV)))
  | _ => none
def argH (K : PySem.W.Frag) (h : Heap) (A : List Addr) : Hp := fun b => if b ∈ A then (if (K.lookup b).isNone = true then (h.get? b).bind hoOf else none) else none
/-- nothing is tracked but what is known to the object -/
def OnlyF (H : Hp) : Prop := ∀ b, H b = none ∨ ∃ o u, H b = some (.frz o u)
theorem hoOf_lst (vs : List Value) : hoOf { cls := .type "list", data := .seq vs.toArray } = some (.frz { cls := .type "list", data := .seq vs.toArray } (.lst (vs.map toV))) := by
  show (if (Value.type "list" == Value.type "list") = true then some (HO.frz { cls := .type "list", data := .seq vs.toArray } (.lst (vs.toArray.toList.map toV))) else some (HO.frz { cls := .type "list", data := .seq vs.toArray } (.tup (vs.toArray.toList.map toV)))) = _
  rw [if_pos (beq_self_eq_true _)]
theorem hoOf_tup (vs : List Value) : hoOf { cls := .type "tuple", data := .seq vs.toArray } = some (.frz { cls := .type "tuple", data := .seq vs.toArray } (.tup (vs.map toV))) := by
  show (if (Value.type "tuple" == Value.type "list") = true then some (HO.frz { cls := .type "tuple", data := .seq vs.toArray } (.lst (vs.toArray.toList.map toV))) else some (HO.frz { cls := .type "tuple", data := .seq vs.toArray } (.tup (vs.toArray.toList.map toV)))) = _
  rw [if_neg (by decide)]
section
variable {P : Program} {w : World} {K : PySem.W.Frag} {h : Heap} {A : List Addr}
theorem argH_at {b : Addr} {o : Obj} (hb : b ∈ A) (hk : K.lookup b = none) (e : h.get? b = some o) : argH K h A b = hoOf o := by
  unfold argH
  rw [if_pos hb, hk, if_pos (show (none : Option Obj).isNone = true from rfl), e] <;> rfl
theorem of_argH {b : Addr} {u : HO} (q : argH K h A b = some u) : b ∈ A ∧ K.lookup b = none := by
  unfold argH at q
  by_cases hb : b ∈ A
  · rw [if_pos hb] at q
    cases hk : K.lookup b with
    | none => exact ⟨hb, rfl⟩
    | some o =>
      rw [hk, if_neg (by simp)] at q
      cases q
  · rw [if_neg hb] at q
    cases q
/-- what stands tracked -/
theorem argH_is (ar : ∀ a ∈ A, ArgOb h A a) {b : Addr} {u : HO} (q : argH K h A b = some u) : K.lookup b = none ∧ ∃ vs : List Value, vs.length ≤ sizeLine ∧ (∀ u ∈ vs, OkU A u) ∧
    ((h.get? b = some { cls := .type "list", data := .seq vs.toArray } ∧ u = .frz { cls := .type "list", data := .seq vs.toArray } (.lst (vs.map toV))) ∨
     (h.get? b = some { cls := .type "tuple", data := .seq vs.toArray } ∧ u = .frz { cls := .type "tuple", data := .seq vs.toArray } (.tup (vs.map toV)))) := by
  obtain ⟨hb, hk⟩ := of_argH q
  obtain ⟨vs, h1, h2, h3⟩ := ar b hb
  refine ⟨hk, vs, h1, h2, ?_⟩
  rcases h3 with e | e
  · rw [argH_at hb hk e, hoOf_lst] at q
    exact .inl ⟨e, (Option.some.inj q).symm⟩
  · rw [argH_at hb hk e, hoOf_tup] at q
    exact .inr ⟨e, (Option.some.inj q).symm⟩
theorem argH_only (ar : ∀ a ∈ A, ArgOb h A a) : OnlyF (argH K h A) := fun b => by
  cases q : argH K h A b with
  | none => exact .inl rfl
  | some u =>
    obtain ⟨_, vs, _, _, ⟨_, e⟩ | ⟨_, e⟩⟩ := argH_is ar q
    · exact .inr ⟨_, _, by rw [e]⟩
    · exact .inr ⟨_, _, by rw [e]⟩
theorem argH_ok (ar : ∀ a ∈ A, ArgOb h A a) : HOk P w (argH K h A) h := fun b u q => by
  obtain ⟨_, vs, h1, h2, ⟨e, rfl⟩ | ⟨e, rfl⟩⟩ := argH_is ar q
  · exact ⟨e, by rw [List.length_map]; exact h1, vs, _, vals_toV h2, e⟩
  · exact ⟨e, by rw [List.length_map]; exact h1, vs, vals_toV h2, _, e, rfl, _, rfl⟩
theorem seq_inj {c c' : Value} {vs us : List Value} (e : (some { cls := c, data := .seq vs.toArray } : Option Obj) = some { cls := c', data := .seq us.toArray }) : c = c' ∧ vs = us := by
  have e1 := Option.some.inj e
  have e2 : c = c' := congrArg Obj.cls e1
  have e3 : Data.seq vs.toArray = Data.seq us.toArray := congrArg Obj.data e1
  injection e3 with e4
  refine ⟨e2, ?_⟩
  have e5 := congrArg Array.toList e4
  simpa using e5
/-- a list argument -/
theorem argL (KX : K.In h) (ar : ∀ a ∈ A, ArgOb h A a) {a : Addr} {vs : List Value} (ha : a ∈ A) (e : h.get? a = some { cls := .type "list", data := .seq vs.toArray }) : (∀ u ∈ vs, OkU A u) ∧ SqL K (argH K h A) a (vs.map toV) := by
  obtain ⟨us, h1, h2, h3⟩ := ar a ha
  have hu : us = vs := by
    rcases h3 with q | q
    · rw [e] at q
      exact (seq_inj q).2.symm
    · rw [e] at q
      exact absurd (Value.type.inj (seq_inj q).1) (by decide)
  subst hu
  refine ⟨h2, ?_⟩
  cases hk : K.lookup a with
  | none => exact .inl (.inr ⟨_, by rw [argH_at ha hk e, hoOf_lst]⟩)
  | some o =>
    have e2 := KX a o hk
    rw [e] at e2
    obtain rfl := Option.some.inj e2
    exact .inr ⟨_, us.toArray, _, hk, rfl, rfl, rfl, by rw [List.size_toArray]; exact h1, by simpa using vals_toV h2⟩
theorem argT (KX : K.In h) (ar : ∀ a ∈ A, ArgOb h A a) {a : Addr} {vs : List Value} (ha : a ∈ A) (e : h.get? a = some { cls := .type "tuple", data := .seq vs.toArray }) : (∀ u ∈ vs, OkU A u) ∧ SqT K (argH K h A) a (vs.map toV) := by
  obtain ⟨us, h1, h2, h3⟩ := ar a ha
  have hu : us = vs := by
    rcases h3 with q | q
    · rw [e] at q
      exact absurd (Value.type.inj (seq_inj q).1) (by decide)
    · rw [e] at q
      exact (seq_inj q).2.symm
  subst hu
  refine ⟨h2, ?_⟩
  cases hk : K.lookup a with
  | none => exact .inl (.inr ⟨_, by rw [argH_at ha hk e, hoOf_tup]⟩)
  | some o =>
    have e2 := KX a o hk
    rw [e] at e2
    obtain rfl := Option.some.inj e2
    exact .inr ⟨_, us.toArray, _, hk, rfl, rfl, by rw [List.size_toArray]; exact h1, by simpa using vals_toV h2⟩
mutual
theorem dw_one {Pm : Params} (KX : K.In h) (ar : ∀ a ∈ A, ArgOb h A a) : ∀ (d : WData) (v : Value), Well Pm h v d → plW d = true → OkU A v → Dw K (argH K h A) (toV v) d
  | .none, _, x, _, _ => by
    cases x
    exact .non
  | .bool b, _, x, _, _ => by
    cases x
    exact .bl b
  | .int i, _, x, _, _ => by
    cases x
    exact .int i
  | .str s, _, x, _, _ => by
    cases x
    exact .str s
  | .bytes b, _, x, _, _ => by
    cases x
    have z := Dw.byt (K := K) (H := argH K h A) b.toArray
    exact z
  | .list ds, _, x, p, hu => by
    obtain ⟨a, vs, rfl, ho, hall⟩ := well_list x
    obtain ⟨h2, hs⟩ := argL KX ar hu ho
    exact .lst hs (dw_all KX ar ds _ hall p h2)
  | .tuple ds, _, x, p, hu => by
    obtain ⟨a, vs, rfl, ho, hall⟩ := well_tuple x
    obtain ⟨h2, hs⟩ := argT KX ar hu ho
    exact .tup hs (dw_all KX ar ds _ hall p h2)
  | .float _, _, _, p, _ => Bool.noConfusion (show false = true from p)
  | .dict _, _, _, p, _ => Bool.noConfusion (show false = true from p)
  | .bytearray _, _, _, p, _ => Bool.noConfusion (show false = true from p)
  | .set _, _, _, p, _ => Bool.noConfusion (show false = true from p)
  | .frozenset _, _, _, p, _ => Bool.noConfusion (show false = true from p)
  | .obj _ _, _, _, p, _ => Bool.noConfusion (show false = true from p)
theorem dw_all {Pm : Params} (KX : K.In h) (ar : ∀ a ∈ A, ArgOb h A a) : ∀ (ds : List WData) (vs : List Value), WellAll Pm h vs ds → plWs ds = true → (∀ u ∈ vs, OkU A u) → DwAll K (argH K h A) (vs.map toV) ds
  | [], _, x, _, _ => by
    cases x
    exact .nil
  | d :: ds, _, x, p, hu => by
    obtain ⟨v, vs, rfl, x1, x2⟩ := well_cons x
    have q : plW d = true ∧ plWs ds = true := Bool.and_eq_true_iff.mp p
    exact .cons (dw_one KX ar d v x1 q.1 (hu _ (List.mem_cons_self ..))) (dw_all KX ar ds vs x2 q.2 fun u m => hu u (List.mem_cons_of_mem _ m))
end
end
/-! ### the call -/
theorem spec_call {P : Program} {w : World} {K : PySem.W.Frag} {mg mb : Str → Option Value} {CX : CXT} {k : Nat} {fa : Addr} {fd : FuncData} {ps : List Str} {sp : Sp} {s₁ : Shared} {vals : List Value} {ds : List WData} {R : PySem.W.WRecords} {cl : Str → Option Addr} {d0 : WData}
    (KX : K.In s₁.heap) (hns : s₁.heap.Ns mainGlobals mg) (hb : s₁.heap.Ns builtinsNs mb) (hbb : ∀ x : Str, x ≠ "__name__" → mb x = bootBuiltins x) (hlim : s₁.heap.NoLimit) (hg : s₁.gens = #[])
    (hwl : WellAll w.params s₁.heap vals ds) (hpl : plWs ds = true) (hwt : ∀ d ∈ ds, d.weight ≤ 1048576) (hr : Room k callerA)
    (F : ∀ base : Heap, K.In base → base.Ns mainGlobals mg → FnOk P w K mg base CX k fa fd ps sp) (hbind : ∀ (s : Shared) (us : List Value), us.length = ps.length → BindsTo s fd ⟨us, []⟩ (ps.zip us)) (hlen : ds.length = ps.length)
    (hsp : ∀ (H : Hp) (xs : List V), OnlyF H → DwAll K H xs ds → sp xs H (fun v H' => Dw K H' v d0) fun _ _ _ => False)
    (hCX : ∀ H e s', CX [] H s₁ (fun _ _ _ => False) e s' → False) :
    codeAny (model P w) callerA (.call (.ref fa) ⟨vals, []⟩) (fun r s' => ∃ u as, r = .ok (.ret u) ∧ ReadsW R cl s'.heap u d0 as ∧ OldK s₁.heap s'.heap ∧ s'.os = s₁.os ∧ AllBare s'.gens) s₁ := by
  obtain ⟨A, ho, ar⟩ := area_all ds vals hwl hpl hwt
  have hO : OnlyF (argH K s₁.heap A) := argH_only ar
  have hok : HOk P w (argH K s₁.heap A) s₁.heap := argH_ok ar
  have hS := dw_all KX ar ds vals hwl hpl ho
  have hV := vals_toV ho
  have hK : ∀ b u, argH K s₁.heap A b = some u → K.lookup b = none := fun b u q => (argH_is ar q).1
  have noA : ∀ {b : Addr} {o : Obj} {es : Array DictEntry} {ep : Nat}, s₁.heap.get? b = some o → o.data = .dict es ep → argH K s₁.heap A b = none := fun {b o es ep} e d => by
    cases q : argH K s₁.heap A b with
    | none => rfl
    | some u =>
      obtain ⟨_, vs, _, _, ⟨e2, _⟩ | ⟨e2, _⟩⟩ := argH_is ar q
      · rw [e2] at e
        cases e
        have d' : Data.seq vs.toArray _ = Data.dict es ep := d
        cases d'
      · rw [e2] at e
        cases e
        have d' : Data.seq vs.toArray _ = Data.dict es ep := d
        cases d'
  generalize argH K s₁.heap A = H at hO hok hS hK noA
  have base_of : ∀ {b : Addr} {o : Obj}, s₁.heap.get? b = some o → H b = none → (hidT s₁.heap H).get? b = some o := fun e n => hidT_get e n
  have nsK : ∀ {b : Addr} {m : Str → Option Value}, s₁.heap.Ns b m → (hidT s₁.heap H).Ns b m := fun {b m} ⟨o, es, ep, e, d, r⟩ => ⟨o, es, ep, base_of e (noA e d), d, r⟩
  have nK : ∀ b o, K.lookup b = some o → H b = none := fun b o e => by
    cases q : H b with
    | none => rfl
    | some u =>
      rw [hK b u q] at e
      cases e
  have hKb : K.In (hidT s₁.heap H) := fun b o e => base_of (KX b o e) (nK b o e)
  have hM : Mod K mg (hidT s₁.heap H) := ⟨hKb, nsK hns, ⟨mb, nsK hb, hbb⟩, let ⟨mc, h1, h2⟩ := hlim; ⟨mc, nsK h1, h2⟩⟩
  have e0 : Env0 P w K mg (hidT s₁.heap H) callerA [] s₁ H := ⟨rfl, hM, fun b o e => of_hidT e, Nat.le_of_eq (hidT_size _ _), trivial, fun b hb => absurd (show b ∈ ([] : List Addr) from hb) (by simp), hok, .of_eq hg⟩
  have hl : vals.length = ps.length := by rw [wellAll_len hwl]; exact hlen
  refine codeAny_mono ((F _ hKb (nsK hns)).run callerA [] s₁ H ⟨vals, []⟩ vals (vals.map toV) _ _ hr e0 (hbind s₁ vals hl) hV (hsp H _ hO hS)) fun r s' x => ?_
  cases r with
  | error e => exact (hCX H e s' x).elim
  | ok fl =>
    cases fl with
    | next => exact False.elim x
    | brk => exact False.elim x
    | cont => exact False.elim x
    | ret u =>
      obtain ⟨v, H', os, bare, un, hok', r', q⟩ := x
      have kept : ∀ b o, s₁.heap.get? b = some o → s'.heap.get? b = some o := fun b o e => by
        cases q2 : H b with
        | none => exact un.keep b o e q2 (by intro z; exact absurd (show b ∈ ([] : List Addr) from z) (by simp)) (by simp)
        | some u2 =>
          rcases hO b with z | ⟨ob, u3, z⟩
          · rw [q2] at z
            cases z
          · have z2 := un.frzs b ob _ z
            obtain ⟨e1, _⟩ := hok b _ z
            obtain ⟨e2, _⟩ := hok' b _ z2
            rw [e] at e1
            cases e1
            exact e2
      have KX' : K.In s'.heap := fun b o e => kept b o (KX b o e)
      obtain ⟨as, hrd⟩ := Dw.reads (R := R) (cl := cl) hok' KX' d0 v u q r'
      exact ⟨u, as, rfl, hrd, OldK.of_keep kept, os, bare⟩
/-! ### the row -/
theorem layable_weight {ds : List WData} (h : WData.layableAll ds = true) : ∀ d ∈ ds, d.weight ≤ 1048576 := fun d hd =>
  (PySem.W.layableW_iff.mp (List.all_eq_true.mp h d hd)).2.2
theorem encAll_len : ∀ (cs : List Codec) (a : Codec.denoteAll cs), (Codec.encAll cs a).length = cs.length
  | [], _ => rfl
  | c :: cs, a => by
    show (Codec.encAll cs a.2).length + 1 = cs.length + 1
    rw [encAll_len cs a.2]
/-- the goal that k_headS leaves (case hc), from the promise of the row's def: whatever the arguments that the codecs let and the row asks for, the def gives what stands for enc (f ..) -/
theorem walk_spec {r : OpenSpec} {k : Nat} {q : Program} {loose : List Str} {XP : (Str → Option Value) → Heap → Prop} {YP : World → Heap → Prop} {d : DefRec} {K : Params → PySem.W.Frag} {CX : World → CXT} {ps : List Str} {sp : World → Sp}
    (hwell : r.wellSaid = true) (hdf : d.params.defaults = []) (hlen : r.args.length = ps.length) (hr : Room k callerA)
    (hY : ∀ (w : World) (h : Heap), YP w h → (K w.params).In h)
    (F : ∀ (w : World) (mg : Str → Option Value) (fa : Addr) (h : Heap), YP w h → (K w.params).In h → h.Ns mainGlobals mg → mg d.name = some (.ref fa) →
      ∃ fd : FuncData, (∀ (s : Shared) (us : List Value), us.length = ps.length → BindsTo s fd ⟨us, []⟩ (ps.zip us)) ∧
        ∀ base : Heap, (K w.params).In base → base.Ns mainGlobals mg → FnOk r.prog w (K w.params) mg base (CX w) k fa fd ps (sp w))
    (hsp : ∀ (w : World) (H : Hp) (xs : List V) (a : Codec.denoteAll r.args), OnlyF H → Codec.withinAll r.args a = true → Codec.app r.args r.asked a = true → DwAll (K w.params) H xs (Codec.encAll r.args a) →
      sp w xs H (fun v H' => Dw (K w.params) H' v (r.ret.enc (Codec.app r.args r.f a))) fun _ _ _ => False)
    (hCX : ∀ (w : World) (H : Hp) (s : Shared) (e : Value) (s' : Shared), CX w [] H s (fun _ _ _ => False) e s' → False) :
    PySem.W.WalkOS q loose XP YP r d [] (fun f vs => PySem.call f vs) := by
  intro w s_0 s₁ mg mb G Y fa o pm cd doc dV kV ho hd hcd hD hmg hg args vals as hpre hlay hrd hwl hlo
  obtain ⟨a, e1, e2⟩ := PySem.W.os_pre_some hpre
  obtain ⟨e3, hwi⟩ := Codec.encAll_of_decAll r.args args a e1
  subst e3
  have KX := hY w _ Y
  obtain ⟨fd, hb, hF⟩ := F w mg fa _ Y KX G.T.g hmg
  refine PySem.W.enter_call (codeAny_mono (spec_call (R := []) (cl := classAt s_0.heap) (d0 := r.ret.enc (Codec.app r.args r.f a)) KX G.T.g G.T.b G.T.builtins G.T.nolimit hg hwl (pl_encAll _ _) (layable_weight hlay) hr hF hb (by rw [encAll_len]; exact hlen)
    (fun H xs hO hS => hsp w H xs a hO hwi e2 hS) fun H e s' => hCX w H s₁ e s') fun r' s' hq => ?_)
  obtain ⟨u, as', rfl, h1, h2, h3, h4⟩ := hq
  exact ⟨.inl ⟨u, _, as', rfl, fun _ => rfl, h1, (OpenSpec.post_iff hwell hwi _ _).mpr rfl, fun z => Bool.noConfusion (show false = true from z)⟩, h2, h3, h4⟩
/-- the same where the promise hangs on the written part alone -/
theorem walk_specK {r : OpenSpec} {k : Nat} {q : Program} {loose : List Str} {XP : (Str → Option Value) → Heap → Prop} {YP : World → Heap → Prop} {d : DefRec} {K : Params → PySem.W.Frag} {CX : CXT} {ps : List Str} {sp : PySem.W.Frag → Sp}
    (hwell : r.wellSaid = true) (hdf : d.params.defaults = []) (hlen : r.args.length = ps.length) (hr : Room k callerA)
    (hY : ∀ (w : World) (h : Heap), YP w h → (K w.params).In h)
    (F : ∀ (w : World) (mg : Str → Option Value) (fa : Addr) (h : Heap), YP w h → (K w.params).In h → h.Ns mainGlobals mg → mg d.name = some (.ref fa) →
      ∃ fd : FuncData, (∀ (s : Shared) (us : List Value), us.length = ps.length → BindsTo s fd ⟨us, []⟩ (ps.zip us)) ∧
        ∀ base : Heap, (K w.params).In base → base.Ns mainGlobals mg → FnOk r.prog w (K w.params) mg base CX k fa fd ps (sp (K w.params)))
    (hsp : ∀ (K : PySem.W.Frag) (H : Hp) (xs : List V) (a : Codec.denoteAll r.args), OnlyF H → Codec.withinAll r.args a = true → Codec.app r.args r.asked a = true → DwAll K H xs (Codec.encAll r.args a) →
      sp K xs H (fun v H' => Dw K H' v (r.ret.enc (Codec.app r.args r.f a))) fun _ _ _ => False)
    (hCX : ∀ (H : Hp) (s : Shared) (e : Value) (s' : Shared), CX [] H s (fun _ _ _ => False) e s' → False) :
    PySem.W.WalkOS q loose XP YP r d [] (fun f vs => PySem.call f vs) :=
  walk_spec (K := K) (CX := fun _ => CX) (sp := fun w => sp (K w.params)) hwell hdf hlen hr hY F (fun w H xs a h1 h2 h3 h4 => hsp (K w.params) H xs a h1 h2 h3 h4) fun _ H s e s' => hCX H s e s'
end L2
-- rests on (row put in by the clerk, for the bench that shows a file only what it spells): KE.SpHead KE.OsShapes
end


set_option Elab.async false
namespace Rs
open Kg12
/-! ### numbers as they are told -/
theorem i32_u32 {z : Int} (h0 : -2147483648 ≤ z) (h1 : z ≤ 2147483647) : Kg12Neutral.i32 (Kg12Neutral.unsigned32 z) = z := by
  unfold Kg12Neutral.i32 Kg12Neutral.unsigned32
  have e1 : (2 : Nat) ^ 31 = 2147483648 := rfl
  have e2 : (2 : Int) ^ 32 = 4294967296 := rfl
  rw [e1, e2]
  split <;> omega
theorem i64_u64 {z : Int} (h0 : -9223372036854775808 ≤ z) (h1 : z ≤ 9223372036854775807) : Kg12Neutral.i64 (Kg12Neutral.unsigned64 z) = z := by
  unfold Kg12Neutral.i64 Kg12Neutral.unsigned64
  have e1 : (2 : Nat) ^ 63 = 9223372036854775808 := rfl
  have e2 : (2 : Int) ^ 64 = 18446744073709551616 := rfl
  rw [e1, e2]
  split <;> omega
theorem map_back {f : Int → Nat} {g : Nat → Int} {p : Int → Prop} (h : ∀ z, p z → g (f z) = z) : ∀ {l : List Int}, (∀ z ∈ l, p z) → (l.map f).map g = l
  | [], _ => rfl
  | x :: r, hl => by
    show g (f x) :: (r.map f).map g = x :: r
    rw [h x (hl x (List.mem_cons_self ..)), map_back h fun z hz => hl z (List.mem_cons_of_mem _ hz)]
abbrev W32 (z : Int) : Prop := -2147483648 ≤ z ∧ z ≤ 2147483647
abbrev W64 (z : Int) : Prop := -9223372036854775808 ≤ z ∧ z ≤ 9223372036854775807
abbrev U64 (z : Int) : Prop := 0 ≤ z ∧ z < 18446744073709551616
theorem as32_back {l : List Int} (h : ∀ z ∈ l, W32 z) : Kg12Neutral.as32 (l.map Kg12Neutral.unsigned32) = l := map_back (p := W32) (fun _ q => i32_u32 q.1 q.2) h
theorem as64_back {l : List Int} (h : ∀ z ∈ l, W64 z) : Kg12Neutral.as64 (l.map Kg12Neutral.unsigned64) = l := map_back (p := W64) (fun _ q => i64_u64 q.1 q.2) h
theorem plainly_back {l : List Int} (h : ∀ z ∈ l, 0 ≤ z) : Kg12Neutral.plainly (l.map Int.toNat) = l := map_back (p := fun z => 0 ≤ z) (fun z (q : 0 ≤ z) => Int.toNat_of_nonneg q) h
theorem lists_one {k : Nat} (l : List Nat) : Kg12Neutral.lists (k + 1) (l.length :: l) = [l] := by
  show (l.take l.length) :: Kg12Neutral.lists k (l.drop l.length) = [l]
  rw [List.take_length, List.drop_length]
  cases k <;> rfl
theorem lists_more {k : Nat} (l r : List Nat) : Kg12Neutral.lists (k + 1) (l.length :: (l ++ r)) = l :: Kg12Neutral.lists k r := by
  show ((l ++ r).take l.length) :: Kg12Neutral.lists k ((l ++ r).drop l.length) = l :: Kg12Neutral.lists k r
  rw [List.take_left, List.drop_left]
/-! ### words -/
def wordN (s : Rows) : Nat := s.foldr (fun b k => 2 * k + b.toNat) 0
theorem wordN_bit : ∀ (s : Rows) (j : Nat), (wordN s).testBit j = s.getD j false
  | [], j => by simp [wordN]
  | b :: s, 0 => by
    have e : wordN (b :: s) = 2 * wordN s + b.toNat := rfl
    rw [e, Nat.testBit_zero]
    cases b <;> simp
  | b :: s, j + 1 => by
    have e : wordN (b :: s) = 2 * wordN s + b.toNat := rfl
    have e2 : (2 * wordN s + b.toNat) / 2 = wordN s := by cases b <;> simp <;> omega
    rw [e, Nat.testBit_succ, e2, wordN_bit s j]
    simp
theorem wordOf_eq (s : Rows) : wordOf s = (wordN s : Int) := rfl
theorem wordsOf_length (s : Rows) : (wordsOf s).length = (s.length + 63) / 64 := by simp [wordsOf]
theorem wordsOf_get (s : Rows) (k : Nat) (h : k < (s.length + 63) / 64) : (wordsOf s)[k]? = some (wordN ((s.drop (64 * k)).take 64) : Int) := by
  unfold wordsOf
  rw [List.getElem?_map, List.getElem?_range h]
  rfl
theorem part_bit (s : Rows) (k j : Nat) : (wordN ((s.drop (64 * k)).take 64)).testBit j = (decide (j < 64) && s.getD (64 * k + j) false) := by
  rw [wordN_bit]
  by_cases h : j < 64
  · simp [List.getD, h, List.getElem?_take, List.getElem?_drop]
  · simp [List.getD, h, List.getElem?_take]
/-- a list of words is the set's, if its bits are -/
theorem words_eq {s : Rows} {ws : List Int} (hl : ws.length = (s.length + 63) / 64)
    (hb : ∀ (k : Nat) (w : Int), ws[k]? = some w → 0 ≤ w ∧ ∀ j, w.toNat.testBit j = (decide (j < 64) && s.getD (64 * k + j) false)) : ws = wordsOf s := by
  apply List.ext_getElem?
  intro k
  by_cases h : k < (s.length + 63) / 64
  · rw [wordsOf_get s k h]
    have hk : k < ws.length := by omega
    rw [List.getElem?_eq_getElem hk]
    obtain ⟨h0, hj⟩ := hb k _ (List.getElem?_eq_getElem hk)
    congr 1
    have e : (ws[k]).toNat = wordN ((s.drop (64 * k)).take 64) := Nat.eq_of_testBit_eq fun j => by rw [hj, part_bit]
    rw [← e]
    omega
  · rw [List.getElem?_eq_none (by omega), List.getElem?_eq_none (by rw [wordsOf_length]; omega)]
theorem words_bit {s : Rows} {k : Nat} {w : Int} (h : (wordsOf s)[k]? = some w) : 0 ≤ w ∧ w < 18446744073709551616 ∧ ∀ j, w.toNat.testBit j = (decide (j < 64) && s.getD (64 * k + j) false) := by
  have hk : k < (s.length + 63) / 64 := by
    rw [← wordsOf_length]
    exact (List.getElem?_eq_some_iff.mp h).1
  rw [wordsOf_get s k hk] at h
  cases h
  have hlt : wordN ((s.drop (64 * k)).take 64) < 2 ^ 64 := Nat.lt_pow_two_of_testBit _ fun i hi => by
    rw [part_bit]
    simp
    omega
  refine ⟨Int.natCast_nonneg _, by omega, fun j => ?_⟩
  rw [Int.toNat_natCast, part_bit]
/-! ### a set by its rows -/
def rowsIn (n : Nat) (l : List Nat) : Rows := (List.range n).map fun i => decide (i ∈ l)
theorem rowsIn_length (n : Nat) (l : List Nat) : (rowsIn n l).length = n := by simp [rowsIn]
theorem rowsIn_get (n : Nat) (l : List Nat) (i : Nat) : (rowsIn n l).getD i false = (decide (i < n) && decide (i ∈ l)) := by
  unfold rowsIn
  by_cases h : i < n
  · simp [List.getD, h]
  · simp [List.getD, h]
theorem rows_ext {s t : Rows} (hl : s.length = t.length) (h : ∀ i, i < s.length → s.getD i false = t.getD i false) : s = t := by
  apply List.ext_getElem hl
  intro i h1 h2
  have q := h i h1
  simpa [List.getD, h1, h2] using q
theorem rowsIn_nil (n : Nat) : wordsOf (rowsIn n []) = List.replicate ((n + 63) / 64) 0 := by
  symm
  apply words_eq
  · rw [rowsIn_length, List.length_replicate]
  · intro k w hk
    have hw : w = 0 := by
      have := List.mem_of_getElem? hk
      simpa using (List.mem_replicate.mp this).2
    subst hw
    refine ⟨by omega, fun j => ?_⟩
    rw [rowsIn_get]
    simp
/-- one more row: its bit is set in its word -/
theorem rowsIn_snoc {n r : Nat} {l : List Nat} (hr : r < n) {w v : Int} (hw : (wordsOf (rowsIn n l))[r / 64]? = some w) (hv : 0 ≤ v) (hb : v.toNat = w.toNat ||| 2 ^ (r % 64)) :
    (wordsOf (rowsIn n l)).set (r / 64) v = wordsOf (rowsIn n (l ++ [r])) := by
  apply words_eq
  · rw [List.length_set, wordsOf_length, rowsIn_length, rowsIn_length]
  · intro k u hu
    by_cases hk : k = r / 64
    · subst hk
      rw [List.getElem?_set_self (List.getElem?_eq_some_iff.mp hw).1] at hu
      cases hu
      refine ⟨hv, fun j => ?_⟩
      have q := (words_bit hw).2.2 j
      rw [hb, Nat.testBit_or, q, rowsIn_get, rowsIn_get, Nat.testBit_two_pow]
      by_cases hj : j < 64
      · by_cases e : r % 64 = j
        · have e2 : 64 * (r / 64) + j = r := by omega
          simp [hj, e, e2, hr]
        · have e2 : 64 * (r / 64) + j ≠ r := by omega
          simp [hj, e, e2]
      · have e : ¬ r % 64 = j := by omega
        simp [hj, e]
    · rw [List.getElem?_set_ne (fun q => hk q.symm)] at hu
      have q := words_bit hu
      refine ⟨q.1, fun j => ?_⟩
      rw [q.2.2 j, rowsIn_get, rowsIn_get]
      by_cases hj : j < 64
      · have e2 : 64 * k + j ≠ r := by omega
        simp [e2]
      · simp [hj]
/-! ### where -/
def st (how v x : Int) : Bool := if how = 0 then x == v else if how = 1 then !(x == v) else if how = 2 then decide (x < v) else if how = 3 then decide (x ≤ v) else if how = 4 then decide (v < x) else decide (v ≤ x)
theorem stands_st {how v x : Int} (h0 : 0 ≤ how) (h1 : how ≤ 5) : stands how (decide (x < v)) (x == v) = some (st how v x) := by
  have hc : how = 0 ∨ how = 1 ∨ how = 2 ∨ how = 3 ∨ how = 4 ∨ how = 5 := by omega
  rcases hc with rfl | rfl | rfl | rfl | rfl | rfl
  · rfl
  · rfl
  · rfl
  · show some (decide (x < v) || x == v) = some (decide (x ≤ v))
    congr 1
    rw [Bool.eq_iff_iff]
    simp
    omega
  · show some (!decide (x < v) && !(x == v)) = some (decide (v < x))
    congr 1
    rw [Bool.eq_iff_iff]
    simp
    omega
  · show some (!decide (x < v)) = some (decide (v ≤ x))
    congr 1
    rw [Bool.eq_iff_iff]
    simp
theorem mapM_some {α β : Type} {f : α → Option β} {g : α → β} (h : ∀ x, f x = some (g x)) : ∀ l : List α, l.mapM f = some (l.map g)
  | [] => rfl
  | x :: r => by
    rw [List.mapM_cons, h x, mapM_some h r]
    rfl
theorem whereInt_eq {how v : Int} (h0 : 0 ≤ how) (h1 : how ≤ 5) (col : List Int) : whereInt how v col = some (col.map (st how v)) := mapM_some (fun _ => stands_st h0 h1) col
def whereDue (n how value : Int) (col : List Int) : List Int :=
  if n < 0 ∨ 4096 < n then [-1] else if 0 ≤ how ∧ how ≤ 5 then size (col.map (st how value)) :: wordsOf (col.map (st how value)) else [-2]
theorem due_of {n how value : Int} {col : List Int} : (let a := answer ⟨.where_, n, [how, value], [col]⟩; a.code :: a.out.flatten) = whereDue n how value col := by
  unfold whereDue answer
  by_cases hn : n < 0 ∨ 4096 < n
  · simp only [hn, if_true]
    rfl
  · simp only [hn, if_false]
    by_cases hh : 0 ≤ how ∧ how ≤ 5
    · have e : whereInt ([how, value].getD 0 0) ([how, value].getD 1 0) ([col].getD 0 []) = some (col.map (st how value)) := whereInt_eq hh.1 hh.2 col
      show (let a := if 0 ≤ how ∧ how ≤ 5 then maybe (whereInt ([how, value].getD 0 0) ([how, value].getD 1 0) ([col].getD 0 [])) else num (-2); a.code :: a.out.flatten) = _
      simp only [hh, and_self, if_true]
      rw [e]
      show size _ :: [wordsOf _].flatten = _
      simp
    · show (let a := if 0 ≤ how ∧ how ≤ 5 then maybe (whereInt ([how, value].getD 0 0) ([how, value].getD 1 0) ([col].getD 0 [])) else num (-2); a.code :: a.out.flatten) = _
      simp only [hh, if_false]
      rfl
end Rs

set_option Elab.async false
namespace Rs
open Kg12
abbrev u32 := Kg12Neutral.unsigned32
theorem made_where {n how value : Int} {col : List Int} (hn : W32 n) (hh : W32 how) (hv : W32 value) (hc : ∀ z ∈ col, W32 z) :
    answer (Kg12Neutral.made .where_ ([u32 n] ++ [u32 how] ++ [u32 value] ++ (if 0 ≤ n ∧ n ≤ 4096 then col.length :: col.map u32 else []))
      [Kg12Neutral.h32 (([u32 n] ++ [u32 how] ++ [u32 value] ++ (if 0 ≤ n ∧ n ≤ 4096 then col.length :: col.map u32 else [])).drop 1), Kg12Neutral.h32 (([u32 n] ++ [u32 how] ++ [u32 value] ++ (if 0 ≤ n ∧ n ≤ 4096 then col.length :: col.map u32 else [])).drop 2)] 3 [Kg12Neutral.as32])
    = answer ⟨.where_, n, [how, value], [col]⟩ := by
  have e1 : Kg12Neutral.i32 (u32 n) = n := i32_u32 hn.1 hn.2
  have e2 : Kg12Neutral.i32 (u32 how) = how := i32_u32 hh.1 hh.2
  have e3 : Kg12Neutral.i32 (u32 value) = value := i32_u32 hv.1 hv.2
  by_cases h : 0 ≤ n ∧ n ≤ 4096
  · simp only [h, and_self, if_true]
    show answer ⟨.where_, Kg12Neutral.i32 (u32 n), [Kg12Neutral.i32 (u32 how), Kg12Neutral.i32 (u32 value)], ((Kg12Neutral.lists 4 (col.length :: col.map u32)).zip [Kg12Neutral.as32]).map fun x => x.2 x.1⟩ = _
    have e4 : Kg12Neutral.lists 4 (col.length :: col.map u32) = [col.map u32] := by
      have q := lists_one (k := 3) (col.map u32)
      rw [List.length_map] at q
      exact q
    rw [e1, e2, e3, e4]
    show answer ⟨.where_, n, [how, value], [Kg12Neutral.as32 (col.map u32)]⟩ = _
    rw [as32_back hc]
  · simp only [h, if_false]
    show answer ⟨.where_, Kg12Neutral.i32 (u32 n), _, _⟩ = _
    rw [e1]
    have h' : n < 0 ∨ 4096 < n := by omega
    unfold answer
    simp only [h', if_true]
theorem f_where8 {n how value : Int} {col : List Int} (hn : W32 n) (hh : W32 how) (hv : W32 value) (hc : ∀ z ∈ col, W32 z) : PyKg12.where8 n how value col = whereDue n how value col := by
  rw [← due_of, ← made_where hn hh hv hc]
  rfl
theorem f_where16 {n how value : Int} {col : List Int} (hn : W32 n) (hh : W32 how) (hv : W32 value) (hc : ∀ z ∈ col, W32 z) : PyKg12.where16 n how value col = whereDue n how value col := by
  rw [← due_of, ← made_where hn hh hv hc]
  rfl
theorem f_where32 {n how value : Int} {col : List Int} (hn : W32 n) (hh : W32 how) (hv : W32 value) (hc : ∀ z ∈ col, W32 z) : PyKg12.where32 n how value col = whereDue n how value col := by
  rw [← due_of, ← made_where hn hh hv hc]
  rfl
/-! ### what is asked -/
theorem asked_len {c : Kg12Neutral.Call} (h : Kg12Neutral.asked [c] = true) : Kg12Neutral.asked1 c = true := by
  unfold Kg12Neutral.asked at h
  simp only [Bool.and_eq_true, List.all_cons, List.all_nil] at h
  exact h.2.2.1.1.1
theorem long_n {l : List Int} {n : Int} (h : (l.length : Int) = if 0 ≤ n ∧ n ≤ 4096 then Kg12Neutral.some_ n 0 4096 else 0) : l.length = if 0 ≤ n ∧ n ≤ 4096 then n.toNat else 0 := by
  unfold Kg12Neutral.some_ at h
  split at h
  · next q =>
    rw [if_pos q]
    omega
  · next q =>
    rw [if_neg q]
    omega
theorem long_set {l : List Int} {n : Int} (h : (l.length : Int) = if 0 ≤ n ∧ n ≤ 4096 then Kg12Neutral.set_ n else 0) : l.length = if 0 ≤ n ∧ n ≤ 4096 then (n.toNat + 63) / 64 else 0 := by
  unfold Kg12Neutral.set_ Kg12Neutral.some_ at h
  split at h
  · next q =>
    rw [if_pos q]
    omega
  · next q =>
    rw [if_neg q]
    omega
theorem asked_where8 {n how value : Int} {col : List Int} (h : PyKg12.where8_asked n how value col = true) : col.length = if 0 ≤ n ∧ n ≤ 4096 then n.toNat else 0 := by
  have q := asked_len h
  simp only [Kg12Neutral.asked1, Bool.and_eq_true, decide_eq_true_eq] at q
  exact long_n q.2.2
theorem asked_where16 {n how value : Int} {col : List Int} (h : PyKg12.where16_asked n how value col = true) : col.length = if 0 ≤ n ∧ n ≤ 4096 then n.toNat else 0 := by
  have q := asked_len h
  simp only [Kg12Neutral.asked1, Bool.and_eq_true, decide_eq_true_eq] at q
  exact long_n q.2.2
theorem asked_where32 {n how value : Int} {col : List Int} (h : PyKg12.where32_asked n how value col = true) : col.length = if 0 ≤ n ∧ n ≤ 4096 then n.toNat else 0 := by
  have q := asked_len h
  simp only [Kg12Neutral.asked1, Bool.and_eq_true, decide_eq_true_eq] at q
  exact long_n q.2.2
end Rs

set_option Elab.async false
namespace Rs
open Kg12
theorem lists_a (a : List Nat) : Kg12Neutral.lists 4 (a.length :: a) = [a] := lists_one a
theorem lists_ab (a b : List Nat) : Kg12Neutral.lists 4 ((a.length :: a) ++ (b.length :: b)) = [a, b] := by
  show Kg12Neutral.lists 4 (a.length :: (a ++ (b.length :: b))) = [a, b]
  rw [lists_more, lists_one]
theorem lists_abc (a b c : List Nat) : Kg12Neutral.lists 4 (((a.length :: a) ++ (b.length :: b)) ++ (c.length :: c)) = [a, b, c] := by
  rw [List.append_assoc]
  show Kg12Neutral.lists 4 (a.length :: (a ++ (b.length :: (b ++ (c.length :: c))))) = [a, b, c]
  rw [lists_more, lists_more, lists_one]
abbrev nn (l : List Int) : Prop := ∀ z ∈ l, 0 ≤ z
abbrev told (a : Ans) : List Int := a.code :: a.out.flatten
theorem out_n {c : Kg12.Call} (h : c.n < 0 ∨ 4096 < c.n) : answer c = num (-1) := by
  unfold answer
  simp only [h, if_true]
abbrev inN (n : Int) : Prop := 0 ≤ n ∧ n ≤ 4096
/-- one row of words behind n and one more number -/
theorem due_nh_a {F : Kg12.F} {n h : Int} {a : List Int} (hn : W32 n) (hh : W32 h) (ha : nn a) :
    answer (Kg12Neutral.made F ([u32 n] ++ [u32 h] ++ (if 0 ≤ n ∧ n ≤ 4096 then a.length :: a.map Int.toNat else [])) [Kg12Neutral.h32 (([u32 n] ++ [u32 h] ++ (if 0 ≤ n ∧ n ≤ 4096 then a.length :: a.map Int.toNat else [])).drop 1)] 2 [Kg12Neutral.plainly])
      = if inN n then answer ⟨F, n, [h], [a]⟩ else num (-1) := by
  have e1 : Kg12Neutral.i32 (u32 n) = n := i32_u32 hn.1 hn.2
  have e2 : Kg12Neutral.i32 (u32 h) = h := i32_u32 hh.1 hh.2
  by_cases q : 0 ≤ n ∧ n ≤ 4096
  · refine Eq.trans ?_ (if_pos (show inN n from q)).symm
    simp only [q, and_self, if_true]
    show answer ⟨F, Kg12Neutral.i32 (u32 n), [Kg12Neutral.i32 (u32 h)], ((Kg12Neutral.lists 4 (a.length :: a.map Int.toNat)).zip [Kg12Neutral.plainly]).map fun x => x.2 x.1⟩ = _
    have e4 : Kg12Neutral.lists 4 (a.length :: a.map Int.toNat) = [a.map Int.toNat] := by
      have q := lists_a (a.map Int.toNat)
      rw [List.length_map] at q
      exact q
    rw [e1, e2, e4]
    show answer ⟨F, n, [h], [Kg12Neutral.plainly (a.map Int.toNat)]⟩ = _
    rw [plainly_back ha]
  · refine Eq.trans ?_ (if_neg (show ¬ inN n from q)).symm
    apply out_n
    show Kg12Neutral.i32 (u32 n) < 0 ∨ 4096 < Kg12Neutral.i32 (u32 n)
    rw [e1]
    omega
theorem due_n_a {F : Kg12.F} {n : Int} {a : List Int} (hn : W32 n) (ha : nn a) :
    answer (Kg12Neutral.made F ([u32 n] ++ (if 0 ≤ n ∧ n ≤ 4096 then a.length :: a.map Int.toNat else [])) [] 1 [Kg12Neutral.plainly]) = if inN n then answer ⟨F, n, [], [a]⟩ else num (-1) := by
  have e1 : Kg12Neutral.i32 (u32 n) = n := i32_u32 hn.1 hn.2
  by_cases q : 0 ≤ n ∧ n ≤ 4096
  · refine Eq.trans ?_ (if_pos (show inN n from q)).symm
    simp only [q, and_self, if_true]
    show answer ⟨F, Kg12Neutral.i32 (u32 n), [], ((Kg12Neutral.lists 4 (a.length :: a.map Int.toNat)).zip [Kg12Neutral.plainly]).map fun x => x.2 x.1⟩ = _
    have e4 : Kg12Neutral.lists 4 (a.length :: a.map Int.toNat) = [a.map Int.toNat] := by
      have q := lists_a (a.map Int.toNat)
      rw [List.length_map] at q
      exact q
    rw [e1, e4]
    show answer ⟨F, n, [], [Kg12Neutral.plainly (a.map Int.toNat)]⟩ = _
    rw [plainly_back ha]
  · refine Eq.trans ?_ (if_neg (show ¬ inN n from q)).symm
    apply out_n
    show Kg12Neutral.i32 (u32 n) < 0 ∨ 4096 < Kg12Neutral.i32 (u32 n)
    rw [e1]
    omega
/-- two rows, each turned and turned back -/
theorem due_n_ab {F : Kg12.F} {n : Int} {a b : List Int} {f g : Int → Nat} {f' g' : List Nat → List Int} (hn : W32 n) (ha : f' (a.map f) = a) (hb : g' (b.map g) = b) :
    answer (Kg12Neutral.made F ([u32 n] ++ (if 0 ≤ n ∧ n ≤ 4096 then a.length :: a.map f else []) ++ (if 0 ≤ n ∧ n ≤ 4096 then b.length :: b.map g else [])) [] 1 [f', g']) = if inN n then answer ⟨F, n, [], [a, b]⟩ else num (-1) := by
  have e1 : Kg12Neutral.i32 (u32 n) = n := i32_u32 hn.1 hn.2
  by_cases q : 0 ≤ n ∧ n ≤ 4096
  · refine Eq.trans ?_ (if_pos (show inN n from q)).symm
    simp only [q, and_self, if_true]
    show answer ⟨F, Kg12Neutral.i32 (u32 n), [], ((Kg12Neutral.lists 4 ((a.length :: a.map f) ++ (b.length :: b.map g))).zip [f', g']).map fun x => x.2 x.1⟩ = _
    have e4 : Kg12Neutral.lists 4 ((a.length :: a.map f) ++ (b.length :: b.map g)) = [a.map f, b.map g] := by
      have q := lists_ab (a.map f) (b.map g)
      rw [List.length_map, List.length_map] at q
      exact q
    rw [e1, e4]
    show answer ⟨F, n, [], [f' (a.map f), g' (b.map g)]⟩ = _
    rw [ha, hb]
  · refine Eq.trans ?_ (if_neg (show ¬ inN n from q)).symm
    apply out_n
    show Kg12Neutral.i32 (u32 n) < 0 ∨ 4096 < Kg12Neutral.i32 (u32 n)
    rw [e1]
    omega
theorem due_nh_ab {F : Kg12.F} {n h : Int} {a b : List Int} {f g : Int → Nat} {f' g' : List Nat → List Int} (hn : W32 n) (hh : W32 h) (ha : f' (a.map f) = a) (hb : g' (b.map g) = b) :
    answer (Kg12Neutral.made F ([u32 n] ++ [u32 h] ++ (if 0 ≤ n ∧ n ≤ 4096 then a.length :: a.map f else []) ++ (if 0 ≤ n ∧ n ≤ 4096 then b.length :: b.map g else []))
      [Kg12Neutral.h32 (([u32 n] ++ [u32 h] ++ (if 0 ≤ n ∧ n ≤ 4096 then a.length :: a.map f else []) ++ (if 0 ≤ n ∧ n ≤ 4096 then b.length :: b.map g else [])).drop 1)] 2 [f', g']) = if inN n then answer ⟨F, n, [h], [a, b]⟩ else num (-1) := by
  have e1 : Kg12Neutral.i32 (u32 n) = n := i32_u32 hn.1 hn.2
  have e2 : Kg12Neutral.i32 (u32 h) = h := i32_u32 hh.1 hh.2
  by_cases q : 0 ≤ n ∧ n ≤ 4096
  · refine Eq.trans ?_ (if_pos (show inN n from q)).symm
    simp only [q, and_self, if_true]
    show answer ⟨F, Kg12Neutral.i32 (u32 n), [Kg12Neutral.i32 (u32 h)], ((Kg12Neutral.lists 4 ((a.length :: a.map f) ++ (b.length :: b.map g))).zip [f', g']).map fun x => x.2 x.1⟩ = _
    have e4 : Kg12Neutral.lists 4 ((a.length :: a.map f) ++ (b.length :: b.map g)) = [a.map f, b.map g] := by
      have q := lists_ab (a.map f) (b.map g)
      rw [List.length_map, List.length_map] at q
      exact q
    rw [e1, e2, e4]
    show answer ⟨F, n, [h], [f' (a.map f), g' (b.map g)]⟩ = _
    rw [ha, hb]
  · refine Eq.trans ?_ (if_neg (show ¬ inN n from q)).symm
    apply out_n
    show Kg12Neutral.i32 (u32 n) < 0 ∨ 4096 < Kg12Neutral.i32 (u32 n)
    rw [e1]
    omega
theorem due_n_abc {F : Kg12.F} {n : Int} {a b c : List Int} {f g k : Int → Nat} {f' g' k' : List Nat → List Int} (hn : W32 n) (ha : f' (a.map f) = a) (hb : g' (b.map g) = b) (hc : k' (c.map k) = c) :
    answer (Kg12Neutral.made F ([u32 n] ++ (if 0 ≤ n ∧ n ≤ 4096 then a.length :: a.map f else []) ++ (if 0 ≤ n ∧ n ≤ 4096 then b.length :: b.map g else []) ++ (if 0 ≤ n ∧ n ≤ 4096 then c.length :: c.map k else [])) [] 1 [f', g', k'])
      = if inN n then answer ⟨F, n, [], [a, b, c]⟩ else num (-1) := by
  have e1 : Kg12Neutral.i32 (u32 n) = n := i32_u32 hn.1 hn.2
  by_cases q : 0 ≤ n ∧ n ≤ 4096
  · refine Eq.trans ?_ (if_pos (show inN n from q)).symm
    simp only [q, and_self, if_true]
    show answer ⟨F, Kg12Neutral.i32 (u32 n), [], ((Kg12Neutral.lists 4 (((a.length :: a.map f) ++ (b.length :: b.map g)) ++ (c.length :: c.map k))).zip [f', g', k']).map fun x => x.2 x.1⟩ = _
    have e4 : Kg12Neutral.lists 4 (((a.length :: a.map f) ++ (b.length :: b.map g)) ++ (c.length :: c.map k)) = [a.map f, b.map g, c.map k] := by
      have q := lists_abc (a.map f) (b.map g) (c.map k)
      rw [List.length_map, List.length_map, List.length_map] at q
      exact q
    rw [e1, e4]
    show answer ⟨F, n, [], [f' (a.map f), g' (b.map g), k' (c.map k)]⟩ = _
    rw [ha, hb, hc]
  · refine Eq.trans ?_ (if_neg (show ¬ inN n from q)).symm
    apply out_n
    show Kg12Neutral.i32 (u32 n) < 0 ∨ 4096 < Kg12Neutral.i32 (u32 n)
    rw [e1]
    omega
/-! ### the calls -/
theorem f_shift {n h : Int} {a : List Int} (hn : W32 n) (hh : W32 h) (ha : nn a) : PyKg12.shift n h a = told (if inN n then answer ⟨.shift, n, [h], [a]⟩ else num (-1)) := congrArg told (due_nh_a hn hh ha)
theorem f_nth {n h : Int} {a : List Int} (hn : W32 n) (hh : W32 h) (ha : nn a) : PyKg12.nth n h a = told (if inN n then answer ⟨.nth, n, [h], [a]⟩ else num (-1)) := congrArg told (due_nh_a hn hh ha)
theorem f_ends {n : Int} {a : List Int} (hn : W32 n) (ha : nn a) : PyKg12.ends n a = told (if inN n then answer ⟨.ends, n, [], [a]⟩ else num (-1)) := congrArg told (due_n_a hn ha)
theorem f_bytes_of {n : Int} {a : List Int} (hn : W32 n) (ha : nn a) : PyKg12.bytes_of n a = told (if inN n then answer ⟨.bytes, n, [], [a]⟩ else num (-1)) := congrArg told (due_n_a hn ha)
theorem f_ofbytes {n : Int} {a : List Int} (hn : W32 n) (ha : nn a) : PyKg12.ofbytes n a = told (if inN n then answer ⟨.ofbytes, n, [], [a]⟩ else num (-1)) := congrArg told (due_n_a hn ha)
theorem f_fill {n : Int} {a b : List Int} (hn : W32 n) (ha : nn a) (hb : nn b) : PyKg12.fill n a b = told (if inN n then answer ⟨.fill, n, [], [a, b]⟩ else num (-1)) := congrArg told (due_n_ab hn (plainly_back ha) (plainly_back hb))
theorem f_test {n : Int} {a b : List Int} (hn : W32 n) (ha : nn a) (hb : nn b) : PyKg12.test n a b = told (if inN n then answer ⟨.test, n, [], [a, b]⟩ else num (-1)) := congrArg told (due_n_ab hn (plainly_back ha) (plainly_back hb))
theorem f_pick {n : Int} {a b : List Int} (hn : W32 n) (ha : ∀ z ∈ a, W32 z) (hb : nn b) : PyKg12.pick n a b = told (if inN n then answer ⟨.pick, n, [], [a, b]⟩ else num (-1)) := congrArg told (due_n_ab hn (as32_back ha) (plainly_back hb))
theorem f_put {n : Int} {a b c : List Int} (hn : W32 n) (ha : ∀ z ∈ a, W32 z) (hb : nn b) (hc : ∀ z ∈ c, W32 z) : PyKg12.put n a b c = told (if inN n then answer ⟨.put, n, [], [a, b, c]⟩ else num (-1)) := congrArg told (due_n_abc hn (as32_back ha) (plainly_back hb) (as32_back hc))
theorem f_choose {n : Int} {a b c : List Int} (hn : W32 n) (ha : ∀ z ∈ a, W32 z) (hb : ∀ z ∈ b, W32 z) (hc : nn c) : PyKg12.choose n a b c = told (if inN n then answer ⟨.choose, n, [], [a, b, c]⟩ else num (-1)) := congrArg told (due_n_abc hn (as32_back ha) (as32_back hb) (plainly_back hc))
theorem f_add {n h : Int} {a b : List Int} (hn : W32 n) (hh : W32 h) (ha : ∀ z ∈ a, W32 z) (hb : nn b) : PyKg12.add n h a b = told (if inN n then answer ⟨.add, n, [h], [a, b]⟩ else num (-1)) := congrArg told (due_nh_ab hn hh (as32_back ha) (plainly_back hb))
end Rs

set_option Elab.async false
namespace Rs
open Kg12
abbrev u64 := Kg12Neutral.unsigned64
theorem f_where64 {n how value : Int} {col : List Int} (hn : W32 n) (hh : W32 how) (hv : W64 value) (hc : ∀ z ∈ col, W64 z) : PyKg12.where64 n how value col = whereDue n how value col := by
  rw [← due_of]
  have e1 : Kg12Neutral.i32 (u32 n) = n := i32_u32 hn.1 hn.2
  have e2 : Kg12Neutral.i32 (u32 how) = how := i32_u32 hh.1 hh.2
  have e3 : Kg12Neutral.i64 (u64 value) = value := i64_u64 hv.1 hv.2
  refine congrArg told (?_ : answer (Kg12Neutral.callOf (3 :: ([u32 n] ++ [u32 how] ++ [u64 value] ++ (if 0 ≤ n ∧ n ≤ 4096 then col.length :: col.map u64 else [])))) = _)
  by_cases q : 0 ≤ n ∧ n ≤ 4096
  · simp only [q, and_self, if_true]
    show answer ⟨.where_, Kg12Neutral.i32 (u32 n), [Kg12Neutral.i32 (u32 how), Kg12Neutral.i64 (u64 value)], ((Kg12Neutral.lists 4 (col.length :: col.map u64)).zip [Kg12Neutral.as64]).map fun x => x.2 x.1⟩ = _
    have e4 : Kg12Neutral.lists 4 (col.length :: col.map u64) = [col.map u64] := by
      have q := lists_a (col.map u64)
      rw [List.length_map] at q
      exact q
    rw [e1, e2, e3, e4]
    show answer ⟨.where_, n, [how, value], [Kg12Neutral.as64 (col.map u64)]⟩ = _
    rw [as64_back hc]
  · rw [out_n (c := ⟨.where_, n, [how, value], [col]⟩) (show n < 0 ∨ 4096 < n by omega)]
    apply out_n
    show Kg12Neutral.i32 (u32 n) < 0 ∨ 4096 < Kg12Neutral.i32 (u32 n)
    rw [e1]
    omega
theorem f_wherebits {n how value : Int} {col : List Int} (hn : W32 n) (hh : W32 how) (hv : 0 ≤ value) (hc : nn col) : PyKg12.wherebits n how value col = told (if inN n then answer ⟨.wherebits, n, [how, value], [col]⟩ else num (-1)) := by
  have e1 : Kg12Neutral.i32 (u32 n) = n := i32_u32 hn.1 hn.2
  have e2 : Kg12Neutral.i32 (u32 how) = how := i32_u32 hh.1 hh.2
  have e3 : ((value.toNat : Nat) : Int) = value := Int.toNat_of_nonneg hv
  refine congrArg told (?_ : answer (Kg12Neutral.callOf (4 :: ([u32 n] ++ [u32 how] ++ [value.toNat] ++ (if 0 ≤ n ∧ n ≤ 4096 then col.length :: col.map Int.toNat else [])))) = _)
  by_cases q : 0 ≤ n ∧ n ≤ 4096
  · refine Eq.trans ?_ (if_pos (show inN n from q)).symm
    simp only [q, and_self, if_true]
    show answer ⟨.wherebits, Kg12Neutral.i32 (u32 n), [Kg12Neutral.i32 (u32 how), ((value.toNat : Nat) : Int)], ((Kg12Neutral.lists 4 (col.length :: col.map Int.toNat)).zip [Kg12Neutral.plainly]).map fun x => x.2 x.1⟩ = _
    have e4 : Kg12Neutral.lists 4 (col.length :: col.map Int.toNat) = [col.map Int.toNat] := by
      have q := lists_a (col.map Int.toNat)
      rw [List.length_map] at q
      exact q
    rw [e1, e2, e3, e4]
    show answer ⟨.wherebits, n, [how, value], [Kg12Neutral.plainly (col.map Int.toNat)]⟩ = _
    rw [plainly_back hc]
  · refine Eq.trans ?_ (if_neg (show ¬ inN n from q)).symm
    apply out_n
    show Kg12Neutral.i32 (u32 n) < 0 ∨ 4096 < Kg12Neutral.i32 (u32 n)
    rw [e1]
    omega
/-- join: b is not told where how is 6 -/
theorem f_join {n h : Int} {a b : List Int} (hn : W32 n) (hh : W32 h) (ha : nn a) (hb : nn b) : PyKg12.join n h a b = told (if inN n then answer ⟨.join, n, [h], if h = 6 then [a] else [a, b]⟩ else num (-1)) := by
  have e1 : Kg12Neutral.i32 (u32 n) = n := i32_u32 hn.1 hn.2
  have e2 : Kg12Neutral.i32 (u32 h) = h := i32_u32 hh.1 hh.2
  refine congrArg told (?_ : answer (Kg12Neutral.callOf (5 :: ([u32 n] ++ [u32 h] ++ (if 0 ≤ n ∧ n ≤ 4096 then a.length :: a.map Int.toNat else []) ++ (if (0 ≤ n ∧ n ≤ 4096) ∧ h ≠ 6 then b.length :: b.map Int.toNat else [])))) = _)
  by_cases q : 0 ≤ n ∧ n ≤ 4096
  · refine Eq.trans ?_ (if_pos (show inN n from q)).symm
    by_cases h6 : h = 6
    · have q2 : ¬ ((0 ≤ n ∧ n ≤ 4096) ∧ h ≠ 6) := by omega
      rw [if_neg q2, if_pos q, if_pos h6, List.append_nil]
      show answer ⟨.join, Kg12Neutral.i32 (u32 n), [Kg12Neutral.i32 (u32 h)], ((Kg12Neutral.lists 4 (a.length :: a.map Int.toNat)).zip [Kg12Neutral.plainly, Kg12Neutral.plainly]).map fun x => x.2 x.1⟩ = _
      have e4 : Kg12Neutral.lists 4 (a.length :: a.map Int.toNat) = [a.map Int.toNat] := by
        have q := lists_a (a.map Int.toNat)
        rw [List.length_map] at q
        exact q
      rw [e1, e2, e4]
      show answer ⟨.join, n, [h], [Kg12Neutral.plainly (a.map Int.toNat)]⟩ = _
      rw [plainly_back ha]
    · have q2 : (0 ≤ n ∧ n ≤ 4096) ∧ h ≠ 6 := ⟨q, h6⟩
      rw [if_pos q2, if_pos q, if_neg h6]
      show answer ⟨.join, Kg12Neutral.i32 (u32 n), [Kg12Neutral.i32 (u32 h)], ((Kg12Neutral.lists 4 ((a.length :: a.map Int.toNat) ++ (b.length :: b.map Int.toNat))).zip [Kg12Neutral.plainly, Kg12Neutral.plainly]).map fun x => x.2 x.1⟩ = _
      have e4 : Kg12Neutral.lists 4 ((a.length :: a.map Int.toNat) ++ (b.length :: b.map Int.toNat)) = [a.map Int.toNat, b.map Int.toNat] := by
        have q := lists_ab (a.map Int.toNat) (b.map Int.toNat)
        rw [List.length_map, List.length_map] at q
        exact q
      rw [e1, e2, e4]
      show answer ⟨.join, n, [h], [Kg12Neutral.plainly (a.map Int.toNat), Kg12Neutral.plainly (b.map Int.toNat)]⟩ = _
      rw [plainly_back ha, plainly_back hb]
  · refine Eq.trans ?_ (if_neg (show ¬ inN n from q)).symm
    apply out_n
    show Kg12Neutral.i32 (u32 n) < 0 ∨ 4096 < Kg12Neutral.i32 (u32 n)
    rw [e1]
    omega
theorem f_rules {n h : Int} {a b : List Int} (hn : W32 n) (hh : W32 h) (ha : ∀ z ∈ a, W32 z) (hb : ∀ z ∈ b, W32 z) : PyKg12.rules n h a b = told (if inN n then (if 0 ≤ h ∧ h ≤ 64 then answer ⟨.rules, n, [h], [a, b]⟩ else num (-2)) else num (-1)) := by
  have e1 : Kg12Neutral.i32 (u32 n) = n := i32_u32 hn.1 hn.2
  have e2 : Kg12Neutral.i32 (u32 h) = h := i32_u32 hh.1 hh.2
  refine congrArg told (?_ : answer (Kg12Neutral.callOf (17 :: ([u32 n] ++ [u32 h] ++ (if (0 ≤ n ∧ n ≤ 4096) ∧ (0 ≤ h ∧ h ≤ 64) then a.length :: a.map u32 else []) ++ (if (0 ≤ n ∧ n ≤ 4096) ∧ (0 ≤ h ∧ h ≤ 64) then b.length :: b.map u32 else [])))) = _)
  by_cases q : 0 ≤ n ∧ n ≤ 4096
  · refine Eq.trans ?_ (if_pos (show inN n from q)).symm
    by_cases h6 : 0 ≤ h ∧ h ≤ 64
    · have q2 : (0 ≤ n ∧ n ≤ 4096) ∧ (0 ≤ h ∧ h ≤ 64) := ⟨q, h6⟩
      rw [if_pos q2, if_pos q2, if_pos h6]
      show answer ⟨.rules, Kg12Neutral.i32 (u32 n), [Kg12Neutral.i32 (u32 h)], ((Kg12Neutral.lists 4 ((a.length :: a.map u32) ++ (b.length :: b.map u32))).zip [Kg12Neutral.as32, Kg12Neutral.as32]).map fun x => x.2 x.1⟩ = _
      have e4 : Kg12Neutral.lists 4 ((a.length :: a.map u32) ++ (b.length :: b.map u32)) = [a.map u32, b.map u32] := by
        have q := lists_ab (a.map u32) (b.map u32)
        rw [List.length_map, List.length_map] at q
        exact q
      rw [e1, e2, e4]
      show answer ⟨.rules, n, [h], [Kg12Neutral.as32 (a.map u32), Kg12Neutral.as32 (b.map u32)]⟩ = _
      rw [as32_back ha, as32_back hb]
    · have q2 : ¬ ((0 ≤ n ∧ n ≤ 4096) ∧ (0 ≤ h ∧ h ≤ 64)) := fun z => h6 z.2
      rw [if_neg q2, if_neg q2, if_neg h6]
      show answer ⟨.rules, Kg12Neutral.i32 (u32 n), [Kg12Neutral.i32 (u32 h)], []⟩ = _
      rw [e1, e2]
      have h1 : ¬ (n < 0 ∨ 4096 < n) := by omega
      have h2 : h < 0 ∨ 64 < h := by omega
      unfold answer
      rw [if_neg h1]
      show (if h < 0 ∨ 64 < h then num (-2) else _) = _
      rw [if_pos h2]
  · refine Eq.trans ?_ (if_neg (show ¬ inN n from q)).symm
    apply out_n
    show Kg12Neutral.i32 (u32 n) < 0 ∨ 4096 < Kg12Neutral.i32 (u32 n)
    rw [e1]
    omega
end Rs

set_option Elab.async false
namespace Rs
open Kg12
abbrev lenN (n : Int) : Nat := if 0 ≤ n ∧ n ≤ 4096 then n.toNat else 0
abbrev lenS (n : Int) : Nat := if 0 ≤ n ∧ n ≤ 4096 then (n.toNat + 63) / 64 else 0
theorem asked_where64 {n how value : Int} {col : List Int} (h : PyKg12.where64_asked n how value col = true) : col.length = lenN n := by
  have q := asked_len h
  simp only [Kg12Neutral.asked1, Bool.and_eq_true, decide_eq_true_eq] at q
  exact long_n q.2.2
theorem asked_wherebits {n how value : Int} {col : List Int} (h : PyKg12.wherebits_asked n how value col = true) : col.length = lenN n := by
  have q := asked_len h
  simp only [Kg12Neutral.asked1, Bool.and_eq_true, decide_eq_true_eq] at q
  exact long_n q.2.2
theorem asked_join {n how : Int} {a b : List Int} (h : PyKg12.join_asked n how a b = true) : a.length = lenS n ∧ b.length = if how = 6 then 0 else lenS n := by
  have q := asked_len h
  simp only [Kg12Neutral.asked1, Bool.and_eq_true, decide_eq_true_eq] at q
  refine ⟨long_set q.1.2.2, ?_⟩
  by_cases h6 : how = 6
  · rw [if_pos h6]
    have q3 := q.2.2
    rw [if_neg (by omega)] at q3
    omega
  · rw [if_neg h6]
    refine long_set (q.2.2.trans ?_)
    by_cases qn : 0 ≤ n ∧ n ≤ 4096
    · rw [if_pos ⟨qn, h6⟩, if_pos qn]
    · rw [if_neg (fun z => qn z.1), if_neg qn]
theorem asked_shift {n k : Int} {a : List Int} (h : PyKg12.shift_asked n k a = true) : a.length = lenS n := by
  have q := asked_len h
  simp only [Kg12Neutral.asked1, Bool.and_eq_true, decide_eq_true_eq] at q
  exact long_set q.2.2
theorem asked_nth {n k : Int} {a : List Int} (h : PyKg12.nth_asked n k a = true) : a.length = lenS n := by
  have q := asked_len h
  simp only [Kg12Neutral.asked1, Bool.and_eq_true, decide_eq_true_eq] at q
  exact long_set q.2.2
theorem asked_ends {n : Int} {a : List Int} (h : PyKg12.ends_asked n a = true) : a.length = lenS n := by
  have q := asked_len h
  simp only [Kg12Neutral.asked1, Bool.and_eq_true, decide_eq_true_eq] at q
  exact long_set q.2.2
theorem asked_bytes_of {n : Int} {a : List Int} (h : PyKg12.bytes_of_asked n a = true) : a.length = lenS n := by
  have q := asked_len h
  simp only [Kg12Neutral.asked1, Bool.and_eq_true, decide_eq_true_eq] at q
  exact long_set q.2.2
theorem asked_ofbytes {n : Int} {a : List Int} (h : PyKg12.ofbytes_asked n a = true) : a.length = lenN n := by
  have q := asked_len h
  simp only [Kg12Neutral.asked1, Bool.and_eq_true, decide_eq_true_eq] at q
  exact long_n q.2.2
theorem asked_fill {n : Int} {a b : List Int} (h : PyKg12.fill_asked n a b = true) : a.length = lenS n ∧ b.length = lenS n := by
  have q := asked_len h
  simp only [Kg12Neutral.asked1, Bool.and_eq_true, decide_eq_true_eq] at q
  exact ⟨long_set q.1.2.2, long_set q.2.2⟩
theorem asked_test {n : Int} {a b : List Int} (h : PyKg12.test_asked n a b = true) : a.length = lenS n ∧ b.length = lenS n := by
  have q := asked_len h
  simp only [Kg12Neutral.asked1, Bool.and_eq_true, decide_eq_true_eq] at q
  exact ⟨long_set q.1.2.2, long_set q.2.2⟩
theorem asked_pick {n : Int} {a b : List Int} (h : PyKg12.pick_asked n a b = true) : a.length = lenN n ∧ b.length = lenS n := by
  have q := asked_len h
  simp only [Kg12Neutral.asked1, Bool.and_eq_true, decide_eq_true_eq] at q
  exact ⟨long_n q.1.2.2, long_set q.2.2⟩
theorem asked_put {n : Int} {a b c : List Int} (h : PyKg12.put_asked n a b c = true) : a.length = lenN n ∧ b.length = lenS n ∧ c.length = lenN n := by
  have q := asked_len h
  simp only [Kg12Neutral.asked1, Bool.and_eq_true, decide_eq_true_eq] at q
  exact ⟨long_n q.1.1.2.2, long_set q.1.2.2, long_n q.2.2⟩
theorem asked_choose {n : Int} {a b c : List Int} (h : PyKg12.choose_asked n a b c = true) : a.length = lenN n ∧ b.length = lenN n ∧ c.length = lenS n := by
  have q := asked_len h
  simp only [Kg12Neutral.asked1, Bool.and_eq_true, decide_eq_true_eq] at q
  exact ⟨long_n q.1.1.2.2, long_n q.1.2.2, long_set q.2.2⟩
theorem asked_add {n k : Int} {a b : List Int} (h : PyKg12.add_asked n k a b = true) : a.length = lenN n ∧ b.length = lenS n := by
  have q := asked_len h
  simp only [Kg12Neutral.asked1, Bool.and_eq_true, decide_eq_true_eq] at q
  exact ⟨long_n q.1.2.2, long_set q.2.2⟩
theorem asked_rules {n k : Int} {a b : List Int} (h : PyKg12.rules_asked n k a b = true) : a.length = (if (0 ≤ n ∧ n ≤ 4096) ∧ (0 ≤ k ∧ k ≤ 64) then 8 * n.toNat else 0) ∧ b.length = (if (0 ≤ n ∧ n ≤ 4096) ∧ (0 ≤ k ∧ k ≤ 64) then 4 * k.toNat else 0) := by
  have q := asked_len h
  simp only [Kg12Neutral.asked1, Bool.and_eq_true, decide_eq_true_eq] at q
  have q1 := q.1.2.2
  have q2 := q.2.2
  unfold Kg12Neutral.some_ at q1
  by_cases hc : (0 ≤ n ∧ n ≤ 4096) ∧ (0 ≤ k ∧ k ≤ 64)
  · rw [if_pos hc, if_pos hc.1] at q1
    rw [if_pos hc] at q2
    rw [if_pos hc, if_pos hc]
    omega
  · rw [if_neg hc] at q1
    rw [if_neg hc] at q2
    rw [if_neg hc, if_neg hc]
    omega
end Rs

set_option Elab.async false
namespace Rs
open Kg12
/-! ### the rows below i that a test takes -/
def sel (p : Nat → Bool) (i : Nat) : List Nat := (List.range i).filter p
theorem sel_succ (p : Nat → Bool) (i : Nat) : sel p (i + 1) = if p i = true then sel p i ++ [i] else sel p i := by
  unfold sel
  rw [List.range_succ, List.filter_append]
  by_cases h : p i = true
  · rw [if_pos h]
    simp [h]
  · rw [if_neg h]
    simp [h]
theorem sel_zero (p : Nat → Bool) : sel p 0 = [] := rfl
theorem sel_lt {p : Nat → Bool} {i r : Nat} (h : r ∈ sel p i) : r < i := List.mem_range.mp (List.mem_filter.mp h).1
theorem sel_len (p : Nat → Bool) (i : Nat) : (sel p i).length ≤ i := by
  unfold sel
  have h := List.length_filter_le p (List.range i)
  rw [List.length_range] at h
  exact h
theorem sel_rows (p : Nat → Bool) (n : Nat) : rowsIn n (sel p n) = (List.range n).map p := by
  unfold rowsIn
  apply List.map_congr_left
  intro i hi
  have h := List.mem_range.mp hi
  unfold sel
  rw [Bool.eq_iff_iff]
  simp [List.mem_filter, h]
theorem sel_size (p : Nat → Bool) (n : Nat) : ((sel p n).length : Int) = size ((List.range n).map p) := by
  unfold size sel
  rw [List.filter_map, List.length_map]
  rfl
theorem range_get {α : Type} (l : List α) (d : α) : (List.range l.length).map (fun r => l.getD r d) = l := by
  apply List.ext_getElem
  · simp
  · intro i h1 h2
    simp [List.getElem?_eq_getElem h2]
theorem range_map {α β : Type} (l : List α) (d : α) (f : α → β) : (List.range l.length).map (fun r => f (l.getD r d)) = l.map f := by
  have h : (List.range l.length).map (fun r => f (l.getD r d)) = ((List.range l.length).map (fun r => l.getD r d)).map f := by
    rw [List.map_map]
    rfl
  rw [h, range_get]
/-! ### sets by their rows -/
theorem rowsOf_length (n : Nat) (l : List Int) : (rowsOf n l).length = n := by simp [rowsOf]
theorem rowsOf_get (n : Nat) (l : List Int) (i : Nat) : (rowsOf n l).getD i false = (decide (i < n) && (l.getD (i / 64) 0).toNat.testBit (i % 64)) := by
  unfold rowsOf
  by_cases h : i < n
  · simp [List.getD, h]
  · simp [List.getD, h]
theorem both_length (f : Bool → Bool → Bool) (a b : Rows) (h : a.length = b.length) : (both f a b).length = a.length := by simp [both, h]
theorem both_get {f : Bool → Bool → Bool} {a b : Rows} (h : a.length = b.length) (i : Nat) (hi : i < a.length) : (both f a b).getD i false = f (a.getD i false) (b.getD i false) := by
  have hb : i < b.length := by omega
  have hz : i < (a.zip b).length := by
    rw [List.length_zip]
    omega
  unfold both
  simp [List.getD, List.getElem?_map, List.getElem?_eq_getElem hz, List.getElem?_eq_getElem hi, List.getElem?_eq_getElem hb, List.getElem_zip]
theorem shifted_length (k : Int) (a : Rows) : (shifted k a).length = a.length := by simp [shifted]
theorem shifted_get (k : Int) (a : Rows) (i : Nat) (hi : i < a.length) : (shifted k a).getD i false = (decide (0 ≤ (i : Int) - k) && a.getD ((i : Int) - k).toNat false) := by
  simp [shifted, List.getD, hi, has]
theorem not_get (a : Rows) (i : Nat) (hi : i < a.length) : (a.map (!·)).getD i false = !(a.getD i false) := by simp [List.getD, hi]
theorem getD_map_range (n : Nat) (p : Nat → Bool) (i : Nat) (hi : i < n) : ((List.range n).map p).getD i false = p i := by simp [List.getD, hi]
/-- a set is told by its rows -/
theorem rows_by {s : Rows} {n : Nat} {p : Nat → Bool} (hl : s.length = n) (h : ∀ i, i < n → s.getD i false = p i) : (List.range n).map p = s := by
  apply rows_ext
  · simp [hl]
  · intro i hi
    have hi' : i < n := by simpa using hi
    rw [getD_map_range n p i hi', h i hi']
/-! ### runs -/
/-- whether row i is reached, by rows -/
def reach (x y : Nat → Bool) : Nat → Bool
  | 0 => y 0 && x 0
  | i + 1 => y (i + 1) && (x (i + 1) || reach x y i)
theorem fillFrom_length : ∀ (r : Bool) (a b : Rows), a.length = b.length → (fillFrom r a b).length = a.length
  | _, [], [], _ => rfl
  | r, x :: a, y :: b, h => by
    show (fillFrom _ a b).length + 1 = a.length + 1
    rw [fillFrom_length _ a b (by simpa using h)]
def reachFrom (r : Bool) (x y : Nat → Bool) : Nat → Bool
  | 0 => y 0 && (x 0 || r)
  | i + 1 => y (i + 1) && (x (i + 1) || reachFrom r x y i)
theorem reachFrom_shift (r : Bool) (x y : Nat → Bool) : ∀ i, reachFrom (y 0 && (x 0 || r)) (fun j => x (j + 1)) (fun j => y (j + 1)) i = reachFrom r x y (i + 1)
  | 0 => rfl
  | i + 1 => by
    show (y (i + 2) && (x (i + 2) || reachFrom _ _ _ i)) = _
    rw [reachFrom_shift r x y i]
    rfl
theorem fillFrom_get : ∀ (r : Bool) (a b : Rows), a.length = b.length → ∀ i, i < a.length → (fillFrom r a b).getD i false = reachFrom r (fun j => a.getD j false) (fun j => b.getD j false) i
  | _, [], [], _, i, hi => by simp at hi
  | r, x :: a, y :: b, h, 0, _ => by simp [fillFrom, reachFrom]
  | r, x :: a, y :: b, h, i + 1, hi => by
    have h' : a.length = b.length := by simpa using h
    have q := fillFrom_get (y && (x || r)) a b h' i (by simpa using hi)
    have e : (fillFrom r (x :: a) (y :: b)).getD (i + 1) false = (fillFrom (y && (x || r)) a b).getD i false := by simp [fillFrom]
    rw [e, q, ← reachFrom_shift]
    rfl
theorem reach_from (x y : Nat → Bool) : ∀ i, reachFrom false x y i = reach x y i
  | 0 => by simp [reachFrom, reach]
  | i + 1 => by
    show (y (i + 1) && (x (i + 1) || reachFrom false x y i)) = _
    rw [reach_from x y i]
    rfl
theorem filled_length {a b : Rows} (h : a.length = b.length) : (filled a b).length = a.length := fillFrom_length false a b h
theorem filled_get {a b : Rows} (h : a.length = b.length) (i : Nat) (hi : i < a.length) : (filled a b).getD i false = reach (fun j => a.getD j false) (fun j => b.getD j false) i := by
  unfold filled
  rw [fillFrom_get false a b h i hi, reach_from]
/-- a set that the program told by words: its rows -/
theorem words_rows {n : Nat} {ws : List Int} {p : Nat → Bool} (hl : ws.length = (n + 63) / 64)
    (hb : ∀ (k : Nat) (w : Int), ws[k]? = some w → 0 ≤ w ∧ ∀ j, w.toNat.testBit j = (decide (j < 64) && (decide (64 * k + j < n) && p (64 * k + j)))) : ws = wordsOf ((List.range n).map p) := by
  apply words_eq
  · simpa using hl
  · intro k w hk
    refine ⟨(hb k w hk).1, fun j => ?_⟩
    rw [(hb k w hk).2 j]
    by_cases h : 64 * k + j < n
    · rw [getD_map_range n p _ h]
      simp [h]
    · simp [h, List.getD]
end Rs

set_option Elab.async false
set_option linter.all false
namespace Rs
open Kg12
/-- whether row i is in the set that the words a tell -/
def hasRow (a : List Int) (i : Nat) : Bool := (a.getD (i / 64) 0).toNat.testBit (i % 64)
theorem rowsOf_has (n : Nat) (a : List Int) : rowsOf n a = (List.range n).map (hasRow a) := rfl
/-- how many rows, then the set -/
def countDue (n : Nat) (p : Nat → Bool) : List Int := size ((List.range n).map p) :: wordsOf ((List.range n).map p)
theorem counted_eq {n : Nat} {p : Nat → Bool} {s : Rows} (h : s = (List.range n).map p) : told (counted s) = countDue n p := by
  subst h
  show size _ :: [wordsOf _].flatten = _
  simp [countDue]
theorem answer_in {c : Kg12.Call} (h : inN c.n) : ¬ (c.n < 0 ∨ 4096 < c.n) := by
  have := h.1
  have := h.2
  omega
theorem map_rows {n : Nat} {p q : Nat → Bool} (h : ∀ i, i < n → p i = q i) : (List.range n).map p = (List.range n).map q := List.map_congr_left fun i hi => h i (List.mem_range.mp hi)
/-! ### join -/
def jn (h : Int) (x y : Bool) : Bool := if h = 0 then x && y else if h = 1 then x || y else if h = 2 then x != y else if h = 3 then x == y else if h = 4 then x && !y else if h = 5 then x || !y else !x
theorem both_rows (n : Nat) (f : Bool → Bool → Bool) (p q : Nat → Bool) : both f ((List.range n).map p) ((List.range n).map q) = (List.range n).map fun i => f (p i) (q i) := by
  unfold both
  rw [List.zip_map', List.map_map]
  rfl
theorem due_join {n h : Int} {a b : List Int} (hn : inN n) : told (answer ⟨.join, n, [h], if h = 6 then [a] else [a, b]⟩) = if 0 ≤ h ∧ h ≤ 6 then countDue n.toNat (fun i => jn h (hasRow a i) (hasRow b i)) else [-2] := by
  have hn' := answer_in (c := ⟨.join, n, [h], if h = 6 then [a] else [a, b]⟩) hn
  unfold answer
  rw [if_neg hn']
  by_cases h6 : h = 6
  · subst h6
    show told (maybe (joined 6 (rowsOf n.toNat a) (rowsOf n.toNat []))) = _
    rw [if_pos (by decide)]
    exact counted_eq (s := (rowsOf n.toNat a).map (!·)) (by rw [rowsOf_has, List.map_map]; rfl)
  · rw [if_neg h6]
    show told (maybe (joined h (rowsOf n.toNat a) (rowsOf n.toNat b))) = _
    rw [rowsOf_has, rowsOf_has]
    unfold joined
    by_cases hr : 0 ≤ h ∧ h ≤ 6
    · rw [if_pos hr]
      have hc : h = 0 ∨ h = 1 ∨ h = 2 ∨ h = 3 ∨ h = 4 ∨ h = 5 := by omega
      rcases hc with rfl | rfl | rfl | rfl | rfl | rfl <;> exact counted_eq (both_rows _ _ _ _)
    · rw [if_neg hr, if_neg (by omega), if_neg (by omega), if_neg (by omega), if_neg (by omega), if_neg (by omega), if_neg (by omega), if_neg (by omega)]
      rfl
/-! ### shift -/
def shRow (n : Nat) (k : Int) (p : Nat → Bool) (i : Nat) : Bool := decide (0 ≤ (i : Int) - k) && (decide (((i : Int) - k).toNat < n) && p ((i : Int) - k).toNat)
theorem shifted_rows (n : Nat) (k : Int) (p : Nat → Bool) : shifted k ((List.range n).map p) = (List.range n).map (shRow n k p) := by
  symm
  apply rows_by
  · simp [shifted]
  · intro i hi
    rw [shifted_get _ _ _ (by simpa using hi)]
    unfold shRow
    by_cases h : ((i : Int) - k).toNat < n
    · rw [getD_map_range n p _ h]
      simp [h]
    · simp [h, List.getD]
theorem due_shift {n k : Int} {a : List Int} (hn : inN n) : told (answer ⟨.shift, n, [k], [a]⟩) = countDue n.toNat (shRow n.toNat k (hasRow a)) := by
  unfold answer
  rw [if_neg (answer_in (c := ⟨.shift, n, [k], [a]⟩) hn)]
  exact counted_eq (s := shifted k (rowsOf n.toNat a)) (by rw [rowsOf_has, shifted_rows])
/-! ### fill -/
theorem reach_congr {x y x' y' : Nat → Bool} : ∀ (i : Nat), (∀ j, j ≤ i → x j = x' j) → (∀ j, j ≤ i → y j = y' j) → reach x y i = reach x' y' i
  | 0, hx, hy => by
    show (y 0 && x 0) = (y' 0 && x' 0)
    rw [hx 0 (Nat.le_refl _), hy 0 (Nat.le_refl _)]
  | i + 1, hx, hy => by
    show (y (i + 1) && (x (i + 1) || reach x y i)) = (y' (i + 1) && (x' (i + 1) || reach x' y' i))
    rw [hx (i + 1) (Nat.le_refl _), hy (i + 1) (Nat.le_refl _), reach_congr i (fun j hj => hx j (by omega)) (fun j hj => hy j (by omega))]
theorem filled_rows (n : Nat) (x y : Nat → Bool) : filled ((List.range n).map x) ((List.range n).map y) = (List.range n).map (reach x y) := by
  symm
  apply rows_by
  · rw [filled_length (by simp)]
    simp
  · intro i hi
    rw [filled_get (by simp) i (by simpa using hi)]
    exact reach_congr i (fun j hj => getD_map_range n x j (by omega)) fun j hj => getD_map_range n y j (by omega)
theorem due_fill {n : Int} {a b : List Int} (hn : inN n) : told (answer ⟨.fill, n, [], [a, b]⟩) = countDue n.toNat (reach (hasRow a) (hasRow b)) := by
  unfold answer
  rw [if_neg (answer_in (c := ⟨.fill, n, [], [a, b]⟩) hn)]
  exact counted_eq (s := filled (rowsOf n.toNat a) (rowsOf n.toNat b)) (by rw [rowsOf_has, rowsOf_has, filled_rows])
/-! ### ends -/
def firstRow (p : Nat → Bool) (i : Nat) : Bool := p i && !(decide (0 < i) && p (i - 1))
def lastRow (n : Nat) (p : Nat → Bool) (i : Nat) : Bool := p i && !(decide (i + 1 < n) && p (i + 1))
theorem firsts_rows (n : Nat) (p : Nat → Bool) : firsts ((List.range n).map p) = (List.range n).map (firstRow p) := by
  unfold firsts
  rw [shifted_rows, both_rows]
  refine map_rows fun i hi => ?_
  unfold firstRow shRow
  have e : ((i : Int) - 1).toNat = i - 1 := by omega
  rw [e]
  by_cases h : 0 < i
  · have h1 : (0 : Int) ≤ (i : Int) - 1 := by omega
    have h2 : i - 1 < n := by omega
    rw [decide_eq_true h, decide_eq_true h1, decide_eq_true h2]
    rfl
  · have h1 : ¬ (0 : Int) ≤ (i : Int) - 1 := by omega
    rw [decide_eq_false h, decide_eq_false h1]
    rfl
theorem lasts_rows (n : Nat) (p : Nat → Bool) : lasts ((List.range n).map p) = (List.range n).map (lastRow n p) := by
  unfold lasts
  rw [shifted_rows, both_rows]
  refine map_rows fun i hi => ?_
  unfold lastRow shRow
  have e : ((i : Int) - -1).toNat = i + 1 := by omega
  have h1 : (0 : Int) ≤ (i : Int) - -1 := by omega
  rw [e, decide_eq_true h1]
  rfl
theorem due_ends {n : Int} {a : List Int} (hn : inN n) : told (answer ⟨.ends, n, [], [a]⟩) = size ((List.range n.toNat).map (firstRow (hasRow a))) :: (wordsOf ((List.range n.toNat).map (firstRow (hasRow a))) ++ wordsOf ((List.range n.toNat).map (lastRow n.toNat (hasRow a)))) := by
  unfold answer
  rw [if_neg (answer_in (c := ⟨.ends, n, [], [a]⟩) hn)]
  show size (firsts (rowsOf n.toNat a)) :: [wordsOf (firsts (rowsOf n.toNat a)), wordsOf (lasts (rowsOf n.toNat a))].flatten = _
  rw [rowsOf_has, firsts_rows, lasts_rows]
  simp
/-! ### test -/
def allRow (n : Nat) (p : Nat → Bool) : Bool := (List.range n).all p
theorem all_rows (n : Nat) (p : Nat → Bool) (g : Bool → Bool) : ((List.range n).map p).all g = allRow n fun i => g (p i) := by
  unfold allRow
  rw [List.all_map]
  rfl
def testNum (n : Nat) (p q : Nat → Bool) : Int := bit (allRow n fun i => !(p i && q i)) + 2 * bit (allRow n fun i => !(!(p i) && q i)) + 4 * bit (allRow n p) + 8 * bit (allRow n fun i => !(p i))
theorem due_test {n : Int} {a b : List Int} (hn : inN n) : told (answer ⟨.test, n, [], [a, b]⟩) = [testNum n.toNat (hasRow a) (hasRow b)] := by
  unfold answer
  rw [if_neg (answer_in (c := ⟨.test, n, [], [a, b]⟩) hn)]
  show [bit ((both (· && ·) (rowsOf n.toNat a) (rowsOf n.toNat b)).all (!·)) + 2 * bit ((both (fun x y => !x && y) (rowsOf n.toNat a) (rowsOf n.toNat b)).all (!·)) + 4 * bit ((rowsOf n.toNat a).all id) + 8 * bit ((rowsOf n.toNat a).all (!·))] = _
  rw [rowsOf_has, rowsOf_has, both_rows, both_rows, all_rows, all_rows, all_rows, all_rows]
  rfl
/-! ### nth -/
def nthNum (n : Nat) (k : Int) (p : Nat → Bool) : Int := if k < 0 then -2 else match (sel p n)[k.toNat]? with
  | some r => (r : Int)
  | none => -2
theorem due_nth {n k : Int} {a : List Int} (hn : inN n) : told (answer ⟨.nth, n, [k], [a]⟩) = [nthNum n.toNat k (hasRow a)] := by
  unfold answer
  rw [if_neg (answer_in (c := ⟨.nth, n, [k], [a]⟩) hn)]
  have e : (List.range n.toNat).filter (has (rowsOf n.toNat a)) = sel (hasRow a) n.toNat := by
    unfold sel
    apply List.filter_congr
    intro i hi
    exact getD_map_range n.toNat (hasRow a) i (List.mem_range.mp hi)
  show told (match (if k < 0 then none else ((List.range n.toNat).filter (has (rowsOf n.toNat a)))[k.toNat]?) with | some r => num r | none => num (-2)) = _
  rw [e]
  unfold nthNum
  by_cases h : k < 0
  · rw [if_pos h, if_pos h]
    rfl
  · rw [if_neg h, if_neg h]
    cases (sel (hasRow a) n.toNat)[k.toNat]? <;> rfl
/-! ### bytes -/
theorem due_bytes {n : Int} {a : List Int} (hn : inN n) : told (answer ⟨.bytes, n, [], [a]⟩) = size ((List.range n.toNat).map (hasRow a)) :: (List.range n.toNat).map fun i => if hasRow a i = true then 255 else 0 := by
  unfold answer
  rw [if_neg (answer_in (c := ⟨.bytes, n, [], [a]⟩) hn)]
  show size (rowsOf n.toNat a) :: [(rowsOf n.toNat a).map fun b => if b = true then (255 : Int) else 0].flatten = _
  rw [rowsOf_has, List.map_map]
  simp
theorem due_ofbytes {n : Int} {g : List Int} (hn : inN n) (hl : g.length = n.toNat) : told (answer ⟨.ofbytes, n, [], [g]⟩) = countDue n.toNat fun i => decide (128 ≤ g.getD i 0) := by
  unfold answer
  rw [if_neg (answer_in (c := ⟨.ofbytes, n, [], [g]⟩) hn)]
  exact counted_eq (s := g.map fun x => decide (128 ≤ x)) (by rw [← hl]; exact (range_map g 0 fun x => decide (128 ≤ x)).symm)
/-! ### pick, put, choose, add -/
theorem picked_sel (col : List Int) (p : Nat → Bool) : picked col ((List.range col.length).map p) = (sel p col.length).map fun i => col.getD i 0 := by
  unfold picked sel
  have e : col.zip ((List.range col.length).map p) = (List.range col.length).map fun i => (col.getD i 0, p i) := by
    rw [← range_get col 0] 
    rw [List.length_map, List.length_range, List.zip_map']
    apply List.map_congr_left
    intro i hi
    have hi' := List.mem_range.mp hi
    rw [range_get]
  rw [e, List.filter_map, List.map_map]
  rfl
theorem due_pick {n : Int} {col a : List Int} (hn : inN n) (hl : col.length = n.toNat) : told (answer ⟨.pick, n, [], [col, a]⟩) = size ((List.range n.toNat).map (hasRow a)) :: (sel (hasRow a) n.toNat).map fun i => col.getD i 0 := by
  unfold answer
  rw [if_neg (answer_in (c := ⟨.pick, n, [], [col, a]⟩) hn)]
  show size (rowsOf n.toNat a) :: [picked col (rowsOf n.toNat a)].flatten = _
  rw [rowsOf_has, ← hl, picked_sel]
  simp
/-- the numbers behind a put: row i gets the next of the given ones -/
def putRow (p : Nat → Bool) (col g : List Int) (i : Nat) : Int := if p i = true then g.getD (sel p i).length 0 else col.getD i 0
theorem putFrom_get : ∀ (col : List Int) (a : Rows) (g : List Int), a.length = col.length → (a.filter id).length ≤ g.length → putFrom col a g = (List.range col.length).map (putRow (fun i => a.getD i false) col g)
  | [], [], _, _, _ => rfl
  | x :: col, true :: a, g, h, hg => by
    have h' : a.length = col.length := by simpa using h
    match g, hg with
    | [], hg => simp at hg
    | y :: g, hg =>
      show y :: putFrom col a g = _
      rw [putFrom_get col a g h' (by simpa using hg), List.length_cons, List.range_succ_eq_map, List.map_cons, List.map_map]
      congr 1
      apply List.map_congr_left
      intro i _
      unfold putRow
      have e : (sel (fun i => (true :: a).getD i false) (i + 1)).length = (sel (fun i => a.getD i false) i).length + 1 := by
        unfold sel
        rw [List.range_succ_eq_map, List.filter_cons]
        simp [List.filter_map]
        rfl
      show (if a.getD i false = true then g.getD _ 0 else col.getD i 0) = (if (true :: a).getD (i + 1) false = true then (y :: g).getD _ 0 else (x :: col).getD (i + 1) 0)
      rw [e]
      simp
  | x :: col, false :: a, g, h, hg => by
    have h' : a.length = col.length := by simpa using h
    show x :: putFrom col a g = _
    rw [putFrom_get col a g h' (by simpa using hg), List.length_cons, List.range_succ_eq_map, List.map_cons, List.map_map]
    congr 1
    apply List.map_congr_left
    intro i _
    unfold putRow
    have e : (sel (fun i => (false :: a).getD i false) (i + 1)).length = (sel (fun i => a.getD i false) i).length := by
      unfold sel
      rw [List.range_succ_eq_map, List.filter_cons]
      simp [List.filter_map]
      rfl
    show (if a.getD i false = true then g.getD _ 0 else col.getD i 0) = (if (false :: a).getD (i + 1) false = true then g.getD _ 0 else (x :: col).getD (i + 1) 0)
    rw [e]
    simp
theorem sel_congr {p q : Nat → Bool} {n : Nat} (h : ∀ i, i < n → p i = q i) : sel p n = sel q n := List.filter_congr fun i hi => h i (List.mem_range.mp hi)
theorem due_put {n : Int} {col a g : List Int} (hn : inN n) (hl : col.length = n.toNat) (hg : g.length = n.toNat) : told (answer ⟨.put, n, [], [col, a, g]⟩) = size ((List.range n.toNat).map (hasRow a)) :: (List.range n.toNat).map (putRow (hasRow a) col g) := by
  unfold answer
  rw [if_neg (answer_in (c := ⟨.put, n, [], [col, a, g]⟩) hn)]
  show size (rowsOf n.toNat a) :: [putFrom col (rowsOf n.toNat a) g].flatten = _
  have hf : ((rowsOf n.toNat a).filter id).length ≤ g.length := by
    have q := List.length_filter_le id (rowsOf n.toNat a)
    rw [rowsOf_length] at q
    omega
  rw [putFrom_get col _ g (by rw [rowsOf_length, hl]) hf, hl]
  simp only [List.flatten_cons, List.flatten_nil, List.append_nil]
  congr 1
  apply List.map_congr_left
  intro i hi
  have hi' := List.mem_range.mp hi
  unfold putRow
  have e1 : (rowsOf n.toNat a).getD i false = hasRow a i := getD_map_range n.toNat (hasRow a) i hi'
  have e2 : sel (fun i => (rowsOf n.toNat a).getD i false) i = sel (hasRow a) i := sel_congr fun j hj => getD_map_range n.toNat (hasRow a) j (by omega)
  show (if (rowsOf n.toNat a).getD i false = true then g.getD (sel (fun i => (rowsOf n.toNat a).getD i false) i).length 0 else col.getD i 0) = _
  rw [e1, e2]
theorem due_choose {n : Int} {x y a : List Int} (hn : inN n) (hx : x.length = n.toNat) (hy : y.length = n.toNat) : told (answer ⟨.choose, n, [], [x, y, a]⟩) = size ((List.range n.toNat).map (hasRow a)) :: (List.range n.toNat).map fun i => if hasRow a i = true then x.getD i 0 else y.getD i 0 := by
  unfold answer
  rw [if_neg (answer_in (c := ⟨.choose, n, [], [x, y, a]⟩) hn)]
  show size (rowsOf n.toNat a) :: [(x.zip (y.zip (rowsOf n.toNat a))).map fun z => if z.2.2 = true then z.1 else z.2.1].flatten = _
  have e1 : x = (List.range n.toNat).map fun i => x.getD i 0 := by rw [← hx, range_get]
  have e2 : y = (List.range n.toNat).map fun i => y.getD i 0 := by rw [← hy, range_get]
  have e : (x.zip (y.zip (rowsOf n.toNat a))) = (List.range n.toNat).map fun i => (x.getD i 0, y.getD i 0, hasRow a i) := by
    conv => lhs; rw [e1, e2, rowsOf_has]
    rw [List.zip_map', List.zip_map']
  rw [e, List.map_map]
  simp only [List.flatten_cons, List.flatten_nil, List.append_nil]
  rfl
def sumRow (a col : List Int) (k : Int) (i : Nat) : Int := if hasRow a i = true then col.getD i 0 + k else col.getD i 0
theorem due_add {n k : Int} {col a : List Int} (hn : inN n) (hl : col.length = n.toNat) : told (answer ⟨.add, n, [k], [col, a]⟩) =
    size ((List.range n.toNat).map fun i => decide (signed32 (sumRow a col k i) ≠ sumRow a col k i)) :: ((List.range n.toNat).map (fun i => signed32 (sumRow a col k i)) ++ wordsOf ((List.range n.toNat).map fun i => decide (signed32 (sumRow a col k i) ≠ sumRow a col k i))) := by
  unfold answer
  rw [if_neg (answer_in (c := ⟨.add, n, [k], [col, a]⟩) hn)]
  have e : (col.zip (rowsOf n.toNat a)).map (fun x => if x.2 = true then x.1 + k else x.1) = (List.range n.toNat).map (sumRow a col k) := by
    have e1 : col = (List.range n.toNat).map fun i => col.getD i 0 := by rw [← hl, range_get]
    have e2 : col.zip (rowsOf n.toNat a) = (List.range n.toNat).map fun i => (col.getD i 0, hasRow a i) := by
      conv => lhs; rw [e1, rowsOf_has]
      rw [List.zip_map']
    rw [e2, List.map_map]
    rfl
  show (let sum := (col.zip (rowsOf n.toNat a)).map fun x => if x.2 = true then x.1 + k else x.1
      let over := sum.map fun z => decide (signed32 z ≠ z)
      size over :: [sum.map signed32, wordsOf over].flatten) = _
  rw [e]
  simp only [List.map_map, List.flatten_cons, List.flatten_nil, List.append_nil]
  rfl
end Rs

set_option Elab.async false
set_option maxRecDepth 100000
set_option maxHeartbeats 2000000
namespace Rs
open PySem PySem.Spec PyProof.Rows L2
/-! ### short words for readings -/
abbrev rAddI : R2 := rI0 fun i j => .int (i + j)
abbrev rSubI : R2 := rI0 fun i j => .int (i - j)
abbrev rMulI : R2 := rI CMul fun i j => .int (i * j)
abbrev rDivI : R2 := rI CDiv fun i j => .int (i / j)
abbrev rModI : R2 := rI (fun _ j => 0 < j) fun i j => .int (i % j)
abbrev rPowI : R2 := rI CPow fun i j => .int (i ^ j.toNat)
abbrev rShlI : R2 := rI CPow fun i j => .int (i * 2 ^ j.toNat)
abbrev rShrI : R2 := rI (fun _ j => 0 ≤ j) fun i j => .int (i / 2 ^ j.toNat)
abbrev rAndI : R2 := rI0 fun i j => .int (Builtin.bitAnd i j)
abbrev rOrI : R2 := rI0 fun i j => .int (Builtin.bitOr i j)
abbrev rXorI : R2 := rI0 fun i j => .int (Builtin.bitXor i j)
abbrev rLtI : R2 := rI0 fun i j => .bl (decide (i < j))
abbrev rLeI : R2 := rI0 fun i j => .bl (decide (i ≤ j))
abbrev rGtI : R2 := rI0 fun i j => .bl (decide (j < i))
abbrev rGeI : R2 := rI0 fun i j => .bl (decide (j ≤ i))
abbrev rNegI : V → Hp → VK → Prop := rU fun i => .int (-i)
abbrev rInvI : V → Hp → VK → Prop := rU fun i => .int (Builtin.bitNot i)
abbrev rLen (K : PySem.W.Frag) : List V → Hp → VK → Prop := fun xs H Q => ∃ x n, xs = [x] ∧ LenV K x H n ∧ Q (.int n) H
abbrev tTru (K : PySem.W.Frag) (ta : TE) : TT := fun σ H Q => ta σ H fun x H' => ∃ k, TruV K x H' k ∧ Q k H'
theorem pe_gint {X : Cx} {x : Str} {i : Int} {pos : Pos} (hg : Gl X x) (hm : ∃ t, X.mg x = some (.int i t)) (hd : (x == ("__debug__" : Str)) = false := by decide) : PE X (.Name x pos) (tC (.int i)) := by
  obtain ⟨t, e⟩ := hm
  exact pe_glob hg e ⟨_, rfl⟩ hd
theorem ipOf {X : Cx} {op : Operator} {r : R2} (h : OpR X (inplaceOp op) r) : PIp X op r := h
abbrev rMin2 : List V → Hp → VK → Prop := fun xs H Q => ∃ i j, xs = [.int i, .int j] ∧ Q (.int (if j < i then j else i)) H
abbrev rMax2 : List V → Hp → VK → Prop := fun xs H Q => ∃ i j, xs = [.int i, .int j] ∧ Q (.int (if j > i then j else i)) H
abbrev rAbs : List V → Hp → VK → Prop := fun xs H Q => ∃ i, xs = [.int i] ∧ Q (.int (if i < 0 then -i else i)) H
abbrev rListOf (K : PySem.W.Frag) : List V → Hp → VK → Prop := fun xs H Q => ∃ p ys, xs = [.ref p] ∧ (SqL K H p ys ∨ SqT K H p ys) ∧ ∀ l, H l = none → Q (.ref l) (upd H l (.lst ys))
theorem ifd {c A B : Prop} [Decidable c] (h1 : c → A) (h2 : ¬ c → B) : if decide c = true then A else B := by
  by_cases h : c
  · rw [if_pos (decide_eq_true h)]
    exact h1 h
  · rw [if_neg (by simpa using h)]
    exact h2 h
theorem big {n : Nat} (h : n ≤ 100000) : n ≤ sizeLine := by
  rw [sizeLine_eq]
  omega
theorem bigL {n : Nat} (h : n ≤ 100000) : n < sizeLine := by
  rw [sizeLine_eq]
  omega
/-! ### the bits of numbers that are not below 0 -/
theorem or_nat {x y : Int} (hx : 0 ≤ x) (hy : 0 ≤ y) : 0 ≤ Builtin.bitOr x y ∧ (Builtin.bitOr x y).toNat = x.toNat ||| y.toNat := by
  have e : Builtin.bitOr x y = ((x.toNat ||| y.toNat : Nat) : Int) := by
    unfold Builtin.bitOr
    rw [PyProof.Rows.bitAnd_nn (fun h => (PyProof.Rows.bitNot_nonneg.mp h) hx) (fun h => (PyProof.Rows.bitNot_nonneg.mp h) hy), PyProof.Rows.bitNot_bitNot, PyProof.Rows.bitNot_bitNot, PyProof.Rows.bitNot_bitNot]
  rw [e]
  exact ⟨Int.natCast_nonneg _, Int.toNat_natCast _⟩
theorem and_nat {x y : Int} (hx : 0 ≤ x) (hy : 0 ≤ y) : 0 ≤ Builtin.bitAnd x y ∧ (Builtin.bitAnd x y).toNat = x.toNat &&& y.toNat := by
  rw [PyProof.Rows.bitAnd_pp hx hy]
  exact ⟨Int.natCast_nonneg _, Int.toNat_natCast _⟩
theorem shl_nat (k : Nat) : 0 ≤ (1 : Int) * 2 ^ k ∧ ((1 : Int) * 2 ^ k).toNat = 2 ^ k := by
  have e : (1 : Int) * 2 ^ k = ((2 ^ k : Nat) : Int) := by
    rw [Int.one_mul]
    simp
  rw [e]
  exact ⟨Int.natCast_nonneg _, Int.toNat_natCast _⟩
/-! ### what a call gives: a new list of whole numbers; all else stands -/
def Gives (H : Hp) (Q : VK) (l : List Int) : Prop := ∀ (p : Addr) (H' : Hp), H p = none → Same H H' → H' p = some (.lst (l.map V.int)) → Q (.ref p) H'
theorem same_upd {H H' : Hp} {p : Addr} {o : HO} (s : Same H H') (h : H' p = none) : Same H (upd H' p o) := fun b u e => by
  rw [upd_ne (ne_of_none (s b u e) h)]
  exact s b u e
/-- a list that the call has made is changed -/
theorem same_own {H H' : Hp} {p : Addr} {o : HO} (s : Same H H') (h : H p = none) : Same H (upd H' p o) := fun b u e => by
  rw [upd_ne (ne_of_none e h)]
  exact s b u e
theorem get_map {α : Type} {l : List α} {f : α → V} {i : Nat} {y : V} (h : (l.map f)[i]? = some y) : ∃ z, l[i]? = some z ∧ y = f z := by
  rw [List.getElem?_map] at h
  cases e : l[i]? with
  | none =>
    rw [e] at h
    cases h
  | some z =>
    rw [e] at h
    exact ⟨z, rfl, (Option.some.inj h).symm⟩
theorem take_more {α : Type} {l : List α} {i : Nat} {x : α} (h : l[i]? = some x) : l.take (i + 1) = l.take i ++ [x] := by
  rw [List.take_add_one, h]
  rfl
theorem at_nat {xs : List V} {z : Int} {j : Nat} {v : V} (e : z = (j : Int)) (h : xs[j]? = some v) : atI xs z = some v := by
  rw [e]
  exact atI_nat h
theorem ix_nat {n j : Nat} {z : Int} (e : z = (j : Int)) (h : j < n) : ixN n z = some j := by
  unfold ixN
  rw [if_pos (by omega), if_pos (by omega)]
  congr 1
  omega
theorem in_int {lo hi k : Int} (h : PySem.W.Codec.inInt lo hi k = true) : lo ≤ k ∧ k ≤ hi := by
  unfold PySem.W.Codec.inInt at h
  simpa using h
theorem in_all {lo hi : Int} {l : List Int} (h : l.all (PySem.W.Codec.inInt lo hi) = true) : ∀ z ∈ l, lo ≤ z ∧ z ≤ hi := fun z hz => in_int (List.all_eq_true.mp h z hz)
theorem in_w32 {lo hi z : Int} (h : lo ≤ z ∧ z ≤ hi) (h1 : -2147483648 ≤ lo) (h2 : hi ≤ 2147483647) : W32 z := ⟨by omega, by omega⟩
end Rs

set_option Elab.async false
set_option linter.all false
set_option maxRecDepth 100000
set_option maxHeartbeats 2000000
namespace Rs
open PySem PySem.Spec PyProof.Rows L2
open PySem.W (WData Codec)
open Kg12 (Rows wordsOf size signed32)
variable {K : PySem.W.Frag} {vs : List V} {H : Hp} {Q : VK} {E : XK}
theorem said_ints {K : PySem.W.Frag} {H : Hp} {x : V} {l : List Int} (h : Dw K H x (.list (l.map PySem.W.WData.int))) : ∃ a, x = .ref a ∧ SqL K H a (l.map V.int) := by
  cases h with
  | lst hs ha =>
    have e := ints_dw l _ ha
    subst e
    exact ⟨_, rfl, hs⟩
theorem said_int {K : PySem.W.Frag} {H : Hp} {x : V} {n : Int} (h : Dw K H x (.int n)) : x = .int n := by
  cases h
  rfl
theorem said_cons {K : PySem.W.Frag} {H : Hp} {xs : List V} {d : WData} {ds : List WData} (h : DwAll K H xs (d :: ds)) : ∃ x r, xs = x :: r ∧ Dw K H x d ∧ DwAll K H r ds := by
  cases h with
  | cons h1 h2 => exact ⟨_, _, rfl, h1, h2⟩
theorem said_nil {K : PySem.W.Frag} {H : Hp} {xs : List V} (h : DwAll K H xs []) : xs = [] := by
  cases h
  rfl
theorem gives_dw {l l' : List Int} (h : l = l') : Gives H (fun v H' => Dw K H' v (WData.list (l.map WData.int))) l' := fun p H' _ _ hp => by
  subst h
  exact .lst (SqL.of hp) (dw_ints _)
/-- a set of n rows that is handed in: its words -/
def IsSet (n : Int) (l : List Int) : Prop := l.length = lenS n ∧ ∀ z ∈ l, 0 ≤ z ∧ z ≤ 18446744073709551615
/-- a column of n numbers of 32 bits -/
def IsCol (n : Int) (l : List Int) : Prop := l.length = lenN n ∧ ∀ z ∈ l, W32 z
theorem IsSet.nn {n : Int} {l : List Int} (h : IsSet n l) : nn l := fun z hz => (h.2 z hz).1
theorem told_in {n : Int} {A B : Kg12.Ans} {r : List Int} (h : inN n → told A = r) : told (if inN n then A else B) = if inN n then r else told B := by
  by_cases hn : inN n
  · rw [if_pos hn, if_pos hn, h hn]
  · rw [if_neg hn, if_neg hn]
theorem len_in {n : Int} {l : List Int} (h : l.length = lenN n) (hn : inN n) : l.length = n.toNat := by
  rw [h]
  exact if_pos hn

/-! ### join -/
def joinDue (n : Int) (how : Int) (a : List Int) (b : List Int) : List Int := if inN n then (if 0 ≤ how ∧ how ≤ 6 then countDue n.toNat (fun i => jn how (hasRow a i) (hasRow b i)) else [-2]) else [-1]
def sp_join (K : PySem.W.Frag) : Sp := fun vs H Q _ => ∃ (n how : Int) (a b : List Int) (a_a a_b : Addr), vs = [.int n, .int how, .ref a_a, .ref a_b] ∧ W32 n ∧ W32 how ∧ SqL K H a_a (a.map V.int) ∧ IsSet n a ∧ SqL K H a_b (b.map V.int) ∧ (b.length = (if how = 6 then 0 else lenS n) ∧ ∀ z ∈ b, 0 ≤ z ∧ z ≤ 18446744073709551615) ∧ Gives H Q (joinDue n how a b)
theorem len_join (h : sp_join K vs H Q E) : vs.length = 4 := by
  obtain ⟨_, _, _, _, _, _, rfl, _⟩ := h
  rfl
theorem said_join {n how : Int} {a b : List Int} {xs : List V} (q : (Codec.inInt (-2147483648) 2147483647 n && (Codec.inInt (-2147483648) 2147483647 how && ((Codec.inLen 0 64 a && a.all (Codec.inInt 0 18446744073709551615)) && ((Codec.inLen 0 64 b && b.all (Codec.inInt 0 18446744073709551615)) && true)))) = true)
    (ha : PyKg12.join_asked n how a b = true) (hx : DwAll K H xs [WData.int n, WData.int how, WData.list (a.map WData.int), WData.list (b.map WData.int)]) :
    sp_join K xs H (fun v' H' => Dw K H' v' (WData.list ((PyKg12.join n how a b).map WData.int))) E := by
  simp only [Bool.and_eq_true] at q
  have wn := in_int q.1
  have whow := in_int q.2.1
  have ia := in_all q.2.2.1.2
  have ib := in_all q.2.2.2.1.2
  have hl := asked_join ha
  have sa : IsSet n a := ⟨hl.1, ia⟩
  have sb : nn b := fun z hz => (ib z hz).1
  obtain ⟨x0, r0, rfl, h0, hx⟩ := said_cons hx
  obtain ⟨x1, r1, rfl, h1, hx⟩ := said_cons hx
  obtain ⟨x2, r2, rfl, h2, hx⟩ := said_cons hx
  obtain ⟨x3, r3, rfl, h3, hx⟩ := said_cons hx
  cases said_nil hx
  cases said_int h0
  cases said_int h1
  obtain ⟨a_a, rfl, t_a⟩ := said_ints h2
  obtain ⟨a_b, rfl, t_b⟩ := said_ints h3
  refine ⟨n, how, a, b, a_a, a_b, rfl, wn, whow, t_a, sa, t_b, ⟨hl.2, ib⟩, gives_dw ?_⟩
  exact (f_join wn whow sa.nn sb).trans (told_in fun hn => due_join hn)
/-! ### shift -/
def shiftDue (n : Int) (by_ : Int) (a : List Int) : List Int := if inN n then countDue n.toNat (shRow n.toNat by_ (hasRow a)) else [-1]
def sp_shift (K : PySem.W.Frag) : Sp := fun vs H Q _ => ∃ (n by_ : Int) (a : List Int) (a_a : Addr), vs = [.int n, .int by_, .ref a_a] ∧ W32 n ∧ W32 by_ ∧ SqL K H a_a (a.map V.int) ∧ IsSet n a ∧ Gives H Q (shiftDue n by_ a)
theorem len_shift (h : sp_shift K vs H Q E) : vs.length = 3 := by
  obtain ⟨_, _, _, _, rfl, _⟩ := h
  rfl
theorem said_shift {n by_ : Int} {a : List Int} {xs : List V} (q : (Codec.inInt (-2147483648) 2147483647 n && (Codec.inInt (-2147483648) 2147483647 by_ && ((Codec.inLen 0 64 a && a.all (Codec.inInt 0 18446744073709551615)) && true))) = true)
    (ha : PyKg12.shift_asked n by_ a = true) (hx : DwAll K H xs [WData.int n, WData.int by_, WData.list (a.map WData.int)]) :
    sp_shift K xs H (fun v' H' => Dw K H' v' (WData.list ((PyKg12.shift n by_ a).map WData.int))) E := by
  simp only [Bool.and_eq_true] at q
  have wn := in_int q.1
  have wby_ := in_int q.2.1
  have ia := in_all q.2.2.1.2
  have hl := asked_shift ha
  have sa : IsSet n a := ⟨hl, ia⟩
  obtain ⟨x0, r0, rfl, h0, hx⟩ := said_cons hx
  obtain ⟨x1, r1, rfl, h1, hx⟩ := said_cons hx
  obtain ⟨x2, r2, rfl, h2, hx⟩ := said_cons hx
  cases said_nil hx
  cases said_int h0
  cases said_int h1
  obtain ⟨a_a, rfl, t_a⟩ := said_ints h2
  refine ⟨n, by_, a, a_a, rfl, wn, wby_, t_a, sa, gives_dw ?_⟩
  exact (f_shift wn wby_ sa.nn).trans (told_in fun hn => due_shift hn)
/-! ### fill -/
def fillDue (n : Int) (a : List Int) (on : List Int) : List Int := if inN n then countDue n.toNat (reach (hasRow a) (hasRow on)) else [-1]
def sp_fill (K : PySem.W.Frag) : Sp := fun vs H Q _ => ∃ (n : Int) (a on : List Int) (a_a a_on : Addr), vs = [.int n, .ref a_a, .ref a_on] ∧ W32 n ∧ SqL K H a_a (a.map V.int) ∧ IsSet n a ∧ SqL K H a_on (on.map V.int) ∧ IsSet n on ∧ Gives H Q (fillDue n a on)
theorem len_fill (h : sp_fill K vs H Q E) : vs.length = 3 := by
  obtain ⟨_, _, _, _, _, rfl, _⟩ := h
  rfl
theorem said_fill {n : Int} {a on : List Int} {xs : List V} (q : (Codec.inInt (-2147483648) 2147483647 n && ((Codec.inLen 0 64 a && a.all (Codec.inInt 0 18446744073709551615)) && ((Codec.inLen 0 64 on && on.all (Codec.inInt 0 18446744073709551615)) && true))) = true)
    (ha : PyKg12.fill_asked n a on = true) (hx : DwAll K H xs [WData.int n, WData.list (a.map WData.int), WData.list (on.map WData.int)]) :
    sp_fill K xs H (fun v' H' => Dw K H' v' (WData.list ((PyKg12.fill n a on).map WData.int))) E := by
  simp only [Bool.and_eq_true] at q
  have wn := in_int q.1
  have ia := in_all q.2.1.2
  have ion := in_all q.2.2.1.2
  have hl := asked_fill ha
  have sa : IsSet n a := ⟨hl.1, ia⟩
  have son : IsSet n on := ⟨hl.2, ion⟩
  obtain ⟨x0, r0, rfl, h0, hx⟩ := said_cons hx
  obtain ⟨x1, r1, rfl, h1, hx⟩ := said_cons hx
  obtain ⟨x2, r2, rfl, h2, hx⟩ := said_cons hx
  cases said_nil hx
  cases said_int h0
  obtain ⟨a_a, rfl, t_a⟩ := said_ints h1
  obtain ⟨a_on, rfl, t_on⟩ := said_ints h2
  refine ⟨n, a, on, a_a, a_on, rfl, wn, t_a, sa, t_on, son, gives_dw ?_⟩
  exact (f_fill wn sa.nn son.nn).trans (told_in fun hn => due_fill hn)
/-! ### ends -/
def endsDue (n : Int) (a : List Int) : List Int := if inN n then size ((List.range n.toNat).map (firstRow (hasRow a))) :: (wordsOf ((List.range n.toNat).map (firstRow (hasRow a))) ++ wordsOf ((List.range n.toNat).map (lastRow n.toNat (hasRow a)))) else [-1]
def sp_ends (K : PySem.W.Frag) : Sp := fun vs H Q _ => ∃ (n : Int) (a : List Int) (a_a : Addr), vs = [.int n, .ref a_a] ∧ W32 n ∧ SqL K H a_a (a.map V.int) ∧ IsSet n a ∧ Gives H Q (endsDue n a)
theorem len_ends (h : sp_ends K vs H Q E) : vs.length = 2 := by
  obtain ⟨_, _, _, rfl, _⟩ := h
  rfl
theorem said_ends {n : Int} {a : List Int} {xs : List V} (q : (Codec.inInt (-2147483648) 2147483647 n && ((Codec.inLen 0 64 a && a.all (Codec.inInt 0 18446744073709551615)) && true)) = true)
    (ha : PyKg12.ends_asked n a = true) (hx : DwAll K H xs [WData.int n, WData.list (a.map WData.int)]) :
    sp_ends K xs H (fun v' H' => Dw K H' v' (WData.list ((PyKg12.ends n a).map WData.int))) E := by
  simp only [Bool.and_eq_true] at q
  have wn := in_int q.1
  have ia := in_all q.2.1.2
  have hl := asked_ends ha
  have sa : IsSet n a := ⟨hl, ia⟩
  obtain ⟨x0, r0, rfl, h0, hx⟩ := said_cons hx
  obtain ⟨x1, r1, rfl, h1, hx⟩ := said_cons hx
  cases said_nil hx
  cases said_int h0
  obtain ⟨a_a, rfl, t_a⟩ := said_ints h1
  refine ⟨n, a, a_a, rfl, wn, t_a, sa, gives_dw ?_⟩
  exact (f_ends wn sa.nn).trans (told_in fun hn => due_ends hn)
/-! ### test -/
def testDue (n : Int) (a : List Int) (b : List Int) : List Int := if inN n then [testNum n.toNat (hasRow a) (hasRow b)] else [-1]
def sp_test (K : PySem.W.Frag) : Sp := fun vs H Q _ => ∃ (n : Int) (a b : List Int) (a_a a_b : Addr), vs = [.int n, .ref a_a, .ref a_b] ∧ W32 n ∧ SqL K H a_a (a.map V.int) ∧ IsSet n a ∧ SqL K H a_b (b.map V.int) ∧ IsSet n b ∧ Gives H Q (testDue n a b)
theorem len_test (h : sp_test K vs H Q E) : vs.length = 3 := by
  obtain ⟨_, _, _, _, _, rfl, _⟩ := h
  rfl
theorem said_test {n : Int} {a b : List Int} {xs : List V} (q : (Codec.inInt (-2147483648) 2147483647 n && ((Codec.inLen 0 64 a && a.all (Codec.inInt 0 18446744073709551615)) && ((Codec.inLen 0 64 b && b.all (Codec.inInt 0 18446744073709551615)) && true))) = true)
    (ha : PyKg12.test_asked n a b = true) (hx : DwAll K H xs [WData.int n, WData.list (a.map WData.int), WData.list (b.map WData.int)]) :
    sp_test K xs H (fun v' H' => Dw K H' v' (WData.list ((PyKg12.test n a b).map WData.int))) E := by
  simp only [Bool.and_eq_true] at q
  have wn := in_int q.1
  have ia := in_all q.2.1.2
  have ib := in_all q.2.2.1.2
  have hl := asked_test ha
  have sa : IsSet n a := ⟨hl.1, ia⟩
  have sb : IsSet n b := ⟨hl.2, ib⟩
  obtain ⟨x0, r0, rfl, h0, hx⟩ := said_cons hx
  obtain ⟨x1, r1, rfl, h1, hx⟩ := said_cons hx
  obtain ⟨x2, r2, rfl, h2, hx⟩ := said_cons hx
  cases said_nil hx
  cases said_int h0
  obtain ⟨a_a, rfl, t_a⟩ := said_ints h1
  obtain ⟨a_b, rfl, t_b⟩ := said_ints h2
  refine ⟨n, a, b, a_a, a_b, rfl, wn, t_a, sa, t_b, sb, gives_dw ?_⟩
  exact (f_test wn sa.nn sb.nn).trans (told_in fun hn => due_test hn)
/-! ### nth -/
def nthDue (n : Int) (k : Int) (a : List Int) : List Int := if inN n then [nthNum n.toNat k (hasRow a)] else [-1]
def sp_nth (K : PySem.W.Frag) : Sp := fun vs H Q _ => ∃ (n k : Int) (a : List Int) (a_a : Addr), vs = [.int n, .int k, .ref a_a] ∧ W32 n ∧ W32 k ∧ SqL K H a_a (a.map V.int) ∧ IsSet n a ∧ Gives H Q (nthDue n k a)
theorem len_nth (h : sp_nth K vs H Q E) : vs.length = 3 := by
  obtain ⟨_, _, _, _, rfl, _⟩ := h
  rfl
theorem said_nth {n k : Int} {a : List Int} {xs : List V} (q : (Codec.inInt (-2147483648) 2147483647 n && (Codec.inInt (-2147483648) 2147483647 k && ((Codec.inLen 0 64 a && a.all (Codec.inInt 0 18446744073709551615)) && true))) = true)
    (ha : PyKg12.nth_asked n k a = true) (hx : DwAll K H xs [WData.int n, WData.int k, WData.list (a.map WData.int)]) :
    sp_nth K xs H (fun v' H' => Dw K H' v' (WData.list ((PyKg12.nth n k a).map WData.int))) E := by
  simp only [Bool.and_eq_true] at q
  have wn := in_int q.1
  have wk := in_int q.2.1
  have ia := in_all q.2.2.1.2
  have hl := asked_nth ha
  have sa : IsSet n a := ⟨hl, ia⟩
  obtain ⟨x0, r0, rfl, h0, hx⟩ := said_cons hx
  obtain ⟨x1, r1, rfl, h1, hx⟩ := said_cons hx
  obtain ⟨x2, r2, rfl, h2, hx⟩ := said_cons hx
  cases said_nil hx
  cases said_int h0
  cases said_int h1
  obtain ⟨a_a, rfl, t_a⟩ := said_ints h2
  refine ⟨n, k, a, a_a, rfl, wn, wk, t_a, sa, gives_dw ?_⟩
  exact (f_nth wn wk sa.nn).trans (told_in fun hn => due_nth hn)
/-! ### bytes_of -/
def bytes_ofDue (n : Int) (a : List Int) : List Int := if inN n then size ((List.range n.toNat).map (hasRow a)) :: (List.range n.toNat).map (fun i => if hasRow a i = true then 255 else 0) else [-1]
def sp_bytes_of (K : PySem.W.Frag) : Sp := fun vs H Q _ => ∃ (n : Int) (a : List Int) (a_a : Addr), vs = [.int n, .ref a_a] ∧ W32 n ∧ SqL K H a_a (a.map V.int) ∧ IsSet n a ∧ Gives H Q (bytes_ofDue n a)
theorem len_bytes_of (h : sp_bytes_of K vs H Q E) : vs.length = 2 := by
  obtain ⟨_, _, _, rfl, _⟩ := h
  rfl
theorem said_bytes_of {n : Int} {a : List Int} {xs : List V} (q : (Codec.inInt (-2147483648) 2147483647 n && ((Codec.inLen 0 64 a && a.all (Codec.inInt 0 18446744073709551615)) && true)) = true)
    (ha : PyKg12.bytes_of_asked n a = true) (hx : DwAll K H xs [WData.int n, WData.list (a.map WData.int)]) :
    sp_bytes_of K xs H (fun v' H' => Dw K H' v' (WData.list ((PyKg12.bytes_of n a).map WData.int))) E := by
  simp only [Bool.and_eq_true] at q
  have wn := in_int q.1
  have ia := in_all q.2.1.2
  have hl := asked_bytes_of ha
  have sa : IsSet n a := ⟨hl, ia⟩
  obtain ⟨x0, r0, rfl, h0, hx⟩ := said_cons hx
  obtain ⟨x1, r1, rfl, h1, hx⟩ := said_cons hx
  cases said_nil hx
  cases said_int h0
  obtain ⟨a_a, rfl, t_a⟩ := said_ints h1
  refine ⟨n, a, a_a, rfl, wn, t_a, sa, gives_dw ?_⟩
  exact (f_bytes_of wn sa.nn).trans (told_in fun hn => due_bytes hn)
/-! ### ofbytes -/
def ofbytesDue (n : Int) (given : List Int) : List Int := if inN n then countDue n.toNat (fun i => decide (128 ≤ given.getD i 0)) else [-1]
def sp_ofbytes (K : PySem.W.Frag) : Sp := fun vs H Q _ => ∃ (n : Int) (given : List Int) (a_given : Addr), vs = [.int n, .ref a_given] ∧ W32 n ∧ SqL K H a_given (given.map V.int) ∧ (given.length = lenN n ∧ ∀ z ∈ given, 0 ≤ z ∧ z ≤ 255) ∧ Gives H Q (ofbytesDue n given)
theorem len_ofbytes (h : sp_ofbytes K vs H Q E) : vs.length = 2 := by
  obtain ⟨_, _, _, rfl, _⟩ := h
  rfl
theorem said_ofbytes {n : Int} {given : List Int} {xs : List V} (q : (Codec.inInt (-2147483648) 2147483647 n && ((Codec.inLen 0 4096 given && given.all (Codec.inInt 0 255)) && true)) = true)
    (ha : PyKg12.ofbytes_asked n given = true) (hx : DwAll K H xs [WData.int n, WData.list (given.map WData.int)]) :
    sp_ofbytes K xs H (fun v' H' => Dw K H' v' (WData.list ((PyKg12.ofbytes n given).map WData.int))) E := by
  simp only [Bool.and_eq_true] at q
  have wn := in_int q.1
  have igiven := in_all q.2.1.2
  have hl := asked_ofbytes ha
  have sgiven : given.length = lenN n ∧ ∀ z ∈ given, 0 ≤ z ∧ z ≤ 255 := ⟨hl, igiven⟩
  obtain ⟨x0, r0, rfl, h0, hx⟩ := said_cons hx
  obtain ⟨x1, r1, rfl, h1, hx⟩ := said_cons hx
  cases said_nil hx
  cases said_int h0
  obtain ⟨a_given, rfl, t_given⟩ := said_ints h1
  refine ⟨n, given, a_given, rfl, wn, t_given, sgiven, gives_dw ?_⟩
  exact (f_ofbytes wn (fun z hz => (sgiven.2 z hz).1)).trans (told_in fun hn => due_ofbytes hn (len_in sgiven.1 hn))
/-! ### pick -/
def pickDue (n : Int) (col : List Int) (a : List Int) : List Int := if inN n then size ((List.range n.toNat).map (hasRow a)) :: (sel (hasRow a) n.toNat).map (fun i => col.getD i 0) else [-1]
def sp_pick (K : PySem.W.Frag) : Sp := fun vs H Q _ => ∃ (n : Int) (col a : List Int) (a_col a_a : Addr), vs = [.int n, .ref a_col, .ref a_a] ∧ W32 n ∧ SqL K H a_col (col.map V.int) ∧ IsCol n col ∧ SqL K H a_a (a.map V.int) ∧ IsSet n a ∧ Gives H Q (pickDue n col a)
theorem len_pick (h : sp_pick K vs H Q E) : vs.length = 3 := by
  obtain ⟨_, _, _, _, _, rfl, _⟩ := h
  rfl
theorem said_pick {n : Int} {col a : List Int} {xs : List V} (q : (Codec.inInt (-2147483648) 2147483647 n && ((Codec.inLen 0 4096 col && col.all (Codec.inInt (-2147483648) 2147483647)) && ((Codec.inLen 0 64 a && a.all (Codec.inInt 0 18446744073709551615)) && true))) = true)
    (ha : PyKg12.pick_asked n col a = true) (hx : DwAll K H xs [WData.int n, WData.list (col.map WData.int), WData.list (a.map WData.int)]) :
    sp_pick K xs H (fun v' H' => Dw K H' v' (WData.list ((PyKg12.pick n col a).map WData.int))) E := by
  simp only [Bool.and_eq_true] at q
  have wn := in_int q.1
  have icol := in_all q.2.1.2
  have ia := in_all q.2.2.1.2
  have hl := asked_pick ha
  have scol : IsCol n col := ⟨hl.1, icol⟩
  have sa : IsSet n a := ⟨hl.2, ia⟩
  obtain ⟨x0, r0, rfl, h0, hx⟩ := said_cons hx
  obtain ⟨x1, r1, rfl, h1, hx⟩ := said_cons hx
  obtain ⟨x2, r2, rfl, h2, hx⟩ := said_cons hx
  cases said_nil hx
  cases said_int h0
  obtain ⟨a_col, rfl, t_col⟩ := said_ints h1
  obtain ⟨a_a, rfl, t_a⟩ := said_ints h2
  refine ⟨n, col, a, a_col, a_a, rfl, wn, t_col, scol, t_a, sa, gives_dw ?_⟩
  exact (f_pick wn scol.2 sa.nn).trans (told_in fun hn => due_pick hn (len_in scol.1 hn))
/-! ### put -/
def putDue (n : Int) (col : List Int) (a : List Int) (given : List Int) : List Int := if inN n then size ((List.range n.toNat).map (hasRow a)) :: (List.range n.toNat).map (putRow (hasRow a) col given) else [-1]
def sp_put (K : PySem.W.Frag) : Sp := fun vs H Q _ => ∃ (n : Int) (col a given : List Int) (a_col a_a a_given : Addr), vs = [.int n, .ref a_col, .ref a_a, .ref a_given] ∧ W32 n ∧ SqL K H a_col (col.map V.int) ∧ IsCol n col ∧ SqL K H a_a (a.map V.int) ∧ IsSet n a ∧ SqL K H a_given (given.map V.int) ∧ IsCol n given ∧ Gives H Q (putDue n col a given)
theorem len_put (h : sp_put K vs H Q E) : vs.length = 4 := by
  obtain ⟨_, _, _, _, _, _, _, rfl, _⟩ := h
  rfl
theorem said_put {n : Int} {col a given : List Int} {xs : List V} (q : (Codec.inInt (-2147483648) 2147483647 n && ((Codec.inLen 0 4096 col && col.all (Codec.inInt (-2147483648) 2147483647)) && ((Codec.inLen 0 64 a && a.all (Codec.inInt 0 18446744073709551615)) && ((Codec.inLen 0 4096 given && given.all (Codec.inInt (-2147483648) 2147483647)) && true)))) = true)
    (ha : PyKg12.put_asked n col a given = true) (hx : DwAll K H xs [WData.int n, WData.list (col.map WData.int), WData.list (a.map WData.int), WData.list (given.map WData.int)]) :
    sp_put K xs H (fun v' H' => Dw K H' v' (WData.list ((PyKg12.put n col a given).map WData.int))) E := by
  simp only [Bool.and_eq_true] at q
  have wn := in_int q.1
  have icol := in_all q.2.1.2
  have ia := in_all q.2.2.1.2
  have igiven := in_all q.2.2.2.1.2
  have hl := asked_put ha
  have scol : IsCol n col := ⟨hl.1, icol⟩
  have sa : IsSet n a := ⟨hl.2.1, ia⟩
  have sgiven : IsCol n given := ⟨hl.2.2, igiven⟩
  obtain ⟨x0, r0, rfl, h0, hx⟩ := said_cons hx
  obtain ⟨x1, r1, rfl, h1, hx⟩ := said_cons hx
  obtain ⟨x2, r2, rfl, h2, hx⟩ := said_cons hx
  obtain ⟨x3, r3, rfl, h3, hx⟩ := said_cons hx
  cases said_nil hx
  cases said_int h0
  obtain ⟨a_col, rfl, t_col⟩ := said_ints h1
  obtain ⟨a_a, rfl, t_a⟩ := said_ints h2
  obtain ⟨a_given, rfl, t_given⟩ := said_ints h3
  refine ⟨n, col, a, given, a_col, a_a, a_given, rfl, wn, t_col, scol, t_a, sa, t_given, sgiven, gives_dw ?_⟩
  exact (f_put wn scol.2 sa.nn sgiven.2).trans (told_in fun hn => due_put hn (len_in scol.1 hn) (len_in sgiven.1 hn))
/-! ### choose -/
def chooseDue (n : Int) (x : List Int) (y : List Int) (a : List Int) : List Int := if inN n then size ((List.range n.toNat).map (hasRow a)) :: (List.range n.toNat).map (fun i => if hasRow a i = true then x.getD i 0 else y.getD i 0) else [-1]
def sp_choose (K : PySem.W.Frag) : Sp := fun vs H Q _ => ∃ (n : Int) (x y a : List Int) (a_x a_y a_a : Addr), vs = [.int n, .ref a_x, .ref a_y, .ref a_a] ∧ W32 n ∧ SqL K H a_x (x.map V.int) ∧ IsCol n x ∧ SqL K H a_y (y.map V.int) ∧ IsCol n y ∧ SqL K H a_a (a.map V.int) ∧ IsSet n a ∧ Gives H Q (chooseDue n x y a)
theorem len_choose (h : sp_choose K vs H Q E) : vs.length = 4 := by
  obtain ⟨_, _, _, _, _, _, _, rfl, _⟩ := h
  rfl
theorem said_choose {n : Int} {x y a : List Int} {xs : List V} (q : (Codec.inInt (-2147483648) 2147483647 n && ((Codec.inLen 0 4096 x && x.all (Codec.inInt (-2147483648) 2147483647)) && ((Codec.inLen 0 4096 y && y.all (Codec.inInt (-2147483648) 2147483647)) && ((Codec.inLen 0 64 a && a.all (Codec.inInt 0 18446744073709551615)) && true)))) = true)
    (ha : PyKg12.choose_asked n x y a = true) (hx : DwAll K H xs [WData.int n, WData.list (x.map WData.int), WData.list (y.map WData.int), WData.list (a.map WData.int)]) :
    sp_choose K xs H (fun v' H' => Dw K H' v' (WData.list ((PyKg12.choose n x y a).map WData.int))) E := by
  simp only [Bool.and_eq_true] at q
  have wn := in_int q.1
  have ix := in_all q.2.1.2
  have iy := in_all q.2.2.1.2
  have ia := in_all q.2.2.2.1.2
  have hl := asked_choose ha
  have sx : IsCol n x := ⟨hl.1, ix⟩
  have sy : IsCol n y := ⟨hl.2.1, iy⟩
  have sa : IsSet n a := ⟨hl.2.2, ia⟩
  obtain ⟨x0, r0, rfl, h0, hx⟩ := said_cons hx
  obtain ⟨x1, r1, rfl, h1, hx⟩ := said_cons hx
  obtain ⟨x2, r2, rfl, h2, hx⟩ := said_cons hx
  obtain ⟨x3, r3, rfl, h3, hx⟩ := said_cons hx
  cases said_nil hx
  cases said_int h0
  obtain ⟨a_x, rfl, t_x⟩ := said_ints h1
  obtain ⟨a_y, rfl, t_y⟩ := said_ints h2
  obtain ⟨a_a, rfl, t_a⟩ := said_ints h3
  refine ⟨n, x, y, a, a_x, a_y, a_a, rfl, wn, t_x, sx, t_y, sy, t_a, sa, gives_dw ?_⟩
  exact (f_choose wn sx.2 sy.2 sa.nn).trans (told_in fun hn => due_choose hn (len_in sx.1 hn) (len_in sy.1 hn))
/-! ### add -/
def addDue (n : Int) (by_ : Int) (col : List Int) (a : List Int) : List Int := if inN n then size ((List.range n.toNat).map fun i => decide (signed32 (sumRow a col by_ i) ≠ sumRow a col by_ i)) :: ((List.range n.toNat).map (fun i => signed32 (sumRow a col by_ i)) ++ wordsOf ((List.range n.toNat).map fun i => decide (signed32 (sumRow a col by_ i) ≠ sumRow a col by_ i))) else [-1]
def sp_add (K : PySem.W.Frag) : Sp := fun vs H Q _ => ∃ (n by_ : Int) (col a : List Int) (a_col a_a : Addr), vs = [.int n, .int by_, .ref a_col, .ref a_a] ∧ W32 n ∧ W32 by_ ∧ SqL K H a_col (col.map V.int) ∧ IsCol n col ∧ SqL K H a_a (a.map V.int) ∧ IsSet n a ∧ Gives H Q (addDue n by_ col a)
theorem len_add (h : sp_add K vs H Q E) : vs.length = 4 := by
  obtain ⟨_, _, _, _, _, _, rfl, _⟩ := h
  rfl
theorem said_add {n by_ : Int} {col a : List Int} {xs : List V} (q : (Codec.inInt (-2147483648) 2147483647 n && (Codec.inInt (-2147483648) 2147483647 by_ && ((Codec.inLen 0 4096 col && col.all (Codec.inInt (-2147483648) 2147483647)) && ((Codec.inLen 0 64 a && a.all (Codec.inInt 0 18446744073709551615)) && true)))) = true)
    (ha : PyKg12.add_asked n by_ col a = true) (hx : DwAll K H xs [WData.int n, WData.int by_, WData.list (col.map WData.int), WData.list (a.map WData.int)]) :
    sp_add K xs H (fun v' H' => Dw K H' v' (WData.list ((PyKg12.add n by_ col a).map WData.int))) E := by
  simp only [Bool.and_eq_true] at q
  have wn := in_int q.1
  have wby_ := in_int q.2.1
  have icol := in_all q.2.2.1.2
  have ia := in_all q.2.2.2.1.2
  have hl := asked_add ha
  have scol : IsCol n col := ⟨hl.1, icol⟩
  have sa : IsSet n a := ⟨hl.2, ia⟩
  obtain ⟨x0, r0, rfl, h0, hx⟩ := said_cons hx
  obtain ⟨x1, r1, rfl, h1, hx⟩ := said_cons hx
  obtain ⟨x2, r2, rfl, h2, hx⟩ := said_cons hx
  obtain ⟨x3, r3, rfl, h3, hx⟩ := said_cons hx
  cases said_nil hx
  cases said_int h0
  cases said_int h1
  obtain ⟨a_col, rfl, t_col⟩ := said_ints h2
  obtain ⟨a_a, rfl, t_a⟩ := said_ints h3
  refine ⟨n, by_, col, a, a_col, a_a, rfl, wn, wby_, t_col, scol, t_a, sa, gives_dw ?_⟩
  exact (f_add wn wby_ scol.2 sa.nn).trans (told_in fun hn => due_add hn (len_in scol.1 hn))
end Rs

set_option Elab.async false
set_option linter.all false
set_option maxRecDepth 100000
set_option maxHeartbeats 2000000
namespace Rs
open PySem PySem.Spec PyProof.Rows L2
open PySem.W (WData Codec)
open Kg12 (Rows wordsOf size signed32)
variable {K : PySem.W.Frag} {vs : List V} {H : Hp} {Q : VK} {E : XK}
/-! ### where -/
def sp_where (K : PySem.W.Frag) : Sp := fun vs H Q _ => ∃ (n how v : Int) (a : Addr) (col : List Int), vs = [.int n, .int how, .int v, .ref a] ∧ SqL K H a (col.map V.int) ∧ col.length = lenN n ∧ Gives H Q (whereDue n how v col)
theorem len_where (h : sp_where K vs H Q E) : vs.length = 4 := by
  obtain ⟨_, _, _, _, _, rfl, _⟩ := h
  rfl
theorem said_where {n how v : Int} {col : List Int} {f : List Int} {xs : List V} (hx : DwAll K H xs [WData.int n, WData.int how, WData.int v, WData.list (col.map WData.int)]) (hl : col.length = lenN n) (hf : f = whereDue n how v col) :
    sp_where K xs H (fun v' H' => Dw K H' v' (WData.list (f.map WData.int))) E := by
  obtain ⟨x0, r0, rfl, h0, hx⟩ := said_cons hx
  obtain ⟨x1, r1, rfl, h1, hx⟩ := said_cons hx
  obtain ⟨x2, r2, rfl, h2, hx⟩ := said_cons hx
  obtain ⟨x3, r3, rfl, h3, hx⟩ := said_cons hx
  cases said_nil hx
  cases said_int h0
  cases said_int h1
  cases said_int h2
  obtain ⟨a, rfl, t⟩ := said_ints h3
  exact ⟨n, how, v, a, col, rfl, t, hl, gives_dw hf⟩
theorem said_where8 {n how v : Int} {col : List Int} {xs : List V} (q : (Codec.inInt (-2147483648) 2147483647 n && (Codec.inInt (-2147483648) 2147483647 how && (Codec.inInt (-2147483648) 2147483647 v && ((Codec.inLen 0 4096 col && col.all (Codec.inInt (-128) 127)) && true)))) = true)
    (ha : PyKg12.where8_asked n how v col = true) (hx : DwAll K H xs [WData.int n, WData.int how, WData.int v, WData.list (col.map WData.int)]) :
    sp_where K xs H (fun v' H' => Dw K H' v' (WData.list ((PyKg12.where8 n how v col).map WData.int))) E := by
  simp only [Bool.and_eq_true] at q
  exact said_where hx (asked_where8 ha) (f_where8 (in_int q.1) (in_int q.2.1) (in_int q.2.2.1) fun z hz => in_w32 (in_all q.2.2.2.1.2 z hz) (by decide) (by decide))
theorem said_where16 {n how v : Int} {col : List Int} {xs : List V} (q : (Codec.inInt (-2147483648) 2147483647 n && (Codec.inInt (-2147483648) 2147483647 how && (Codec.inInt (-2147483648) 2147483647 v && ((Codec.inLen 0 4096 col && col.all (Codec.inInt (-32768) 32767)) && true)))) = true)
    (ha : PyKg12.where16_asked n how v col = true) (hx : DwAll K H xs [WData.int n, WData.int how, WData.int v, WData.list (col.map WData.int)]) :
    sp_where K xs H (fun v' H' => Dw K H' v' (WData.list ((PyKg12.where16 n how v col).map WData.int))) E := by
  simp only [Bool.and_eq_true] at q
  exact said_where hx (asked_where16 ha) (f_where16 (in_int q.1) (in_int q.2.1) (in_int q.2.2.1) fun z hz => in_w32 (in_all q.2.2.2.1.2 z hz) (by decide) (by decide))
theorem said_where32 {n how v : Int} {col : List Int} {xs : List V} (q : (Codec.inInt (-2147483648) 2147483647 n && (Codec.inInt (-2147483648) 2147483647 how && (Codec.inInt (-2147483648) 2147483647 v && ((Codec.inLen 0 4096 col && col.all (Codec.inInt (-2147483648) 2147483647)) && true)))) = true)
    (ha : PyKg12.where32_asked n how v col = true) (hx : DwAll K H xs [WData.int n, WData.int how, WData.int v, WData.list (col.map WData.int)]) :
    sp_where K xs H (fun v' H' => Dw K H' v' (WData.list ((PyKg12.where32 n how v col).map WData.int))) E := by
  simp only [Bool.and_eq_true] at q
  exact said_where hx (asked_where32 ha) (f_where32 (in_int q.1) (in_int q.2.1) (in_int q.2.2.1) fun z hz => in_w32 (in_all q.2.2.2.1.2 z hz) (by decide) (by decide))
theorem said_where64 {n how v : Int} {col : List Int} {xs : List V} (q : (Codec.inInt (-2147483648) 2147483647 n && (Codec.inInt (-2147483648) 2147483647 how && (Codec.inInt (-9223372036854775808) 9223372036854775807 v && ((Codec.inLen 0 4096 col && col.all (Codec.inInt (-9223372036854775808) 9223372036854775807)) && true)))) = true)
    (ha : PyKg12.where64_asked n how v col = true) (hx : DwAll K H xs [WData.int n, WData.int how, WData.int v, WData.list (col.map WData.int)]) :
    sp_where K xs H (fun v' H' => Dw K H' v' (WData.list ((PyKg12.where64 n how v col).map WData.int))) E := by
  simp only [Bool.and_eq_true] at q
  exact said_where hx (asked_where64 ha) (f_where64 (in_int q.1) (in_int q.2.1) (in_int q.2.2.1) fun z hz => in_all q.2.2.2.1.2 z hz)
/-! ### wherebits -/
/-- how a single floating number stands to another -/
def stB (how v x : Int) : Bool := match Kg12.order x, Kg12.order v with
  | some a, some b => st how b a
  | _, _ => how == 1
theorem whereBits_eq {how v : Int} (h0 : 0 ≤ how) (h1 : how ≤ 5) (col : List Int) : Kg12.whereBits how v col = some (col.map (stB how v)) := by
  refine mapM_some (fun x => ?_) col
  unfold stB
  cases Kg12.order x with
  | none =>
    show (if how = 1 then some true else if 0 ≤ how ∧ how ≤ 5 then some false else none) = some (how == 1)
    by_cases h : how = 1
    · subst h
      rfl
    · rw [if_neg h, if_pos ⟨h0, h1⟩]
      simp [h]
  | some a =>
    cases Kg12.order v with
    | none =>
      show (if how = 1 then some true else if 0 ≤ how ∧ how ≤ 5 then some false else none) = some (how == 1)
      by_cases h : how = 1
      · subst h
        rfl
      · rw [if_neg h, if_pos ⟨h0, h1⟩]
        simp [h]
    | some b => exact stands_st h0 h1
def wherebitsDue (n how value : Int) (col : List Int) : List Int :=
  if inN n then (if 0 ≤ how ∧ how ≤ 5 then size (col.map (stB how value)) :: wordsOf (col.map (stB how value)) else [-2]) else [-1]
theorem due_wherebits {n how value : Int} {col : List Int} (hn : inN n) : told (Kg12.answer ⟨.wherebits, n, [how, value], [col]⟩) = if 0 ≤ how ∧ how ≤ 5 then size (col.map (stB how value)) :: wordsOf (col.map (stB how value)) else [-2] := by
  unfold Kg12.answer
  rw [if_neg (answer_in (c := ⟨.wherebits, n, [how, value], [col]⟩) hn)]
  show told (if 0 ≤ how ∧ how ≤ 5 then Kg12.maybe (Kg12.whereBits how value col) else Kg12.num (-2)) = _
  by_cases hh : 0 ≤ how ∧ how ≤ 5
  · rw [if_pos hh, if_pos hh, whereBits_eq hh.1 hh.2]
    show size _ :: [Kg12.wordsOf _].flatten = _
    simp
  · rw [if_neg hh, if_neg hh]
    rfl
def sp_wherebits (K : PySem.W.Frag) : Sp := fun vs H Q _ => ∃ (n how v : Int) (a : Addr) (col : List Int), vs = [.int n, .int how, .int v, .ref a] ∧ SqL K H a (col.map V.int) ∧ col.length = lenN n ∧ (0 ≤ v ∧ v ≤ 4294967295) ∧ (∀ z ∈ col, 0 ≤ z ∧ z ≤ 4294967295) ∧ Gives H Q (wherebitsDue n how v col)
theorem len_wherebits (h : sp_wherebits K vs H Q E) : vs.length = 4 := by
  obtain ⟨_, _, _, _, _, rfl, _⟩ := h
  rfl
theorem said_wherebits {n how v : Int} {col : List Int} {xs : List V} (q : (Codec.inInt (-2147483648) 2147483647 n && (Codec.inInt (-2147483648) 2147483647 how && (Codec.inInt 0 4294967295 v && ((Codec.inLen 0 4096 col && col.all (Codec.inInt 0 4294967295)) && true)))) = true)
    (ha : PyKg12.wherebits_asked n how v col = true) (hx : DwAll K H xs [WData.int n, WData.int how, WData.int v, WData.list (col.map WData.int)]) :
    sp_wherebits K xs H (fun v' H' => Dw K H' v' (WData.list ((PyKg12.wherebits n how v col).map WData.int))) E := by
  simp only [Bool.and_eq_true] at q
  obtain ⟨x0, r0, rfl, h0, hx⟩ := said_cons hx
  obtain ⟨x1, r1, rfl, h1, hx⟩ := said_cons hx
  obtain ⟨x2, r2, rfl, h2, hx⟩ := said_cons hx
  obtain ⟨x3, r3, rfl, h3, hx⟩ := said_cons hx
  cases said_nil hx
  cases said_int h0
  cases said_int h1
  cases said_int h2
  obtain ⟨a, rfl, t⟩ := said_ints h3
  have hv := in_int q.2.2.1
  have hc := in_all q.2.2.2.1.2
  refine ⟨n, how, v, a, col, rfl, t, asked_wherebits ha, hv, hc, gives_dw ?_⟩
  exact (f_wherebits (in_int q.1) (in_int q.2.1) hv.1 fun z hz => (hc z hz).1).trans (told_in fun hn => due_wherebits hn)
/-! ### rules -/
def rulesEnd : Option (List Rows) → List Int
  | some [s] => size s :: wordsOf s
  | _ => [-2]
def rulesDue (n count : Int) (table steps : List Int) : List Int := if inN n then (if 0 ≤ count ∧ count ≤ 64 then rulesEnd (Kg12.run n.toNat table [] (Kg12.stepsOf steps)) else [-2]) else [-1]
theorem due_rules {n k : Int} {table steps : List Int} (hn : inN n) : told (if 0 ≤ k ∧ k ≤ 64 then Kg12.answer ⟨.rules, n, [k], [table, steps]⟩ else Kg12.num (-2)) = if 0 ≤ k ∧ k ≤ 64 then rulesEnd (Kg12.run n.toNat table [] (Kg12.stepsOf steps)) else [-2] := by
  by_cases hk : 0 ≤ k ∧ k ≤ 64
  · rw [if_pos hk, if_pos hk]
    unfold Kg12.answer
    rw [if_neg (answer_in (c := ⟨.rules, n, [k], [table, steps]⟩) hn)]
    show told (if k < 0 ∨ 64 < k then Kg12.num (-2) else match Kg12.run n.toNat table [] (Kg12.stepsOf steps) with | some [s] => Kg12.counted s | _ => Kg12.num (-2)) = _
    rw [if_neg (by omega)]
    generalize Kg12.run n.toNat table [] (Kg12.stepsOf steps) = r
    match r with
    | none => rfl
    | some [] => rfl
    | some [s] =>
      show size s :: [wordsOf s].flatten = size s :: wordsOf s
      simp
    | some (_ :: _ :: _) => rfl
  · rw [if_neg hk, if_neg hk]
    rfl
def sp_rules (K : PySem.W.Frag) : Sp := fun vs H Q _ => ∃ (n count : Int) (table steps : List Int) (a b : Addr), vs = [.int n, .int count, .ref a, .ref b] ∧ W32 n ∧ W32 count ∧ SqL K H a (table.map V.int) ∧ SqL K H b (steps.map V.int) ∧
  table.length = (if (0 ≤ n ∧ n ≤ 4096) ∧ (0 ≤ count ∧ count ≤ 64) then 8 * n.toNat else 0) ∧ steps.length = (if (0 ≤ n ∧ n ≤ 4096) ∧ (0 ≤ count ∧ count ≤ 64) then 4 * count.toNat else 0) ∧ table.length ≤ 30000 ∧ (∀ z ∈ table, W32 z) ∧ (∀ z ∈ steps, W32 z) ∧ Gives H Q (rulesDue n count table steps)
theorem len_rules (h : sp_rules K vs H Q E) : vs.length = 4 := by
  obtain ⟨_, _, _, _, _, _, rfl, _⟩ := h
  rfl
theorem said_rules {n count : Int} {table steps : List Int} {xs : List V} (q : (Codec.inInt (-2147483648) 2147483647 n && (Codec.inInt (-2147483648) 2147483647 count && ((Codec.inLen 0 30000 table && table.all (Codec.inInt (-2147483648) 2147483647)) && ((Codec.inLen 0 256 steps && steps.all (Codec.inInt (-2147483648) 2147483647)) && true)))) = true)
    (ha : PyKg12.rules_asked n count table steps = true) (hx : DwAll K H xs [WData.int n, WData.int count, WData.list (table.map WData.int), WData.list (steps.map WData.int)]) :
    sp_rules K xs H (fun v' H' => Dw K H' v' (WData.list ((PyKg12.rules n count table steps).map WData.int))) E := by
  simp only [Bool.and_eq_true] at q
  obtain ⟨x0, r0, rfl, h0, hx⟩ := said_cons hx
  obtain ⟨x1, r1, rfl, h1, hx⟩ := said_cons hx
  obtain ⟨x2, r2, rfl, h2, hx⟩ := said_cons hx
  obtain ⟨x3, r3, rfl, h3, hx⟩ := said_cons hx
  cases said_nil hx
  cases said_int h0
  cases said_int h1
  obtain ⟨a, rfl, t1⟩ := said_ints h2
  obtain ⟨b, rfl, t2⟩ := said_ints h3
  have hl := asked_rules ha
  have hm : table.length ≤ 30000 := (Codec.inNat_iff.mp q.2.2.1.1).2
  have i1 := in_all q.2.2.1.2
  have i2 := in_all q.2.2.2.1.2
  refine ⟨n, count, table, steps, a, b, rfl, in_int q.1, in_int q.2.1, t1, t2, hl.1, hl.2, hm, i1, i2, gives_dw ?_⟩
  exact (f_rules (in_int q.1) (in_int q.2.1) i1 i2).trans (told_in fun hn => due_rules hn)
end Rs

set_option Elab.async false
set_option linter.all false
set_option maxRecDepth 100000
set_option maxHeartbeats 2000000
namespace Rs
open PySem PySem.Spec PyProof.Rows L2
/-! ### single bits of a number that is not below 0 -/
theorem pow_cast (j : Nat) : (2 : Int) ^ j = ((2 ^ j : Nat) : Int) := by simp
theorem shr_nat {z : Int} (h : 0 ≤ z) (j : Nat) : 0 ≤ z / 2 ^ j ∧ (z / 2 ^ j).toNat = z.toNat / 2 ^ j := by
  have e : z / 2 ^ j = ((z.toNat / 2 ^ j : Nat) : Int) := by
    rw [Int.natCast_ediv, Int.toNat_of_nonneg h, pow_cast]
  rw [e]
  exact ⟨Int.natCast_nonneg _, Int.toNat_natCast _⟩
theorem shl_nat2 {z : Int} (h : 0 ≤ z) (j : Nat) : 0 ≤ z * 2 ^ j ∧ (z * 2 ^ j).toNat = z.toNat * 2 ^ j := by
  have e : z * 2 ^ j = ((z.toNat * 2 ^ j : Nat) : Int) := by
    rw [Int.natCast_mul, Int.toNat_of_nonneg h, pow_cast]
  rw [e]
  exact ⟨Int.natCast_nonneg _, Int.toNat_natCast _⟩
theorem mod_two_bit (x : Nat) : x % 2 = (x.testBit 0).toNat := by
  rw [Nat.testBit_zero]
  by_cases h : x % 2 = 1
  · simp [h]
  · have h0 : x % 2 = 0 := by omega
    simp [h0]
/-- z >> j & 1 -/
theorem bit_shr {z : Int} (h : 0 ≤ z) (j : Nat) : Builtin.bitAnd (z / 2 ^ j) 1 = if z.toNat.testBit j = true then 1 else 0 := by
  rw [PyProof.Rows.bitAnd_m1]
  have e := shr_nat h j
  have e2 : (z / 2 ^ j) % 2 = (((z / 2 ^ j).toNat % 2 : Nat) : Int) := by
    have := e.1
    omega
  rw [e2, e.2, mod_two_bit, Nat.testBit_div_two_pow, Nat.zero_add]
  cases z.toNat.testBit j <;> rfl
/-- z // 2 ** j % 2 -/
theorem bit_div {z : Int} (h : 0 ≤ z) (j : Nat) : (z / 2 ^ j) % 2 = if z.toNat.testBit j = true then 1 else 0 := by
  rw [← bit_shr h j, PyProof.Rows.bitAnd_m1]
/-- z & 1 << j -/
theorem bit_and {z : Int} (h : 0 ≤ z) (j : Nat) : Builtin.bitAnd z (1 * 2 ^ j) = if z.toNat.testBit j = true then 2 ^ j else 0 := by
  have hs := shl_nat j
  rw [PyProof.Rows.bitAnd_pp h hs.1, hs.2]
  have e : z.toNat &&& 2 ^ j = if z.toNat.testBit j = true then 2 ^ j else 0 := by
    apply Nat.eq_of_testBit_eq
    intro i
    rw [Nat.testBit_and, Nat.testBit_two_pow]
    by_cases hb : z.toNat.testBit j = true
    · rw [if_pos hb, Nat.testBit_two_pow]
      by_cases hi : j = i
      · subst hi
        simp [hb]
      · simp [hi]
    · rw [if_neg hb]
      by_cases hi : j = i
      · subst hi
        simp [hb]
      · simp [hi]
  rw [e]
  by_cases hb : z.toNat.testBit j = true
  · rw [if_pos hb, if_pos hb, ← pow_cast]
  · rw [if_neg hb, if_neg hb]
    rfl
theorem bit_and_ne {z : Int} (h : 0 ≤ z) (j : Nat) : (Builtin.bitAnd z (1 * 2 ^ j) ≠ 0) ↔ z.toNat.testBit j = true := by
  rw [bit_and h j]
  by_cases hb : z.toNat.testBit j = true
  · rw [if_pos hb]
    have : (2 : Int) ^ j ≠ 0 := by
      rw [pow_cast]
      have := Nat.two_pow_pos j
      omega
    simp [hb, this]
  · rw [if_neg hb]
    simp [hb]
/-! ### whole words -/
theorem xor_nat {x y : Int} (hx : 0 ≤ x) (hy : 0 ≤ y) : 0 ≤ Builtin.bitXor x y ∧ (Builtin.bitXor x y).toNat = x.toNat ^^^ y.toNat := by
  have ho := or_nat hx hy
  have ha := and_nat hx hy
  have e : (x.toNat ||| y.toNat) = (x.toNat ^^^ y.toNat) + (x.toNat &&& y.toNat) := by
    have q := PyProof.Rows.nat_or_add_and (x.toNat ^^^ y.toNat) (x.toNat &&& y.toNat)
    have d : (x.toNat ^^^ y.toNat) &&& (x.toNat &&& y.toNat) = 0 := by
      apply Nat.eq_of_testBit_eq
      intro i
      rw [Nat.testBit_and, Nat.testBit_xor, Nat.testBit_and, Nat.zero_testBit]
      cases x.toNat.testBit i <;> cases y.toNat.testBit i <;> rfl
    have o : (x.toNat ^^^ y.toNat) ||| (x.toNat &&& y.toNat) = x.toNat ||| y.toNat := by
      apply Nat.eq_of_testBit_eq
      intro i
      rw [Nat.testBit_or, Nat.testBit_xor, Nat.testBit_and, Nat.testBit_or]
      cases x.toNat.testBit i <;> cases y.toNat.testBit i <;> rfl
    rw [d, o] at q
    omega
  have e2 : Builtin.bitXor x y = ((x.toNat ^^^ y.toNat : Nat) : Int) := by
    unfold Builtin.bitXor
    have := ho.1
    have := ha.1
    have h1 := ho.2
    have h2 := ha.2
    omega
  rw [e2]
  exact ⟨Int.natCast_nonneg _, Int.toNat_natCast _⟩
/-- x & 2 ** m - 1 -/
theorem mask_nat {x : Int} (hx : 0 ≤ x) {M : Int} {m : Nat} (hM : M = ((2 ^ m - 1 : Nat) : Int)) : 0 ≤ Builtin.bitAnd x M ∧ (Builtin.bitAnd x M).toNat = x.toNat % 2 ^ m := by
  subst hM
  have q := and_nat hx (Int.natCast_nonneg (2 ^ m - 1))
  refine ⟨q.1, ?_⟩
  rw [q.2, Int.toNat_natCast, Nat.and_two_pow_sub_one_eq_mod]
theorem mask_bit {x : Int} (hx : 0 ≤ x) {M : Int} {m : Nat} (hM : M = ((2 ^ m - 1 : Nat) : Int)) (j : Nat) : (Builtin.bitAnd x M).toNat.testBit j = (decide (j < m) && x.toNat.testBit j) := by
  rw [(mask_nat hx hM).2, Nat.testBit_mod_two_pow]
/-- ~x & 2 ** 64 - 1, and 2 ** 64 - 1 - x -/
theorem flip_bit {x : Nat} (h : x < 2 ^ 64) (j : Nat) : (2 ^ 64 - 1 - x).testBit j = (decide (j < 64) && !x.testBit j) := by
  have e : 2 ^ 64 - 1 - x = 2 ^ 64 - (x + 1) := by omega
  rw [e, Nat.testBit_two_pow_sub_succ h]
theorem not_mask {x : Int} (h0 : 0 ≤ x) (h1 : x ≤ 18446744073709551615) : Builtin.bitAnd (Builtin.bitNot x) 18446744073709551615 = 18446744073709551615 - x := by
  rw [PyProof.Rows.bitAnd_comm, PyProof.Rows.bitAnd_not, PyProof.Rows.bitAnd_comm]
  have q := mask_nat h0 (M := 18446744073709551615) (m := 64) (by decide)
  have e : x.toNat % 2 ^ 64 = x.toNat := Nat.mod_eq_of_lt (by omega)
  rw [e] at q
  have := q.1
  have := q.2
  omega
theorem flip_nat {x : Int} (h0 : 0 ≤ x) (h1 : x ≤ 18446744073709551615) : 0 ≤ 18446744073709551615 - x ∧ ∀ j, (18446744073709551615 - x).toNat.testBit j = (decide (j < 64) && !x.toNat.testBit j) := by
  refine ⟨by omega, fun j => ?_⟩
  have e : (18446744073709551615 - x).toNat = 2 ^ 64 - 1 - x.toNat := by omega
  rw [e, flip_bit (by omega)]
theorem shr_bit {z : Int} (h : 0 ≤ z) (k j : Nat) : (z / 2 ^ k).toNat.testBit j = z.toNat.testBit (j + k) := by
  rw [(shr_nat h k).2, Nat.testBit_div_two_pow]
theorem shl_bit {z : Int} (h : 0 ≤ z) (k j : Nat) : (z * 2 ^ k).toNat.testBit j = (decide (k ≤ j) && z.toNat.testBit (j - k)) := by
  rw [(shl_nat2 h k).2, Nat.testBit_mul_two_pow]
theorem signed32_eq (z : Int) : Kg12.signed32 z = (z + 2147483648) % 4294967296 - 2147483648 := rfl
end Rs

set_option Elab.async false
set_option linter.all false
namespace Rs
open Kg12
/-- words of a set that is handed over -/
def Wd (n : Nat) (ws : List Int) : Prop := ws.length = (n + 63) / 64 ∧ ∀ z ∈ ws, 0 ≤ z ∧ z ≤ 18446744073709551615
theorem row_get (ws : List Int) (k j : Nat) (h : j < 64) : hasRow ws (64 * k + j) = (ws.getD k 0).toNat.testBit j := by
  unfold hasRow
  have e1 : (64 * k + j) / 64 = k := by omega
  have e2 : (64 * k + j) % 64 = j := by omega
  rw [e1, e2]
theorem hasRow_words (s : Rows) (i : Nat) : hasRow (wordsOf s) i = s.getD i false := by
  unfold hasRow
  by_cases h : i / 64 < (wordsOf s).length
  · have e := List.getElem?_eq_getElem h
    have q := (words_bit e).2.2 (i % 64)
    have e3 : (wordsOf s).getD (i / 64) 0 = (wordsOf s)[i / 64] := by simp [List.getD, e]
    rw [e3, q]
    have e2 : 64 * (i / 64) + i % 64 = i := by omega
    rw [e2]
    have : i % 64 < 64 := by omega
    simp [this]
  · have e := List.getElem?_eq_none (Nat.le_of_not_lt h)
    rw [wordsOf_length] at h
    have : s.length ≤ i := by omega
    simp [List.getD, e, this]
theorem hasRow_rows (n : Nat) (p : Nat → Bool) (i : Nat) : hasRow (wordsOf ((List.range n).map p)) i = (decide (i < n) && p i) := by
  rw [hasRow_words]
  by_cases h : i < n
  · rw [getD_map_range n p i h]
    simp [h]
  · simp [List.getD, h]
theorem words_wd (n : Nat) (p : Nat → Bool) : Wd n (wordsOf ((List.range n).map p)) := by
  refine ⟨by rw [wordsOf_length]; simp, fun z hz => ?_⟩
  obtain ⟨k, hk⟩ := List.mem_iff_getElem?.mp hz
  have q := words_bit hk
  exact ⟨q.1, by have := q.2.1; omega⟩
theorem wd_words (s : Rows) : Wd s.length (wordsOf s) := by
  refine ⟨by rw [wordsOf_length], fun z hz => ?_⟩
  obtain ⟨k, hk⟩ := List.mem_iff_getElem?.mp hz
  have q := words_bit hk
  exact ⟨q.1, by have := q.2.1; omega⟩
theorem small_bit {w : Nat} (h : w < 18446744073709551616) {j : Nat} (hj : 64 ≤ j) : w.testBit j = false := by
  apply Nat.testBit_lt_two_pow
  have : 2 ^ 64 ≤ 2 ^ j := Nat.pow_le_pow_right (by decide) hj
  have e : (2 : Nat) ^ 64 = 18446744073709551616 := rfl
  omega
theorem getD_of {l : List Int} {k : Nat} {w : Int} (h : l[k]? = some w) : l.getD k 0 = w := by simp [List.getD, h]
/-! ### the bits from n on are taken away -/
def cutW (n : Nat) (ws : List Int) : List Int := if n % 64 = 0 then ws else ws.take (ws.length - 1) ++ [ws.getD (ws.length - 1) 0 % 2 ^ (n % 64)]
theorem cutW_eq {n : Nat} {ws : List Int} (h : Wd n ws) : cutW n ws = wordsOf ((List.range n).map (hasRow ws)) := by
  obtain ⟨hl, hz⟩ := h
  have plain : ∀ (k : Nat) (w : Int), ws[k]? = some w → 64 * k + 64 ≤ n → 0 ≤ w ∧ ∀ j, w.toNat.testBit j = (decide (j < 64) && (decide (64 * k + j < n) && hasRow ws (64 * k + j))) := by
    intro k w hk hn
    have hw := hz w (List.mem_of_getElem? hk)
    refine ⟨hw.1, fun j => ?_⟩
    by_cases hj : j < 64
    · rw [row_get ws k j hj, getD_of hk]
      have : 64 * k + j < n := by omega
      simp [hj, this]
    · rw [small_bit (by omega) (by omega)]
      simp [hj]
  unfold cutW
  by_cases h0 : n % 64 = 0
  · rw [if_pos h0]
    refine words_rows hl fun k w hk => plain k w hk ?_
    have := (List.getElem?_eq_some_iff.mp hk).1
    omega
  · rw [if_neg h0]
    refine words_rows ?_ fun k w hk => ?_
    · rw [List.length_append, List.length_take, List.length_singleton]
      omega
    · by_cases hk' : k < ws.length - 1
      · rw [List.getElem?_append_left (by rw [List.length_take]; omega), List.getElem?_take_of_lt hk'] at hk
        exact plain k w hk (by omega)
      · have hlt := (List.getElem?_eq_some_iff.mp hk).1
        rw [List.length_append, List.length_take, List.length_singleton] at hlt
        have ek : k = ws.length - 1 := by omega
        rw [List.getElem?_append_right (by rw [List.length_take]; omega)] at hk
        have e0 : k - (ws.take (ws.length - 1)).length = 0 := by
          rw [List.length_take]
          omega
        rw [e0] at hk
        have ew : ws.getD (ws.length - 1) 0 % 2 ^ (n % 64) = w := Option.some.inj hk
        have hm : ws.getD (ws.length - 1) 0 ∈ ws := by
          have : ws.length - 1 < ws.length := by omega
          rw [List.getD, List.getElem?_eq_getElem this]
          exact List.getElem_mem _
        have hb := hz _ hm
        have e2 : ws.getD (ws.length - 1) 0 % 2 ^ (n % 64) = (((ws.getD (ws.length - 1) 0).toNat % 2 ^ (n % 64) : Nat) : Int) := by
          rw [Int.natCast_emod, Int.toNat_of_nonneg hb.1]
          simp
        subst ew
        rw [e2]
        refine ⟨Int.natCast_nonneg _, fun j => ?_⟩
        rw [Int.toNat_natCast, Nat.testBit_mod_two_pow]
        by_cases hj : j < 64
        · rw [row_get ws k j hj, ek]
          have q : (64 * (ws.length - 1) + j < n) ↔ j < n % 64 := by omega
          simp [hj, q]
        · have : ¬ j < n % 64 := by omega
          simp [hj, this]
/-! ### words by their bits -/
def Wp (ws : List Int) (p : Nat → Bool) : Prop := ∀ (k : Nat) (w : Int), ws[k]? = some w → 0 ≤ w ∧ w ≤ 18446744073709551615 ∧ ∀ j, j < 64 → w.toNat.testBit j = p (64 * k + j)
theorem Wp.nil (p : Nat → Bool) : Wp [] p := fun k w h => by simp at h
theorem Wp.snoc {ws : List Int} {p : Nat → Bool} {w : Int} (h : Wp ws p) (h0 : 0 ≤ w) (h1 : w ≤ 18446744073709551615) (hb : ∀ j, j < 64 → w.toNat.testBit j = p (64 * ws.length + j)) : Wp (ws ++ [w]) p := by
  intro k u hu
  by_cases hk : k < ws.length
  · rw [List.getElem?_append_left hk] at hu
    exact h k u hu
  · rw [List.getElem?_append_right (by omega)] at hu
    have hk2 : k - ws.length = 0 := by
      have := (List.getElem?_eq_some_iff.mp hu).1
      simp at this
      omega
    rw [hk2] at hu
    have e : w = u := Option.some.inj hu
    subst e
    have ek : k = ws.length := by omega
    subst ek
    exact ⟨h0, h1, hb⟩
theorem Wp.row {ws : List Int} {p : Nat → Bool} (h : Wp ws p) {i : Nat} (hi : i < 64 * ws.length) : hasRow ws i = p i := by
  have hk : i / 64 < ws.length := by omega
  have q := h (i / 64) _ (List.getElem?_eq_getElem hk)
  have q2 := q.2.2 (i % 64) (by omega)
  have e : 64 * (i / 64) + i % 64 = i := by omega
  rw [e] at q2
  rw [← q2]
  unfold hasRow
  rw [getD_of (List.getElem?_eq_getElem hk)]
theorem Wp.wd {ws : List Int} {p : Nat → Bool} {n : Nat} (h : Wp ws p) (hl : ws.length = (n + 63) / 64) : Wd n ws := ⟨hl, fun z hz => by
  obtain ⟨k, hk⟩ := List.mem_iff_getElem?.mp hz
  exact ⟨(h k z hk).1, (h k z hk).2.1⟩⟩
theorem Wp.cut {ws : List Int} {p : Nat → Bool} {n : Nat} (h : Wp ws p) (hl : ws.length = (n + 63) / 64) : wordsOf ((List.range n).map (hasRow ws)) = wordsOf ((List.range n).map p) := by
  rw [map_rows fun i hi => h.row (by omega)]
/-! ### two words put together -/
abbrev full : Nat := 18446744073709551615
theorem full_bit {j : Nat} (hj : j < 64) : full.testBit j = true := by
  have e : full = 2 ^ 64 - 1 := rfl
  rw [e, Nat.testBit_two_pow_sub_one]
  simp [hj]
def jwN (h : Int) (x y : Nat) : Nat := if h = 0 then x &&& y else if h = 1 then x ||| y else if h = 2 then x ^^^ y else if h = 3 then x ^^^ y ^^^ full else if h = 4 then x &&& (y ^^^ full) else if h = 5 then x ||| (y ^^^ full) else full ^^^ x
theorem jwN_bit (h : Int) (x y : Nat) {j : Nat} (hj : j < 64) : (jwN h x y).testBit j = jn h (x.testBit j) (y.testBit j) := by
  unfold jwN jn
  have f := full_bit hj
  repeat' split
  all_goals simp only [Nat.testBit_and, Nat.testBit_or, Nat.testBit_xor, f]
  all_goals cases x.testBit j <;> cases y.testBit j <;> rfl
theorem jwN_lt (h : Int) {x y : Nat} (hx : x < 2 ^ 64) (hy : y < 2 ^ 64) : jwN h x y < 2 ^ 64 := by
  have f : full < 2 ^ 64 := by decide
  unfold jwN
  repeat' split
  · exact Nat.and_lt_two_pow _ hy
  · exact Nat.or_lt_two_pow hx hy
  · exact Nat.xor_lt_two_pow hx hy
  · exact Nat.xor_lt_two_pow (Nat.xor_lt_two_pow hx hy) f
  · exact Nat.and_lt_two_pow _ (Nat.xor_lt_two_pow hy f)
  · exact Nat.or_lt_two_pow hx (Nat.xor_lt_two_pow hy f)
  · exact Nat.xor_lt_two_pow f hx
/-! ### moved rows -/
def wat (ws : List Int) (k : Int) : Int := if k < 0 ∨ (ws.length : Int) ≤ k then 0 else ws.getD k.toNat 0
theorem wat_in {n : Nat} {ws : List Int} (h : Wd n ws) (k : Int) : 0 ≤ wat ws k ∧ wat ws k ≤ 18446744073709551615 := by
  unfold wat
  split
  · decide
  · next q =>
    have hk : k.toNat < ws.length := by omega
    have hm : ws.getD k.toNat 0 ∈ ws := by
      rw [getD_of (List.getElem?_eq_getElem hk)]
      exact List.getElem_mem _
    exact h.2 _ hm
theorem wat_bit (ws : List Int) (k : Int) {b : Nat} (hb : b < 64) : (wat ws k).toNat.testBit b = (decide (0 ≤ k) && hasRow ws (64 * k.toNat + b)) := by
  rw [row_get ws k.toNat b hb]
  unfold wat
  split
  · next q =>
    rcases q with q | q
    · have : ¬ 0 ≤ k := by omega
      simp [this]
    · have e : ws.getD k.toNat 0 = 0 := by
        have : ws.length ≤ k.toNat := by omega
        simp [List.getD, this]
      rw [e]
      simp
  · next q =>
    have : 0 ≤ k := by omega
    simp [this]
def mvN (hi lo rest : Nat) : Nat := (hi * 2 ^ rest ||| lo / 2 ^ (64 - rest)) &&& full
theorem mvN_bit {hi lo rest j : Nat} (hj : j < 64) : (mvN hi lo rest).testBit j = ((decide (rest ≤ j) && hi.testBit (j - rest)) || lo.testBit (j + (64 - rest))) := by
  unfold mvN
  rw [Nat.testBit_and, full_bit hj, Nat.testBit_or, Nat.testBit_mul_two_pow, Nat.testBit_div_two_pow, Bool.and_true]
theorem mvN_lt (hi lo rest : Nat) : mvN hi lo rest < 2 ^ 64 := Nat.and_lt_two_pow _ (by decide)
theorem shift_bit {n : Nat} {p : Nat → Bool} {d : Int} {k j : Nat} (hj : j < 64) :
    (mvN (wat (wordsOf ((List.range n).map p)) ((k : Int) - d / 64)).toNat (wat (wordsOf ((List.range n).map p)) ((k : Int) - d / 64 - 1)).toNat (d % 64).toNat).testBit j = shRow n d p (64 * k + j) := by
  have hin := fun z => wat_in (words_wd n p) z
  rw [mvN_bit hj]
  unfold shRow
  by_cases hr : (d % 64).toNat ≤ j
  · have q := hin ((k : Int) - d / 64 - 1)
    rw [small_bit (w := (wat (wordsOf ((List.range n).map p)) ((k : Int) - d / 64 - 1)).toNat) (by omega) (by omega), Bool.or_false, wat_bit _ _ (by omega), hasRow_rows]
    by_cases h0 : 0 ≤ (k : Int) - d / 64
    · have e : 64 * ((k : Int) - d / 64).toNat + (j - (d % 64).toNat) = (((64 * k + j : Nat) : Int) - d).toNat := by omega
      have h1 : 0 ≤ ((64 * k + j : Nat) : Int) - d := by omega
      rw [e]
      simp only [hr, h0, h1, decide_true, Bool.true_and]
    · have h1 : ¬ 0 ≤ ((64 * k + j : Nat) : Int) - d := by omega
      simp only [h0, h1, decide_false, Bool.false_and, Bool.and_false]
  · rw [wat_bit _ ((k : Int) - d / 64 - 1) (by omega), hasRow_rows]
    by_cases h0 : 0 ≤ (k : Int) - d / 64 - 1
    · have e : 64 * ((k : Int) - d / 64 - 1).toNat + (j + (64 - (d % 64).toNat)) = (((64 * k + j : Nat) : Int) - d).toNat := by omega
      have h1 : 0 ≤ ((64 * k + j : Nat) : Int) - d := by omega
      rw [e]
      simp only [hr, h0, h1, decide_true, decide_false, Bool.true_and, Bool.false_and, Bool.false_or]
    · have h1 : ¬ 0 ≤ ((64 * k + j : Nat) : Int) - d := by omega
      simp only [hr, h0, h1, decide_false, Bool.false_and, Bool.or_false]
/-! ### runs, by the carries of a sum -/
def reachP (x y : Nat → Bool) : Nat → Bool
  | 0 => false
  | i + 1 => reach x y i
theorem reach_P (x y : Nat → Bool) (i : Nat) : reach x y i = (y i && (x i || reachP x y i)) := by cases i <;> simp [reach, reachP]
theorem mod_bit (x j : Nat) : x / 2 ^ j % 2 = (x.testBit j).toNat := by
  rw [Nat.testBit_eq_decide_div_mod_eq]
  by_cases h : x / 2 ^ j % 2 = 1
  · simp [h]
  · have h0 : x / 2 ^ j % 2 = 0 := by omega
    simp [h0]
theorem carry_div (x y : Nat) (cf : Nat → Bool) (hs : ∀ j, j < 64 → cf (j + 1) = (y.testBit j && (x.testBit j || cf j))) : ∀ j, j ≤ 64 → ((x &&& y) + y + (cf 0).toNat) / 2 ^ j = (x &&& y) / 2 ^ j + y / 2 ^ j + (cf j).toNat
  | 0, _ => by simp
  | j + 1, hj => by
    have ih := carry_div x y cf hs j (by omega)
    have e : ∀ z : Nat, z / 2 ^ (j + 1) = z / 2 ^ j / 2 := fun z => by rw [Nat.pow_succ, Nat.div_div_eq_div_mul]
    rw [e, e, e, ih, hs j (by omega)]
    have h1 := mod_bit (x &&& y) j
    have h2 := mod_bit y j
    rw [Nat.testBit_and] at h1
    generalize (x &&& y) / 2 ^ j = B at h1 ⊢
    generalize y / 2 ^ j = Y at h2 ⊢
    generalize x.testBit j = xb at h1 ⊢
    generalize y.testBit j = yb at h1 h2 ⊢
    generalize cf j = cb
    cases xb <;> cases yb <;> cases cb <;> simp at h1 h2 ⊢ <;> omega
theorem carry_bit (x y : Nat) (cf : Nat → Bool) (hs : ∀ j, j < 64 → cf (j + 1) = (y.testBit j && (x.testBit j || cf j))) {j : Nat} (hj : j < 64) :
    (((x &&& y) + y + (cf 0).toNat) ^^^ (x &&& y) ^^^ y).testBit j = cf j := by
  have q := carry_div x y cf hs j (by omega)
  have h0 := mod_bit ((x &&& y) + y + (cf 0).toNat) j
  rw [q] at h0
  have h1 := mod_bit (x &&& y) j
  have h2 := mod_bit y j
  rw [Nat.testBit_xor, Nat.testBit_xor]
  generalize (x &&& y) / 2 ^ j = B at h0 h1
  generalize y / 2 ^ j = Y at h0 h2
  generalize ((x &&& y) + y + (cf 0).toNat).testBit j = t at h0 ⊢
  generalize (x &&& y).testBit j = b at h1 ⊢
  generalize y.testBit j = u at h2 ⊢
  generalize cf j = cb at h0 ⊢
  cases t <;> cases b <;> cases u <;> cases cb <;> simp at h0 h1 h2 ⊢ <;> omega
def fwN (x y c : Nat) : Nat := ((x &&& y) ||| (((x &&& y) + y + c) ^^^ (x &&& y) ^^^ y)) &&& y
theorem fwN_lt (x : Nat) {y : Nat} (c : Nat) (hy : y < 2 ^ 64) : fwN x y c < 2 ^ 64 := Nat.and_lt_two_pow _ hy
/-- one word of the runs: its bits, and what is carried on -/
theorem fill_word {X Y : Nat → Bool} {x y k : Nat} (hx : ∀ j, j < 64 → x.testBit j = X (64 * k + j)) (hy : ∀ j, j < 64 → y.testBit j = Y (64 * k + j)) (lx : x < 2 ^ 64) (ly : y < 2 ^ 64) :
    (∀ j, j < 64 → (fwN x y (reachP X Y (64 * k)).toNat).testBit j = reach X Y (64 * k + j)) ∧ ((x &&& y) + y + (reachP X Y (64 * k)).toNat) / 2 ^ 64 = (reachP X Y (64 * (k + 1))).toNat := by
  have hs : ∀ j, j < 64 → (fun j => reachP X Y (64 * k + j)) (j + 1) = (y.testBit j && (x.testBit j || (fun j => reachP X Y (64 * k + j)) j)) := fun j hj => by
    show reachP X Y (64 * k + j + 1) = _
    rw [hx j hj, hy j hj]
    exact reach_P X Y (64 * k + j)
  refine ⟨fun j hj => ?_, ?_⟩
  · unfold fwN
    have q := carry_bit x y (fun j => reachP X Y (64 * k + j)) hs hj
    rw [Nat.testBit_and, Nat.testBit_or]
    have q' : (((x &&& y) + y + (reachP X Y (64 * k)).toNat) ^^^ (x &&& y) ^^^ y).testBit j = reachP X Y (64 * k + j) := q
    rw [q', Nat.testBit_and, hx j hj, hy j hj, reach_P X Y (64 * k + j)]
    cases X (64 * k + j) <;> cases Y (64 * k + j) <;> cases reachP X Y (64 * k + j) <;> rfl
  · have q := carry_div x y (fun j => reachP X Y (64 * k + j)) hs 64 (by omega)
    have e1 : (x &&& y) / 2 ^ 64 = 0 := Nat.div_eq_of_lt (Nat.and_lt_two_pow _ ly)
    have e2 : y / 2 ^ 64 = 0 := Nat.div_eq_of_lt ly
    rw [e1, e2] at q
    have e3 : 64 * (k + 1) = 64 * k + 64 := by omega
    rw [e3]
    simpa using q
/-! ### no row -/
theorem words_none (n : Nat) (p : Nat → Bool) : (wordsOf ((List.range n).map p)).any (fun w => w != 0) = !(allRow n fun i => !(p i)) := by
  rw [Bool.eq_iff_iff]
  simp only [List.any_eq_true, bne_iff_ne, ne_eq, Bool.not_eq_true', allRow, Bool.eq_false_iff, List.all_eq_true, List.mem_range, Bool.not_eq_true']
  constructor
  · rintro ⟨w, hw, h0⟩ hall
    obtain ⟨k, hk⟩ := List.mem_iff_getElem?.mp hw
    have q := words_bit hk
    apply h0
    have e : w.toNat = 0 := by
      apply Nat.eq_of_testBit_eq
      intro j
      rw [q.2.2 j, Nat.zero_testBit]
      by_cases hi : 64 * k + j < n
      · rw [getD_map_range n p _ hi]
        have := hall _ hi
        simp at this
        simp [this]
      · simp [List.getD, hi]
    have := q.1
    omega
  · intro h
    false_or_by_contra
    rename_i hc
    apply h
    intro i hi
    have q := hasRow_rows n p i
    simp only [hi, decide_true, Bool.true_and] at q
    unfold hasRow at q
    have hk : i / 64 < (wordsOf ((List.range n).map p)).length := by
      rw [wordsOf_length]
      simp
      omega
    have e := getD_of (List.getElem?_eq_getElem hk)
    have hz : (wordsOf ((List.range n).map p))[i / 64] = 0 := by
      false_or_by_contra
      rename_i hne
      exact hc ⟨_, List.getElem_mem hk, hne⟩
    rw [e, hz] at q
    simp at q
    simp [q]
/-! ### ends by joins and shifts -/
theorem jn4 (x y : Bool) : jn 4 x y = (x && !y) := by
  unfold jn
  rw [if_neg (by decide), if_neg (by decide), if_neg (by decide), if_neg (by decide), if_pos rfl]
theorem first_shift (n : Nat) (p : Nat → Bool) {i : Nat} (hi : i < n) : jn 4 (p i) (shRow n 1 p i) = firstRow p i := by
  rw [jn4]
  unfold firstRow shRow
  by_cases h0 : 0 < i
  · have h1 : 0 ≤ (i : Int) - 1 := by omega
    have h2 : ((i : Int) - 1).toNat = i - 1 := by omega
    have h3 : i - 1 < n := by omega
    rw [decide_eq_true h1, h2, decide_eq_true h3, decide_eq_true h0, Bool.true_and]
  · have h1 : ¬ 0 ≤ (i : Int) - 1 := by omega
    rw [decide_eq_false h1, decide_eq_false h0, Bool.false_and, Bool.false_and]
theorem last_shift (n : Nat) (p : Nat → Bool) {i : Nat} (hi : i < n) : jn 4 (p i) (shRow n (-1) p i) = lastRow n p i := by
  rw [jn4]
  unfold lastRow shRow
  have h1 : 0 ≤ (i : Int) - -1 := by omega
  have h2 : ((i : Int) - -1).toNat = i + 1 := by omega
  rw [decide_eq_true h1, h2, Bool.true_and]
end Rs

set_option Elab.async false
set_option maxRecDepth 100000
set_option maxHeartbeats 2000000
set_option linter.all false
namespace Rs
open PySem PySem.Spec PyProof.Rows L2
/-! ### walks over two lists at once, and over a list with its places -/
theorem for_zip {K : PySem.W.Frag} {a b : Addr} {xs ys : List V} {g : TG} {tb : TS} {D : Ends} {σ : L2.St} {H : Hp} (he : xs.length = ys.length) (Pv : Nat → L2.St → Hp → Prop) (h0 : Pv 0 σ H) (hl : ∀ i σ H, i ≤ xs.length → Pv i σ H → SqL K H a xs ∧ SqL K H b ys)
    (hs : ∀ i x y σ H T, xs[i]? = some x → ys[i]? = some y → Pv i σ H → H T = none → g (.ref T) σ (upd H T (.tup [x, y])) fun σ2 H2 => tb { D with nx := Pv (i + 1), ct := Pv (i + 1), bk := D.nx } σ2 H2) (hd : ∀ σ H, Pv xs.length σ H → D.nx σ H) :
    ∃ W : Nat → Nat → L2.St → Hp → Prop, (∃ m, W 0 m σ H) ∧ ∀ i m σ H, W i m σ H →
      ((Itz K a b).stop i H ∧ D.nx σ H) ∨ ((Itz K a b).go i H ∧ ∃ N : L2.St → Hp → Prop, (∀ σ' H', N σ' H' → ∃ m', m' < m ∧ W (i + 1) m' σ' H') ∧ ∀ x H', (Itz K a b).yld i H x H' → g x σ H' fun σ2 H2 => tb { D with nx := N, ct := N, bk := D.nx } σ2 H2) := by
  refine ⟨fun i m σ H => m = xs.length - i ∧ i ≤ xs.length ∧ Pv i σ H, ⟨xs.length, by simp, Nat.zero_le _, h0⟩, ?_⟩
  rintro i m σ H ⟨rfl, hi, p⟩
  have q := hl i σ H hi p
  by_cases hlt : i < xs.length
  · have hlt' : i < ys.length := by omega
    refine .inr ⟨⟨xs, ys, xs[i], ys[i], q.1, q.2, by simp [hlt], by simp [hlt']⟩, Pv (i + 1), fun σ' H' p' => ⟨xs.length - (i + 1), by omega, rfl, hlt, p'⟩, fun v H' y => ?_⟩
    obtain ⟨T, x, y, rfl, hT, rfl, hx, hy⟩ := y
    exact hs i x y σ H T (hx xs q.1) (hy ys q.2) p hT
  · have e : i = xs.length := by omega
    subst e
    exact .inl ⟨⟨xs, ys, q.1, q.2, .inl (Nat.le_refl _)⟩, hd σ H p⟩
theorem lc_zip {K : PySem.W.Frag} {a b : Addr} {xs ys : List V} {g : TG} {tt : TT} {te : TE} {vs : List Nat} {σ : L2.St} {H1 : Hp} {D : Addr} {Qd : Hp → Prop} (he : xs.length = ys.length) (Pv : Nat → Hp → Prop) (h0 : Pv 0 (upd H1 D (.lst []))) (hl : ∀ i H, i ≤ xs.length → Pv i H → SqL K H a xs ∧ SqL K H b ys)
    (hs : ∀ i x y H T, xs[i]? = some x → ys[i]? = some y → Pv i H → H T = none → g (.ref T) (wipe σ vs) (upd H T (.tup [x, y])) fun σ2 H2 => wipe σ2 vs = wipe σ vs ∧ tt σ2 H2 fun b H3 =>
      if b = true then te σ2 H3 fun y H4 => ∃ acc, H4 D = some (.lst acc) ∧ acc.length < sizeLine ∧ Pv (i + 1) (upd H4 D (.lst (acc ++ [y]))) else Pv (i + 1) H3) (hd : ∀ H, Pv xs.length H → Qd H) :
    ∃ W : Nat → Nat → Hp → Prop, (∃ m, W 0 m (upd H1 D (.lst []))) ∧ ∀ i m H, W i m H →
      ((Itz K a b).stop i H ∧ Qd H) ∨ ((Itz K a b).go i H ∧ ∃ Nx : Hp → Prop, (∀ H', Nx H' → ∃ m', m' < m ∧ W (i + 1) m' H') ∧ ∀ x H', (Itz K a b).yld i H x H' → g x (wipe σ vs) H' fun σ2 H2 => wipe σ2 vs = wipe σ vs ∧ tt σ2 H2 fun b H3 =>
        if b = true then te σ2 H3 fun y H4 => ∃ acc, H4 D = some (.lst acc) ∧ acc.length < sizeLine ∧ Nx (upd H4 D (.lst (acc ++ [y]))) else Nx H3) := by
  refine ⟨fun i m H => m = xs.length - i ∧ i ≤ xs.length ∧ Pv i H, ⟨xs.length, by simp, Nat.zero_le _, h0⟩, ?_⟩
  rintro i m H ⟨rfl, hi, p⟩
  have q := hl i H hi p
  by_cases hlt : i < xs.length
  · have hlt' : i < ys.length := by omega
    refine .inr ⟨⟨xs, ys, xs[i], ys[i], q.1, q.2, by simp [hlt], by simp [hlt']⟩, Pv (i + 1), fun H' p' => ⟨xs.length - (i + 1), by omega, rfl, hlt, p'⟩, fun v H' y => ?_⟩
    obtain ⟨T, x, y, rfl, hT, rfl, hx, hy⟩ := y
    exact hs i x y H T (hx xs q.1) (hy ys q.2) p hT
  · have e : i = xs.length := by omega
    subst e
    exact .inl ⟨⟨xs, ys, q.1, q.2, .inl (Nat.le_refl _)⟩, hd H p⟩
theorem for_enum {K : PySem.W.Frag} {a : Addr} {xs : List V} {g : TG} {tb : TS} {D : Ends} {σ : L2.St} {H : Hp} (Pv : Nat → L2.St → Hp → Prop) (h0 : Pv 0 σ H) (hl : ∀ i σ H, i ≤ xs.length → Pv i σ H → SqL K H a xs)
    (hs : ∀ i x σ H T, xs[i]? = some x → Pv i σ H → H T = none → g (.ref T) σ (upd H T (.tup [.int (i : Nat), x])) fun σ2 H2 => tb { D with nx := Pv (i + 1), ct := Pv (i + 1), bk := D.nx } σ2 H2) (hd : ∀ σ H, Pv xs.length σ H → D.nx σ H) :
    ∃ W : Nat → Nat → L2.St → Hp → Prop, (∃ m, W 0 m σ H) ∧ ∀ i m σ H, W i m σ H →
      ((Ite K a).stop i H ∧ D.nx σ H) ∨ ((Ite K a).go i H ∧ ∃ N : L2.St → Hp → Prop, (∀ σ' H', N σ' H' → ∃ m', m' < m ∧ W (i + 1) m' σ' H') ∧ ∀ x H', (Ite K a).yld i H x H' → g x σ H' fun σ2 H2 => tb { D with nx := N, ct := N, bk := D.nx } σ2 H2) := by
  refine ⟨fun i m σ H => m = xs.length - i ∧ i ≤ xs.length ∧ Pv i σ H, ⟨xs.length, by simp, Nat.zero_le _, h0⟩, ?_⟩
  rintro i m σ H ⟨rfl, hi, p⟩
  have q := hl i σ H hi p
  by_cases hlt : i < xs.length
  · refine .inr ⟨⟨xs, xs[i], q, by simp [hlt]⟩, Pv (i + 1), fun σ' H' p' => ⟨xs.length - (i + 1), by omega, rfl, hlt, p'⟩, fun v H' y => ?_⟩
    obtain ⟨T, x, rfl, hT, rfl, hx⟩ := y
    exact hs i x σ H T (hx xs q) p hT
  · have e : i = xs.length := by omega
    subst e
    exact .inl ⟨⟨xs, q, Nat.le_refl _⟩, hd σ H p⟩
/-! ### any(xs) of whole numbers -/
def rAnyI (K : PySem.W.Frag) : List V → Hp → VK → Prop := fun vs H Q => ∃ (a : Addr) (ns : List Int), vs = [V.ref a] ∧ SqL K H a (ns.map V.int) ∧ Q (.bl (ns.any fun z => z != 0)) H
theorem truth_ints {prog : Program} {w : World} {A : Around} {ns : List Int} {its : List Value} (rv : Vals (ns.map V.int) its) :
    TruthOf prog w A (fun i v => its.toArray[i]? = some v) (fun i => (ns.map fun z => z != 0).getD i false) := fun i v s Q E hv hq => by
  have hv' : its[i]? = some v := by simpa using hv
  have hi : i < its.length := (List.getElem?_eq_some_iff.mp hv').1
  have hl := rv.length
  rw [List.length_map] at hl
  have hn : i < ns.length := by omega
  have hx : (ns.map V.int)[i]? = some (V.int ns[i]) := by simp [hn]
  obtain ⟨u, hu, t, rfl⟩ := rv.get hx
  rw [hv'] at hu
  cases hu
  have hg : (ns.map fun z => z != 0).getD i false = (ns[i] != 0) := by simp [List.getD, hn]
  have hq' : Q ((ns.map fun z => z != 0).getD i false) s := hq
  rw [hg] at hq'
  exact PySem.P.truthy_int hq'
theorem cr_anyI {X : Cx} (hc : X.calm = true) : CallR X (.builtin "any") (rAnyI X.K) := by
  intro pins s σ H vs us Q I r h
  obtain ⟨a, ns, rfl, hs, q⟩ := h
  obtain ⟨its, rv, hl, _⟩ := I.list hs
  rw [Vals.ref1 r]
  have hlen := rv.length
  rw [List.length_map] at hlen
  refine call_any_walk (iter_any hl.isList fun s₂ e2 st hne => ?_)
  subst e2
  refine ⟨_, _, _, _, _, _, _, rfl, Walks.list (A := X.A.in1) (I.ok.hd hc) _ a hne its.toArray, st, truth_ints rv, fun h' tk hk => ?_⟩
  refine ⟨.bl _, H, I.kept fun b o eo => hk b o (fun hmem => ?_) (Heap.get?_push_of_some _ eo), ?_, q⟩
  · rcases List.mem_cons.mp hmem with e1 | hmem
    · exact absurd (e1 ▸ Heap.lt_size eo) (Nat.lt_irrefl _)
    · cases hmem
  · show Value.bool _ = Value.bool _
    have e := any_range (ns.map fun z => z != 0)
    rw [List.length_map, List.any_map] at e
    rw [List.size_toArray, ← hlen, e]
    rfl
/-! ### a tuple of the module's top, by an index -/
def tGT (K : PySem.W.Frag) (xs : List V) (tb : TE) : TE := fun σ H Q => ∀ a, (∀ H, SqT K H a xs) → tOp (rIxT K) (tC (.ref a)) tb σ H Q
theorem pe_gtix {X : Cx} {x : Str} {xs : List V} {b : Expr} {tb : TE} {p pos : Pos} (hg : Gl X x) (hm : ∃ a, X.mg x = some (.ref a) ∧ ∀ H, SqT X.K H a xs) (hb : PE X b tb) (hs : PlainIx b) (hd : (x == ("__debug__" : Str)) = false := by decide) :
    PE X (.Subscript (.Name x p) b pos) (tGT X.K xs tb) := by
  obtain ⟨a, e, hq⟩ := hm
  intro pins s σ H Q I h0
  exact pe_ix (pos := pos) ix_tup (pe_glob (pos := p) hg e (v := .ref a) rfl hd) hb hs pins s σ H Q I (h0 a hq)
def isIntV : V → Value → Bool
  | .int i, .int j _ => i == j
  | _, _ => false
def relAll : List V → List Value → Bool
  | [], [] => true
  | x :: xs, u :: us => isIntV x u && relAll xs us
  | _, _ => false
theorem isIntV_rel {x : V} {u : Value} (h : isIntV x u = true) : RelV x u := by
  cases x <;> cases u <;> first | (simp only [isIntV, beq_iff_eq] at h; subst h; exact ⟨_, rfl⟩) | (simp [isIntV] at h)
theorem relAll_vals : ∀ {xs : List V} {us : List Value}, relAll xs us = true → Vals xs us
  | [], [], _ => .nil
  | x :: xs, u :: us, h => by
    simp only [relAll, Bool.and_eq_true] at h
    exact .cons (isIntV_rel h.1) (relAll_vals h.2)
  | [], _ :: _, h => by simp [relAll] at h
  | _ :: _, [], h => by simp [relAll] at h
def tupIs (its : Array Value) (xs : List V) : Bool := decide (its.size ≤ sizeLine) && relAll xs its.toList
theorem tup_at {K : PySem.W.Frag} {f : Addr} {od : Option Addr} {its : Array Value} {n : Nat} {sl : Array (Option Value)} {xs : List V} {H : Hp} (l : K.lookup f = some ⟨.type "tuple", od, .seq its n, sl⟩) (v : tupIs its xs = true) : SqT K H f xs := by
  unfold tupIs at v
  simp only [Bool.and_eq_true, decide_eq_true_eq] at v
  exact .inr ⟨_, its, n, l, rfl, rfl, v.1, relAll_vals v.2⟩
end Rs

set_option Elab.async false
set_option maxRecDepth 100000
set_option maxHeartbeats 2000000
set_option linter.all false
namespace Rs
open PySem PySem.Spec PyProof.Rows L2
open Kg12 (Rows wordsOf size signed32)
variable {K : PySem.W.Frag} {vs : List V} {H : Hp} {Q : VK} {E : XK}
abbrev ends (Q : VK) : Ends := { nx := fun _ H' => Q .non H', rt := Q }
abbrev natV (r : Nat) : V := .int (r : Int)
/-- a new list; all else stands -/
def GivesV (H : Hp) (Q : VK) (l : List V) : Prop := ∀ (p : Addr) (H' : Hp), H p = none → Same H H' → H' p = some (.lst l) → Q (.ref p) H'
theorem same_refl : Same H H := fun _ _ e => e
theorem natV_int (l : List Nat) : l.map natV = (l.map fun r : Nat => (r : Int)).map V.int := by simp
theorem nat_n {n : Int} (h : inN n) : (n.toNat : Int) = n := Int.toNat_of_nonneg h.1
theorem IsSet.wd {n : Int} {l : List Int} (h : IsSet n l) (hn : inN n) : Wd n.toNat l := ⟨by rw [h.1]; exact if_pos hn, h.2⟩
theorem eq_dec {a b : Int} : decide (V.int a = V.int b) = decide (a = b) := by
  by_cases h : a = b
  · subst h
    simp
  · rw [decide_eq_false h, decide_eq_false (fun q => h (V.int.inj q))]
theorem ne_dec {a b : Int} : (!decide (V.int a = V.int b)) = decide (a ≠ b) := by
  rw [eq_dec]
  by_cases h : a = b
  · simp [h]
  · simp [h]
theorem cat_lists {l b : Addr} {xs zs : List V} (hl : H l = some (.lst xs)) (hb : H b = some (.lst zs)) (hz : xs.length + zs.length ≤ 100000) (k : ∀ p, H p = none → Q (.ref p) (upd H p (.lst (xs ++ zs)))) : rCat (.ref l) (.ref b) H Q := ⟨l, b, xs, zs, rfl, rfl, hl, hb, big hz, k⟩
theorem gives_new {H0 : Hp} {l : List Int} {us : List V} {p : Addr} (g : Gives H0 Q l) (s : Same H0 H) (e : us = l.map V.int) (hp : H p = none) : Q (.ref p) (upd H p (.lst us)) := g p _ (s.free hp) (same_upd s hp) (by rw [upd_same, e])
theorem upd_old {p a : Addr} {o u : HO} (h : H a = some o) (hp : H p = none) : upd H p u a = some o := by
  rw [upd_ne (ne_of_none h hp)]
  exact h
/-- [z] given back -/
theorem ret_one {z : Int} {σ : L2.St} (g : Gives H Q [z]) : tRet (tLst (tCons (tC (.int z)) tNil)) (ends Q) σ H := ⟨big (by show 1 ≤ 100000; decide), fun p hp => g p _ hp (same_upd same_refl hp) upd_same⟩

/-! ### what is refused -/
def sp_rows_refused : Sp := fun vs H Q _ => ∃ n : Int, vs = [.int n] ∧ Q (.bl (decide (n < 0 ∨ 4096 < n))) H
theorem len_rows_refused (h : sp_rows_refused vs H Q E) : vs.length = 1 := by
  obtain ⟨_, rfl, _⟩ := h
  rfl
/-- rows_refused(n) -/
abbrev N_rows_refused : List Str := ["n"]
def rd_rows_refused (K : PySem.W.Frag) : TS :=
    (tRet (tOrV (tOp rLtI (tVar 0) (tC (.int (0)))) (tOp rGtI (tVar 0) (tC (.int (4096))))))
theorem ok_rd_rows_refused (h : sp_rows_refused vs H Q E) : rd_rows_refused K (ends Q) (start N_rows_refused vs) H := by
  obtain ⟨n, rfl, k⟩ := h
  refine ⟨_, rfl, _, _, rfl, rfl, _, rfl, ifd (fun h => ?_) fun h => ?_⟩
  · rw [decide_eq_true (Or.inl h)] at k
    exact k
  · refine ⟨_, rfl, _, _, rfl, rfl, ?_⟩
    have e : decide (n < 0 ∨ 4096 < n) = decide ((4096 : Int) < n) := by
      by_cases q : (4096 : Int) < n
      · rw [decide_eq_true q, decide_eq_true (Or.inr q)]
      · rw [decide_eq_false q, decide_eq_false (by omega)]
    rw [e] at k
    exact k
def sp_how_refused : Sp := fun vs H Q _ => ∃ n : Int, vs = [.int n] ∧ Q (.bl (decide (n < 0 ∨ 5 < n))) H
theorem len_how_refused (h : sp_how_refused vs H Q E) : vs.length = 1 := by
  obtain ⟨_, rfl, _⟩ := h
  rfl
/-- how_refused(how) -/
abbrev N_how_refused : List Str := ["how"]
def rd_how_refused (K : PySem.W.Frag) : TS :=
    (tRet (tOrV (tOp rLtI (tVar 0) (tC (.int (0)))) (tOp rGtI (tVar 0) (tC (.int (5))))))
theorem ok_rd_how_refused (h : sp_how_refused vs H Q E) : rd_how_refused K (ends Q) (start N_how_refused vs) H := by
  obtain ⟨n, rfl, k⟩ := h
  refine ⟨_, rfl, _, _, rfl, rfl, _, rfl, ifd (fun h => ?_) fun h => ?_⟩
  · rw [decide_eq_true (Or.inl h)] at k
    exact k
  · refine ⟨_, rfl, _, _, rfl, rfl, ?_⟩
    have e : decide (n < 0 ∨ 5 < n) = decide ((5 : Int) < n) := by
      by_cases q : (5 : Int) < n
      · rw [decide_eq_true q, decide_eq_true (Or.inr q)]
      · rw [decide_eq_false q, decide_eq_false (by omega)]
    rw [e] at k
    exact k
/-- the head of every call -/
theorem head_rows {rest : TS} {n : Int} {σ : L2.St} (hσ : σ[0]? = some (some (.int n))) (hout : ¬ inN n → Gives H Q [-1]) (hin : inN n → rest (ends Q) σ H) :
    tSeq (tIfS (tTru K (tCall (sp_rows_refused) [] E0 (tCons (tVar 0) tNil))) (tRet (tLst (tCons (tC (.int (-1))) tNil))) tNext) rest (ends Q) σ H := by
  refine ⟨_, hσ, n, rfl, _, rfl, ifd (fun h => ?_) fun h => ?_⟩
  · exact ret_one (hout (by omega))
  · exact hin (by omega)
theorem head_how {rest : TS} {n : Int} {σ : L2.St} (hσ : σ[1]? = some (some (.int n))) (hout : ¬ (0 ≤ n ∧ n ≤ 5) → Gives H Q [-2]) (hin : 0 ≤ n ∧ n ≤ 5 → rest (ends Q) σ H) :
    tSeq (tIfS (tTru K (tCall (sp_how_refused) [] E0 (tCons (tVar 1) tNil))) (tRet (tLst (tCons (tC (.int (-2))) tNil))) tNext) rest (ends Q) σ H := by
  refine ⟨_, hσ, n, rfl, _, rfl, ifd (fun h => ?_) fun h => ?_⟩
  · exact ret_one (hout (by omega))
  · exact hin (by omega)

/-! ### one row -/
def sp_has_row (K : PySem.W.Frag) : Sp := fun vs H Q _ => ∃ (a : Addr) (ws : List Int) (r : Nat), vs = [.ref a, .int (r : Int)] ∧ SqL K H a (ws.map V.int) ∧ (∀ z ∈ ws, 0 ≤ z) ∧ r / 64 < ws.length ∧ Q (.bl (hasRow ws r)) H
theorem len_has_row (h : sp_has_row K vs H Q E) : vs.length = 2 := by
  obtain ⟨_, _, _, rfl, _⟩ := h
  rfl
/-- has_row(words, row) -/
abbrev N_has_row : List Str := ["words", "row"]
def rd_has_row (K : PySem.W.Frag) : TS :=
    (tRet (tOp rEq (tOp rModI (tOp rShrI (tOp (rIxL K) (tVar 0) (tOp rDivI (tVar 1) (tC (.int (64))))) (tOp rModI (tVar 1) (tC (.int (64))))) (tC (.int (2)))) (tC (.int (1)))))
theorem ok_rd_has_row (h : sp_has_row K vs H Q E) : rd_has_row K (ends Q) (start N_has_row vs) H := by
  obtain ⟨a, ws, r, rfl, hS, hz, hr, k⟩ := h
  have e1 : (r : Int) / 64 = ((r / 64 : Nat) : Int) := by omega
  have e2 : ((r : Int) % 64).toNat = r % 64 := by omega
  have hg := List.getElem?_eq_getElem hr
  refine ⟨_, rfl, _, rfl, _, _, rfl, rfl, ⟨by decide, by decide⟩, a, _, _, V.int ws[r / 64], rfl, rfl, hS, at_nat e1 (by rw [List.getElem?_map, hg]; rfl), ?_⟩
  refine ⟨_, rfl, _, _, rfl, rfl, (by decide : (0 : Int) < 64), _, _, rfl, rfl, (by omega : (0 : Int) ≤ (r : Int) % 64), _, _, rfl, rfl, (by decide : (0 : Int) < 2), rfl, ?_⟩
  show Q (.bl (decide (V.int (ws[r / 64] / 2 ^ ((r : Int) % 64).toNat % 2) = V.int 1))) H
  rw [e2, bit_div (hz _ (List.getElem_mem hr)), eq_dec]
  have e3 : hasRow ws r = (ws[r / 64]).toNat.testBit (r % 64) := by
    unfold hasRow
    rw [getD_of hg]
  rw [e3] at k
  revert k
  cases (ws[r / 64]).toNat.testBit (r % 64) <;> exact fun k => k
def sp_rows_of (K : PySem.W.Frag) : Sp := fun vs H Q _ => ∃ (n : Nat) (a : Addr) (ws : List Int), vs = [.int (n : Int), .ref a] ∧ n ≤ 4096 ∧ SqL K H a (ws.map V.int) ∧ Wd n ws ∧ GivesV H Q ((sel (hasRow ws) n).map natV)
theorem len_rows_of (h : sp_rows_of K vs H Q E) : vs.length = 2 := by
  obtain ⟨_, _, _, rfl, _⟩ := h
  rfl
/-- rows_of(n, words) -/
abbrev N_rows_of : List Str := ["n", "words", "row"]
def rd_rows_of (K : PySem.W.Frag) : TS :=
    (tRet (tLc (iRng1 (tCons (tVar 0) tNil)) (gName 2) (tTru K (tCall (sp_has_row K) [] E0 (tCons (tVar 1) (tCons (tVar 2) tNil)))) (tVar 2) [2]))
theorem Wd.nn {n : Nat} {ws : List Int} (h : Wd n ws) : ∀ z ∈ ws, 0 ≤ z := fun z hz => (h.2 z hz).1
theorem ok_rd_rows_of (h : sp_rows_of K vs H Q E) : rd_rows_of K (ends Q) (start N_rows_of vs) H := by
  obtain ⟨n, a, ws, rfl, hn, hS, hw, k⟩ := h
  refine ⟨_, rfl, n, rfl, by omega, by omega, fun D hD => ?_⟩
  refine lc_range (fun i H' => Same H H' ∧ H' D = some (.lst ((sel (hasRow ws) i).map natV))) ⟨same_upd same_refl hD, by rw [upd_same]; rfl⟩ ?_ ?_
  · rintro i H' hi ⟨s1, hd⟩
    have hl := hw.1
    refine ⟨rfl, _, rfl, _, rfl, a, ws, i, ?_, s1.seq hS, hw.nn, by omega, _, rfl, ite2 (fun hp => ?_) fun hp => ?_⟩
    · show [V.ref a, V.int (0 + (i : Int))] = _
      rw [Int.zero_add]
    · refine ⟨_, rfl, _, hd, ?_, same_own s1 hD, ?_⟩
      · rw [List.length_map]
        have := sel_len (hasRow ws) i
        exact bigL (by omega)
      · rw [upd_same, sel_succ, if_pos hp, List.map_append]
        congr 3
        show [V.int (0 + (i : Int))] = [V.int (i : Int)]
        rw [Int.zero_add]
    · refine ⟨s1, ?_⟩
      rw [sel_succ, if_neg hp]
      exact hd
  · rintro H1 ⟨s1, hd⟩
    exact k D H1 hD s1 hd
def sp_told (K : PySem.W.Frag) : Sp := fun vs H Q _ => ∃ (n : Nat) (a : Addr) (ws : List Int), vs = [.int (n : Int), .ref a] ∧ n ≤ 4096 ∧ H a = some (.lst (ws.map V.int)) ∧ Wd n ws ∧ Gives H Q (size ((List.range n).map (hasRow ws)) :: ws)
theorem len_told (h : sp_told K vs H Q E) : vs.length = 2 := by
  obtain ⟨_, _, _, rfl, _⟩ := h
  rfl
/-- told(n, words) -/
abbrev N_told : List Str := ["n", "words"]
def rd_told (K : PySem.W.Frag) : TS :=
    (tRet (tOp rCat (tLst (tCons (tCB (rLen K) (tCons (tCall (sp_rows_of K) [] E0 (tCons (tVar 0) (tCons (tVar 1) tNil))) tNil)) tNil)) (tVar 1)))
theorem ok_rd_told (h : sp_told K vs H Q E) : rd_told K (ends Q) (start N_told vs) H := by
  obtain ⟨n, a, ws, rfl, hn, hS, hw, k⟩ := h
  refine ⟨_, rfl, _, rfl, n, a, ws, rfl, hn, SqL.of hS, hw, fun p H1 hp s1 hl => ?_⟩
  refine ⟨_, _, rfl, .inl ⟨_, SqL.of hl, rfl⟩, big (by show 1 ≤ 100000; decide), fun q hq => ?_⟩
  have s2 := same_upd (o := .lst [V.int ((sel (hasRow ws) n).map natV).length]) s1 hq
  have := hw.1
  refine ⟨_, rfl, cat_lists upd_same (s2 _ _ hS) (by simp only [List.length_map, List.length_cons, List.length_nil]; omega) fun z hz => gives_new k s2 ?_ hz⟩
  rw [List.length_map, sel_size]
  rfl
end Rs

set_option Elab.async false
set_option maxRecDepth 100000
set_option maxHeartbeats 2000000
set_option linter.all false
namespace Rs
open PySem PySem.Spec PyProof.Rows L2
open Kg12 (Rows wordsOf size signed32)
variable {K : PySem.W.Frag} {vs : List V} {H : Hp} {Q : VK} {E : XK}
def sp_stands : Sp := fun vs H Q _ => ∃ x how v : Int, vs = [.int x, .int how, .int v] ∧ Q (.bl (st how v x)) H
/-- stands(number, how, value) -/
abbrev N_stands : List Str := ["number", "how", "value"]
def rd_stands (K : PySem.W.Frag) : TS :=
    (tSeq (tIfS (tTest (tOp rEq (tVar 1) (tC (.int (0)))))
    (tRet (tOp rEq (tVar 0) (tVar 2)))
    tNext)
    (tSeq (tIfS (tTest (tOp rEq (tVar 1) (tC (.int (1)))))
    (tRet (tOp rNe (tVar 0) (tVar 2)))
    tNext)
    (tSeq (tIfS (tTest (tOp rEq (tVar 1) (tC (.int (2)))))
    (tRet (tOp rLtI (tVar 0) (tVar 2)))
    tNext)
    (tSeq (tIfS (tTest (tOp rEq (tVar 1) (tC (.int (3)))))
    (tRet (tOp rLeI (tVar 0) (tVar 2)))
    tNext)
    (tSeq (tIfS (tTest (tOp rEq (tVar 1) (tC (.int (4)))))
    (tRet (tOp rGtI (tVar 0) (tVar 2)))
    tNext)
    (tRet (tOp rGeI (tVar 0) (tVar 2))))))))
theorem len_stands (h : sp_stands vs H Q E) : vs.length = 3 := by
  obtain ⟨_, _, _, rfl, _⟩ := h
  rfl
theorem ok_rd_stands (h : sp_stands vs H Q E) : rd_stands K { nx := fun _ H' => Q .non H', rt := Q } (start N_stands vs) H := by
  obtain ⟨x, how, v, rfl, k⟩ := h
  unfold st at k
  refine ⟨_, rfl, rfl, _, rfl, ?_⟩
  rw [eq_dec]
  refine ifd (fun h => ?_) fun h => ?_
  · rw [if_pos h] at k
    refine ⟨_, rfl, _, rfl, rfl, ?_⟩
    rw [dec_int]
    exact k
  rw [if_neg h] at k
  refine ⟨_, rfl, rfl, _, rfl, ?_⟩
  rw [eq_dec]
  refine ifd (fun h => ?_) fun h => ?_
  · rw [if_pos h] at k
    refine ⟨_, rfl, _, rfl, rfl, ?_⟩
    rw [dec_int]
    exact k
  rw [if_neg h] at k
  refine ⟨_, rfl, rfl, _, rfl, ?_⟩
  rw [eq_dec]
  refine ifd (fun h => ?_) fun h => ?_
  · rw [if_pos h] at k
    exact ⟨_, rfl, _, rfl, _, _, rfl, rfl, k⟩
  rw [if_neg h] at k
  refine ⟨_, rfl, rfl, _, rfl, ?_⟩
  rw [eq_dec]
  refine ifd (fun h => ?_) fun h => ?_
  · rw [if_pos h] at k
    exact ⟨_, rfl, _, rfl, _, _, rfl, rfl, k⟩
  rw [if_neg h] at k
  refine ⟨_, rfl, rfl, _, rfl, ?_⟩
  rw [eq_dec]
  refine ifd (fun h => ?_) fun h => ?_
  · rw [if_pos h] at k
    exact ⟨_, rfl, _, rfl, _, _, rfl, rfl, k⟩
  rw [if_neg h] at k
  exact ⟨_, rfl, _, rfl, _, _, rfl, rfl, k⟩

/-! ### set_of -/
def sp_set_of (K : PySem.W.Frag) : Sp := fun vs H Q _ => ∃ (n : Nat) (a : Addr) (l : List Nat), vs = [.int (n : Int), .ref a] ∧ n ≤ 4096 ∧ SqL K H a (l.map natV) ∧ (∀ r ∈ l, r < n) ∧ Gives H Q (wordsOf (rowsIn n l))
/-- set_of(n, rows) -/
abbrev N_set_of : List Str := ["n", "rows", "words", "row", "place"]
def rd_set_of (K : PySem.W.Frag) : TS :=
    (tSeq (tAsg (tOp rRep (tLst (tCons (tC (.int (0))) tNil)) (tOp rDivI (tOp rSubI (tOp rAddI (tVar 0) (tC (.int (64)))) (tC (.int (1)))) (tC (.int (64))))) (gName 2))
    (tSeq (tFor (iList K (tVar 1)) (gName 3)
    (tSeq (tAsg (tOp rDivI (tVar 3) (tC (.int (64)))) (gName 4))
    (tAsg (tOp rOrI (tOp (rIxL K) (tVar 2) (tVar 4)) (tOp rShlI (tC (.int (1))) (tOp rModI (tVar 3) (tC (.int (64)))))) (gSub (tVar 2) (tVar 4) rSetL))))
    (tRet (tVar 2))))
theorem len_set_of (h : sp_set_of K vs H Q E) : vs.length = 2 := by
  obtain ⟨_, _, _, rfl, _⟩ := h
  rfl
theorem words_some {n r : Nat} {l : List Nat} (hr : r < n) : ∃ w, (wordsOf (rowsIn n l))[r / 64]? = some w ∧ 0 ≤ w := by
  have h : r / 64 < (wordsOf (rowsIn n l)).length := by
    rw [wordsOf_length, rowsIn_length]
    omega
  exact ⟨_, List.getElem?_eq_getElem h, (words_bit (List.getElem?_eq_getElem h)).1⟩
theorem ok_rd_set_of (h : sp_set_of K vs H Q E) : rd_set_of K { nx := fun _ H' => Q .non H', rt := Q } (start N_set_of vs) H := by
  obtain ⟨n, a, l, rfl, hn, hS, hl, k⟩ := h
  refine ⟨by show 1 ≤ sizeLine; decide, fun q hq => ?_⟩
  refine ⟨_, rfl, _, _, rfl, rfl, _, _, rfl, rfl, _, _, rfl, rfl, ⟨by decide, by decide⟩, ?_⟩
  have e1 : ((n : Int) + 64 - 1) / 64 = ((n + 63) / 64 : Nat) := by omega
  refine ⟨q, (((n + 63) / 64 : Nat) : Int), _, rfl, congrArg V.int e1, upd_same, by omega, by omega, big (by show 1 * _ ≤ _; omega), fun p hp => ?_⟩
  have hq' : q ≠ p := ne_of_none upd_same hp
  have hpH : H p = none := by
    rw [← hp, upd_ne hq'.symm]
  have s1 : Same H (upd (upd H q (.lst [.int 0])) p (.lst ((wordsOf (rowsIn n (l.take 0))).map V.int))) := same_upd (same_upd (fun _ _ e => e) hq) hp
  have e2 : (List.replicate (((n + 63) / 64 : Nat) : Int).toNat [V.int 0]).flatten = (wordsOf (rowsIn n (l.take 0))).map V.int := by
    rw [List.take_zero, rowsIn_nil, Int.toNat_natCast, List.map_replicate, List.flatten_replicate_singleton]
  rw [e2]
  refine ⟨_, rfl, a, rfl, ⟨_, s1.seq hS⟩, for_list (K := K) (a := a) (xs := l.map natV) (fun i σ H' => ∃ v3 v4 : Option V, σ = [some (.int (n : Int)), some (.ref a), some (.ref p), v3, v4] ∧ Same H H' ∧ H' p = some (.lst ((wordsOf (rowsIn n (l.take i))).map V.int)))
    ⟨none, none, rfl, s1, upd_same⟩ (fun i σ H' _ ⟨_, _, _, s5, _⟩ => s5.seq hS) ?_ ?_⟩
  · rintro i y σ H' hi ⟨v3, v4, rfl, s5, hw⟩
    obtain ⟨r, hr, rfl⟩ := get_map hi
    have hrn : r < n := hl r (List.mem_of_getElem? hr)
    obtain ⟨w, hww, hw0⟩ := words_some (l := l.take i) hrn
    have e3 : (r : Int) / 64 = ((r / 64 : Nat) : Int) := by omega
    have e4 : ((r : Int) % 64).toNat = r % 64 := by omega
    have hlt : r / 64 < ((wordsOf (rowsIn n (l.take i))).map V.int).length := by
      rw [List.length_map]
      exact (List.getElem?_eq_some_iff.mp hww).1
    refine ⟨_, rfl, _, _, rfl, rfl, ⟨by decide, by decide⟩, ?_⟩
    refine ⟨_, rfl, _, rfl, p, _, _, V.int w, rfl, rfl, SqL.of hw, at_nat e3 (by rw [List.getElem?_map, hww]; rfl), ?_⟩
    refine ⟨_, rfl, _, _, rfl, rfl, (by decide : (0 : Int) < 64), _, _, rfl, rfl, ⟨by omega, by omega, by decide⟩, _, _, rfl, rfl, ?_⟩
    refine ⟨_, rfl, _, rfl, p, _, _, r / 64, rfl, rfl, hw, ix_nat e3 hlt, ?_⟩
    refine ⟨_, _, rfl, same_own s5 hpH, ?_⟩
    rw [upd_same, e4]
    have hsh := shl_nat (r % 64)
    have hor := or_nat hw0 hsh.1
    have e5 := rowsIn_snoc (l := l.take i) hrn hww hor.1 (by rw [hor.2, hsh.2])
    rw [take_more hr, ← e5, List.map_set]
  · rintro σ H' ⟨v3, v4, rfl, s5, hw⟩
    rw [List.length_map, List.take_length] at hw
    exact ⟨_, rfl, k p H' hpH s5 hw⟩

/-! ### where, over any test of rows -/
/-- [row for row in range(n) if ..] : the rows that a test takes -/
theorem lc_sel {p : Nat → Bool} {n : Nat} {tt : TT} {j : Nat} {σ : L2.St} {D : Addr} {Qd : Hp → Prop} (hn : n ≤ 4096) (hj : j < σ.length) (hD : H D = none)
    (ht : ∀ i H' (Qb : Bool → Hp → Prop), i < n → Same H H' → Qb (p i) H' → tt ((wipe σ [j]).set j (some (.int (i : Int)))) H' Qb) (hd : ∀ H', Same H H' → H' D = some (.lst ((sel p n).map natV)) → Qd H') :
    ∃ W : Nat → Nat → Hp → Prop, (∃ m, W 0 m (upd H D (.lst []))) ∧ ∀ i m H, W i m H →
      ((Itr 0 n).stop i H ∧ Qd H) ∨ ((Itr 0 n).go i H ∧ ∃ Nx : Hp → Prop, (∀ H', Nx H' → ∃ m', m' < m ∧ W (i + 1) m' H') ∧ ∀ x H', (Itr 0 n).yld i H x H' → gName j x (wipe σ [j]) H' fun σ2 H2 => wipe σ2 [j] = wipe σ [j] ∧ tt σ2 H2 fun b H3 =>
        if b = true then tVar j σ2 H3 fun y H4 => ∃ acc, H4 D = some (.lst acc) ∧ acc.length < sizeLine ∧ Nx (upd H4 D (.lst (acc ++ [y]))) else Nx H3) := by
  refine lc_range (fun i H' => Same H H' ∧ H' D = some (.lst ((sel p i).map natV))) ⟨same_upd same_refl hD, by rw [upd_same]; rfl⟩ ?_ fun H1 h1 => hd H1 h1.1 h1.2
  rintro i H' hi ⟨s1, h2⟩
  rw [Int.zero_add]
  have e1 : (wipe σ [j]).length = σ.length := by simp [wipe]
  have e2 : wipe ((wipe σ [j]).set j (some (.int (i : Int)))) [j] = wipe σ [j] := by simp [wipe]
  refine ⟨e2, ht i H' _ hi s1 (ite2 (fun hp => ?_) fun hp => ?_)⟩
  · refine ⟨.int (i : Int), by rw [List.getElem?_set_self (by omega)], _, h2, ?_, same_own s1 hD, ?_⟩
    · rw [List.length_map]
      have := sel_len p i
      exact bigL (by omega)
    · rw [upd_same, sel_succ, if_pos hp, List.map_append]
      rfl
  · refine ⟨s1, ?_⟩
    rw [sel_succ, if_neg hp]
    exact h2
theorem getD_get {col : List Int} {i : Nat} (h : i < col.length) : (col.map V.int)[i]? = some (V.int (col.getD i 0)) := by
  rw [List.getElem?_map, List.getElem?_eq_getElem h]
  simp [List.getD, h]
def sp_set_where (K : PySem.W.Frag) : Sp := fun vs H Q _ => ∃ (n : Nat) (how v : Int) (a : Addr) (col : List Int), vs = [.int (n : Int), .int how, .int v, .ref a] ∧ n ≤ 4096 ∧ SqL K H a (col.map V.int) ∧ col.length = n ∧ Gives H Q (wordsOf (col.map (st how v)))
theorem len_set_where (h : sp_set_where K vs H Q E) : vs.length = 4 := by
  obtain ⟨_, _, _, _, _, rfl, _⟩ := h
  rfl
/-- set_where(n, how, value, col) -/
abbrev N_set_where : List Str := ["n", "how", "value", "col", "row"]
def rd_set_where (K : PySem.W.Frag) : TS :=
    (tRet (tCall (sp_set_of K) [] E0 (tCons (tVar 0) (tCons (tLc (iRng1 (tCons (tVar 0) tNil)) (gName 4) (tTru K (tCall (sp_stands) [] E0 (tCons (tOp (rIxL K) (tVar 3) (tVar 4)) (tCons (tVar 1) (tCons (tVar 2) tNil))))) (tVar 4) [4]) tNil))))
theorem ok_rd_set_where (h : sp_set_where K vs H Q E) : rd_set_where K (ends Q) (start N_set_where vs) H := by
  obtain ⟨n, how, v, a, col, rfl, hn, hS, hl, k⟩ := h
  refine ⟨_, rfl, _, rfl, n, rfl, by omega, by omega, fun D hD => ?_⟩
  refine lc_sel (H := H) (p := fun r => st how v (col.getD r 0)) (n := n) hn (by show 4 < 5; decide) hD ?_ ?_
  · intro i H' Qb hi s1 q
    refine ⟨_, rfl, _, rfl, a, _, _, _, rfl, rfl, s1.seq hS, at_nat rfl (getD_get (by omega)), ?_⟩
    exact ⟨_, rfl, _, rfl, _, _, _, rfl, _, rfl, q⟩
  · intro H1 s1 hd
    refine ⟨n, D, _, rfl, hn, SqL.of hd, fun r hr => sel_lt hr, fun q H2 hq s2 hw => ?_⟩
    refine k q H2 (s1.free hq) (s1.trans s2) ?_
    rw [hw, sel_rows, ← hl, range_map]
theorem told_due {n : Nat} {p : Nat → Bool} : size ((List.range n).map (hasRow (wordsOf ((List.range n).map p)))) :: wordsOf ((List.range n).map p) = countDue n p := by
  unfold countDue
  congr 2
  refine map_rows fun i hi => ?_
  rw [hasRow_rows, decide_eq_true hi, Bool.true_and]
/-- told(n, a call that gives a set) -/
theorem told_set {n : Int} {H1 : Hp} {q : Addr} {p : Nat → Bool} {d : List Int} (hn : inN n) (g : Gives H Q d) (s : Same H H1) (hq : H1 q = some (.lst ((wordsOf ((List.range n.toNat).map p)).map V.int))) (e : countDue n.toNat p = d) : sp_told K [.int n, .ref q] H1 Q E := by
  refine ⟨n.toNat, q, _, by rw [nat_n hn], by omega, hq, words_wd _ _, fun z H2 hz s2 hw => g z H2 (s.free hz) (s.trans s2) ?_⟩
  rw [hw, told_due, e]
theorem col_rows {col : List Int} {n : Nat} (h : col.length = n) (f : Int → Bool) : col.map f = (List.range n).map fun i => f (col.getD i 0) := by
  subst h
  rw [range_map]
theorem len_col {n : Int} {l : List Int} (h : l.length = lenN n) (hn : inN n) : l.length = n.toNat := by
  rw [h]
  exact if_pos hn
/-- where(n, how, value, col) -/
abbrev N_where : List Str := ["n", "how", "value", "col"]
def rd_where (K : PySem.W.Frag) : TS :=
    (tSeq (tIfS (tTru K (tCall (sp_rows_refused) [] E0 (tCons (tVar 0) tNil)))
    (tRet (tLst (tCons (tC (.int (-1))) tNil)))
    tNext)
    (tSeq (tIfS (tTru K (tCall (sp_how_refused) [] E0 (tCons (tVar 1) tNil)))
    (tRet (tLst (tCons (tC (.int (-2))) tNil)))
    tNext)
    (tRet (tCall (sp_told K) [] E0 (tCons (tVar 0) (tCons (tCall (sp_set_where K) [] E0 (tCons (tVar 0) (tCons (tVar 1) (tCons (tVar 2) (tCons (tVar 3) tNil))))) tNil))))))
theorem ok_rd_where (h : sp_where K vs H Q E) : rd_where K (ends Q) (start N_where vs) H := by
  obtain ⟨n, how, v, a, col, rfl, hS, hlen, k⟩ := h
  unfold whereDue at k
  refine head_rows rfl (fun hn => ?_) fun hn => head_how rfl (fun hh => ?_) fun hh => ?_
  · rw [if_pos (by omega)] at k
    exact k
  · rw [if_neg (by omega), if_neg hh] at k
    exact k
  rw [if_neg (by omega), if_pos hh] at k
  have hl := len_col hlen hn
  refine ⟨_, rfl, _, rfl, _, rfl, _, rfl, _, rfl, n.toNat, how, v, a, col, ?_, by omega, hS, hl, fun q H1 hq s1 hw => ?_⟩
  · rw [nat_n hn]
    rfl
  · rw [col_rows hl] at hw k
    exact told_set (K := K) (E := E0) hn k s1 hw rfl
theorem len_where8 (h : sp_where K vs H Q E) : vs.length = 4 := len_where h
/-- where8(n, how, value, col) -/
abbrev N_where8 : List Str := ["n", "how", "value", "col"]
def rd_where8 (K : PySem.W.Frag) : TS :=
    (tRet (tCall (sp_where K) [] E0 (tCons (tVar 0) (tCons (tVar 1) (tCons (tVar 2) (tCons (tVar 3) tNil))))))
theorem ok_rd_where8 (h : sp_where K vs H Q E) : rd_where8 K { nx := fun _ H' => Q .non H', rt := Q } (start N_where8 vs) H := by
  obtain ⟨n, how, v, a, col, rfl, hS, hlen, k⟩ := h
  exact ⟨_, rfl, _, rfl, _, rfl, _, rfl, n, how, v, a, col, rfl, hS, hlen, k⟩


theorem len_where16 (h : sp_where K vs H Q E) : vs.length = 4 := len_where h
/-- where16(n, how, value, col) -/
abbrev N_where16 : List Str := ["n", "how", "value", "col"]
def rd_where16 (K : PySem.W.Frag) : TS :=
    (tRet (tCall (sp_where K) [] E0 (tCons (tVar 0) (tCons (tVar 1) (tCons (tVar 2) (tCons (tVar 3) tNil))))))
theorem ok_rd_where16 (h : sp_where K vs H Q E) : rd_where16 K { nx := fun _ H' => Q .non H', rt := Q } (start N_where16 vs) H := by
  obtain ⟨n, how, v, a, col, rfl, hS, hlen, k⟩ := h
  exact ⟨_, rfl, _, rfl, _, rfl, _, rfl, n, how, v, a, col, rfl, hS, hlen, k⟩


theorem len_where32 (h : sp_where K vs H Q E) : vs.length = 4 := len_where h
/-- where32(n, how, value, col) -/
abbrev N_where32 : List Str := ["n", "how", "value", "col"]
def rd_where32 (K : PySem.W.Frag) : TS :=
    (tRet (tCall (sp_where K) [] E0 (tCons (tVar 0) (tCons (tVar 1) (tCons (tVar 2) (tCons (tVar 3) tNil))))))
theorem ok_rd_where32 (h : sp_where K vs H Q E) : rd_where32 K { nx := fun _ H' => Q .non H', rt := Q } (start N_where32 vs) H := by
  obtain ⟨n, how, v, a, col, rfl, hS, hlen, k⟩ := h
  exact ⟨_, rfl, _, rfl, _, rfl, _, rfl, n, how, v, a, col, rfl, hS, hlen, k⟩
theorem len_where64 (h : sp_where K vs H Q E) : vs.length = 4 := len_where h
/-- where64(n, how, value, col) -/
abbrev N_where64 : List Str := ["n", "how", "value", "col"]
def rd_where64 (K : PySem.W.Frag) : TS :=
    (tRet (tCall (sp_where K) [] E0 (tCons (tVar 0) (tCons (tVar 1) (tCons (tVar 2) (tCons (tVar 3) tNil))))))
theorem ok_rd_where64 (h : sp_where K vs H Q E) : rd_where64 K { nx := fun _ H' => Q .non H', rt := Q } (start N_where64 vs) H := by
  obtain ⟨n, how, v, a, col, rfl, hS, hlen, k⟩ := h
  exact ⟨_, rfl, _, rfl, _, rfl, _, rfl, n, how, v, a, col, rfl, hS, hlen, k⟩
/-! ### single floating numbers -/
def sp_single_rank : Sp := fun vs H Q _ => ∃ b : Int, vs = [.int b] ∧ Q (.int (if b < 2147483648 then b else 2147483648 - b)) H
theorem len_single_rank (h : sp_single_rank vs H Q E) : vs.length = 1 := by
  obtain ⟨_, rfl, _⟩ := h
  rfl
/-- single_rank(bits) -/
abbrev N_single_rank : List Str := ["bits"]
def rd_single_rank (K : PySem.W.Frag) : TS :=
    (tSeq (tIfS (tTest (tOp rLtI (tVar 0) (tC (.int (2147483648)))))
    (tRet (tVar 0))
    tNext)
    (tRet (tOp rSubI (tC (.int (2147483648))) (tVar 0))))
theorem ok_rd_single_rank (h : sp_single_rank vs H Q E) : rd_single_rank K (ends Q) (start N_single_rank vs) H := by
  obtain ⟨b, rfl, k⟩ := h
  refine ⟨_, rfl, _, _, rfl, rfl, _, rfl, ifd (fun h => ?_) fun h => ?_⟩
  · rw [if_pos h] at k
    exact ⟨_, rfl, k⟩
  · rw [if_neg h] at k
    exact ⟨_, rfl, _, _, rfl, rfl, k⟩
def sp_not_a_number : Sp := fun vs H Q _ => ∃ b : Int, vs = [.int b] ∧ Q (.bl (decide (2139095040 < b % 2147483648))) H
theorem len_not_a_number (h : sp_not_a_number vs H Q E) : vs.length = 1 := by
  obtain ⟨_, rfl, _⟩ := h
  rfl
/-- not_a_number(bits) -/
abbrev N_not_a_number : List Str := ["bits"]
def rd_not_a_number (K : PySem.W.Frag) : TS :=
    (tRet (tOp rGtI (tOp rModI (tVar 0) (tC (.int (2147483648)))) (tC (.int (2139095040)))))
theorem ok_rd_not_a_number (h : sp_not_a_number vs H Q E) : rd_not_a_number K (ends Q) (start N_not_a_number vs) H := by
  obtain ⟨b, rfl, k⟩ := h
  exact ⟨_, rfl, _, _, rfl, rfl, (by decide : (0 : Int) < 2147483648), _, _, rfl, rfl, k⟩
def sp_single_stands : Sp := fun vs H Q _ => ∃ x how v : Int, vs = [.int x, .int how, .int v] ∧ (0 ≤ x ∧ x ≤ 4294967295) ∧ (0 ≤ v ∧ v ≤ 4294967295) ∧ Q (.bl (stB how v x)) H
theorem len_single_stands (h : sp_single_stands vs H Q E) : vs.length = 3 := by
  obtain ⟨_, _, _, rfl, _⟩ := h
  rfl
theorem order_eq {b : Int} (h : 0 ≤ b ∧ b ≤ 4294967295) : Kg12.order b = if 2139095040 < b % 2147483648 then none else some (if b < 2147483648 then b else 2147483648 - b) := by
  have e1 : ((b.toNat % 2 ^ 31 : Nat) : Int) = b % 2147483648 := by
    have : (2 : Nat) ^ 31 = 2147483648 := rfl
    omega
  show (if 0x7F800000 < b.toNat % 2 ^ 31 then none else some (if 2 ^ 31 ≤ b then -((b.toNat % 2 ^ 31 : Nat) : Int) else ((b.toNat % 2 ^ 31 : Nat) : Int))) = _
  have e2 : (2 : Int) ^ 31 = 2147483648 := rfl
  by_cases hc : 2139095040 < b % 2147483648
  · rw [if_pos hc, if_pos (by omega)]
  · rw [if_neg hc, if_neg (by omega), e1, e2]
    congr 1
    by_cases hb : b < 2147483648
    · rw [if_pos hb, if_neg (by omega)]
      omega
    · rw [if_neg hb, if_pos (by omega)]
      omega
/-- single_stands(number, how, value) -/
abbrev N_single_stands : List Str := ["number", "how", "value"]
def rd_single_stands (K : PySem.W.Frag) : TS :=
    (tSeq (tIfS (tOr (tTru K (tCall (sp_not_a_number) [] E0 (tCons (tVar 0) tNil))) (tTru K (tCall (sp_not_a_number) [] E0 (tCons (tVar 2) tNil))))
    (tRet (tOp rEq (tVar 1) (tC (.int (1)))))
    tNext)
    (tRet (tCall (sp_stands) [] E0 (tCons (tCall (sp_single_rank) [] E0 (tCons (tVar 0) tNil)) (tCons (tVar 1) (tCons (tCall (sp_single_rank) [] E0 (tCons (tVar 2) tNil)) tNil))))))
theorem ok_rd_single_stands (h : sp_single_stands vs H Q E) : rd_single_stands K (ends Q) (start N_single_stands vs) H := by
  obtain ⟨x, how, v, rfl, hx, hv, k⟩ := h
  unfold stB at k
  rw [order_eq hx, order_eq hv] at k
  have fin : (how == 1) = decide (how = 1) := by
    by_cases h : how = 1
    · subst h
      rfl
    · simp [h]
  refine ⟨_, rfl, x, rfl, _, rfl, ifd (fun h => ?_) fun h => ?_⟩
  · rw [if_pos h] at k
    refine iteT ⟨_, rfl, rfl, ?_⟩
    rw [eq_dec, ← fin]
    exact k
  rw [if_neg h] at k
  refine ⟨_, rfl, v, rfl, _, rfl, ifd (fun h2 => ?_) fun h2 => ?_⟩
  · rw [if_pos h2] at k
    refine ⟨_, rfl, rfl, ?_⟩
    rw [eq_dec, ← fin]
    exact k
  rw [if_neg h2] at k
  exact ⟨_, rfl, x, rfl, _, rfl, _, rfl, v, rfl, _, _, _, rfl, k⟩
/-- wherebits(n, how, value, col) -/
abbrev N_wherebits : List Str := ["n", "how", "value", "col", "row"]
def rd_wherebits (K : PySem.W.Frag) : TS :=
    (tSeq (tIfS (tTru K (tCall (sp_rows_refused) [] E0 (tCons (tVar 0) tNil)))
    (tRet (tLst (tCons (tC (.int (-1))) tNil)))
    tNext)
    (tSeq (tIfS (tTru K (tCall (sp_how_refused) [] E0 (tCons (tVar 1) tNil)))
    (tRet (tLst (tCons (tC (.int (-2))) tNil)))
    tNext)
    (tRet (tCall (sp_told K) [] E0 (tCons (tVar 0) (tCons (tCall (sp_set_of K) [] E0 (tCons (tVar 0) (tCons (tLc (iRng1 (tCons (tVar 0) tNil)) (gName 4) (tTru K (tCall (sp_single_stands) [] E0 (tCons (tOp (rIxL K) (tVar 3) (tVar 4)) (tCons (tVar 1) (tCons (tVar 2) tNil))))) (tVar 4) [4]) tNil))) tNil))))))
theorem ok_rd_wherebits (h : sp_wherebits K vs H Q E) : rd_wherebits K (ends Q) (start N_wherebits vs) H := by
  obtain ⟨n, how, v, a, col, rfl, hS, hlen, hv, hc, k⟩ := h
  unfold wherebitsDue at k
  refine head_rows rfl (fun hn => ?_) fun hn => head_how rfl (fun hh => ?_) fun hh => ?_
  · rw [if_neg hn] at k
    exact k
  · rw [if_pos hn, if_neg hh] at k
    exact k
  rw [if_pos hn, if_pos hh] at k
  have hl := len_col hlen hn
  refine ⟨_, rfl, _, rfl, _, rfl, n, rfl, by omega, by omega, fun D hD => ?_⟩
  refine lc_sel (H := H) (p := fun r => stB how v (col.getD r 0)) (n := n.toNat) (by omega) (by show 4 < 5; decide) hD ?_ ?_
  · intro i H' Qb hi s1 q
    refine ⟨_, rfl, _, rfl, a, _, _, _, rfl, rfl, s1.seq hS, at_nat rfl (getD_get (by omega)), ?_⟩
    refine ⟨_, rfl, _, rfl, _, _, _, rfl, hc _ ?_, hv, _, rfl, q⟩
    have : i < col.length := by omega
    rw [getD_of (List.getElem?_eq_getElem this)]
    exact List.getElem_mem _
  · intro H1 s1 hd
    refine ⟨n.toNat, D, _, by rw [nat_n hn]; rfl, by omega, SqL.of hd, fun r hr => sel_lt hr, fun q H2 hq s2 hw => ?_⟩
    rw [sel_rows] at hw
    rw [col_rows hl] at k
    exact told_set (K := K) (E := E0) hn k (s1.trans s2) hw rfl
/-! ### cut -/
def sp_cut (K : PySem.W.Frag) : Sp := fun vs H Q _ => ∃ (n : Nat) (a : Addr) (ws : List Int), vs = [.int (n : Int), .ref a] ∧ n ≤ 4096 ∧ SqL K H a (ws.map V.int) ∧ Wd n ws ∧ Gives H Q (wordsOf ((List.range n).map (hasRow ws)))
theorem len_cut (h : sp_cut K vs H Q E) : vs.length = 2 := by
  obtain ⟨_, _, _, rfl, _⟩ := h
  rfl
theorem cutV_last (xs : List V) : cutV xs none (some (-1)) = xs.take (xs.length - 1) := by
  unfold cutV HT.sIx
  simp only [show ((-1 : Int) < 0) from by decide, if_true, List.drop_zero]
  congr 1
  omega
theorem cutV_last2 (xs : List V) : cutV xs none (some (-2)) = xs.take (xs.length - 2) := by
  unfold cutV HT.sIx
  simp only [show ((-2 : Int) < 0) from by decide, if_true, List.drop_zero]
  congr 1
  omega
theorem at_last {xs : List V} {v : V} (h : xs[xs.length - 1]? = some v) : atI xs (-1) = some v := by
  have hlt := (List.getElem?_eq_some_iff.mp h).1
  unfold atI ixN
  rw [if_neg (by decide), if_pos (by omega)]
  show xs[((-1 : Int) + (xs.length : Int)).toNat]? = some v
  have e : ((-1 : Int) + (xs.length : Int)).toNat = xs.length - 1 := by omega
  rw [e]
  exact h
theorem at_last2 {xs : List V} {v : V} (h2 : 2 ≤ xs.length) (h : xs[xs.length - 2]? = some v) : atI xs (-2) = some v := by
  unfold atI ixN
  rw [if_neg (by decide), if_pos (by omega)]
  show xs[((-2 : Int) + (xs.length : Int)).toNat]? = some v
  have e : ((-2 : Int) + (xs.length : Int)).toNat = xs.length - 2 := by omega
  rw [e]
  exact h
/-- cut(n, words) -/
abbrev N_cut : List Str := ["n", "words", "rest"]
def rd_cut (K : PySem.W.Frag) : TS :=
    (tSeq (tAsg (tOp rModI (tVar 0) (tC (.int (64)))) (gName 2))
    (tSeq (tIfS (tTest (tOp rEq (tVar 2) (tC (.int (0)))))
    (tRet (tCB (rListOf K) (tCons (tVar 1) tNil)))
    tNext)
    (tRet (tOp rCat (tSl (rSlL K) (tVar 1) tNoPart (tPart (tUn rNegI (tC (.int (1)))))) (tLst (tCons (tOp rModI (tOp (rIxL K) (tVar 1) (tUn rNegI (tC (.int (1))))) (tOp rShlI (tC (.int (1))) (tVar 2))) tNil))))))
theorem ok_rd_cut (h : sp_cut K vs H Q E) : rd_cut K (ends Q) (start N_cut vs) H := by
  obtain ⟨n, a, ws, rfl, hn, hS, hw, k⟩ := h
  rw [← cutW_eq hw] at k
  unfold cutW at k
  have hl := hw.1
  refine ⟨_, rfl, _, _, rfl, rfl, (by decide : (0 : Int) < 64), ?_⟩
  refine ⟨_, rfl, rfl, _, rfl, ?_⟩
  show if decide (V.int ((n : Int) % 64) = V.int 0) = true then _ else _
  rw [eq_dec]
  refine ifd (fun h0 => ?_) fun h0 => ?_
  · rw [if_pos (by omega)] at k
    exact ⟨_, rfl, a, _, rfl, .inl hS, fun p hp => gives_new k same_refl rfl hp⟩
  rw [if_neg (by omega)] at k
  have hpos : 0 < ws.length := by omega
  refine ⟨_, rfl, _, rfl, _, rfl, a, _, rfl, hS, fun p hp => ?_⟩
  have s1 : Same H (upd H p (.lst (cutV (ws.map V.int) none (some (-1))))) := same_upd same_refl hp
  have hlt : ws.length - 1 < ws.length := by omega
  have hg := List.getElem?_eq_getElem hlt
  have hz : 0 ≤ (n : Int) % 64 ∧ (n : Int) % 64 ≤ 64 := by omega
  refine ⟨_, rfl, _, rfl, a, _, _, V.int (ws.getD (ws.length - 1) 0), rfl, rfl, s1.seq hS, ?_, ?_⟩
  · exact at_last (by rw [List.length_map]; exact getD_get hlt)
  refine ⟨_, rfl, _, _, rfl, rfl, ⟨hz.1, by omega, by decide⟩, _, _, rfl, rfl, ?_, ?_⟩
  · have := shl_nat ((n : Int) % 64).toNat
    have q := Nat.two_pow_pos ((n : Int) % 64).toNat
    omega
  refine ⟨big (by show 1 ≤ 100000; decide), fun q hq => ?_⟩
  refine cat_lists (upd_old upd_same hq) upd_same ?_ fun z hz => gives_new k (same_upd s1 hq) ?_ hz
  · have := cutV_length (ws.map V.int) none (some (-1))
    rw [List.length_map] at this
    simp only [List.length_cons, List.length_nil]
    omega
  · have e : ((n : Int) % 64).toNat = n % 64 := by omega
    rw [cutV_last, List.length_map, List.map_append, List.map_take, e, Int.one_mul]
    rfl
end Rs

set_option Elab.async false
set_option maxRecDepth 100000
set_option maxHeartbeats 2000000
set_option linter.all false
namespace Rs
open PySem PySem.Spec PyProof.Rows L2
open Kg12 (Rows wordsOf size signed32)
variable {K : PySem.W.Frag} {vs : List V} {H : Hp} {Q : VK} {E : XK}
abbrev U (z : Int) : Prop := 0 ≤ z ∧ z ≤ 18446744073709551615
theorem nat_full : ((18446744073709551615 : Int)).toNat = full := rfl
theorem and_is {x y : Int} (hx : 0 ≤ x) (hy : 0 ≤ y) : Builtin.bitAnd x y = ((x.toNat &&& y.toNat : Nat) : Int) := by
  have q := and_nat hx hy
  have := q.1
  omega
theorem or_is {x y : Int} (hx : 0 ≤ x) (hy : 0 ≤ y) : Builtin.bitOr x y = ((x.toNat ||| y.toNat : Nat) : Int) := by
  have q := or_nat hx hy
  have := q.1
  omega
theorem xor_is {x y : Int} (hx : 0 ≤ x) (hy : 0 ≤ y) : Builtin.bitXor x y = ((x.toNat ^^^ y.toNat : Nat) : Int) := by
  have q := xor_nat hx hy
  have := q.1
  omega
theorem xor_full {y : Int} (hy : 0 ≤ y) : Builtin.bitXor y 18446744073709551615 = ((y.toNat ^^^ full : Nat) : Int) := xor_is hy (by decide)
/-! ### two words -/
def sp_joined_word : Sp := fun vs H Q _ => ∃ how x y : Int, vs = [.int how, .int x, .int y] ∧ (0 ≤ how ∧ how ≤ 5) ∧ U x ∧ U y ∧ Q (.int ((jwN how x.toNat y.toNat : Nat) : Int)) H
theorem len_joined_word (h : sp_joined_word vs H Q E) : vs.length = 3 := by
  obtain ⟨_, _, _, rfl, _⟩ := h
  rfl
/-- joined_word(how, x, y) -/
abbrev N_joined_word : List Str := ["how", "x", "y"]
def rd_joined_word (K : PySem.W.Frag) : TS :=
    (tSeq (tIfS (tTest (tOp rEq (tVar 0) (tC (.int (0)))))
    (tRet (tOp rAndI (tVar 1) (tVar 2)))
    tNext)
    (tSeq (tIfS (tTest (tOp rEq (tVar 0) (tC (.int (1)))))
    (tRet (tOp rOrI (tVar 1) (tVar 2)))
    tNext)
    (tSeq (tIfS (tTest (tOp rEq (tVar 0) (tC (.int (2)))))
    (tRet (tOp rXorI (tVar 1) (tVar 2)))
    tNext)
    (tSeq (tIfS (tTest (tOp rEq (tVar 0) (tC (.int (3)))))
    (tRet (tOp rXorI (tOp rXorI (tVar 1) (tVar 2)) (tC (.int (18446744073709551615)))))
    tNext)
    (tSeq (tIfS (tTest (tOp rEq (tVar 0) (tC (.int (4)))))
    (tRet (tOp rAndI (tVar 1) (tOp rXorI (tVar 2) (tC (.int (18446744073709551615))))))
    tNext)
    (tRet (tOp rOrI (tVar 1) (tOp rXorI (tVar 2) (tC (.int (18446744073709551615)))))))))))
theorem ok_rd_joined_word (h : sp_joined_word vs H Q E) : rd_joined_word K (ends Q) (start N_joined_word vs) H := by
  obtain ⟨how, x, y, rfl, hh, hx, hy, k⟩ := h
  unfold jwN at k
  refine ⟨_, rfl, rfl, _, rfl, ?_⟩
  rw [eq_dec]
  refine ifd (fun h => ?_) fun h0 => ?_
  · rw [if_pos h, ← and_is hx.1 hy.1] at k
    exact ⟨_, rfl, _, rfl, _, _, rfl, rfl, k⟩
  rw [if_neg h0] at k
  refine ⟨_, rfl, rfl, _, rfl, ?_⟩
  rw [eq_dec]
  refine ifd (fun h => ?_) fun h1 => ?_
  · rw [if_pos h, ← or_is hx.1 hy.1] at k
    exact ⟨_, rfl, _, rfl, _, _, rfl, rfl, k⟩
  rw [if_neg h1] at k
  refine ⟨_, rfl, rfl, _, rfl, ?_⟩
  rw [eq_dec]
  refine ifd (fun h => ?_) fun h2 => ?_
  · rw [if_pos h, ← xor_is hx.1 hy.1] at k
    exact ⟨_, rfl, _, rfl, _, _, rfl, rfl, k⟩
  rw [if_neg h2] at k
  refine ⟨_, rfl, rfl, _, rfl, ?_⟩
  rw [eq_dec]
  refine ifd (fun h => ?_) fun h3 => ?_
  · have e := xor_nat hx.1 hy.1
    rw [if_pos h, ← e.2, ← xor_full e.1] at k
    exact ⟨_, rfl, _, rfl, _, _, rfl, rfl, _, _, rfl, rfl, k⟩
  rw [if_neg h3] at k
  have e := xor_nat hy.1 (show (0 : Int) ≤ 18446744073709551615 by decide)
  rw [nat_full] at e
  refine ⟨_, rfl, rfl, _, rfl, ?_⟩
  rw [eq_dec]
  refine ifd (fun h => ?_) fun h4 => ?_
  · rw [if_pos h, ← e.2, ← and_is hx.1 e.1] at k
    exact ⟨_, rfl, _, rfl, _, _, rfl, rfl, _, _, rfl, rfl, k⟩
  rw [if_neg h4, if_pos (by omega), ← e.2, ← or_is hx.1 e.1] at k
  exact ⟨_, rfl, _, rfl, _, _, rfl, rfl, _, _, rfl, rfl, k⟩
/-! ### two sets -/
def sp_joined (K : PySem.W.Frag) : Sp := fun vs H Q _ => ∃ (n : Nat) (how : Int) (aa ab : Addr) (a b : List Int), vs = [.int (n : Int), .int how, .ref aa, .ref ab] ∧ n ≤ 4096 ∧ (0 ≤ how ∧ how ≤ 6) ∧ SqL K H aa (a.map V.int) ∧ Wd n a ∧ SqL K H ab (b.map V.int) ∧ (how ≠ 6 → Wd n b) ∧ Gives H Q (wordsOf ((List.range n).map fun i => jn how (hasRow a i) (hasRow b i)))
theorem len_joined (h : sp_joined K vs H Q E) : vs.length = 4 := by
  obtain ⟨_, _, _, _, _, _, rfl, _⟩ := h
  rfl
theorem jn6 (x y : Bool) : jn 6 x y = !x := rfl
theorem jwN_row {how : Int} {a b : List Int} {i : Nat} {x y : Int} (hx : a[i]? = some x) (hy : b[i]? = some y) {j : Nat} (hj : j < 64) : (jwN how x.toNat y.toNat).testBit j = jn how (hasRow a (64 * i + j)) (hasRow b (64 * i + j)) := by
  rw [jwN_bit _ _ _ hj, row_get a i j hj, row_get b i j hj, getD_of hx, getD_of hy]
theorem U.lt {x : Int} (h : U x) : x.toNat < 2 ^ 64 := by
  have e : (2 : Nat) ^ 64 = 18446744073709551616 := rfl
  have := h.2
  omega
theorem lt_U {x : Nat} (h : x < 2 ^ 64) : U (x : Int) := by
  have e : (2 : Nat) ^ 64 = 18446744073709551616 := rfl
  exact ⟨Int.natCast_nonneg _, by omega⟩
/-- joined(n, how, a, b) -/
abbrev N_joined : List Str := ["n", "how", "a", "b", "word", "x", "y"]
def rd_joined (K : PySem.W.Frag) : TS :=
    (tSeq (tIfS (tTest (tOp rEq (tVar 1) (tC (.int (6)))))
    (tRet (tCall (sp_cut K) [] E0 (tCons (tVar 0) (tCons (tLc (iList K (tVar 2)) (gName 4) tYes (tOp rXorI (tC (.int (18446744073709551615))) (tVar 4)) [4]) tNil))))
    tNext)
    (tRet (tCall (sp_cut K) [] E0 (tCons (tVar 0) (tCons (tLc (iZip K (tCons (tVar 2) (tCons (tVar 3) tNil))) (gTup K 2 (gCons (gName 5) (gCons (gName 6) gNil))) tYes (tCall (sp_joined_word) [] E0 (tCons (tVar 1) (tCons (tVar 5) (tCons (tVar 6) tNil)))) [5, 6]) tNil)))))
theorem ok_rd_joined (h : sp_joined K vs H Q E) : rd_joined K (ends Q) (start N_joined vs) H := by
  obtain ⟨n, how, aa, ab, a, b, rfl, hn, hh, hSa, ha, hSb, hb, k⟩ := h
  have hla := ha.1
  refine ⟨_, rfl, rfl, _, rfl, ?_⟩
  rw [eq_dec]
  refine ifd (fun h6 => ?_) fun h6 => ?_
  · subst h6
    refine ⟨_, rfl, _, rfl, aa, rfl, ⟨_, hSa⟩, fun D hD => ?_⟩
    refine lc_list (K := K) (a := aa) (xs := a.map V.int) (fun i H' => Same H H' ∧ ∃ ws : List Int, H' D = some (.lst (ws.map V.int)) ∧ ws.length = i ∧ Wp ws fun r => jn 6 (hasRow a r) (hasRow b r)) ⟨same_upd same_refl hD, [], by rw [upd_same]; rfl, rfl, Wp.nil _⟩ (fun i H' _ ⟨s1, _⟩ => s1.seq hSa) ?_ ?_
    · rintro i v H' hi ⟨s1, ws, hd, hl, hp⟩
      obtain ⟨x, hx, rfl⟩ := get_map hi
      have ux : U x := ha.2 x (List.mem_of_getElem? hx)
      have hlt := (List.getElem?_eq_some_iff.mp hx).1
      refine ⟨rfl, _, rfl, _, _, rfl, rfl, ws.map V.int, hd, ?_, same_own s1 hD, ws ++ [((full ^^^ x.toNat : Nat) : Int)], ?_, by simp [hl], ?_⟩
      · rw [List.length_map]
        exact bigL (by omega)
      · rw [upd_same, List.map_append]
        have e : Builtin.bitXor 18446744073709551615 x = ((full ^^^ x.toNat : Nat) : Int) := xor_is (by decide) ux.1
        show some (HO.lst (ws.map V.int ++ [V.int (Builtin.bitXor 18446744073709551615 x)])) = _
        rw [e]
        rfl
      · have u := lt_U (Nat.xor_lt_two_pow (show full < 2 ^ 64 by decide) ux.lt)
        refine hp.snoc u.1 u.2 fun j hj => ?_
        rw [Int.toNat_natCast, hl, jn6, row_get a i j hj, getD_of hx, Nat.testBit_xor, full_bit hj]
        cases x.toNat.testBit j <;> rfl
    · rintro H1 ⟨s1, ws, hd, hl, hp⟩
      rw [List.length_map] at hl
      refine ⟨n, D, ws, rfl, hn, SqL.of hd, hp.wd (by omega), fun q H2 hq s2 hw => k q H2 (s1.free hq) (s1.trans s2) ?_⟩
      rw [hw, hp.cut (by omega)]
  · have hb := hb h6
    have hlb := hb.1
    refine ⟨_, rfl, _, rfl, _, rfl, aa, ab, _, _, rfl, hSa, hSb, fun D hD => ?_⟩
    refine lc_zip (K := K) (a := aa) (b := ab) (xs := a.map V.int) (ys := b.map V.int) (by rw [List.length_map, List.length_map]; omega) (fun i H' => Same H H' ∧ ∃ ws : List Int, H' D = some (.lst (ws.map V.int)) ∧ ws.length = i ∧ Wp ws fun r => jn how (hasRow a r) (hasRow b r)) ⟨same_upd same_refl hD, [], by rw [upd_same]; rfl, rfl, Wp.nil _⟩ (fun i H' _ ⟨s1, _⟩ => ⟨s1.seq hSa, s1.seq hSb⟩) ?_ ?_
    · rintro i v u H' T hi hi2 ⟨s1, ws, hd, hl, hp⟩ hT
      obtain ⟨x, hx, rfl⟩ := get_map hi
      obtain ⟨y, hy, rfl⟩ := get_map hi2
      have ux : U x := ha.2 x (List.mem_of_getElem? hx)
      have uy : U y := hb.2 y (List.mem_of_getElem? hy)
      have hlt := (List.getElem?_eq_some_iff.mp hx).1
      have s2 := same_upd (o := .tup [V.int x, V.int y]) s1 hT
      refine ⟨T, _, rfl, SqT.of upd_same, rfl, _, _, rfl, _, _, rfl, rfl, rfl, _, rfl, _, rfl, _, rfl, how, x, y, rfl, ⟨hh.1, by omega⟩, ux, uy, ws.map V.int, upd_old hd hT, ?_, same_own s2 hD, ws ++ [((jwN how x.toNat y.toNat : Nat) : Int)], ?_, by simp [hl], ?_⟩
      · rw [List.length_map]
        exact bigL (by omega)
      · rw [upd_same, List.map_append]
        rfl
      · have w := lt_U (jwN_lt how ux.lt uy.lt)
        refine hp.snoc w.1 w.2 fun j hj => ?_
        rw [Int.toNat_natCast, hl, jwN_row hx hy hj]
    · rintro H1 ⟨s1, ws, hd, hl, hp⟩
      rw [List.length_map] at hl
      refine ⟨n, D, ws, rfl, hn, SqL.of hd, hp.wd (by omega), fun q H2 hq s2 hw => k q H2 (s1.free hq) (s1.trans s2) ?_⟩
      rw [hw, hp.cut (by omega)]
/-- join(n, how, a, b) -/
abbrev N_join : List Str := ["n", "how", "a", "b"]
def rd_join (K : PySem.W.Frag) : TS :=
    (tSeq (tIfS (tTru K (tCall (sp_rows_refused) [] E0 (tCons (tVar 0) tNil)))
    (tRet (tLst (tCons (tC (.int (-1))) tNil)))
    tNext)
    (tSeq (tIfS (tOr (tTest (tOp rLtI (tVar 1) (tC (.int (0))))) (tTest (tOp rGtI (tVar 1) (tC (.int (6))))))
    (tRet (tLst (tCons (tC (.int (-2))) tNil)))
    tNext)
    (tRet (tCall (sp_told K) [] E0 (tCons (tVar 0) (tCons (tCall (sp_joined K) [] E0 (tCons (tVar 0) (tCons (tVar 1) (tCons (tVar 2) (tCons (tVar 3) tNil))))) tNil))))))
theorem ok_rd_join (h : sp_join K vs H Q E) : rd_join K (ends Q) (start N_join vs) H := by
  obtain ⟨n, how, a, b, aa, ab, rfl, wn, whow, hSa, ha, hSb, hb, k⟩ := h
  unfold joinDue at k
  refine head_rows rfl (fun hn => ?_) fun hn => ?_
  · rw [if_neg hn] at k
    exact k
  rw [if_pos hn] at k
  refine ⟨_, rfl, _, _, rfl, rfl, _, rfl, ifd (fun h0 => ?_) fun h0 => ?_⟩
  · rw [if_neg (by omega)] at k
    exact iteT (ret_one k)
  refine ⟨_, rfl, _, _, rfl, rfl, _, rfl, ifd (fun h1 => ?_) fun h1 => ?_⟩
  · rw [if_neg (by omega)] at k
    exact ret_one k
  rw [if_pos (by omega)] at k
  refine ⟨_, rfl, _, rfl, _, rfl, _, rfl, _, rfl, n.toNat, how, aa, ab, a, b, by rw [nat_n hn]; rfl, by omega, by omega, hSa, ha.wd hn, hSb, fun h6 => ⟨?_, hb.2⟩, fun q H1 hq s1 hw => ?_⟩
  · rw [hb.1, if_neg h6]
    exact if_pos hn
  · exact told_set (K := K) (E := E0) hn k s1 hw rfl
/-! ### moved rows -/
def sp_word_at (K : PySem.W.Frag) : Sp := fun vs H Q _ => ∃ (a : Addr) (ws : List Int) (k : Int), vs = [.ref a, .int k] ∧ SqL K H a (ws.map V.int) ∧ Q (.int (wat ws k)) H
theorem len_word_at (h : sp_word_at K vs H Q E) : vs.length = 2 := by
  obtain ⟨_, _, _, rfl, _⟩ := h
  rfl
/-- word_at(words, place) -/
abbrev N_word_at : List Str := ["words", "place"]
def rd_word_at (K : PySem.W.Frag) : TS :=
    (tSeq (tIfS (tOr (tTest (tOp rLtI (tVar 1) (tC (.int (0))))) (tTest (tOp rGeI (tVar 1) (tCB (rLen K) (tCons (tVar 0) tNil)))))
    (tRet (tC (.int (0))))
    tNext)
    (tRet (tOp (rIxL K) (tVar 0) (tVar 1))))
theorem ok_rd_word_at (h : sp_word_at K vs H Q E) : rd_word_at K (ends Q) (start N_word_at vs) H := by
  obtain ⟨a, ws, k, rfl, hS, g⟩ := h
  unfold wat at g
  refine ⟨_, rfl, _, _, rfl, rfl, _, rfl, ifd (fun h0 => ?_) fun h0 => ?_⟩
  · rw [if_pos (Or.inl h0)] at g
    exact iteT g
  refine ⟨_, rfl, _, rfl, _, _, rfl, .inl ⟨_, hS, rfl⟩, _, _, rfl, rfl, _, rfl, ?_⟩
  rw [List.length_map]
  refine ifd (fun h1 => ?_) fun h1 => ?_
  · rw [if_pos (Or.inr h1)] at g
    exact g
  rw [if_neg (by omega)] at g
  exact ⟨_, rfl, _, rfl, a, _, _, _, rfl, rfl, hS, at_nat (j := k.toNat) (by omega) (getD_get (by omega)), g⟩
def sp_shifted (K : PySem.W.Frag) : Sp := fun vs H Q _ => ∃ (n : Nat) (d : Int) (a : Addr) (ws : List Int), vs = [.int (n : Int), .int d, .ref a] ∧ n ≤ 4096 ∧ SqL K H a (ws.map V.int) ∧ Wd n ws ∧ Gives H Q (wordsOf ((List.range n).map (shRow n d (hasRow ws))))
theorem len_shifted (h : sp_shifted K vs H Q E) : vs.length = 3 := by
  obtain ⟨_, _, _, _, rfl, _⟩ := h
  rfl
/-- shifted(n, by, words) -/
abbrev N_shifted : List Str := ["n", "by", "words", "whole", "rest", "given", "moved", "place", "high", "low"]
def rd_shifted (K : PySem.W.Frag) : TS :=
    (tSeq (tAsg (tOp rDivI (tVar 1) (tC (.int (64)))) (gName 3))
    (tSeq (tAsg (tOp rModI (tVar 1) (tC (.int (64)))) (gName 4))
    (tSeq (tAsg (tCall (sp_cut K) [] E0 (tCons (tVar 0) (tCons (tVar 2) tNil))) (gName 5))
    (tSeq (tAsg (tLst tNil) (gName 6))
    (tSeq (tFor (iRng1 (tCons (tCB (rLen K) (tCons (tVar 5) tNil)) tNil)) (gName 7)
    (tSeq (tAsg (tOp rShlI (tCall (sp_word_at K) [] E0 (tCons (tVar 5) (tCons (tOp rSubI (tVar 7) (tVar 3)) tNil))) (tVar 4)) (gName 8))
    (tSeq (tAsg (tOp rShrI (tCall (sp_word_at K) [] E0 (tCons (tVar 5) (tCons (tOp rSubI (tOp rSubI (tVar 7) (tVar 3)) (tC (.int (1)))) tNil))) (tOp rSubI (tC (.int (64))) (tVar 4))) (gName 9))
    (tDrop (tBM K "list" rAppend (tVar 6) (tCons (tOp rAndI (tOp rOrI (tVar 8) (tVar 9)) (tC (.int (18446744073709551615)))) tNil))))))
    (tRet (tCall (sp_cut K) [] E0 (tCons (tVar 0) (tCons (tVar 6) tNil)))))))))
theorem mv_is {hi lo : Int} (h1 : 0 ≤ hi) (h2 : 0 ≤ lo) {r : Int} (hr : 0 ≤ r ∧ r < 64) : Builtin.bitAnd (Builtin.bitOr (hi * 2 ^ r.toNat) (lo / 2 ^ (64 - r).toNat)) 18446744073709551615 = ((mvN hi.toNat lo.toNat r.toNat : Nat) : Int) := by
  have a1 := shl_nat2 h1 r.toNat
  have a2 := shr_nat h2 (64 - r).toNat
  have a3 := or_nat a1.1 a2.1
  rw [and_is a3.1 (by decide), a3.2, a1.2, a2.2, nat_full]
  have e : (64 - r).toNat = 64 - r.toNat := by omega
  rw [e]
  rfl
theorem ok_rd_shifted (h : sp_shifted K vs H Q E) : rd_shifted K (ends Q) (start N_shifted vs) H := by
  obtain ⟨n, d, a, ws, rfl, hn, hS, hw, k⟩ := h
  refine ⟨_, rfl, _, _, rfl, rfl, ⟨by decide, by decide⟩, ?_⟩
  refine ⟨_, rfl, _, _, rfl, rfl, (by decide : (0 : Int) < 64), ?_⟩
  refine ⟨_, rfl, _, rfl, n, a, ws, rfl, hn, hS, hw, fun g H1 hg s1 hgw => ?_⟩
  have hwd := words_wd n (hasRow ws)
  have hin := fun z => wat_in hwd z
  have hlen := hwd.1
  refine ⟨big (by show 0 ≤ 100000; decide), fun m hm => ?_⟩
  have s2 := same_upd (o := .lst []) s1 hm
  have hg2 : upd H1 m (.lst []) g = some (.lst ((wordsOf ((List.range n).map (hasRow ws))).map V.int)) := upd_old hgw hm
  have hgm : g ≠ m := ne_of_none hgw hm
  have hmH : H m = none := s1.free hm
  refine ⟨_, rfl, _, _, rfl, .inl ⟨_, SqL.of hg2, rfl⟩, _, rfl, ?_, ?_, ?_⟩
  · omega
  · rw [List.length_map]
    omega
  rw [List.length_map, Int.toNat_natCast]
  have hr : 0 ≤ d % 64 ∧ d % 64 < 64 := by omega
  refine for_range (fun i σ H' => ∃ v7 v8 v9 : Option V, σ = [some (.int (n : Int)), some (.int d), some (.ref a), some (.int (d / 64)), some (.int (d % 64)), some (.ref g), some (.ref m), v7, v8, v9] ∧ Same H H' ∧ H' g = some (.lst ((wordsOf ((List.range n).map (hasRow ws))).map V.int)) ∧ ∃ us : List Int, H' m = some (.lst (us.map V.int)) ∧ us.length = i ∧ Wp us (shRow n d (hasRow ws)))
    ⟨none, none, none, rfl, s2, hg2, [], upd_same, rfl, Wp.nil _⟩ ?_ ?_
  · rintro i σ H' hi ⟨v7, v8, v9, rfl, s3, h3, us, hu, hl, hp⟩
    have w1 := hin ((i : Int) - d / 64)
    have w2 := hin ((i : Int) - d / 64 - 1)
    refine ⟨_, rfl, _, rfl, _, rfl, _, _, rfl, rfl, g, _, _, rfl, SqL.of h3, _, rfl, _, _, rfl, rfl, ⟨hr.1, by omega, ?_⟩, ?_⟩
    · show (wat _ (0 + (i : Int) - d / 64)).natAbs < 2 ^ 64
      rw [Int.zero_add]
      have e : (2 : Nat) ^ 64 = 18446744073709551616 := rfl
      omega
    refine ⟨_, rfl, _, rfl, _, rfl, _, _, rfl, rfl, _, _, rfl, rfl, g, _, _, rfl, SqL.of h3, _, rfl, _, _, rfl, rfl, _, _, rfl, rfl, ?_, ?_⟩
    · show (0 : Int) ≤ 64 - d % 64
      omega
    refine ⟨_, rfl, (?_ : tyV K "list" (.ref m) H'), _, rfl, _, rfl, _, _, rfl, rfl, _, _, rfl, rfl, m, _, _, rfl, rfl, hu, ?_, ?_⟩
    · exact .inl ⟨rfl, _, SqL.of hu⟩
    · rw [List.length_map]
      exact bigL (by omega)
    · refine ⟨_, _, _, rfl, same_own s3 hmH, ?_, us ++ [((mvN (wat (wordsOf ((List.range n).map (hasRow ws))) ((i : Int) - d / 64)).toNat (wat (wordsOf ((List.range n).map (hasRow ws))) ((i : Int) - d / 64 - 1)).toNat (d % 64).toNat : Nat) : Int)], ?_, by simp [hl], ?_⟩
      · rw [upd_ne hgm]
        exact h3
      · rw [upd_same, List.map_append]
        show some (HO.lst (us.map V.int ++ [V.int (Builtin.bitAnd (Builtin.bitOr (wat (wordsOf ((List.range n).map (hasRow ws))) (0 + (i : Int) - d / 64) * 2 ^ (d % 64).toNat) (wat (wordsOf ((List.range n).map (hasRow ws))) (0 + (i : Int) - d / 64 - 1) / 2 ^ (64 - d % 64).toNat)) 18446744073709551615)])) = _
        rw [Int.zero_add, mv_is w1.1 w2.1 hr]
        rfl
      · have w := lt_U (mvN_lt (wat (wordsOf ((List.range n).map (hasRow ws))) ((i : Int) - d / 64)).toNat (wat (wordsOf ((List.range n).map (hasRow ws))) ((i : Int) - d / 64 - 1)).toNat (d % 64).toNat)
        refine hp.snoc w.1 w.2 fun j hj => ?_
        rw [Int.toNat_natCast, hl, shift_bit hj]
  · rintro σ H' ⟨v7, v8, v9, rfl, s3, h3, us, hu, hl, hp⟩
    refine ⟨_, rfl, _, rfl, n, m, us, rfl, hn, SqL.of hu, hp.wd (by omega), fun q H2 hq s4 hw2 => k q H2 (s3.free hq) (s3.trans s4) ?_⟩
    rw [hw2, hp.cut (by omega)]
/-- shift(n, by, a) -/
abbrev N_shift : List Str := ["n", "by", "a"]
def rd_shift (K : PySem.W.Frag) : TS :=
    (tSeq (tIfS (tTru K (tCall (sp_rows_refused) [] E0 (tCons (tVar 0) tNil)))
    (tRet (tLst (tCons (tC (.int (-1))) tNil)))
    tNext)
    (tRet (tCall (sp_told K) [] E0 (tCons (tVar 0) (tCons (tCall (sp_shifted K) [] E0 (tCons (tVar 0) (tCons (tVar 1) (tCons (tVar 2) tNil)))) tNil)))))
theorem ok_rd_shift (h : sp_shift K vs H Q E) : rd_shift K (ends Q) (start N_shift vs) H := by
  obtain ⟨n, d, a, aa, rfl, wn, wd, hSa, ha, k⟩ := h
  unfold shiftDue at k
  refine head_rows rfl (fun hn => ?_) fun hn => ?_
  · rw [if_neg hn] at k
    exact k
  rw [if_pos hn] at k
  refine ⟨_, rfl, _, rfl, _, rfl, _, rfl, n.toNat, d, aa, a, by rw [nat_n hn]; rfl, by omega, hSa, ha.wd hn, fun q H1 hq s1 hw => ?_⟩
  exact told_set (K := K) (E := E0) hn k s1 hw rfl
end Rs

set_option Elab.async false
set_option maxRecDepth 100000
set_option maxHeartbeats 2000000
set_option linter.all false
namespace Rs
open PySem PySem.Spec PyProof.Rows L2
open Kg12 (Rows wordsOf size signed32)
variable {K : PySem.W.Frag} {vs : List V} {H : Hp} {Q : VK} {E : XK}
/-! ### runs -/
def sp_filled (K : PySem.W.Frag) : Sp := fun vs H Q _ => ∃ (n : Nat) (aa ab : Addr) (a b : List Int), vs = [.int (n : Int), .ref aa, .ref ab] ∧ n ≤ 4096 ∧ SqL K H aa (a.map V.int) ∧ Wd n a ∧ SqL K H ab (b.map V.int) ∧ Wd n b ∧ Gives H Q (wordsOf ((List.range n).map (reach (hasRow a) (hasRow b))))
theorem len_filled (h : sp_filled K vs H Q E) : vs.length = 3 := by
  obtain ⟨_, _, _, _, _, rfl, _⟩ := h
  rfl
/-- filled(n, a, on) -/
abbrev N_filled : List Str := ["n", "a", "on", "carry", "words", "x", "y", "begun", "total", "behind"]
def rd_filled (K : PySem.W.Frag) : TS :=
    (tSeq (tAsg (tC (.int (0))) (gName 3))
    (tSeq (tAsg (tLst tNil) (gName 4))
    (tSeq (tFor (iZip K (tCons (tVar 1) (tCons (tVar 2) tNil))) (gTup K 2 (gCons (gName 5) (gCons (gName 6) gNil)))
    (tSeq (tAsg (tOp rAndI (tVar 5) (tVar 6)) (gName 7))
    (tSeq (tAsg (tOp rAddI (tOp rAddI (tVar 7) (tVar 6)) (tVar 3)) (gName 8))
    (tSeq (tAsg (tOp rXorI (tOp rXorI (tVar 8) (tVar 7)) (tVar 6)) (gName 9))
    (tSeq (tDrop (tBM K "list" rAppend (tVar 4) (tCons (tOp rAndI (tOp rOrI (tVar 7) (tVar 9)) (tVar 6)) tNil)))
    (tAsg (tOp rShrI (tVar 8) (tC (.int (64)))) (gName 3)))))))
    (tRet (tCall (sp_cut K) [] E0 (tCons (tVar 0) (tCons (tVar 4) tNil)))))))
theorem fw_is {x y c : Int} (hx : 0 ≤ x) (hy : 0 ≤ y) (hc : 0 ≤ c) :
    Builtin.bitAnd (Builtin.bitOr (Builtin.bitAnd x y) (Builtin.bitXor (Builtin.bitXor (Builtin.bitAnd x y + y + c) (Builtin.bitAnd x y)) y)) y = ((fwN x.toNat y.toNat c.toNat : Nat) : Int)
    ∧ (Builtin.bitAnd x y + y + c) / 2 ^ (64 : Int).toNat = ((((x.toNat &&& y.toNat) + y.toNat + c.toNat) / 2 ^ 64 : Nat) : Int) := by
  have a1 := and_nat hx hy
  have e1 := a1.1
  have t0 : 0 ≤ Builtin.bitAnd x y + y + c := by omega
  have e2 : (Builtin.bitAnd x y + y + c).toNat = (x.toNat &&& y.toNat) + y.toNat + c.toNat := by
    have := a1.2
    omega
  have a2 := xor_nat t0 a1.1
  have a3 := xor_nat a2.1 hy
  have a4 := or_nat a1.1 a3.1
  refine ⟨?_, ?_⟩
  · rw [and_is a4.1 hy, a4.2, a3.2, a2.2, e2, a1.2]
    rfl
  · have q := shr_nat t0 64
    have q1 := q.1
    have q2 := q.2
    rw [e2] at q2
    show (Builtin.bitAnd x y + y + c) / 2 ^ 64 = _
    omega
theorem ok_rd_filled (h : sp_filled K vs H Q E) : rd_filled K (ends Q) (start N_filled vs) H := by
  obtain ⟨n, aa, ab, a, b, rfl, hn, hSa, ha, hSb, hb, k⟩ := h
  have hla := ha.1
  have hlb := hb.1
  refine ⟨big (by show 0 ≤ 100000; decide), fun m hm => ?_⟩
  have s1 : Same H (upd H m (.lst [])) := same_upd same_refl hm
  refine ⟨_, rfl, _, rfl, aa, ab, _, _, rfl, s1.seq hSa, s1.seq hSb, ?_⟩
  refine for_zip (K := K) (a := aa) (b := ab) (xs := a.map V.int) (ys := b.map V.int) (by rw [List.length_map, List.length_map]; omega) (fun i σ H' => ∃ v5 v6 v7 v8 v9 : Option V, σ = [some (.int (n : Int)), some (.ref aa), some (.ref ab), some (.int (((reachP (hasRow a) (hasRow b) (64 * i)).toNat : Nat) : Int)), some (.ref m), v5, v6, v7, v8, v9] ∧ Same H H' ∧ ∃ us : List Int, H' m = some (.lst (us.map V.int)) ∧ us.length = i ∧ Wp us (reach (hasRow a) (hasRow b)))
    ⟨none, none, none, none, none, rfl, s1, [], upd_same, rfl, Wp.nil _⟩ (fun i σ H' _ ⟨_, _, _, _, _, _, s2, _⟩ => ⟨s2.seq hSa, s2.seq hSb⟩) ?_ ?_
  · rintro i v u σ H' T hi hi2 ⟨v5, v6, v7, v8, v9, rfl, s2, us, hu, hl, hp⟩ hT
    obtain ⟨x, hx, rfl⟩ := get_map hi
    obtain ⟨y, hy, rfl⟩ := get_map hi2
    have ux : U x := ha.2 x (List.mem_of_getElem? hx)
    have uy : U y := hb.2 y (List.mem_of_getElem? hy)
    have hlt := (List.getElem?_eq_some_iff.mp hx).1
    have s3 := same_upd (o := .tup [V.int x, V.int y]) s2 hT
    have hu3 : upd H' T (.tup [V.int x, V.int y]) m = some (.lst (us.map V.int)) := upd_old hu hT
    have fw := fw_is ux.1 uy.1 (Int.natCast_nonneg (reachP (hasRow a) (hasRow b) (64 * i)).toNat)
    rw [Int.toNat_natCast] at fw
    have fl := fill_word (X := hasRow a) (Y := hasRow b) (x := x.toNat) (y := y.toNat) (k := i) (fun j hj => by rw [row_get a i j hj, getD_of hx]) (fun j hj => by rw [row_get b i j hj, getD_of hy]) ux.lt uy.lt
    refine ⟨T, _, rfl, SqT.of upd_same, rfl, _, _, rfl, _, _, rfl, rfl, ?_⟩
    refine ⟨_, rfl, _, rfl, _, _, rfl, rfl, ?_⟩
    refine ⟨_, rfl, _, rfl, _, _, rfl, rfl, _, rfl, _, _, rfl, rfl, ?_⟩
    refine ⟨_, rfl, _, rfl, _, _, rfl, rfl, _, rfl, _, _, rfl, rfl, ?_⟩
    refine ⟨_, rfl, .inl ⟨rfl, _, SqL.of hu3⟩, _, rfl, _, rfl, _, _, rfl, rfl, _, rfl, _, _, rfl, rfl, m, _, _, rfl, rfl, hu3, ?_, ?_⟩
    · rw [List.length_map]
      exact bigL (by omega)
    refine ⟨_, rfl, _, _, rfl, rfl, (by decide : (0 : Int) ≤ 64), ?_⟩
    refine ⟨some (.int x), some (.int y), some (.int (Builtin.bitAnd x y)), some (.int (Builtin.bitAnd x y + y + ((reachP (hasRow a) (hasRow b) (64 * i)).toNat : Nat))), some (.int (Builtin.bitXor (Builtin.bitXor (Builtin.bitAnd x y + y + ((reachP (hasRow a) (hasRow b) (64 * i)).toNat : Nat)) (Builtin.bitAnd x y)) y)), ?_, same_own s3 hm, us ++ [((fwN x.toNat y.toNat (reachP (hasRow a) (hasRow b) (64 * i)).toNat : Nat) : Int)], ?_, by simp [hl], ?_⟩
    · show [some (V.int (n : Int)), some (.ref aa), some (.ref ab), some (V.int ((Builtin.bitAnd x y + y + ((reachP (hasRow a) (hasRow b) (64 * i)).toNat : Nat)) / 2 ^ (64 : Int).toNat)), some (.ref m), some (.int x), some (.int y), some (.int (Builtin.bitAnd x y)), some (.int (Builtin.bitAnd x y + y + ((reachP (hasRow a) (hasRow b) (64 * i)).toNat : Nat))), some (.int (Builtin.bitXor (Builtin.bitXor (Builtin.bitAnd x y + y + ((reachP (hasRow a) (hasRow b) (64 * i)).toNat : Nat)) (Builtin.bitAnd x y)) y))] = _
      rw [fw.2, fl.2]
    · rw [upd_same, List.map_append]
      show some (HO.lst (us.map V.int ++ [V.int (Builtin.bitAnd (Builtin.bitOr (Builtin.bitAnd x y) (Builtin.bitXor (Builtin.bitXor (Builtin.bitAnd x y + y + ((reachP (hasRow a) (hasRow b) (64 * i)).toNat : Nat)) (Builtin.bitAnd x y)) y)) y)])) = _
      rw [fw.1]
      rfl
    · have w := lt_U (fwN_lt x.toNat (reachP (hasRow a) (hasRow b) (64 * i)).toNat uy.lt)
      refine hp.snoc w.1 w.2 fun j hj => ?_
      rw [Int.toNat_natCast, hl, fl.1 j hj]
  · rintro σ H' ⟨v5, v6, v7, v8, v9, rfl, s2, us, hu, hl, hp⟩
    rw [List.length_map] at hl
    refine ⟨_, rfl, _, rfl, n, m, us, rfl, hn, SqL.of hu, hp.wd (by omega), fun q H2 hq s4 hw2 => k q H2 (s2.free hq) (s2.trans s4) ?_⟩
    rw [hw2, hp.cut (by omega)]
/-- fill(n, a, on) -/
abbrev N_fill : List Str := ["n", "a", "on"]
def rd_fill (K : PySem.W.Frag) : TS :=
    (tSeq (tIfS (tTru K (tCall (sp_rows_refused) [] E0 (tCons (tVar 0) tNil)))
    (tRet (tLst (tCons (tC (.int (-1))) tNil)))
    tNext)
    (tRet (tCall (sp_told K) [] E0 (tCons (tVar 0) (tCons (tCall (sp_filled K) [] E0 (tCons (tVar 0) (tCons (tVar 1) (tCons (tVar 2) tNil)))) tNil)))))
theorem ok_rd_fill (h : sp_fill K vs H Q E) : rd_fill K (ends Q) (start N_fill vs) H := by
  obtain ⟨n, a, b, aa, ab, rfl, wn, hSa, ha, hSb, hb, k⟩ := h
  unfold fillDue at k
  refine head_rows rfl (fun hn => ?_) fun hn => ?_
  · rw [if_neg hn] at k
    exact k
  rw [if_pos hn] at k
  refine ⟨_, rfl, _, rfl, _, rfl, _, rfl, n.toNat, aa, ab, a, b, by rw [nat_n hn]; rfl, by omega, hSa, ha.wd hn, hSb, hb.wd hn, fun q H1 hq s1 hw => ?_⟩
  exact told_set (K := K) (E := E0) hn k s1 hw rfl
/-! ### ends -/
theorem first_due {n : Nat} {a : List Int} : ((List.range n).map fun i => jn 4 (hasRow a i) (hasRow (wordsOf ((List.range n).map (shRow n 1 (hasRow a)))) i)) = (List.range n).map (firstRow (hasRow a)) := map_rows fun i hi => by
  rw [hasRow_rows, decide_eq_true hi, Bool.true_and, first_shift n (hasRow a) hi]
theorem last_due {n : Nat} {a : List Int} : ((List.range n).map fun i => jn 4 (hasRow a i) (hasRow (wordsOf ((List.range n).map (shRow n (-1) (hasRow a)))) i)) = (List.range n).map (lastRow n (hasRow a)) := map_rows fun i hi => by
  rw [hasRow_rows, decide_eq_true hi, Bool.true_and, last_shift n (hasRow a) hi]
theorem count_rows (n : Nat) (p : Nat → Bool) : (List.range n).map (hasRow (wordsOf ((List.range n).map p))) = (List.range n).map p := map_rows fun i hi => by rw [hasRow_rows, decide_eq_true hi, Bool.true_and]
theorem words_len (n : Nat) (p : Nat → Bool) : (wordsOf ((List.range n).map p)).length = (n + 63) / 64 := (words_wd n p).1
/-- ends(n, a) -/
abbrev N_ends : List Str := ["n", "a", "first", "last"]
def rd_ends (K : PySem.W.Frag) : TS :=
    (tSeq (tIfS (tTru K (tCall (sp_rows_refused) [] E0 (tCons (tVar 0) tNil)))
    (tRet (tLst (tCons (tC (.int (-1))) tNil)))
    tNext)
    (tSeq (tAsg (tCall (sp_joined K) [] E0 (tCons (tVar 0) (tCons (tC (.int (4))) (tCons (tVar 1) (tCons (tCall (sp_shifted K) [] E0 (tCons (tVar 0) (tCons (tC (.int (1))) (tCons (tVar 1) tNil)))) tNil))))) (gName 2))
    (tSeq (tAsg (tCall (sp_joined K) [] E0 (tCons (tVar 0) (tCons (tC (.int (4))) (tCons (tVar 1) (tCons (tCall (sp_shifted K) [] E0 (tCons (tVar 0) (tCons (tUn rNegI (tC (.int (1)))) (tCons (tVar 1) tNil)))) tNil))))) (gName 3))
    (tRet (tOp rCat (tCall (sp_told K) [] E0 (tCons (tVar 0) (tCons (tVar 2) tNil))) (tVar 3))))))
theorem ok_rd_ends (h : sp_ends K vs H Q E) : rd_ends K (ends Q) (start N_ends vs) H := by
  obtain ⟨n, a, aa, rfl, wn, hSa, ha, k⟩ := h
  unfold endsDue at k
  refine head_rows rfl (fun hn => ?_) fun hn => ?_
  · rw [if_neg hn] at k
    exact k
  rw [if_pos hn] at k
  have hw := ha.wd hn
  have e0 := nat_n hn
  refine ⟨_, rfl, _, rfl, _, rfl, _, rfl, n.toNat, 1, aa, a, by rw [e0]; rfl, by omega, hSa, hw, fun p1 H1 hp1 s1 hw1 => ?_⟩
  refine ⟨n.toNat, 4, aa, p1, a, _, by rw [e0]; rfl, by omega, by decide, s1.seq hSa, hw, SqL.of hw1, fun _ => words_wd _ _, fun f H2 hf s2 hwf => ?_⟩
  have s02 := s1.trans s2
  refine ⟨_, rfl, _, rfl, _, rfl, _, rfl, _, rfl, n.toNat, -1, aa, a, by rw [e0]; rfl, by omega, s02.seq hSa, hw, fun p3 H3 hp3 s3 hw3 => ?_⟩
  have s03 := s02.trans s3
  refine ⟨n.toNat, 4, aa, p3, a, _, by rw [e0]; rfl, by omega, by decide, s03.seq hSa, hw, SqL.of hw3, fun _ => words_wd _ _, fun l H4 hl s4 hwl => ?_⟩
  have s04 := s03.trans s4
  rw [first_due] at hwf
  rw [last_due] at hwl
  have hf4 := s4 _ _ (s3 _ _ hwf)
  refine ⟨_, rfl, _, rfl, n.toNat, f, _, by rw [e0]; rfl, by omega, hf4, words_wd _ _, fun t H5 ht s5 hwt => ?_⟩
  rw [count_rows] at hwt
  have s05 := s04.trans s5
  refine ⟨_, rfl, cat_lists hwt (s5 _ _ hwl) ?_ fun z hz => gives_new k s05 ?_ hz⟩
  · rw [List.length_map, List.length_map, List.length_cons, words_len, words_len]
    omega
  · rw [← List.map_append]
    rfl
/-! ### test -/
def sp_is_empty (K : PySem.W.Frag) : Sp := fun vs H Q _ => ∃ (a : Addr) (ws : List Int), vs = [.ref a] ∧ SqL K H a (ws.map V.int) ∧ Q (.bl (!(ws.any fun z => z != 0))) H
theorem len_is_empty (h : sp_is_empty K vs H Q E) : vs.length = 1 := by
  obtain ⟨_, _, rfl, _⟩ := h
  rfl
/-- is_empty(words) -/
abbrev N_is_empty : List Str := ["words"]
def rd_is_empty (K : PySem.W.Frag) : TS :=
    (tRet (tNotV (tCB (rAnyI K) (tCons (tVar 0) tNil))))
theorem ok_rd_is_empty (h : sp_is_empty K vs H Q E) : rd_is_empty K (ends Q) (start N_is_empty vs) H := by
  obtain ⟨a, ws, rfl, hS, k⟩ := h
  exact ⟨_, rfl, a, ws, rfl, hS, _, rfl, k⟩
/-- test(n, a, b) -/
abbrev N_test : List Str := ["n", "a", "b", "answer"]
def rd_test (K : PySem.W.Frag) : TS :=
    (tSeq (tIfS (tTru K (tCall (sp_rows_refused) [] E0 (tCons (tVar 0) tNil)))
    (tRet (tLst (tCons (tC (.int (-1))) tNil)))
    tNext)
    (tSeq (tAsg (tC (.int (0))) (gName 3))
    (tSeq (tIfS (tTru K (tCall (sp_is_empty K) [] E0 (tCons (tCall (sp_joined K) [] E0 (tCons (tVar 0) (tCons (tC (.int (0))) (tCons (tVar 1) (tCons (tVar 2) tNil))))) tNil)))
    (tAug 3 (tC (.int (1))) rAddI)
    tNext)
    (tSeq (tIfS (tTru K (tCall (sp_is_empty K) [] E0 (tCons (tCall (sp_joined K) [] E0 (tCons (tVar 0) (tCons (tC (.int (4))) (tCons (tVar 2) (tCons (tVar 1) tNil))))) tNil)))
    (tAug 3 (tC (.int (2))) rAddI)
    tNext)
    (tSeq (tIfS (tTru K (tCall (sp_is_empty K) [] E0 (tCons (tCall (sp_joined K) [] E0 (tCons (tVar 0) (tCons (tC (.int (6))) (tCons (tVar 1) (tCons (tLst tNil) tNil))))) tNil)))
    (tAug 3 (tC (.int (4))) rAddI)
    tNext)
    (tSeq (tIfS (tTru K (tCall (sp_is_empty K) [] E0 (tCons (tCall (sp_cut K) [] E0 (tCons (tVar 0) (tCons (tVar 1) tNil))) tNil)))
    (tAug 3 (tC (.int (8))) rAddI)
    tNext)
    (tRet (tLst (tCons (tVar 3) tNil)))))))))
theorem asg_c {v : V} {i : Nat} {rest : TS} {D : Ends} {σ : L2.St} (h : rest D (σ.set i (some v)) H) : tSeq (tAsg (tC v) (gName i)) rest D σ H := h
/-- if is_empty(a set): answer += z -/
theorem emp_step {w : TE} {rest : TS} {D : Ends} {z : Int} {σ : L2.St} {p : Nat → Bool} {n : Nat} {x : Int}
    (hw : ∀ Q' : VK, (∀ q H', Same H H' → H' q = some (.lst ((wordsOf ((List.range n).map p)).map V.int)) → Q' (.ref q) H') → w σ H Q') (hx : σ[3]? = some (some (.int x)))
    (hk : ∀ H', Same H H' → rest D (σ.set 3 (some (.int (x + z * Kg12.bit (allRow n fun i => !(p i)))))) H') (h3 : σ.set 3 (some (.int x)) = σ) :
    tSeq (tIfS (tTru K (tCall (sp_is_empty K) [] E0 (tCons w tNil))) (tAug 3 (tC (.int z)) rAddI) tNext) rest D σ H := by
  refine hw _ fun q H' s1 hq => ⟨q, _, rfl, SqL.of hq, _, rfl, ?_⟩
  rw [words_none, Bool.not_not]
  have k := hk H' s1
  unfold Kg12.bit at k
  refine ite2 (fun h => ?_) fun h => ?_
  · rw [if_pos h, Int.mul_one] at k
    exact ⟨_, hx, _, _, rfl, rfl, k⟩
  · rw [if_neg h, Int.mul_zero, Int.add_zero, h3] at k
    exact k
theorem ok_rd_test (h : sp_test K vs H Q E) : rd_test K (ends Q) (start N_test vs) H := by
  obtain ⟨n, a, b, aa, ab, rfl, wn, hSa, ha, hSb, hb, k⟩ := h
  unfold testDue testNum at k
  refine head_rows rfl (fun hn => ?_) fun hn => ?_
  · rw [if_neg hn] at k
    exact k
  rw [if_pos hn] at k
  have hwa := ha.wd hn
  have hwb := hb.wd hn
  have e0 := nat_n hn
  refine asg_c ?_
  refine' emp_step (p := fun i => jn 0 (hasRow a i) (hasRow b i)) (n := n.toNat) ?hw_1 ?hx_1 ?hk_1 ?h3_1
  case hx_1 => rfl
  case h3_1 => rfl
  case hw_1 => exact fun Q' g => ⟨_, rfl, _, rfl, _, rfl, n.toNat, 0, aa, ab, a, b, by rw [e0]; rfl, by omega, by decide, hSa, hwa, hSb, fun _ => hwb, fun q H' _ s hw => g q H' s hw⟩
  intro H1 s1
  refine' emp_step (p := fun i => jn 4 (hasRow b i) (hasRow a i)) (n := n.toNat) ?hw_2 ?hx_2 ?hk_2 ?h3_2
  case hx_2 => rfl
  case h3_2 => rfl
  case hw_2 => exact fun Q' g => ⟨_, rfl, _, rfl, _, rfl, n.toNat, 4, ab, aa, b, a, by rw [e0]; rfl, by omega, by decide, s1.seq hSb, hwb, s1.seq hSa, fun _ => hwa, fun q H' _ s hw => g q H' s hw⟩
  intro H2 s2
  have s02 := s1.trans s2
  refine' emp_step (p := fun i => jn 6 (hasRow a i) (hasRow [] i)) (n := n.toNat) ?hw_3 ?hx_3 ?hk_3 ?h3_3
  case hx_3 => rfl
  case h3_3 => rfl
  case hw_3 => exact fun Q' g => ⟨_, rfl, _, rfl, big (by show 0 ≤ 100000; decide), fun e he => ⟨n.toNat, 6, aa, e, a, [], by rw [e0]; rfl, by omega, by decide, (same_upd same_refl he).seq (s02.seq hSa), hwa, SqL.of upd_same, fun c => (c rfl).elim, fun q H' _ s hw => g q H' ((same_upd same_refl he).trans s) hw⟩⟩
  intro H3 s3
  have s03 := s02.trans s3
  refine' emp_step (p := hasRow a) (n := n.toNat) ?hw_4 ?hx_4 ?hk_4 ?h3_4
  case hx_4 => rfl
  case h3_4 => rfl
  case hw_4 => exact fun Q' g => ⟨_, rfl, _, rfl, n.toNat, aa, a, by rw [e0]; rfl, by omega, s03.seq hSa, hwa, fun q H' _ s hw => g q H' s hw⟩
  intro H4 s4
  have s04 := s03.trans s4
  refine ⟨_, rfl, big (by show 1 ≤ 100000; decide), fun p hp => gives_new k s04 ?_ hp⟩
  have q4 : (allRow n.toNat fun i => !(jn 6 (hasRow a i) (hasRow [] i))) = allRow n.toNat (hasRow a) := by
    unfold allRow
    congr 1
    funext i
    rw [jn6, Bool.not_not]
  have q2 : (allRow n.toNat fun i => !(jn 4 (hasRow b i) (hasRow a i))) = allRow n.toNat fun i => !(!(hasRow a i) && hasRow b i) := by
    unfold allRow
    congr 1
    funext i
    rw [jn4, Bool.and_comm]
  have q1 : (allRow n.toNat fun i => !(jn 0 (hasRow a i) (hasRow b i))) = allRow n.toNat fun i => !(hasRow a i && hasRow b i) := rfl
  show [V.int (0 + 1 * Kg12.bit (allRow n.toNat fun i => !(jn 0 (hasRow a i) (hasRow b i))) + 2 * Kg12.bit (allRow n.toNat fun i => !(jn 4 (hasRow b i) (hasRow a i))) + 4 * Kg12.bit (allRow n.toNat fun i => !(jn 6 (hasRow a i) (hasRow [] i))) + 8 * Kg12.bit (allRow n.toNat fun i => !(hasRow a i)))] = _
  rw [q1, q2, q4, Int.zero_add, Int.one_mul]
  rfl
end Rs

set_option Elab.async false
set_option maxRecDepth 100000
set_option maxHeartbeats 2000000
set_option linter.all false
namespace Rs
open PySem PySem.Spec PyProof.Rows L2
open Kg12 (Rows wordsOf size signed32)
variable {K : PySem.W.Frag} {vs : List V} {H : Hp} {Q : VK} {E : XK}
theorem range_more {f : Nat → Int} {i : Nat} : (List.range (i + 1)).map f = (List.range i).map f ++ [f i] := by
  rw [List.range_succ, List.map_append]
  rfl
theorem yes_te {te : TE} {σ : L2.St} {B : Hp → Prop} (h : te σ H Q) : tYes σ H fun b H3 => if b = true then te σ H3 Q else B H3 := by
  show if true = true then te σ H Q else B H
  rw [if_pos rfl]
  exact h
/-- [.. for row in range(n)] -/
theorem lc_map {f : Nat → Int} {n : Nat} {te : TE} {j : Nat} {σ : L2.St} {D : Addr} {Qd : Hp → Prop} (hn : n ≤ 4096) (hD : H D = none)
    (ht : ∀ i H' (Qv : VK), i < n → Same H H' → Qv (.int (f i)) H' → te ((wipe σ [j]).set j (some (.int (i : Int)))) H' Qv) (hd : ∀ H', Same H H' → H' D = some (.lst (((List.range n).map f).map V.int)) → Qd H') :
    ∃ W : Nat → Nat → Hp → Prop, (∃ m, W 0 m (upd H D (.lst []))) ∧ ∀ i m H, W i m H →
      ((Itr 0 n).stop i H ∧ Qd H) ∨ ((Itr 0 n).go i H ∧ ∃ Nx : Hp → Prop, (∀ H', Nx H' → ∃ m', m' < m ∧ W (i + 1) m' H') ∧ ∀ x H', (Itr 0 n).yld i H x H' → gName j x (wipe σ [j]) H' fun σ2 H2 => wipe σ2 [j] = wipe σ [j] ∧ tYes σ2 H2 fun b H3 =>
        if b = true then te σ2 H3 fun y H4 => ∃ acc, H4 D = some (.lst acc) ∧ acc.length < sizeLine ∧ Nx (upd H4 D (.lst (acc ++ [y]))) else Nx H3) := by
  refine lc_range (fun i H' => Same H H' ∧ H' D = some (.lst (((List.range i).map f).map V.int))) ⟨same_upd same_refl hD, by rw [upd_same]; rfl⟩ ?_ fun H1 h1 => hd H1 h1.1 h1.2
  rintro i H' hi ⟨s1, h2⟩
  rw [Int.zero_add]
  have e2 : wipe ((wipe σ [j]).set j (some (.int (i : Int)))) [j] = wipe σ [j] := by simp [wipe]
  refine ⟨e2, yes_te (ht i H' _ hi s1 ⟨_, h2, ?_, same_own s1 hD, ?_⟩)⟩
  · rw [List.length_map, List.length_map, List.length_range]
    exact bigL (by omega)
  · rw [upd_same, range_more, List.map_append]
    rfl
/-- [.. for x in xs] -/
theorem lc_mapL {f : Int → Int} {a : Addr} {l : List Int} {te : TE} {j : Nat} {σ : L2.St} {D : Addr} {Qd : Hp → Prop} (hS : SqL K H a (l.map V.int)) (hl : l.length ≤ 4096) (hD : H D = none)
    (ht : ∀ x H' (Qv : VK), x ∈ l → Same H H' → Qv (.int (f x)) H' → te ((wipe σ [j]).set j (some (.int x))) H' Qv) (hd : ∀ H', Same H H' → H' D = some (.lst ((l.map f).map V.int)) → Qd H') :
    ∃ W : Nat → Nat → Hp → Prop, (∃ m, W 0 m (upd H D (.lst []))) ∧ ∀ i m H, W i m H →
      ((Itl K a).stop i H ∧ Qd H) ∨ ((Itl K a).go i H ∧ ∃ Nx : Hp → Prop, (∀ H', Nx H' → ∃ m', m' < m ∧ W (i + 1) m' H') ∧ ∀ x H', (Itl K a).yld i H x H' → gName j x (wipe σ [j]) H' fun σ2 H2 => wipe σ2 [j] = wipe σ [j] ∧ tYes σ2 H2 fun b H3 =>
        if b = true then te σ2 H3 fun y H4 => ∃ acc, H4 D = some (.lst acc) ∧ acc.length < sizeLine ∧ Nx (upd H4 D (.lst (acc ++ [y]))) else Nx H3) := by
  refine lc_list (K := K) (a := a) (xs := l.map V.int) (fun i H' => Same H H' ∧ H' D = some (.lst (((l.take i).map f).map V.int))) ⟨same_upd same_refl hD, by rw [upd_same]; rfl⟩ (fun i H' _ h => h.1.seq hS) ?_ fun H1 h1 => hd H1 h1.1 ?_
  · rintro i v H' hi ⟨s1, h2⟩
    obtain ⟨x, hx, rfl⟩ := get_map hi
    have hlt := (List.getElem?_eq_some_iff.mp hx).1
    have e2 : wipe ((wipe σ [j]).set j (some (.int x))) [j] = wipe σ [j] := by simp [wipe]
    refine ⟨e2, yes_te (ht x H' _ (List.mem_of_getElem? hx) s1 ⟨_, h2, ?_, same_own s1 hD, ?_⟩)⟩
    · rw [List.length_map, List.length_map, List.length_take]
      exact bigL (by omega)
    · rw [upd_same, take_more hx, List.map_append, List.map_append]
      rfl
  · have q := h1.2
    rw [List.length_map, List.take_length] at q
    exact q
/-! ### nth -/
/-- nth(n, k, a) -/
abbrev N_nth : List Str := ["n", "k", "a", "rows"]
def rd_nth (K : PySem.W.Frag) : TS :=
    (tSeq (tIfS (tTru K (tCall (sp_rows_refused) [] E0 (tCons (tVar 0) tNil)))
    (tRet (tLst (tCons (tC (.int (-1))) tNil)))
    tNext)
    (tSeq (tAsg (tCall (sp_rows_of K) [] E0 (tCons (tVar 0) (tCons (tVar 2) tNil))) (gName 3))
    (tSeq (tIfS (tOr (tTest (tOp rLtI (tVar 1) (tC (.int (0))))) (tTest (tOp rGeI (tVar 1) (tCB (rLen K) (tCons (tVar 3) tNil)))))
    (tRet (tLst (tCons (tC (.int (-2))) tNil)))
    tNext)
    (tRet (tLst (tCons (tOp (rIxL K) (tVar 3) (tVar 1)) tNil))))))
theorem ok_rd_nth (h : sp_nth K vs H Q E) : rd_nth K (ends Q) (start N_nth vs) H := by
  obtain ⟨n, k, a, aa, rfl, wn, wk, hSa, ha, g⟩ := h
  unfold nthDue nthNum at g
  refine head_rows rfl (fun hn => ?_) fun hn => ?_
  · rw [if_neg hn] at g
    exact g
  rw [if_pos hn] at g
  refine ⟨_, rfl, _, rfl, n.toNat, aa, a, by rw [nat_n hn]; rfl, by omega, hSa, ha.wd hn, fun r H1 hr s1 hw => ?_⟩
  have g1 : ∀ {z : Int}, Gives H Q [z] → Gives H1 Q [z] := fun g p H' hp s hw => g p H' (s1.free hp) (s1.trans s) hw
  refine ⟨_, rfl, _, _, rfl, rfl, _, rfl, ifd (fun h0 => ?_) fun h0 => ?_⟩
  · rw [if_pos h0] at g
    exact iteT (ret_one (g1 g))
  rw [if_neg h0] at g
  refine ⟨_, rfl, _, rfl, _, _, rfl, .inl ⟨_, SqL.of hw, rfl⟩, _, _, rfl, rfl, _, rfl, ?_⟩
  rw [List.length_map]
  refine ifd (fun h1 => ?_) fun h1 => ?_
  · rw [List.getElem?_eq_none (by omega)] at g
    exact ret_one (g1 g)
  have hk : k.toNat < (sel (hasRow a) n.toNat).length := by omega
  have e := List.getElem?_eq_getElem hk
  rw [e] at g
  refine ⟨_, rfl, _, rfl, r, _, _, natV ((sel (hasRow a) n.toNat)[k.toNat]), rfl, rfl, SqL.of hw, at_nat (j := k.toNat) (by omega) (by rw [List.getElem?_map, e]; rfl), ?_⟩
  exact ⟨big (by show 1 ≤ 100000; decide), fun p hp => gives_new g s1 rfl hp⟩
/-! ### [how many] + a column -/
/-- bytes_of(n, a) -/
abbrev N_bytes_of : List Str := ["n", "a", "row"]
def rd_bytes_of (K : PySem.W.Frag) : TS :=
    (tSeq (tIfS (tTru K (tCall (sp_rows_refused) [] E0 (tCons (tVar 0) tNil)))
    (tRet (tLst (tCons (tC (.int (-1))) tNil)))
    tNext)
    (tRet (tOp rCat (tLst (tCons (tCB (rLen K) (tCons (tCall (sp_rows_of K) [] E0 (tCons (tVar 0) (tCons (tVar 1) tNil))) tNil)) tNil)) (tLc (iRng1 (tCons (tVar 0) tNil)) (gName 2) tYes (tIf (tTru K (tCall (sp_has_row K) [] E0 (tCons (tVar 1) (tCons (tVar 2) tNil)))) (tC (.int (255))) (tC (.int (0)))) [2]))))
theorem ok_rd_bytes_of (h : sp_bytes_of K vs H Q E) : rd_bytes_of K (ends Q) (start N_bytes_of vs) H := by
  obtain ⟨n, a, aa, rfl, wn, hSa, ha, g⟩ := h
  unfold bytes_ofDue at g
  refine head_rows rfl (fun hn => ?_) fun hn => ?_
  · rw [if_neg hn] at g
    exact g
  rw [if_pos hn] at g
  have hw := ha.wd hn
  have hl := hw.1
  refine ⟨_, rfl, _, rfl, n.toNat, aa, a, by rw [nat_n hn]; rfl, by omega, hSa, hw, fun r H1 hr s1 hrw => ?_⟩
  refine ⟨_, _, rfl, .inl ⟨_, SqL.of hrw, rfl⟩, big (by show 1 ≤ 100000; decide), fun q hq => ?_⟩
  have s2 := same_upd (o := .lst [V.int ((sel (hasRow a) n.toNat).map natV).length]) s1 hq
  refine ⟨_, rfl, n, rfl, by omega, by omega, fun D hD => ?_⟩
  refine lc_map (f := fun i => if hasRow a i = true then 255 else 0) (n := n.toNat) (by omega) hD ?_ ?_
  · intro i H' Qv hi s3 qv
    refine ⟨_, rfl, _, rfl, aa, a, i, rfl, (s2.trans s3).seq hSa, hw.nn, by omega, _, rfl, ite2 (fun h => ?_) fun h => ?_⟩
    · rw [if_pos h] at qv
      exact qv
    · rw [if_neg h] at qv
      exact qv
  · intro H2 s3 hd
    refine cat_lists (s3 _ _ upd_same) hd ?_ fun z hz => gives_new g (s2.trans s3) ?_ hz
    · simp only [List.length_map, List.length_range, List.length_cons, List.length_nil]
      omega
    · rw [List.length_map, sel_size]
      rfl
/-- choose(n, x, y, a) -/
abbrev N_choose : List Str := ["n", "x", "y", "a", "row"]
def rd_choose (K : PySem.W.Frag) : TS :=
    (tSeq (tIfS (tTru K (tCall (sp_rows_refused) [] E0 (tCons (tVar 0) tNil)))
    (tRet (tLst (tCons (tC (.int (-1))) tNil)))
    tNext)
    (tRet (tOp rCat (tLst (tCons (tCB (rLen K) (tCons (tCall (sp_rows_of K) [] E0 (tCons (tVar 0) (tCons (tVar 3) tNil))) tNil)) tNil)) (tLc (iRng1 (tCons (tVar 0) tNil)) (gName 4) tYes (tIf (tTru K (tCall (sp_has_row K) [] E0 (tCons (tVar 3) (tCons (tVar 4) tNil)))) (tOp (rIxL K) (tVar 1) (tVar 4)) (tOp (rIxL K) (tVar 2) (tVar 4))) [4]))))
theorem ok_rd_choose (h : sp_choose K vs H Q E) : rd_choose K (ends Q) (start N_choose vs) H := by
  obtain ⟨n, x, y, a, ax, ay, aa, rfl, wn, hSx, hx, hSy, hy, hSa, ha, g⟩ := h
  unfold chooseDue at g
  refine head_rows rfl (fun hn => ?_) fun hn => ?_
  · rw [if_neg hn] at g
    exact g
  rw [if_pos hn] at g
  have hw := ha.wd hn
  have hl := hw.1
  have lx := len_col hx.1 hn
  have ly := len_col hy.1 hn
  refine ⟨_, rfl, _, rfl, n.toNat, aa, a, by rw [nat_n hn]; rfl, by omega, hSa, hw, fun r H1 hr s1 hrw => ?_⟩
  refine ⟨_, _, rfl, .inl ⟨_, SqL.of hrw, rfl⟩, big (by show 1 ≤ 100000; decide), fun q hq => ?_⟩
  have s2 := same_upd (o := .lst [V.int ((sel (hasRow a) n.toNat).map natV).length]) s1 hq
  refine ⟨_, rfl, n, rfl, by omega, by omega, fun D hD => ?_⟩
  refine lc_map (f := fun i => if hasRow a i = true then x.getD i 0 else y.getD i 0) (n := n.toNat) (by omega) hD ?_ ?_
  · intro i H' Qv hi s3 qv
    refine ⟨_, rfl, _, rfl, aa, a, i, rfl, (s2.trans s3).seq hSa, hw.nn, by omega, _, rfl, ite2 (fun h => ?_) fun h => ?_⟩
    · rw [if_pos h] at qv
      exact ⟨_, rfl, _, rfl, ax, _, _, _, rfl, rfl, (s2.trans s3).seq hSx, at_nat rfl (getD_get (by omega)), qv⟩
    · rw [if_neg h] at qv
      exact ⟨_, rfl, _, rfl, ay, _, _, _, rfl, rfl, (s2.trans s3).seq hSy, at_nat rfl (getD_get (by omega)), qv⟩
  · intro H2 s3 hd
    refine cat_lists (s3 _ _ upd_same) hd ?_ fun z hz => gives_new g (s2.trans s3) ?_ hz
    · simp only [List.length_map, List.length_range, List.length_cons, List.length_nil]
      omega
    · rw [List.length_map, sel_size]
      rfl
/-- ofbytes(n, given) -/
abbrev N_ofbytes : List Str := ["n", "given", "row"]
def rd_ofbytes (K : PySem.W.Frag) : TS :=
    (tSeq (tIfS (tTru K (tCall (sp_rows_refused) [] E0 (tCons (tVar 0) tNil)))
    (tRet (tLst (tCons (tC (.int (-1))) tNil)))
    tNext)
    (tRet (tCall (sp_told K) [] E0 (tCons (tVar 0) (tCons (tCall (sp_set_of K) [] E0 (tCons (tVar 0) (tCons (tLc (iRng1 (tCons (tVar 0) tNil)) (gName 2) (tTest (tOp rGeI (tOp (rIxL K) (tVar 1) (tVar 2)) (tC (.int (128))))) (tVar 2) [2]) tNil))) tNil)))))
theorem ok_rd_ofbytes (h : sp_ofbytes K vs H Q E) : rd_ofbytes K (ends Q) (start N_ofbytes vs) H := by
  obtain ⟨n, b, ab, rfl, wn, hSb, hb, g⟩ := h
  unfold ofbytesDue at g
  refine head_rows rfl (fun hn => ?_) fun hn => ?_
  · rw [if_neg hn] at g
    exact g
  rw [if_pos hn] at g
  have hl := len_col hb.1 hn
  refine ⟨_, rfl, _, rfl, _, rfl, n, rfl, by omega, by omega, fun D hD => ?_⟩
  refine lc_sel (H := H) (p := fun r => decide (128 ≤ b.getD r 0)) (n := n.toNat) (by omega) (by show 2 < 3; decide) hD ?_ ?_
  · intro i H' Qb hi s1 q
    exact ⟨_, rfl, _, rfl, ab, _, _, _, rfl, rfl, s1.seq hSb, at_nat rfl (getD_get (by omega)), _, _, rfl, rfl, _, rfl, q⟩
  · intro H1 s1 hd
    refine ⟨n.toNat, D, _, by rw [nat_n hn]; rfl, by omega, SqL.of hd, fun r hr => sel_lt hr, fun q H2 hq s2 hw => ?_⟩
    rw [sel_rows] at hw
    exact told_set (K := K) (E := E0) hn g (s1.trans s2) hw rfl
/-- pick(n, col, a) -/
abbrev N_pick : List Str := ["n", "col", "a", "rows", "row"]
def rd_pick (K : PySem.W.Frag) : TS :=
    (tSeq (tIfS (tTru K (tCall (sp_rows_refused) [] E0 (tCons (tVar 0) tNil)))
    (tRet (tLst (tCons (tC (.int (-1))) tNil)))
    tNext)
    (tSeq (tAsg (tCall (sp_rows_of K) [] E0 (tCons (tVar 0) (tCons (tVar 2) tNil))) (gName 3))
    (tRet (tOp rCat (tLst (tCons (tCB (rLen K) (tCons (tVar 3) tNil)) tNil)) (tLc (iList K (tVar 3)) (gName 4) tYes (tOp (rIxL K) (tVar 1) (tVar 4)) [4])))))
theorem ok_rd_pick (h : sp_pick K vs H Q E) : rd_pick K (ends Q) (start N_pick vs) H := by
  obtain ⟨n, col, a, ac, aa, rfl, wn, hSc, hc, hSa, ha, g⟩ := h
  unfold pickDue at g
  refine head_rows rfl (fun hn => ?_) fun hn => ?_
  · rw [if_neg hn] at g
    exact g
  rw [if_pos hn] at g
  have hw := ha.wd hn
  have lc := len_col hc.1 hn
  refine ⟨_, rfl, _, rfl, n.toNat, aa, a, by rw [nat_n hn]; rfl, by omega, hSa, hw, fun r H1 hr s1 hrw => ?_⟩
  have hrw' : SqL K H1 r (((sel (hasRow a) n.toNat).map fun r : Nat => (r : Int)).map V.int) := by
    rw [← natV_int]
    exact SqL.of hrw
  refine ⟨_, rfl, _, _, rfl, .inl ⟨_, SqL.of hrw, rfl⟩, big (by show 1 ≤ 100000; decide), fun q hq => ?_⟩
  have sq : Same H1 (upd H1 q (.lst [V.int ((sel (hasRow a) n.toNat).map natV).length])) := same_upd same_refl hq
  have s2 := s1.trans sq
  have hlen := sel_len (hasRow a) n.toNat
  refine ⟨_, rfl, r, rfl, ⟨_, sq.seq hrw'⟩, fun D hD => ?_⟩
  refine lc_mapL (K := K) (f := fun z => col.getD z.toNat 0) (sq.seq hrw') (by rw [List.length_map]; omega) hD ?_ ?_
  · intro x H' Qv hx s3 qv
    obtain ⟨z, hz, rfl⟩ := List.mem_map.mp hx
    have hzn := sel_lt hz
    refine ⟨_, rfl, _, rfl, ac, _, _, _, rfl, rfl, (s2.trans s3).seq hSc, at_nat rfl (getD_get (by omega)), ?_⟩
    rw [Int.toNat_natCast] at qv
    exact qv
  · intro H2 s3 hd
    refine cat_lists (s3 _ _ upd_same) hd ?_ fun z hz => gives_new g (s2.trans s3) ?_ hz
    · simp only [List.length_map, List.length_cons, List.length_nil]
      omega
    · have e : ((sel (hasRow a) n.toNat).map fun r : Nat => (r : Int)).map (fun z : Int => col.getD z.toNat 0) = (sel (hasRow a) n.toNat).map fun i => col.getD i 0 := by
        rw [List.map_map]
        rfl
      rw [List.length_map, sel_size, e]
      rfl
/-! ### put -/
theorem sel_at {p : Nat → Bool} : ∀ {n r : Nat}, r < n → p r = true → (sel p n)[(sel p r).length]? = some r
  | 0, r, h, _ => by omega
  | n + 1, r, h, hp => by
    rw [sel_succ]
    by_cases e : r = n
    · subst e
      rw [if_pos hp, List.getElem?_append_right (Nat.le_refl _), Nat.sub_self]
      rfl
    · have ih := sel_at (n := n) (r := r) (by omega) hp
      have hlt := (List.getElem?_eq_some_iff.mp ih).1
      split
      · rw [List.getElem?_append_left hlt]
        exact ih
      · exact ih
theorem sel_nodup (p : Nat → Bool) (n : Nat) : (sel p n).Nodup := List.Pairwise.filter _ List.nodup_range
theorem sel_is {p : Nat → Bool} {n i r : Nat} (h : (sel p n)[i]? = some r) : r < n ∧ p r = true ∧ (sel p r).length = i := by
  have hm := List.mem_of_getElem? h
  have hr := sel_lt hm
  have hp : p r = true := (List.mem_filter.mp hm).2
  refine ⟨hr, hp, ?_⟩
  have q := sel_at hr hp
  have hlt := (List.getElem?_eq_some_iff.mp q).1
  exact (List.getElem?_inj hlt (sel_nodup p n)).mp (q.trans h.symm)
def putAt (p : Nat → Bool) (col g : List Int) (n i : Nat) : List Int := (List.range n).map fun x => if p x = true ∧ (sel p x).length < i then g.getD (sel p x).length 0 else col.getD x 0
theorem putAt_zero {p : Nat → Bool} {col g : List Int} : putAt p col g col.length 0 = col := by
  unfold putAt
  have e : (fun x => if p x = true ∧ (sel p x).length < 0 then g.getD (sel p x).length 0 else col.getD x 0) = fun x => col.getD x 0 := by
    funext x
    exact if_neg (by omega)
  rw [e, range_get]
theorem putAt_len (p : Nat → Bool) (col g : List Int) (n i : Nat) : (putAt p col g n i).length = n := by simp [putAt]
theorem putAt_get {p : Nat → Bool} {col g : List Int} {n i x : Nat} (hx : x < n) : (putAt p col g n i)[x]? = some (if p x = true ∧ (sel p x).length < i then g.getD (sel p x).length 0 else col.getD x 0) := by
  unfold putAt
  rw [List.getElem?_map, List.getElem?_range hx]
  rfl
theorem putAt_step {p : Nat → Bool} {col g : List Int} {n i r : Nat} (h : (sel p n)[i]? = some r) : (putAt p col g n i).set r (g.getD i 0) = putAt p col g n (i + 1) := by
  obtain ⟨hr, hp, hi⟩ := sel_is h
  apply List.ext_getElem?
  intro x
  by_cases hx : x < n
  · rw [putAt_get hx]
    by_cases e : r = x
    · subst e
      rw [List.getElem?_set_self (by rw [putAt_len]; exact hx), if_pos ⟨hp, by omega⟩, hi]
    · rw [List.getElem?_set_ne e, putAt_get hx]
      congr 1
      by_cases hpx : p x = true
      · have hne : (sel p x).length ≠ i := fun q => e (by
          have q2 := sel_at hx hpx
          rw [q, h] at q2
          exact Option.some.inj q2)
        by_cases hlt : (sel p x).length < i
        · rw [if_pos ⟨hpx, hlt⟩, if_pos ⟨hpx, by omega⟩]
        · rw [if_neg (fun z => hlt z.2), if_neg (fun z => by have := z.2; omega)]
      · rw [if_neg (fun z => hpx z.1), if_neg (fun z => hpx z.1)]
  · rw [List.getElem?_eq_none (by rw [List.length_set, putAt_len]; omega), List.getElem?_eq_none (by rw [putAt_len]; omega)]
theorem putAt_end {p : Nat → Bool} {col g : List Int} {n : Nat} : putAt p col g n (sel p n).length = (List.range n).map (putRow p col g) := by
  unfold putAt
  apply List.map_congr_left
  intro x hx
  have hx := List.mem_range.mp hx
  unfold putRow
  by_cases hp : p x = true
  · have q := (List.getElem?_eq_some_iff.mp (sel_at hx hp)).1
    rw [if_pos ⟨hp, q⟩, if_pos hp]
  · rw [if_neg (fun z => hp z.1), if_neg hp]
/-- put(n, col, a, given) -/
abbrev N_put : List Str := ["n", "col", "a", "given", "rows", "result", "place", "row"]
def rd_put (K : PySem.W.Frag) : TS :=
    (tSeq (tIfS (tTru K (tCall (sp_rows_refused) [] E0 (tCons (tVar 0) tNil)))
    (tRet (tLst (tCons (tC (.int (-1))) tNil)))
    tNext)
    (tSeq (tAsg (tCall (sp_rows_of K) [] E0 (tCons (tVar 0) (tCons (tVar 2) tNil))) (gName 4))
    (tSeq (tAsg (tCB (rListOf K) (tCons (tVar 1) tNil)) (gName 5))
    (tSeq (tFor (iEnum K (tCons (tVar 4) tNil)) (gTup K 2 (gCons (gName 6) (gCons (gName 7) gNil)))
    (tAsg (tOp (rIxL K) (tVar 3) (tVar 6)) (gSub (tVar 5) (tVar 7) rSetL)))
    (tRet (tOp rCat (tLst (tCons (tCB (rLen K) (tCons (tVar 4) tNil)) tNil)) (tVar 5)))))))
theorem ok_rd_put (h : sp_put K vs H Q E) : rd_put K (ends Q) (start N_put vs) H := by
  obtain ⟨n, col, a, b, ac, aa, ab, rfl, wn, hSc, hc, hSa, ha, hSb, hb, g⟩ := h
  unfold putDue at g
  refine head_rows rfl (fun hn => ?_) fun hn => ?_
  · rw [if_neg hn] at g
    exact g
  rw [if_pos hn] at g
  have hw := ha.wd hn
  have lc := len_col hc.1 hn
  have lb := len_col hb.1 hn
  refine ⟨_, rfl, _, rfl, n.toNat, aa, a, by rw [nat_n hn]; rfl, by omega, hSa, hw, fun r H1 hr s1 hrw => ?_⟩
  refine ⟨_, rfl, ac, _, rfl, .inl (s1.seq hSc), fun m hm => ?_⟩
  have s2 := same_upd (o := .lst (col.map V.int)) s1 hm
  have hmH : H m = none := s1.free hm
  have hrm : r ≠ m := ne_of_none hrw hm
  have hr2 : upd H1 m (.lst (col.map V.int)) r = some (.lst ((sel (hasRow a) n.toNat).map natV)) := upd_old hrw hm
  have hlen := sel_len (hasRow a) n.toNat
  refine ⟨_, rfl, r, _, rfl, SqL.of hr2, ?_⟩
  refine for_enum (K := K) (a := r) (xs := (sel (hasRow a) n.toNat).map natV) (fun i σ H' => ∃ v6 v7 : Option V, σ = [some (.int n), some (.ref ac), some (.ref aa), some (.ref ab), some (.ref r), some (.ref m), v6, v7] ∧ Same H H' ∧ H' r = some (.lst ((sel (hasRow a) n.toNat).map natV)) ∧ H' m = some (.lst ((putAt (hasRow a) col b n.toNat i).map V.int)))
    ⟨none, none, rfl, s2, hr2, by rw [upd_same, ← lc, putAt_zero]⟩ (fun i σ H' _ ⟨_, _, _, _, h3, _⟩ => SqL.of h3) ?_ ?_
  · rintro i v σ H' T hi ⟨v6, v7, rfl, s3, h3, h4⟩ hT
    obtain ⟨x, hx, rfl⟩ := get_map hi
    have hlt := (List.getElem?_eq_some_iff.mp hx).1
    obtain ⟨hxn, _, _⟩ := sel_is hx
    have s4 := same_upd (o := .tup [V.int (i : Nat), natV x]) s3 hT
    have h5 := upd_old (u := .tup [V.int (i : Nat), natV x]) h4 hT
    have h6 := upd_old (u := .tup [V.int (i : Nat), natV x]) h3 hT
    refine ⟨T, _, rfl, SqT.of upd_same, rfl, _, _, rfl, _, _, rfl, rfl, ?_⟩
    refine ⟨_, rfl, _, rfl, ab, _, _, _, rfl, rfl, s4.seq hSb, at_nat rfl (getD_get (by omega)), ?_⟩
    refine ⟨_, rfl, _, rfl, m, _, _, x, rfl, rfl, h5, ix_nat rfl (by rw [List.length_map, putAt_len]; exact hxn), ?_⟩
    refine ⟨_, _, rfl, same_own s4 hmH, ?_, ?_⟩
    · rw [upd_ne hrm]
      exact h6
    · rw [upd_same, ← List.map_set, putAt_step hx]
  · rintro σ H' ⟨v6, v7, rfl, s3, h3, h4⟩
    rw [List.length_map, putAt_end] at h4
    refine ⟨_, rfl, _, _, rfl, .inl ⟨_, SqL.of h3, rfl⟩, big (by show 1 ≤ 100000; decide), fun q hq => ?_⟩
    have s4 := same_upd (o := .lst [V.int ((sel (hasRow a) n.toNat).map natV).length]) s3 hq
    refine ⟨_, rfl, cat_lists upd_same (upd_old h4 hq) ?_ fun z hz => gives_new g s4 ?_ hz⟩
    · simp only [List.length_map, List.length_range, List.length_cons, List.length_nil]
      omega
    · rw [List.length_map, sel_size]
      rfl
/-! ### add -/
def sp_in_32_bits : Sp := fun vs H Q _ => ∃ z : Int, vs = [.int z] ∧ Q (.int (signed32 z)) H
theorem len_in_32_bits (h : sp_in_32_bits vs H Q E) : vs.length = 1 := by
  obtain ⟨_, rfl, _⟩ := h
  rfl
/-- in_32_bits(number) -/
abbrev N_in_32_bits : List Str := ["number"]
def rd_in_32_bits (K : PySem.W.Frag) : TS :=
    (tRet (tOp rSubI (tOp rModI (tOp rAddI (tVar 0) (tOp rPowI (tC (.int (2))) (tC (.int (31))))) (tOp rPowI (tC (.int (2))) (tC (.int (32))))) (tOp rPowI (tC (.int (2))) (tC (.int (31))))))
theorem ok_rd_in_32_bits (h : sp_in_32_bits vs H Q E) : rd_in_32_bits K (ends Q) (start N_in_32_bits vs) H := by
  obtain ⟨z, rfl, k⟩ := h
  refine ⟨_, rfl, _, _, rfl, rfl, ⟨by decide, by decide, by decide⟩, _, _, rfl, rfl, _, _, rfl, rfl, ⟨by decide, by decide, by decide⟩, _, _, rfl, rfl, (by decide : (0 : Int) < 2 ^ (32 : Int).toNat), _, _, rfl, rfl, ⟨by decide, by decide, by decide⟩, _, _, rfl, rfl, ?_⟩
  exact k
/-- add(n, by, col, a) -/
abbrev N_add : List Str := ["n", "by", "col", "a", "sums", "kept", "over", "row", "number"]
def rd_add (K : PySem.W.Frag) : TS :=
    (tSeq (tIfS (tTru K (tCall (sp_rows_refused) [] E0 (tCons (tVar 0) tNil)))
    (tRet (tLst (tCons (tC (.int (-1))) tNil)))
    tNext)
    (tSeq (tAsg (tLc (iRng1 (tCons (tVar 0) tNil)) (gName 7) tYes (tIf (tTru K (tCall (sp_has_row K) [] E0 (tCons (tVar 3) (tCons (tVar 7) tNil)))) (tOp rAddI (tOp (rIxL K) (tVar 2) (tVar 7)) (tVar 1)) (tOp (rIxL K) (tVar 2) (tVar 7))) [7]) (gName 4))
    (tSeq (tAsg (tLc (iList K (tVar 4)) (gName 8) tYes (tCall (sp_in_32_bits) [] E0 (tCons (tVar 8) tNil)) [8]) (gName 5))
    (tSeq (tAsg (tLc (iRng1 (tCons (tVar 0) tNil)) (gName 7) (tTest (tOp rNe (tOp (rIxL K) (tVar 5) (tVar 7)) (tOp (rIxL K) (tVar 4) (tVar 7)))) (tVar 7) [7]) (gName 6))
    (tRet (tOp rCat (tOp rCat (tLst (tCons (tCB (rLen K) (tCons (tVar 6) tNil)) tNil)) (tVar 5)) (tCall (sp_set_of K) [] E0 (tCons (tVar 0) (tCons (tVar 6) tNil)))))))))
theorem ok_rd_add (h : sp_add K vs H Q E) : rd_add K (ends Q) (start N_add vs) H := by
  obtain ⟨n, d, col, a, ac, aa, rfl, wn, wd, hSc, hc, hSa, ha, g⟩ := h
  unfold addDue at g
  refine head_rows rfl (fun hn => ?_) fun hn => ?_
  · rw [if_neg hn] at g
    exact g
  rw [if_pos hn] at g
  have hw := ha.wd hn
  have hl := hw.1
  have lc := len_col hc.1 hn
  -- sums
  refine ⟨_, rfl, n, rfl, by omega, by omega, fun D1 hD1 => ?_⟩
  refine lc_map (f := sumRow a col d) (n := n.toNat) (by omega) hD1 ?_ ?_
  · intro i H' Qv hi s1 qv
    refine ⟨_, rfl, _, rfl, aa, a, i, rfl, s1.seq hSa, hw.nn, by omega, _, rfl, ite2 (fun h => ?_) fun h => ?_⟩
    · have e : sumRow a col d i = col.getD i 0 + d := if_pos h
      rw [e] at qv
      exact ⟨_, rfl, _, rfl, ac, _, _, _, rfl, rfl, s1.seq hSc, at_nat rfl (getD_get (by omega)), _, rfl, _, _, rfl, rfl, qv⟩
    · have e : sumRow a col d i = col.getD i 0 := if_neg h
      rw [e] at qv
      exact ⟨_, rfl, _, rfl, ac, _, _, _, rfl, rfl, s1.seq hSc, at_nat rfl (getD_get (by omega)), qv⟩
  intro H1 s1 hd1
  -- kept
  refine ⟨_, rfl, D1, rfl, ⟨_, SqL.of hd1⟩, fun D2 hD2 => ?_⟩
  refine lc_mapL (K := K) (f := signed32) (SqL.of hd1) (by rw [List.length_map, List.length_range]; omega) hD2 ?_ ?_
  · intro x H' Qv hx s2 qv
    exact ⟨_, rfl, _, rfl, qv⟩
  intro H2 s2 hd2
  have s02 := s1.trans s2
  have hd12 := s2 _ _ hd1
  have e9 : ((List.range n.toNat).map (sumRow a col d)).map signed32 = (List.range n.toNat).map (fun i => signed32 (sumRow a col d i)) := by
    rw [List.map_map]
    rfl
  rw [e9] at hd2
  have hln : ((List.range n.toNat).map (sumRow a col d)).length = n.toNat := by rw [List.length_map, List.length_range]
  have hln2 : ((List.range n.toNat).map (fun i => signed32 (sumRow a col d i))).length = n.toNat := by rw [List.length_map, List.length_range]
  -- over
  refine ⟨_, rfl, n, rfl, by omega, by omega, fun D3 hD3 => ?_⟩
  refine lc_sel (H := H2) (p := fun i => decide (signed32 (sumRow a col d i) ≠ sumRow a col d i)) (n := n.toNat) (by omega) (by show 7 < 9; decide) hD3 ?_ ?_
  · intro i H' Qb hi s3 qb
    refine ⟨_, rfl, _, rfl, D2, _, _, _, rfl, rfl, SqL.of (s3 _ _ hd2), at_nat rfl (getD_get (by omega)), ?_⟩
    refine ⟨_, rfl, _, rfl, D1, _, _, _, rfl, rfl, SqL.of (s3 _ _ hd12), at_nat rfl (getD_get (by omega)), rfl, _, rfl, ?_⟩
    rw [ne_dec]
    have e1 : ((List.range n.toNat).map (fun i => signed32 (sumRow a col d i))).getD i 0 = signed32 (sumRow a col d i) := by simp [List.getD, hi]
    have e2 : ((List.range n.toNat).map (sumRow a col d)).getD i 0 = sumRow a col d i := by simp [List.getD, hi]
    rw [e1, e2]
    exact qb
  intro H3 s3 hd3
  have s03 := s02.trans s3
  have hlen := sel_len (fun i => decide (signed32 (sumRow a col d i) ≠ sumRow a col d i)) n.toNat
  refine ⟨_, rfl, _, _, rfl, .inl ⟨_, SqL.of hd3, rfl⟩, big (by show 1 ≤ 100000; decide), fun q hq => ?_⟩
  have sq : Same H3 (upd H3 q (.lst [V.int ((sel (fun i => decide (signed32 (sumRow a col d i) ≠ sumRow a col d i)) n.toNat).map natV).length])) := same_upd same_refl hq
  refine ⟨_, rfl, cat_lists upd_same (sq _ _ (s3 _ _ hd2)) ?_ fun t ht => ?_⟩
  · simp only [List.length_map, List.length_range, List.length_cons, List.length_nil]
    omega
  have st := same_upd (o := .lst ([V.int ((sel (fun i => decide (signed32 (sumRow a col d i) ≠ sumRow a col d i)) n.toNat).map natV).length] ++ ((List.range n.toNat).map (fun i => signed32 (sumRow a col d i))).map V.int)) sq ht
  refine ⟨_, rfl, _, rfl, n.toNat, D3, _, by rw [nat_n hn]; rfl, by omega, SqL.of (st _ _ hd3), fun r hr => sel_lt hr, fun z H5 hz s5 hwz => ?_⟩
  rw [sel_rows] at hwz
  refine cat_lists (s5 _ _ upd_same) hwz ?_ fun y hy => gives_new g (s03.trans (st.trans s5)) ?_ hy
  · simp only [List.length_map, List.length_append, List.length_range, List.length_cons, List.length_nil, wordsOf_length]
    omega
  · rw [List.length_map, sel_size, List.append_assoc, ← List.map_append]
    rfl
end Rs

set_option Elab.async false
set_option linter.all false
set_option maxRecDepth 100000
set_option maxHeartbeats 2000000
namespace Rs
open PySem PySem.Spec PyProof.Rows L2
open PySem.W (Codec)
def top (i : Nat) : Stmt := PySem.Challenge.pw_rowsets_s13_ofbytes.main.body.getD i (.Pass ⟨0, 0, 0, 0⟩)
abbrev s_set_of : Stmt := top 7
abbrev s_has_row : Stmt := top 9
abbrev s_rows_of : Stmt := top 8
abbrev s_told : Stmt := top 10
abbrev s_rows_refused : Stmt := top 6
abbrev s_ofbytes : Stmt := top 5
structure Txt (K : PySem.W.Frag) (mg : Str → Option Value) : Prop where
  c_MOST_ROWS : ∃ t, mg "MOST_ROWS" = some (.int (4096) t)
  c_WORD_ROWS : ∃ t, mg "WORD_ROWS" = some (.int (64) t)
  c_HIGHEST_BIT : ∃ t, mg "HIGHEST_BIT" = some (.int (128) t)
  c_ROWS_REFUSED : ∃ t, mg "ROWS_REFUSED" = some (.int (-1) t)
  b_len : mg "len" = none
  b_range : mg "range" = none
section
variable {P : Program} {w : World} {K : PySem.W.Frag} {mg : Str → Option Value} {base : Heap}
theorem sc_set_of : FnScope N_set_of ["n", "rows"] (defScope s_set_of) := ⟨rfl, rfl, rfl, by decide +kernel, rfl, by decide +kernel, by decide +kernel⟩
theorem ok_set_of {f : Addr} {fd : FuncData} (F : Fun K "set_of" "set_of" s_set_of f fd) (T : Txt K mg) :
    FnOk P w K mg base CX0 1 f fd ["n", "rows"] (sp_set_of K) := by
  refine F.ok sc_set_of (fun vs H Q E h => len_set_of h) (fun cdv A outer s H vs Q E hr h => ?_)
  refine ⟨rd_set_of K, ?_, ok_rd_set_of h⟩
  exact (pss_cons (ps_set (i := 2) sc_set_of.nd rfl (Or.inl rfl) (pe_op op_rep (pe_lst (pa_cons pe_int pa_nil)) (pe_op op_fdiv (pe_op op_sub (pe_op op_add (pv 0) (pe_gint (by rfl) T.c_WORD_ROWS)) pe_int) (pe_gint (by rfl) T.c_WORD_ROWS))))
      (pss_cons (ps_for PassesOwn.never rfl (pi_list (pv 1)) (pg_name (i := 3) sc_set_of.nd rfl (Or.inl rfl))
      (pss_cons (ps_set (i := 4) sc_set_of.nd rfl (Or.inl rfl) (pe_op op_fdiv (pv 3) (pe_gint (by rfl) T.c_WORD_ROWS)))
      (pss_one (ps_asg (pe_op op_or (pe_ix ix_list (pv 2) (pv 4) (fun _ _ => rfl)) (pe_op op_shl pe_int (pe_op op_mod (pv 3) (pe_gint (by rfl) T.c_WORD_ROWS)))) (pg_sub (pv 2) (pv 4) set_list)))))
      (pss_one (ps_ret (pv 2)))))
theorem sc_has_row : FnScope N_has_row ["words", "row"] (defScope s_has_row) := ⟨rfl, rfl, rfl, by decide +kernel, rfl, by decide +kernel, by decide +kernel⟩
theorem ok_has_row {f : Addr} {fd : FuncData} (F : Fun K "has_row" "has_row" s_has_row f fd) (T : Txt K mg) :
    FnOk P w K mg base CX0 1 f fd ["words", "row"] (sp_has_row K) := by
  refine F.ok sc_has_row (fun vs H Q E h => len_has_row h) (fun cdv A outer s H vs Q E hr h => ?_)
  refine ⟨rd_has_row K, ?_, ok_rd_has_row h⟩
  exact (pss_one (ps_ret (pe_cmpR op_eq (pe_op op_mod (pe_op op_shr (pe_ix ix_list (pv 0) (pe_op op_fdiv (pv 1) (pe_gint (by rfl) T.c_WORD_ROWS)) (fun _ _ => rfl)) (pe_op op_mod (pv 1) (pe_gint (by rfl) T.c_WORD_ROWS))) pe_int) pe_int (nomark _))))
theorem sc_rows_of : FnScope N_rows_of ["n", "words"] (defScope s_rows_of) := ⟨rfl, rfl, rfl, by decide +kernel, rfl, by decide +kernel, by decide +kernel⟩
theorem ok_rows_of {f : Addr} {fd : FuncData} (F : Fun K "rows_of" "rows_of" s_rows_of f fd) (T : Txt K mg)
    {a_has_row : Addr} {fd_has_row : FuncData} (F_has_row : Fun K "has_row" "has_row" s_has_row a_has_row fd_has_row) (b_has_row : Binds K fd_has_row ["words", "row"] []) (m_has_row : mg "has_row" = some (.ref a_has_row)) (G_has_row : FnOk P w K mg base CX0 1 a_has_row fd_has_row ["words", "row"] (sp_has_row K)) :
    FnOk P w K mg base CX0 2 f fd ["n", "words"] (sp_rows_of K) := by
  refine F.ok sc_rows_of (fun vs H Q E h => len_rows_of h) (fun cdv A outer s H vs Q E hr h => ?_)
  refine ⟨rd_rows_of K, ?_, ok_rd_rows_of h⟩
  exact (pss_one (ps_ret (pe_lc rfl sc_rows_of.nd (pi_range1 (by rfl) T.b_range (pa_cons (pv 0) pa_nil)) (blkOk_by (own := [("row", 2)]) (show blkC N_rows_of (defScope s_rows_of) _ _ = true by decide +kernel)) (fun _ _ _ _ _ => (pg_name (i := 2) sc_rows_of.nd rfl (Or.inl rfl))) (fun _ _ _ _ _ => (pts_one (pt_truth (pe_call G_has_row (hr.mono (by decide)) (by rfl) m_has_row F_has_row.kp b_has_row .nil pass0 (pa_cons (pv 1) (pa_cons (pv 2) pa_nil))) (fun _ => rfl)))) (fun _ _ _ _ _ => (pv 2)))))
theorem sc_told : FnScope N_told ["n", "words"] (defScope s_told) := ⟨rfl, rfl, rfl, by decide +kernel, rfl, by decide +kernel, by decide +kernel⟩
theorem ok_told {f : Addr} {fd : FuncData} (F : Fun K "told" "told" s_told f fd) (T : Txt K mg)
    {a_rows_of : Addr} {fd_rows_of : FuncData} (F_rows_of : Fun K "rows_of" "rows_of" s_rows_of a_rows_of fd_rows_of) (b_rows_of : Binds K fd_rows_of ["n", "words"] []) (m_rows_of : mg "rows_of" = some (.ref a_rows_of)) (G_rows_of : FnOk P w K mg base CX0 2 a_rows_of fd_rows_of ["n", "words"] (sp_rows_of K)) :
    FnOk P w K mg base CX0 3 f fd ["n", "words"] (sp_told K) := by
  refine F.ok sc_told (fun vs H Q E h => len_told h) (fun cdv A outer s H vs Q E hr h => ?_)
  refine ⟨rd_told K, ?_, ok_rd_told h⟩
  exact (pss_one (ps_ret (pe_op op_cat (pe_lst (pa_cons (pe_callB call_len (by rfl) T.b_len PySem.boot_len (pa_cons (pe_call G_rows_of (hr.mono (by decide)) (by rfl) m_rows_of F_rows_of.kp b_rows_of .nil pass0 (pa_cons (pv 0) (pa_cons (pv 1) pa_nil))) pa_nil)) pa_nil)) (pv 1))))
theorem sc_rows_refused : FnScope N_rows_refused ["n"] (defScope s_rows_refused) := ⟨rfl, rfl, rfl, by decide +kernel, rfl, by decide +kernel, by decide +kernel⟩
theorem ok_rows_refused {f : Addr} {fd : FuncData} (F : Fun K "rows_refused" "rows_refused" s_rows_refused f fd) (T : Txt K mg) :
    FnOk P w K mg base CX0 1 f fd ["n"] (sp_rows_refused) := by
  refine F.ok sc_rows_refused (fun vs H Q E h => len_rows_refused h) (fun cdv A outer s H vs Q E hr h => ?_)
  refine ⟨rd_rows_refused K, ?_, ok_rd_rows_refused h⟩
  exact (pss_one (ps_ret (pe_or (pe_cmpR op_lt (pv 0) pe_int (nomark _)) (pe_one (pe_cmpR op_gt (pv 0) (pe_gint (by rfl) T.c_MOST_ROWS) (nomark _))))))
theorem sc_ofbytes : FnScope N_ofbytes ["n", "given"] (defScope s_ofbytes) := ⟨rfl, rfl, rfl, by decide +kernel, rfl, by decide +kernel, by decide +kernel⟩
theorem ok_ofbytes {f : Addr} {fd : FuncData} (F : Fun K "ofbytes" "ofbytes" s_ofbytes f fd) (T : Txt K mg)
    {a_set_of : Addr} {fd_set_of : FuncData} (F_set_of : Fun K "set_of" "set_of" s_set_of a_set_of fd_set_of) (b_set_of : Binds K fd_set_of ["n", "rows"] []) (m_set_of : mg "set_of" = some (.ref a_set_of)) (G_set_of : FnOk P w K mg base CX0 1 a_set_of fd_set_of ["n", "rows"] (sp_set_of K))
    {a_told : Addr} {fd_told : FuncData} (F_told : Fun K "told" "told" s_told a_told fd_told) (b_told : Binds K fd_told ["n", "words"] []) (m_told : mg "told" = some (.ref a_told)) (G_told : FnOk P w K mg base CX0 3 a_told fd_told ["n", "words"] (sp_told K))
    {a_rows_refused : Addr} {fd_rows_refused : FuncData} (F_rows_refused : Fun K "rows_refused" "rows_refused" s_rows_refused a_rows_refused fd_rows_refused) (b_rows_refused : Binds K fd_rows_refused ["n"] []) (m_rows_refused : mg "rows_refused" = some (.ref a_rows_refused)) (G_rows_refused : FnOk P w K mg base CX0 1 a_rows_refused fd_rows_refused ["n"] (sp_rows_refused)) :
    FnOk P w K mg base CX0 4 f fd ["n", "given"] (sp_ofbytes K) := by
  refine F.ok sc_ofbytes (fun vs H Q E h => len_ofbytes h) (fun cdv A outer s H vs Q E hr h => ?_)
  refine ⟨rd_ofbytes K, ?_, ok_rd_ofbytes h⟩
  exact (pss_cons (ps_if (pt_truth (pe_call G_rows_refused (hr.mono (by decide)) (by rfl) m_rows_refused F_rows_refused.kp b_rows_refused .nil pass0 (pa_cons (pv 0) pa_nil)) (fun _ => rfl))
      (pss_one (ps_ret (pe_lst (pa_cons (pe_gint (by rfl) T.c_ROWS_REFUSED) pa_nil))))
      pss_nil)
      (pss_one (ps_ret (pe_call G_told (hr.mono (by decide)) (by rfl) m_told F_told.kp b_told .nil pass0 (pa_cons (pv 0) (pa_cons (pe_call G_set_of (hr.mono (by decide)) (by rfl) m_set_of F_set_of.kp b_set_of .nil pass0 (pa_cons (pv 0) (pa_cons (pe_lc rfl sc_ofbytes.nd (pi_range1 (by rfl) T.b_range (pa_cons (pv 0) pa_nil)) (blkOk_by (own := [("row", 2)]) (show blkC N_ofbytes (defScope s_ofbytes) _ _ = true by decide +kernel)) (fun _ _ _ _ _ => (pg_name (i := 2) sc_ofbytes.nd rfl (Or.inl rfl))) (fun _ _ _ _ _ => (pts_one (pt_cmpR op_ge (pe_ix ix_list (pv 1) (pv 2) (fun _ _ => rfl)) (pe_gint (by rfl) T.c_HIGHEST_BIT) (nomark _)))) (fun _ _ _ _ _ => (pv 2))) pa_nil))) pa_nil))))))
theorem all_mk {h : Heap} {fa : Addr} (X : K.In h) (G : h.Ns mainGlobals mg) (hfa : mg "ofbytes" = some (.ref fa))
    {f_set_of : Addr} {oc_set_of kV_set_of dc_set_of pm_set_of cd_set_of ct_set_of : Value} {od_set_of an_set_of : Option Addr} {sl_set_of : Array (Option Value)}
    {f_has_row : Addr} {oc_has_row kV_has_row dc_has_row pm_has_row cd_has_row ct_has_row : Value} {od_has_row an_has_row : Option Addr} {sl_has_row : Array (Option Value)}
    {f_rows_of : Addr} {oc_rows_of kV_rows_of dc_rows_of pm_rows_of cd_rows_of ct_rows_of : Value} {od_rows_of an_rows_of : Option Addr} {sl_rows_of : Array (Option Value)}
    {f_told : Addr} {oc_told kV_told dc_told pm_told cd_told ct_told : Value} {od_told an_told : Option Addr} {sl_told : Array (Option Value)}
    {f_rows_refused : Addr} {oc_rows_refused kV_rows_refused dc_rows_refused pm_rows_refused cd_rows_refused ct_rows_refused : Value} {od_rows_refused an_rows_refused : Option Addr} {sl_rows_refused : Array (Option Value)}
    {f_ofbytes : Addr} {oc_ofbytes kV_ofbytes dc_ofbytes pm_ofbytes cd_ofbytes ct_ofbytes : Value} {od_ofbytes an_ofbytes : Option Addr} {sl_ofbytes : Array (Option Value)}
    {t_MOST_ROWS : Tok} (e_MOST_ROWS : PySem.W.nsIn K mainGlobals "MOST_ROWS" = some (some (.int (4096) t_MOST_ROWS)))
    {t_WORD_ROWS : Tok} (e_WORD_ROWS : PySem.W.nsIn K mainGlobals "WORD_ROWS" = some (some (.int (64) t_WORD_ROWS)))
    {t_HIGHEST_BIT : Tok} (e_HIGHEST_BIT : PySem.W.nsIn K mainGlobals "HIGHEST_BIT" = some (some (.int (128) t_HIGHEST_BIT)))
    {t_ROWS_REFUSED : Tok} (e_ROWS_REFUSED : PySem.W.nsIn K mainGlobals "ROWS_REFUSED" = some (some (.int (-1) t_ROWS_REFUSED)))
    (e_len : PySem.W.nsIn K mainGlobals "len" = some none)
    (e_range : PySem.W.nsIn K mainGlobals "range" = some none)
    (a_set_of : PySem.W.nsIn K mainGlobals "set_of" = some (some (.ref f_set_of))) (l_set_of : K.lookup f_set_of = some ⟨oc_set_of, od_set_of, .func (PySem.W.fnOf "set_of" "set_of" (defArgs s_set_of) (defBody s_set_of) (defScope s_set_of) .none kV_set_of dc_set_of pm_set_of an_set_of cd_set_of ct_set_of), sl_set_of⟩) (c_set_of : PySem.W.codeIn K cd_set_of "set_of" = true) (k_set_of : PySem.W.keepIn K (.ref f_set_of) = true)
    (a_has_row : PySem.W.nsIn K mainGlobals "has_row" = some (some (.ref f_has_row))) (l_has_row : K.lookup f_has_row = some ⟨oc_has_row, od_has_row, .func (PySem.W.fnOf "has_row" "has_row" (defArgs s_has_row) (defBody s_has_row) (defScope s_has_row) .none kV_has_row dc_has_row pm_has_row an_has_row cd_has_row ct_has_row), sl_has_row⟩) (c_has_row : PySem.W.codeIn K cd_has_row "has_row" = true) (k_has_row : PySem.W.keepIn K (.ref f_has_row) = true)
    (a_rows_of : PySem.W.nsIn K mainGlobals "rows_of" = some (some (.ref f_rows_of))) (l_rows_of : K.lookup f_rows_of = some ⟨oc_rows_of, od_rows_of, .func (PySem.W.fnOf "rows_of" "rows_of" (defArgs s_rows_of) (defBody s_rows_of) (defScope s_rows_of) .none kV_rows_of dc_rows_of pm_rows_of an_rows_of cd_rows_of ct_rows_of), sl_rows_of⟩) (c_rows_of : PySem.W.codeIn K cd_rows_of "rows_of" = true) (k_rows_of : PySem.W.keepIn K (.ref f_rows_of) = true)
    (a_told : PySem.W.nsIn K mainGlobals "told" = some (some (.ref f_told))) (l_told : K.lookup f_told = some ⟨oc_told, od_told, .func (PySem.W.fnOf "told" "told" (defArgs s_told) (defBody s_told) (defScope s_told) .none kV_told dc_told pm_told an_told cd_told ct_told), sl_told⟩) (c_told : PySem.W.codeIn K cd_told "told" = true) (k_told : PySem.W.keepIn K (.ref f_told) = true)
    (a_rows_refused : PySem.W.nsIn K mainGlobals "rows_refused" = some (some (.ref f_rows_refused))) (l_rows_refused : K.lookup f_rows_refused = some ⟨oc_rows_refused, od_rows_refused, .func (PySem.W.fnOf "rows_refused" "rows_refused" (defArgs s_rows_refused) (defBody s_rows_refused) (defScope s_rows_refused) .none kV_rows_refused dc_rows_refused pm_rows_refused an_rows_refused cd_rows_refused ct_rows_refused), sl_rows_refused⟩) (c_rows_refused : PySem.W.codeIn K cd_rows_refused "rows_refused" = true) (k_rows_refused : PySem.W.keepIn K (.ref f_rows_refused) = true)
    (a_ofbytes : PySem.W.nsIn K mainGlobals "ofbytes" = some (some (.ref f_ofbytes))) (l_ofbytes : K.lookup f_ofbytes = some ⟨oc_ofbytes, od_ofbytes, .func (PySem.W.fnOf "ofbytes" "ofbytes" (defArgs s_ofbytes) (defBody s_ofbytes) (defScope s_ofbytes) .none kV_ofbytes dc_ofbytes pm_ofbytes an_ofbytes cd_ofbytes ct_ofbytes), sl_ofbytes⟩) (c_ofbytes : PySem.W.codeIn K cd_ofbytes "ofbytes" = true) (k_ofbytes : PySem.W.keepIn K (.ref f_ofbytes) = true) :
    ∃ fd : FuncData, (∀ (s : Shared) (us : List Value), us.length = (["n", "given"] : List Str).length → BindsTo s fd ⟨us, []⟩ ((["n", "given"] : List Str).zip us)) ∧ ∀ base : Heap, K.In base → base.Ns mainGlobals mg → FnOk P w K mg base CX0 4 fa fd ["n", "given"] (sp_ofbytes K) := by
  have e := hfa.symm.trans (PySem.W.mg_of X G a_ofbytes)
  cases e
  have T : Txt K mg := ⟨⟨_, PySem.W.mg_of X G e_MOST_ROWS⟩, ⟨_, PySem.W.mg_of X G e_WORD_ROWS⟩, ⟨_, PySem.W.mg_of X G e_HIGHEST_BIT⟩, ⟨_, PySem.W.mg_of X G e_ROWS_REFUSED⟩, PySem.W.mg_none_of X G e_len, PySem.W.mg_none_of X G e_range⟩
  have F_set_of := fun_mk (st := s_set_of) l_set_of c_set_of k_set_of
  have b_set_of := F_set_of.binds (ps := ["n", "rows"]) fun _ _ _ _ _ _ us hl => match us, hl with | [_, _], _ => rfl
  have m_set_of := PySem.W.mg_of X G a_set_of
  have F_has_row := fun_mk (st := s_has_row) l_has_row c_has_row k_has_row
  have b_has_row := F_has_row.binds (ps := ["words", "row"]) fun _ _ _ _ _ _ us hl => match us, hl with | [_, _], _ => rfl
  have m_has_row := PySem.W.mg_of X G a_has_row
  have F_rows_of := fun_mk (st := s_rows_of) l_rows_of c_rows_of k_rows_of
  have b_rows_of := F_rows_of.binds (ps := ["n", "words"]) fun _ _ _ _ _ _ us hl => match us, hl with | [_, _], _ => rfl
  have m_rows_of := PySem.W.mg_of X G a_rows_of
  have F_told := fun_mk (st := s_told) l_told c_told k_told
  have b_told := F_told.binds (ps := ["n", "words"]) fun _ _ _ _ _ _ us hl => match us, hl with | [_, _], _ => rfl
  have m_told := PySem.W.mg_of X G a_told
  have F_rows_refused := fun_mk (st := s_rows_refused) l_rows_refused c_rows_refused k_rows_refused
  have b_rows_refused := F_rows_refused.binds (ps := ["n"]) fun _ _ _ _ _ _ us hl => match us, hl with | [_], _ => rfl
  have m_rows_refused := PySem.W.mg_of X G a_rows_refused
  have F_ofbytes := fun_mk (st := s_ofbytes) l_ofbytes c_ofbytes k_ofbytes
  have b_ofbytes := F_ofbytes.binds (ps := ["n", "given"]) fun _ _ _ _ _ _ us hl => match us, hl with | [_, _], _ => rfl
  have m_ofbytes := PySem.W.mg_of X G a_ofbytes
  refine ⟨PySem.W.fnOf "ofbytes" "ofbytes" (defArgs s_ofbytes) (defBody s_ofbytes) (defScope s_ofbytes) .none kV_ofbytes dc_ofbytes pm_ofbytes an_ofbytes cd_ofbytes ct_ofbytes, fun s us hu => match us, hu with | [_, _], _ => .of_eq rfl, fun base _ _ => ?_⟩
  have G_set_of : FnOk P w K mg base CX0 1 f_set_of _ ["n", "rows"] (sp_set_of K) := ok_set_of F_set_of T
  have G_has_row : FnOk P w K mg base CX0 1 f_has_row _ ["words", "row"] (sp_has_row K) := ok_has_row F_has_row T
  have G_rows_of : FnOk P w K mg base CX0 2 f_rows_of _ ["n", "words"] (sp_rows_of K) := ok_rows_of F_rows_of T F_has_row b_has_row m_has_row G_has_row
  have G_told : FnOk P w K mg base CX0 3 f_told _ ["n", "words"] (sp_told K) := ok_told F_told T F_rows_of b_rows_of m_rows_of G_rows_of
  have G_rows_refused : FnOk P w K mg base CX0 1 f_rows_refused _ ["n"] (sp_rows_refused) := ok_rows_refused F_rows_refused T
  exact ok_ofbytes F_ofbytes T F_set_of b_set_of m_set_of G_set_of F_told b_told m_told G_told F_rows_refused b_rows_refused m_rows_refused G_rows_refused
end
end Rs
open PySem PySem.W PyProof.Rows
set_option maxRecDepth 100000 in
set_option maxHeartbeats 0 in
theorem PySem.Challenge.cw_rowsets_s13_ofbytes_holds : PySem.Challenge.rw_rowsets_s13_ofbytes.Holds := by
  w_on; k_headS; (case hw => exact ⟨[.int (-1), .list []], by decide +kernel, by decide +kernel⟩)
  k_fillS
  refine L2.walk_specK (r := PySem.Challenge.rw_rowsets_s13_ofbytes) (k := 4) (CX := L2.CX0) (ps := ["n", "given"]) (sp := fun K => Rs.sp_ofbytes K) (by decide +kernel) rfl rfl ⟨rfl, by decide, by decide⟩ (fun w h Y => PySem.W.kIn_of Y) ?F ?S (fun _ _ _ _ z => z)
  case F =>
    intro w mg fa h Y KX G hmg
    refine' Rs.all_mk KX G hmg ?e_MOST_ROWS ?e_WORD_ROWS ?e_HIGHEST_BIT ?e_ROWS_REFUSED ?e_len ?e_range ?a_set_of ?l_set_of ?c_set_of ?k_set_of ?a_has_row ?l_has_row ?c_has_row ?k_has_row ?a_rows_of ?l_rows_of ?c_rows_of ?k_rows_of ?a_told ?l_told ?c_told ?k_told ?a_rows_refused ?l_rows_refused ?c_rows_refused ?k_rows_refused ?a_ofbytes ?l_ofbytes ?c_ofbytes ?k_ofbytes
    (case e_MOST_ROWS => k_is)
    (case e_WORD_ROWS => k_is)
    (case e_HIGHEST_BIT => k_is)
    (case e_ROWS_REFUSED => k_is)
    (case e_len => k_is)
    (case e_range => k_is)
    (case a_set_of => k_is)
    (case l_set_of => k_is)
    (case c_set_of => k_is)
    (case k_set_of => k_is)
    (case a_has_row => k_is)
    (case l_has_row => k_is)
    (case c_has_row => k_is)
    (case k_has_row => k_is)
    (case a_rows_of => k_is)
    (case l_rows_of => k_is)
    (case c_rows_of => k_is)
    (case k_rows_of => k_is)
    (case a_told => k_is)
    (case l_told => k_is)
    (case c_told => k_is)
    (case k_told => k_is)
    (case a_rows_refused => k_is)
    (case l_rows_refused => k_is)
    (case c_rows_refused => k_is)
    (case k_rows_refused => k_is)
    (case a_ofbytes => k_is)
    (case l_ofbytes => k_is)
    (case c_ofbytes => k_is)
    (case k_ofbytes => k_is)
  case S =>
    intro K H xs a hO hwi hask hx
    obtain ⟨x_n, x_given, u⟩ := a
    exact Rs.said_ofbytes hwi hask hx
#print axioms PySem.Challenge.cw_rowsets_s13_ofbytes_holds

