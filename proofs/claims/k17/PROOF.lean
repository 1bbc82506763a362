import PyProof.Rows.All
import Wide.All
import OpenK.AllK
import Wide.FinOn
import PyProof.EqAt
import PyProof.EqKinds
import PyProof.TupleCall
import KE.BitLaws
import KE.KDictLaws
import KE.KDictSum
import KE.KEqDict
import KE.KSortTupG
import KE.KSortAsk
import PySem.Challenge.RW_rigeyes_k17_whole_sight
set_option Elab.async false
set_option linter.all false
set_option maxRecDepth 100000
/-! THE HAND LAYER, for ints, bools, texts, own classes, lists, tuples, dicts, comprehensions, walks over dicts, enumerate, zip, reversed, texts, calls, loops. Paste it whole ahead of your own text; what your proof does not reach may be deleted. -/
namespace L2
open PySem PySem.Spec PyProof.Rows

/-- a key: an int or a str -/
abbrev Key := Sum Int Str
def keyIs : Key → Value → Bool
  | .inl k, v => Value.isInt k v
  | .inr x, v => Value.isStrOf x v
def keyH (w : World) : Key → Int
  | .inl k => hashInt k
  | .inr x => hashStr w x
theorem keyIs_shape : ∀ {k : Key} {v : Value}, keyIs k v = true → (∃ i t, k = Sum.inl i ∧ v = Value.int i t) ∨ (∃ x t, k = Sum.inr x ∧ v = Value.str x t)
  | .inl i, v, h => by
    obtain ⟨t, e⟩ := Value.isInt_shape (k := i) (v := v) h
    exact .inl ⟨i, t, rfl, e⟩
  | .inr x, v, h => by
    obtain ⟨t, e⟩ := Value.isStrOf_shape (x := x) (v := v) h
    exact .inr ⟨x, t, rfl, e⟩
theorem key_ll (a b : Int) : decide ((Sum.inl a : Key) = Sum.inl b) = (a == b) := by
  by_cases e : a = b
  · subst e; simp
  · have h : ¬ (Sum.inl a : Key) = Sum.inl b := fun q => e (Sum.inl.inj q)
    rw [decide_eq_false h]
    exact (beq_eq_false_iff_ne.mpr e).symm
theorem key_rr (a b : Str) : decide ((Sum.inr a : Key) = Sum.inr b) = decide (a = b) := by
  by_cases e : a = b
  · subst e; simp
  · have h : ¬ (Sum.inr a : Key) = Sum.inr b := fun q => e (Sum.inr.inj q)
    rw [decide_eq_false h, decide_eq_false e]
theorem key_lr (a : Int) (b : Str) : decide ((Sum.inl a : Key) = Sum.inr b) = false := decide_eq_false (fun q => nomatch q)
theorem key_rl (a : Str) (b : Int) : decide ((Sum.inr a : Key) = Sum.inl b) = false := decide_eq_false (fun q => nomatch q)

def mixKind (prog : Program) (w : World) : PySem.KeyKind prog w Key where
  is := keyIs
  hash := keyH w
  inj := fun v a b ha hb => by
    rcases keyIs_shape ha with ⟨i, t, rfl, rfl⟩ | ⟨x, t, rfl, rfl⟩
    · rcases keyIs_shape hb with ⟨j, u, rfl, e⟩ | ⟨y, u, rfl, e⟩
      · injection e with e1 _; rw [e1]
      · exact nomatch e
    · rcases keyIs_shape hb with ⟨j, u, rfl, e⟩ | ⟨y, u, rfl, e⟩
      · exact nomatch e
      · injection e with e1 _; rw [e1]
  byValue := fun k v h => by
    rcases keyIs_shape h with ⟨i, t, rfl, rfl⟩ | ⟨x, t, rfl, rfl⟩ <;> rfl
  pyHash := fun hv h => by
    rcases keyIs_shape hv with ⟨i, t, rfl, rfl⟩ | ⟨x, t, rfl, rfl⟩
    · exact wpAny_pyHash_int h
    · exact wpAny_pyHash_str h
  eqBool := fun hu hv h => by
    rcases keyIs_shape hu with ⟨i, t, rfl, rfl⟩ | ⟨x, t, rfl, rfl⟩
    · rcases keyIs_shape hv with ⟨j, u, rfl, rfl⟩ | ⟨y, u, rfl, rfl⟩
      · rw [key_ll] at h; exact wpAny_eqBool_int h
      · rw [key_lr] at h; exact SeqAt.EqAt.int_str i t y u _ _ _ _ h
    · rcases keyIs_shape hv with ⟨j, u, rfl, rfl⟩ | ⟨y, u, rfl, rfl⟩
      · rw [key_rl] at h; exact SeqAt.EqAt.str_int x t j u _ _ _ _ h
      · rw [key_rr] at h; exact wpAny_eqBool_str h
  «strs» := fun k x t v h => by
    rcases keyIs_shape h with ⟨i, u, rfl, e⟩ | ⟨y, u, rfl, e⟩
    · exact nomatch e
    · injection e with e1 _
      subst e1
      cases v <;> rfl

end L2

namespace L2
open PySem PySem.Spec PyProof.Rows

/-- a value, without the heap -/
inductive V where
  | non | bl (b : Bool) | int (i : Int) | str (x : Str) | byt (b : Array UInt8) | flt (b : UInt64) | ref (a : Addr) | ty (n : String)
  deriving DecidableEq

def RelV : V → Value → Prop
  | .non, u => u = Value.none
  | .bl b, u => u = Value.bool b
  | .int i, u => ∃ t, u = Value.int i t
  | .str x, u => ∃ t, u = Value.str x t
  | .byt b, u => ∃ t, u = Value.bytes b t
  | .flt b, u => ∃ t, u = Value.float b t
  | .ref a, u => u = Value.ref a
  | .ty n, u => u = Value.type n

abbrev Vals : List V → List Value → Prop := Paired RelV
theorem Vals.length {xs : List V} {us : List Value} (r : Vals xs us) : xs.length = us.length := Paired.length r
theorem Vals.get : ∀ {xs : List V} {us : List Value} {i : Nat} {x : V}, Vals xs us → xs[i]? = some x → ∃ u, us[i]? = some u ∧ RelV x u
  | _, _, _, _, .nil, e => by simp at e
  | _, _, 0, _, .cons r _, e => by simp at e; subst e; exact ⟨_, rfl, r⟩
  | _, _, i + 1, x, .cons _ t, e => by
    obtain ⟨u, h1, h2⟩ := Vals.get (i := i) (x := x) t (by simpa using e)
    exact ⟨u, by simpa using h1, h2⟩
theorem Vals.set {x : V} {u : Value} (r : RelV x u) : ∀ {xs : List V} {us : List Value} (i : Nat), Vals xs us → Vals (xs.set i x) (us.set i u)
  | _, _, _, .nil => .nil
  | _, _, 0, .cons _ t => .cons r t
  | _, _, i + 1, .cons q t => .cons q (Vals.set r i t)
theorem Vals.append : ∀ {xs ys : List V} {us ws : List Value}, Vals xs us → Vals ys ws → Vals (xs ++ ys) (us ++ ws)
  | _, _, _, _, .nil, s => s
  | _, _, _, _, .cons r t, s => .cons r (Vals.append t s)
theorem Vals.take : ∀ {xs : List V} {us : List Value} (n : Nat), Vals xs us → Vals (xs.take n) (us.take n)
  | _, _, 0, _ => .nil
  | _, _, _ + 1, .nil => .nil
  | _, _, n + 1, .cons r t => .cons r (Vals.take n t)
theorem Vals.drop : ∀ {xs : List V} {us : List Value} (n : Nat), Vals xs us → Vals (xs.drop n) (us.drop n)
  | _, _, 0, r => r
  | _, _, _ + 1, .nil => .nil
  | _, _, n + 1, .cons _ t => Vals.drop n t
def RelO : Option V → Option Value → Prop
  | some v, some u => RelV v u
  | none, none => True
  | _, _ => False
def KV {κ : Type} : List (κ × V) → List (κ × Value) → Prop := Paired fun (p : κ × V) (q : κ × Value) => p.1 = q.1 ∧ RelV p.2 q.2

/-- a key of a dict (00_mix): an int or a text -/
def kV : Key → V
  | .inl i => .int i
  | .inr x => .str x

/-- what stands at a tracked address -/
inductive HO where
  /-- a list -/
  | lst (xs : List V)
  /-- a tuple (never changes) -/
  | tup (xs : List V)
  /-- a dict whose keys are ints and texts; one whose keys are tuples of ints and texts (the empty one is both) -/
  | dK (kvs : List (Key × V)) | dT (kvs : List (List Key × V))
  /-- a set of ints: its members, its size -/
  | set (S : Int → Bool) (n : Nat)
  /-- an instance of the class at C, its dict at dx, its attributes -/
  | ins (C dx : Addr) (fs : List (Str × V))
  /-- the dict of the instance at x -/
  | own (x : Addr)
  /-- the dict of an exception -/
  | xd (fs : List (Str × V))
  /-- a bound method, f of x -/
  | met (f x : Addr)
  /-- a range object lo, lo + 1, .. below hi -/
  | rng (lo hi : Int)
  /-- a thing that is known to the object (the script; a dict while a loop walks it): read, never written while it is so -/
  | frz (o : Obj) (u : HO)
  /-- a code object's table -/
  | tbl (ps : Array Value)
  /-- any other thing, by what is true of its one object (a def of one's own: SetO a S n := HO.ext fun h => ..) -/
  | ext (φ : Heap → Prop)

abbrev Hp := Addr → Option HO
def upd (H : Hp) (a : Addr) (o : HO) : Hp := fun b => if b = a then some o else H b
theorem upd_same {H : Hp} {a : Addr} {o : HO} : upd H a o a = some o := by unfold upd; rw [if_pos rfl]
theorem upd_ne {H : Hp} {a b : Addr} {o : HO} (h : b ≠ a) : upd H a o b = H b := by unfold upd; rw [if_neg h]
theorem ne_of_none {H : Hp} {a b : Addr} {o : HO} (h : H a = some o) (h' : H b = none) : a ≠ b := by
  intro e; subst e; rw [h] at h'; cases h'

section
variable (P : Program) (w : World)
def ObjOk (H : Hp) (h : Heap) (a : Addr) : HO → Prop
  | .lst xs => xs.length ≤ sizeLine ∧ ∃ (its : List Value) (n : Nat), Vals xs its ∧ h.get? a = some { cls := .type "list", data := .seq its.toArray n }
  | .tup xs => xs.length ≤ sizeLine ∧ ∃ its : List Value, Vals xs its ∧ IsTup h a its.toArray
  | .dK kvs => kvs.length ≤ sizeLine ∧ (a == sysModules) = false ∧ ∃ vs, KV kvs vs ∧ h.DictOf (mixKind P w) a vs
  | .dT kvs => kvs.length ≤ sizeLine ∧ (a == sysModules) = false ∧ ∃ xs : List (List Key × Addr × Value),
      Paired (fun (p : List Key × V) (q : List Key × Addr × Value) => p.1 = q.1 ∧ H q.2.1 = some (.tup (p.1.map kV)) ∧ RelV p.2 q.2.2) kvs xs ∧
      ∃ o es ep, h.get? a = some o ∧ o.ExactDict ∧ o.data = .dict es ep ∧ es.toList = xs.map (entryOfKey (tupleKind (mixKind P w))) ∧ (xs.map (·.1)).Nodup
  | .set S n => h.SetOf (intKind P w) a S n
  | .ins C dx fs => H dx = some (.own a) ∧ fs.length ≤ 1000 ∧ dx ≠ a ∧ h.get? a = some (PySem.W.instObj C dx) ∧
      ∃ mA, h.Ns1 dx mA ∧ (∀ f, RelO (fs.lookup f) (mA f)) ∧ PySem.Within mA (fs.map (·.1))
  | .own _ => ∃ o, h.get? a = some o
  | .xd fs => ∃ mA, h.Ns1 a mA ∧ ∀ f, RelO (fs.lookup f) (mA f)
  | .rng lo hi => ∃ t u v, h.get? a = some { cls := .type "range", data := .fields #[.int lo t, .int hi u, .int 1 v] }
  | .frz o u => h.get? a = some o ∧ ObjOk H h a u
  | .tbl ps => h.get? a = some { cls := .none, data := .fields ps }
  | .met f x => h.get? a = some (PySem.W.methodObj (.ref f) (.ref x))
  | .ext φ => φ h ∧ (∃ o, h.get? a = some o) ∧ ∀ h1 h2 : Heap, φ h1 → (∀ o, h1.get? a = some o → h2.get? a = some o) → φ h2
/-- the abstract heap is held -/
def HOk (H : Hp) (h : Heap) : Prop := ∀ a o, H a = some o → ObjOk P w H h a o
end

section
variable {P : Program} {w : World} {H H' : Hp} {h h' : Heap} {a : Addr} {o : HO}
theorem ObjOk.lt (x : ObjOk P w H h a o) : a < h.objs.size := by
  cases o with
  | lst xs => obtain ⟨_, _, _, _, e⟩ := x; exact Heap.lt_size e
  | tup xs => obtain ⟨_, _, _, p⟩ := x; exact p.lt
  | dK kvs => obtain ⟨_, _, _, _, o, _, _, e, _⟩ := x; exact Heap.lt_size e
  | dT kvs => obtain ⟨_, _, _, _, o, _, _, e, _⟩ := x; exact Heap.lt_size e
  | set S n => obtain ⟨o, _, _, _, e, _⟩ := x; exact Heap.lt_size e
  | ins C dx fs => obtain ⟨_, _, _, e, _⟩ := x; exact Heap.lt_size e
  | own y => obtain ⟨_, e⟩ := x; exact Heap.lt_size e
  | xd fs => obtain ⟨_, ⟨_, _, _, e, _⟩, _⟩ := x; exact Heap.lt_size e
  | rng lo hi => obtain ⟨_, _, _, e⟩ := x; exact Heap.lt_size e
  | frz ob u => obtain ⟨e, _⟩ := x; exact Heap.lt_size e
  | tbl ps => exact Heap.lt_size (show h.get? a = some _ from x)
  | met f y => exact Heap.lt_size (show h.get? a = some _ from x)
  | ext φ => obtain ⟨_, ⟨_, e⟩, _⟩ := x; exact Heap.lt_size e
theorem Paired.mapP {α β : Type} {F G : α → β → Prop} : ∀ {l₁ : List α} {l₂ : List β}, Paired F l₁ l₂ → (∀ a b, F a b → G a b) → Paired G l₁ l₂
  | _, _, .nil, _ => .nil
  | _, _, .cons r t, f => .cons (f _ _ r) (Paired.mapP t f)
/-- what an object's description leans on: its own object, its own dict, the tuples -/
theorem ObjOk.stay (x : ObjOk P w H h a o) (k : ∀ b u, (b = a ∨ H b = some (.own a)) → h.get? b = some u → h'.get? b = some u)
    (ho : ∀ b, H b = some (.own a) → H' b = some (.own a)) (ht : ∀ b xs, H b = some (.tup xs) → H' b = some (.tup xs)) : ObjOk P w H' h' a o := by
  induction o with
  | lst xs => obtain ⟨z, its, n, r, e⟩ := x; exact ⟨z, its, n, r, k _ _ (.inl rfl) e⟩
  | tup xs => obtain ⟨z, its, r, ob, e, c⟩ := x; exact ⟨z, its, r, ob, k _ _ (.inl rfl) e, c⟩
  | dK kvs => obtain ⟨z, y, vs, r, ob, es, ep, e, c⟩ := x; exact ⟨z, y, vs, r, ob, es, ep, k _ _ (.inl rfl) e, c⟩
  | dT kvs =>
    obtain ⟨z, y, xs, r, ob, es, ep, e, c⟩ := x
    exact ⟨z, y, xs, Paired.mapP r fun p q z => ⟨z.1, ht _ _ z.2.1, z.2.2⟩, ob, es, ep, k _ _ (.inl rfl) e, c⟩
  | set S n => obtain ⟨ob, es, ep, t, e, c⟩ := x; exact ⟨ob, es, ep, t, k _ _ (.inl rfl) e, c⟩
  | ins C dx fs =>
    obtain ⟨d, z, ne, e, mA, ⟨od, es, ep, e2, c⟩, r⟩ := x
    exact ⟨ho _ d, z, ne, k _ _ (.inl rfl) e, mA, ⟨od, es, ep, k _ _ (.inr d) e2, c⟩, r⟩
  | own y => obtain ⟨ob, e⟩ := x; exact ⟨ob, k _ _ (.inl rfl) e⟩
  | xd fs => obtain ⟨mA, ⟨od, es, ep, e, c⟩, r⟩ := x; exact ⟨mA, ⟨od, es, ep, k _ _ (.inl rfl) e, c⟩, r⟩
  | rng lo hi => obtain ⟨t, u, v, e⟩ := x; exact ⟨t, u, v, k _ _ (.inl rfl) e⟩
  | frz ob u ih => obtain ⟨e, q⟩ := x; exact ⟨k _ _ (.inl rfl) e, ih q⟩
  | tbl ps =>
    have e : h.get? a = some { cls := .none, data := .fields ps } := x
    show h'.get? a = some { cls := .none, data := .fields ps }
    exact k a _ (.inl rfl) e
  | met f y =>
    have e : h.get? a = some (PySem.W.methodObj (.ref f) (.ref y)) := x
    show h'.get? a = some (PySem.W.methodObj (.ref f) (.ref y))
    exact k a _ (.inl rfl) e
  | ext φ => obtain ⟨p, ⟨o, e⟩, st⟩ := x; exact ⟨st _ _ p fun o q => k _ _ (.inl rfl) q, ⟨o, k _ _ (.inl rfl) e⟩, st⟩
theorem HOk.lt (x : HOk P w H h) (e : H a = some o) : a < h.objs.size := (x a o e).lt
theorem HOk.fresh (x : HOk P w H h) (e : h.objs.size ≤ a) : H a = none := by
  cases q : H a with
  | none => rfl
  | some u => exact absurd (Nat.lt_of_lt_of_le (x.lt q) e) (Nat.lt_irrefl _)
/-- every object of the heap is kept -/
theorem HOk.kept (x : HOk P w H h) (k : ∀ b u, h.get? b = some u → h'.get? b = some u) : HOk P w H h' := fun a o e =>
  (x a o e).stay (fun b u _ q => k b u q) (fun _ q => q) fun _ _ q => q
/-- a new object is laid and tracked -/
theorem HOk.laid (x : HOk P w H h) (k : ∀ b u, h.get? b = some u → h'.get? b = some u) (hp : h.objs.size ≤ a) (new : ObjOk P w (upd H a o) h' a o) : HOk P w (upd H a o) h' := fun b u e => by
  have hn := x.fresh hp
  by_cases hb : b = a
  · subst hb; rw [upd_same] at e; cases e; exact new
  · rw [upd_ne hb] at e
    exact (x b u e).stay (fun c v _ q => k c v q) (fun c q => by rw [upd_ne (ne_of_none q hn)]; exact q) fun c xs q => by rw [upd_ne (ne_of_none q hn)]; exact q
end

/-- what may be read as u: it is u, or a known u -/
def Rd (H : Hp) (a : Addr) (u : HO) : Prop := H a = some u ∨ ∃ o, H a = some (.frz o u)
theorem Rd.of {H : Hp} {a : Addr} {u : HO} (h : H a = some u) : Rd H a u := .inl h
theorem Rd.ok {P : Program} {w : World} {H : Hp} {h : Heap} {a : Addr} {u : HO} (r : Rd H a u) (x : HOk P w H h) : ObjOk P w H h a u := by
  rcases r with r | ⟨o, r⟩
  · exact x a u r
  · obtain ⟨_, q⟩ := x a _ r
    exact q
/-- what may be written -/
def Mut : Option HO → Prop
  | some (.lst _) => True
  | some (.dK _) => True
  | some (.dT _) => True
  | some (.set _ _) => True
  | some (.ins _ _ _) => True
  | some (.ext _) => True
  | _ => False
section
variable {P : Program} {w : World} {H : Hp} {h h' : Heap} {x e : Addr} {o' : HO}
/-- the object at e is changed: x itself, or the dict of the instance x -/
theorem HOk.write (ok : HOk P w H h) (mu : Mut (H x)) (he : e = x ∨ H e = some (.own x)) (k : ∀ b u, b ≠ e → h.get? b = some u → h'.get? b = some u) (heo : ∃ u, h'.get? e = some u)
    (new : ObjOk P w (upd H x o') h' x o') : HOk P w (upd H x o') h' := fun b u q => by
  have nown : ∀ c y, H c = some (.own y) → c ≠ x := fun c y r z => by subst z; rw [r] at mu; exact mu
  have ntup : ∀ c xs, H c = some (.tup xs) → c ≠ x := fun c xs r z => by subst z; rw [r] at mu; exact mu
  by_cases hb : b = x
  · subst hb; rw [upd_same] at q; cases q; exact new
  · rw [upd_ne hb] at q
    by_cases hbe : b = e
    · have q' : H b = some (.own x) := by
        rcases he with z | z
        · exact absurd (hbe.trans z) hb
        · rw [hbe]; exact z
      rw [q] at q'; cases q'
      obtain ⟨v, hv⟩ := heo
      exact ⟨v, by rw [hbe]; exact hv⟩
    · refine (ok b u q).stay (fun c v hc r => k c v ?_ r) (fun c r => by rw [upd_ne (nown c b r)]; exact r) fun c xs r => by rw [upd_ne (ntup c xs r)]; exact r
      rcases hc with rfl | hc
      · exact hbe
      · rintro rfl
        rcases he with z | z
        · exact nown c b hc z
        · rw [hc] at z; cases z; exact hb rfl
end

/-! ### kept unless tracked; of the frames at fs (the callers') the slots may change (an exception that passes writes there); of the records at ex (iterators) nothing is said -/
structure Un (fs ex : List Addr) (H H' : Hp) (h h' : Heap) : Prop where
  keep : ∀ b o, h.get? b = some o → H b = none → b ∉ fs → b ∉ ex → h'.get? b = some o
  slot : ∀ b o, h.get? b = some o → H b = none → b ∈ fs → b ∉ ex → ∃ sl, h'.get? b = some { o with slots := sl }
  free : ∀ b o, h.get? b = some o → H b = none → b ∉ ex → H' b = none
  there : ∀ b o, h.get? b = some o → b ∉ ex → ∃ o', h'.get? b = some o'
  tups : ∀ b xs, H b = some (.tup xs) → H' b = some (.tup xs)
  frzs : ∀ b o u, H b = some (.frz o u) → H' b = some (.frz o u)
  tbls : ∀ b ps, H b = some (.tbl ps) → ∃ more, H' b = some (.tbl (ps ++ more))
section
variable {fs fs' ex ex' : List Addr} {H H1 H2 : Hp} {h h1 h2 h' : Heap} {a x e : Addr} {o : HO}
theorem Un.any (u : Un fs ex H H1 h h1) {b : Addr} {ob : Obj} (q : h.get? b = some ob) (n : H b = none) (hx : b ∉ ex) : ∃ sl, h1.get? b = some { ob with slots := sl } := by
  by_cases hb : b ∈ fs
  · exact u.slot b ob q n hb hx
  · exact ⟨ob.slots, u.keep b ob q n hb hx⟩
theorem Un.trans (a : Un fs ex H H1 h h1) (b : Un fs ex H1 H2 h1 h2) : Un fs ex H H2 h h2 where
  keep := fun c ob q n hc hx => b.keep c ob (a.keep c ob q n hc hx) (a.free c ob q n hx) hc hx
  slot := fun c ob q n hc hx => by
    obtain ⟨sl, e1⟩ := a.slot c ob q n hc hx
    obtain ⟨sl', e2⟩ := b.slot c _ e1 (a.free c ob q n hx) hc hx
    exact ⟨sl', e2⟩
  free := fun c ob q n hx => by
    obtain ⟨o', e1⟩ := a.there c ob q hx
    exact b.free c o' e1 (a.free c ob q n hx) hx
  there := fun c ob q hx => by
    obtain ⟨o', e1⟩ := a.there c ob q hx
    exact b.there c o' e1 hx
  tups := fun c xs q => b.tups c xs (a.tups c xs q)
  frzs := fun c ob xs q => b.frzs c ob xs (a.frzs c ob xs q)
  tbls := fun c ps q => by
    obtain ⟨m1, e1⟩ := a.tbls c ps q
    obtain ⟨m2, e2⟩ := b.tbls c _ e1
    exact ⟨m1 ++ m2, by rw [e2, Array.append_assoc]⟩
theorem Un.kept (k : ∀ b u, h.get? b = some u → h'.get? b = some u) : Un fs ex H H h h' :=
  ⟨fun b ob q _ _ _ => k b ob q, fun b ob q _ _ _ => ⟨ob.slots, k b ob q⟩, fun _ _ _ n _ => n, fun b ob q _ => ⟨ob, k b ob q⟩, fun _ _ q => q, fun _ _ _ q => q, fun _ ps q => ⟨#[], by rw [q]; simp⟩⟩
theorem Un.refl : Un fs ex H H h h := Un.kept fun _ _ q => q
theorem Un.laid (k : ∀ b u, h.get? b = some u → h'.get? b = some u) (hp : h.objs.size ≤ a) (hn : H a = none) : Un fs ex H (upd H a o) h h' where
  keep := fun b u q _ _ _ => k b u q
  slot := fun b u q _ _ _ => ⟨u.slots, k b u q⟩
  free := fun b u q n _ => by rw [upd_ne (Nat.ne_of_lt (Nat.lt_of_lt_of_le (Heap.lt_size q) hp))]; exact n
  there := fun b u q _ => ⟨u, k b u q⟩
  tups := fun b xs q => by rw [upd_ne (ne_of_none q hn)]; exact q
  frzs := fun b u xs q => by rw [upd_ne (ne_of_none q hn)]; exact q
  tbls := fun b ps q => ⟨#[], by rw [upd_ne (ne_of_none q hn), q]; simp⟩
theorem Un.write (mu : Mut (H x)) (he : e = x ∨ H e = some (.own x)) (k : ∀ b u, b ≠ e → h.get? b = some u → h'.get? b = some u) (heo : ∃ u, h'.get? e = some u) : Un fs ex H (upd H x o) h h' := by
  have hx : ∀ b, H b = none → b ≠ x := fun b n z => by subst z; rw [n] at mu; exact mu
  have hb : ∀ b, H b = none → b ≠ e := fun b n z => by
    subst z
    rcases he with r | r
    · exact hx b n r
    · rw [n] at r; cases r
  have hm : ∀ b u, H b = some u → ¬ Mut (some u) → b ≠ x := fun b u q nm z => by subst z; rw [q] at mu; exact nm mu
  refine ⟨fun b u q n _ _ => k b u (hb b n) q, fun b u q n _ _ => ⟨u.slots, k b u (hb b n) q⟩, fun b u q n _ => by rw [upd_ne (hx b n)]; exact n, fun b u q _ => ?_,
    fun b xs q => by rw [upd_ne (hm b _ q fun z => z)]; exact q, fun b u xs q => by rw [upd_ne (hm b _ q fun z => z)]; exact q, fun b ps q => ⟨#[], by rw [upd_ne (hm b _ q fun z => z), q]; simp⟩⟩
  by_cases hbe : b = e
  · subst hbe; exact heo
  · exact ⟨u, k b u hbe q⟩
theorem Un.mono (u : Un fs ex H H1 h h1) (hs : ∀ b ∈ fs, b ∈ fs') (hx : ∀ b ∈ ex, b ∈ ex') : Un fs' ex' H H1 h h1 :=
  ⟨fun b ob q n hb he => u.keep b ob q n (fun z => hb (hs b z)) fun z => he (hx b z), fun _ _ q n _ he => u.any q n fun z => he (hx _ z), fun b ob q n he => u.free b ob q n fun z => he (hx b z), fun b ob q he => u.there b ob q fun z => he (hx b z), u.tups, u.frzs, u.tbls⟩
end

/-! ### the heap without what is tracked -/
def trk (h : Heap) (H : Hp) : List Addr := (List.range h.objs.size).filter fun a => (H a).isSome
def hidT (h : Heap) (H : Hp) : Heap := PySem.W.hideAll h (trk h H)
theorem hidT_size (h : Heap) (H : Hp) : (hidT h H).objs.size = h.objs.size := PySem.W.hideAll_size _ _
theorem hidT_get {h : Heap} {H : Hp} {b : Addr} {o : Obj} (e : h.get? b = some o) (n : H b = none) : (hidT h H).get? b = some o :=
  PySem.W.hideAll_get _ e fun hm => by
    have q : (H b).isSome = true := (List.mem_filter.mp hm).2
    rw [n] at q; simp at q
theorem of_hidT {h : Heap} {H : Hp} {b : Addr} {o : Obj} (e : (hidT h H).get? b = some o) : h.get? b = some o ∧ H b = none := by
  have e' : h.get? b = some o := PySem.W.of_hideAll (trk h H) e
  refine ⟨e', ?_⟩
  cases q : H b with
  | none => rfl
  | some x =>
    have hm : b ∈ trk h H := List.mem_filter.mpr ⟨List.mem_range.mpr (Heap.lt_size e'), by simp [q]⟩
    have z : (hidT h H).get? b = none := PySem.W.hideAll_none (trk h H) hm
    rw [z] at e; cases e

/-! ### OpenK's ledger, filled with every new object but one -/
def allNews (g h : Heap) (L : Addr) : List (Addr × Obj) := (List.range h.objs.size).filterMap fun a => if a = L ∨ (g.get? a).isSome = true then none else (h.get? a).map fun o => (a, o)
def rest (g h : Heap) (L d : Addr) : List (Addr × Obj) := (allNews g h L).filter fun p => decide (p.1 ≠ d)
end L2

namespace L2
open PySem PySem.Spec PyProof.Rows

/-- the module's facts, over the base: the heap at the law's entry without what is tracked there -/
structure Mod (K : PySem.W.Frag) (mg : Str → Option Value) (base : Heap) : Prop where
  kin : K.In base
  glob : base.Ns mainGlobals mg
  blt : ∃ mb, base.Ns builtinsNs mb ∧ ∀ x : Str, x ≠ "__name__" → mb x = bootBuiltins x
  nolimit : base.NoLimit

/-- the context: a def's body (or a comprehension's block) running. base: fixed through the whole law; s₀, H₀: the entry; outer: the frames whose slots others may change (a def's callers); stack: all frames that run;
   ex: iterators that were made ahead of the entry and are walked here (a comprehension's); fn: the names whose cells were made at the entry (a def: all; a comprehension's block: its own); calm: not within an except suite; pn: pins that every state bears; xe: what is wanted of an exception that leaves the code -/
structure Cx where
  prog : Program
  w : World
  K : PySem.W.Frag
  mg : Str → Option Value
  base : Heap
  A : Around
  N : List Str
  s_0 : Shared
  H_0 : Hp
  env : Env
  outer : List Env
  stack : List Env
  ex : List Addr
  fn : Str → Bool
  calm : Bool
  pn : List (Addr × Obj)
  xe : Value → Shared → Prop
/-- the callers' frames -/
def frs (l : List Env) : List Addr := l.filterMap (·.frame)
abbrev Cx.fs (X : Cx) : List Addr := frs X.outer

def Vis (sc : Scope) (x : Str) : Prop := sc.names.lookup x = some .local ∨ sc.names.lookup x = some .cell ∨ sc.names.lookup x = some .free
def Loc (sc : Scope) (x : Str) : Prop := sc.names.lookup x = some .local ∨ sc.names.lookup x = some .cell
def Look (env : Env) (h : Heap) (m : Str → Option Value) (x : Str) (u : Value) : Prop :=
  (env.kindOf x = some .local ∧ m x = some u) ∨ ((env.kindOf x = some .cell ∨ env.kindOf x = some .free) ∧ ∃ c, env.cells.lookup x = some c ∧ h.IsCell c (some u))

structure Cx.Ok (X : Cx) : Prop where
  mod : Mod X.K X.mg X.base
  kind : X.env.scope.kind = .function
  glob : X.env.globals = mainGlobals
  blt : X.env.builtins = builtinsNs
  above : X.s_0.heap.objs.size ≤ X.env.locals
  inj : ∀ x y c, X.env.cells.lookup x = some c → X.env.cells.lookup y = some c → x = y
  has : ∀ x, (X.env.kindOf x = some .cell ∨ X.env.kindOf x = some .free) → ∃ c, X.env.cells.lookup x = some c
  cab : ∀ x c, X.fn x = true → X.env.cells.lookup x = some c → X.s_0.heap.objs.size ≤ c
  hd : X.calm = true → X.A.handled = none
  frames : X.A.frames = some X.stack
  stk : X.stack = X.outer ∨ (X.stack = X.env :: X.outer ∧ X.env.frame = some X.env.locals)
  exf : ∀ b ∈ X.ex, b ≠ X.env.locals ∧ ∀ x c, X.env.cells.lookup x = some c → c ≠ b
  bs : ∀ b o, X.base.get? b = some o → X.s_0.heap.get? b = some o ∧ X.H_0 b = none
  bsz : X.base.objs.size ≤ X.s_0.heap.objs.size
  noex : ∀ b o, X.base.get? b = some o → b ∉ X.ex
  exfs : ∀ b ∈ X.ex, b ∉ X.fs
  funs : X.s_0.heap.FunFrames X.base X.outer
  frf : ∀ b ∈ X.fs, X.H_0 b = none

structure Inv (X : Cx) (pins : List (Addr × Obj)) (σ : List (Option V)) (H : Hp) (s : Shared) : Prop where
  ok : X.Ok
  os : s.os = X.s_0.os
  bare : AllBare s.gens
  base : Un X.fs X.ex X.H_0 H X.s_0.heap s.heap
  loc : ∃ m, s.heap.Ns X.env.locals m ∧ ∀ (i : Nat) (x : Str) (v : V), X.N[i]? = some x → σ[i]? = some (some v) → Vis X.env.scope x → ∃ u, RelV v u ∧ Look X.env s.heap m x u
  cell : ∀ x c, X.env.cells.lookup x = some c → ∃ v, s.heap.IsCell c v
  free : H X.env.locals = none
  freeC : ∀ x c, X.env.cells.lookup x = some c → H c = none
  pin : ∀ p ∈ X.pn ++ pins, s.heap.get? p.1 = some p.2 ∧ H p.1 = none ∧ p.1 ≠ X.env.locals ∧ p.1 ∉ X.fs ∧ ∀ v, p.2.data ≠ .cell v
  hok : HOk X.prog X.w H s.heap
  len : σ.length = X.N.length

section
variable {X : Cx} {pins : List (Addr × Obj)} {σ : List (Option V)} {H H' : Hp} {s : Shared} {h' : Heap}

theorem Cx.Ok.nofr (ok : X.Ok) {b : Addr} {o : Obj} (e : X.base.get? b = some o) : b ∉ X.fs := fun hb => by
  have := (ok.funs.mem hb).1
  rw [e] at this; cases this
theorem Inv.bs (I : Inv X pins σ H s) : ∀ b o, X.base.get? b = some o → s.heap.get? b = some o ∧ H b = none := fun b o e =>
  ⟨I.base.keep b o (I.ok.bs b o e).1 (I.ok.bs b o e).2 (I.ok.nofr e) (I.ok.noex b o e), I.base.free b o (I.ok.bs b o e).1 (I.ok.bs b o e).2 (I.ok.noex b o e)⟩
theorem Inv.bk (I : Inv X pins σ H s) : ∀ b o, X.base.get? b = some o → s.heap.get? b = some o := fun b o e => (I.bs b o e).1
theorem Inv.mod (I : Inv X pins σ H s) : Mod X.K X.mg X.base := I.ok.mod
theorem Inv.kIn (I : Inv X pins σ H s) : X.K.In s.heap := I.ok.mod.kin.keeps I.bk
theorem Inv.nolimit (I : Inv X pins σ H s) : s.heap.NoLimit := I.ok.mod.nolimit.keeps I.bk
theorem Inv.lt (I : Inv X pins σ H s) : X.env.locals < s.heap.objs.size := let ⟨_, hn, _⟩ := I.loc; hn.lt
theorem Inv.sz (I : Inv X pins σ H s) : X.s_0.heap.objs.size ≤ s.heap.objs.size := Nat.le_trans I.ok.above (Nat.le_of_lt I.lt)
theorem Inv.nofs (I : Inv X pins σ H s) {a : Addr} (h : s.heap.objs.size ≤ a) : a ∉ X.fs := fun hb => by
  obtain ⟨_, o, ho, _⟩ := I.ok.funs.mem hb
  exact absurd (Nat.lt_of_lt_of_le (Heap.lt_size ho) (Nat.le_trans I.sz h)) (Nat.lt_irrefl _)
theorem Inv.cne (I : Inv X pins σ H s) : ∀ x c, X.env.cells.lookup x = some c → c ≠ X.env.locals := fun x c e z => by
  obtain ⟨v, o, ho, hd⟩ := I.cell x c e
  obtain ⟨m, ⟨o', es, ep, ho', hd', _⟩, _⟩ := I.loc
  rw [z, ho'] at ho; cases ho; rw [hd'] at hd; cases hd
theorem Inv.funs (I : Inv X pins σ H s) : s.heap.FunFrames X.base X.outer := by
  have all : ∀ (l : List Env), (∀ b ∈ frs l, b ∈ X.fs) → X.s_0.heap.FunFrames X.base l → s.heap.FunFrames X.base l := by
    intro l
    induction l with
    | nil => intro _ _; trivial
    | cons env r ih =>
      intro hs hl
      obtain ⟨hk, ⟨L, o, hf, hn, ho, hd⟩, hr⟩ := hl
      have hL : L ∈ X.fs := hs L (by unfold frs; rw [List.filterMap_cons, hf]; exact List.mem_cons_self)
      obtain ⟨sl, e⟩ := I.base.slot L o ho (I.ok.frf L hL) hL fun z => I.ok.exfs L z hL
      exact ⟨hk, ⟨L, _, hf, hn, e, hd⟩, ih (fun b hb => hs b (by unfold frs; rw [List.filterMap_cons, hf]; exact List.mem_cons_of_mem _ hb)) hr⟩
  exact all X.outer (fun _ hb => hb) I.ok.funs

/-- the frames that run, for a call -/
theorem Inv.stack (I : Inv X pins σ H s) : s.heap.FunFrames X.base X.stack := by
  rcases I.ok.stk with e | ⟨e, hf⟩
  · rw [e]; exact I.funs
  · rw [e]
    obtain ⟨m, hn, _⟩ := I.loc
    refine .cons (by rw [I.ok.kind]; decide) hf hn ?_ I.funs
    exact Heap.get?_none_of_le (Nat.le_trans I.ok.bsz I.ok.above)
theorem Inv.stkSub (I : Inv X pins σ H s) : ∀ b ∈ frs X.stack, b ∈ X.env.locals :: X.fs := fun b hb => by
  rcases I.ok.stk with e | ⟨e, hf⟩
  · rw [e] at hb; exact List.mem_cons_of_mem _ hb
  · rw [e] at hb
    unfold frs at hb
    rw [List.filterMap_cons, hf] at hb
    exact hb
theorem Inv.stkFree (I : Inv X pins σ H s) : ∀ b ∈ frs X.stack, H b = none := fun b hb => by
  rcases List.mem_cons.mp (I.stkSub b hb) with e | hb
  · rw [e]; exact I.free
  · obtain ⟨_, o, ho, _⟩ := I.ok.funs.mem hb
    exact I.base.free b o ho (I.ok.frf b hb) fun z => I.ok.exfs b z hb

/-- THE STEP: the untracked objects but the frame and the records at ch are kept (the callers' frames up to slots), the frame's map is kept, the new abstract heap is held -/
theorem Inv.step {g' : Array GenState} {t' : Nat} {d' : Drawn} {ch : List Addr} (I : Inv X pins σ H s)
    (hch : ∀ b ∈ ch, (b ∈ X.ex ∨ X.s_0.heap.objs.size ≤ b) ∧ b ≠ X.env.locals ∧ (∀ x c, X.env.cells.lookup x = some c → c ≠ b) ∧ ∀ p ∈ X.pn ++ pins, p.1 ≠ b)
    (keep : ∀ b o, b ≠ X.env.locals → b ∉ X.fs → b ∉ ch → s.heap.get? b = some o → H b = none → h'.get? b = some o)
    (slot : ∀ b o, b ≠ X.env.locals → b ∈ X.fs → b ∉ ch → s.heap.get? b = some o → H b = none → ∃ sl, h'.get? b = some { o with slots := sl }) (free : ∀ b o, b ∉ ch → s.heap.get? b = some o → H b = none → H' b = none)
    (there : ∀ b o, b ∉ ch → s.heap.get? b = some o → ∃ o', h'.get? b = some o')
    (tups : ∀ b xs, H b = some (.tup xs) → H' b = some (.tup xs)) (frzs : ∀ b o u, H b = some (.frz o u) → H' b = some (.frz o u)) (tbls : ∀ b ps, H b = some (.tbl ps) → ∃ more, H' b = some (.tbl (ps ++ more)))
    (ns : ∀ m, s.heap.Ns X.env.locals m → h'.Ns X.env.locals m) (hok : HOk X.prog X.w H' h') (hg : AllBare g') :
    Inv X pins σ H' { s with heap := h', gens := g', drawn := d', toks := t' } := by
  have neL : ∀ b o, X.s_0.heap.get? b = some o → b ≠ X.env.locals := fun b o e => Nat.ne_of_lt (Nat.lt_of_lt_of_le (Heap.lt_size e) I.ok.above)
  have neC : ∀ b o, X.s_0.heap.get? b = some o → b ∉ X.ex → b ∉ ch := fun b o e hx hb => by
    rcases (hch b hb).1 with z | z
    · exact hx z
    · exact absurd (Nat.lt_of_lt_of_le (Heap.lt_size e) z) (Nat.lt_irrefl _)
  have cellK : ∀ x c, X.env.cells.lookup x = some c → ∀ v, s.heap.IsCell c v → h'.IsCell c v := fun x c e v ⟨o, ho, hd⟩ => by
    have nch : c ∉ ch := fun z => (hch c z).2.2.1 x c e rfl
    by_cases hc : c ∈ X.fs
    · obtain ⟨sl, q⟩ := slot c o (I.cne x c e) hc nch ho (I.freeC x c e)
      exact ⟨_, q, hd⟩
    · exact ⟨o, keep c o (I.cne x c e) hc nch ho (I.freeC x c e), hd⟩
  refine ⟨I.ok, I.os, hg, ⟨fun b o e n hb hx => ?_, fun b o e n hb hx => ?_, fun b o e n hx => ?_, fun b o e hx => ?_, fun b xs e => tups b xs (I.base.tups b xs e), fun b o xs e => frzs b o xs (I.base.frzs b o xs e), fun b ps e => ?_⟩, ?_, fun x c e => ?_, ?_, fun x c e => ?_, fun p hp => ?_, hok, I.len⟩
  · exact keep b o (neL b o e) hb (neC b o e hx) (I.base.keep b o e n hb hx) (I.base.free b o e n hx)
  · obtain ⟨sl, e1⟩ := I.base.slot b o e n hb hx
    obtain ⟨sl', e2⟩ := slot b _ (neL b o e) hb (neC b o e hx) e1 (I.base.free b o e n hx)
    exact ⟨sl', e2⟩
  · obtain ⟨o', e1⟩ := I.base.there b o e hx
    exact free b o' (neC b o e hx) e1 (I.base.free b o e n hx)
  · obtain ⟨o', e1⟩ := I.base.there b o e hx
    exact there b o' (neC b o e hx) e1
  · obtain ⟨m1, e1⟩ := I.base.tbls b ps e
    obtain ⟨m2, e2⟩ := tbls b _ e1
    exact ⟨m1 ++ m2, by rw [e2, Array.append_assoc]⟩
  · obtain ⟨m, hn, hl⟩ := I.loc
    refine ⟨m, ns m hn, fun i x v e1 e2 e3 => ?_⟩
    obtain ⟨u, r, l⟩ := hl i x v e1 e2 e3
    refine ⟨u, r, ?_⟩
    rcases l with l | ⟨k, c, e, z⟩
    · exact .inl l
    · exact .inr ⟨k, c, e, cellK x c e _ z⟩
  · obtain ⟨v, z⟩ := I.cell x c e
    exact ⟨v, cellK x c e v z⟩
  · obtain ⟨m, ⟨o, _, _, ho, _⟩, _⟩ := I.loc
    exact free _ o (fun z => (hch _ z).2.1 rfl) ho I.free
  · obtain ⟨v, o, ho, hd⟩ := I.cell x c e
    exact free c o (fun z => (hch c z).2.2.1 x c e rfl) ho (I.freeC x c e)
  · obtain ⟨e, n, ne, nf, d⟩ := I.pin p hp
    have nch : p.1 ∉ ch := fun z => (hch p.1 z).2.2.2 p hp rfl
    exact ⟨keep p.1 p.2 ne nf nch e n, free p.1 p.2 nch e n, ne, nf, d⟩
/-- .. where the frame's own object is kept too -/
theorem Inv.un {t' : Nat} (I : Inv X pins σ H s) (u : Un X.fs [] H H' s.heap h') (hok : HOk X.prog X.w H' h') : Inv X pins σ H' { s with heap := h', toks := t' } := by
  obtain ⟨m, ⟨o, es, ep, ho, r⟩, _⟩ := id I.loc
  obtain ⟨sl, hL⟩ := u.any ho I.free (by simp)
  exact I.step (g' := s.gens) (d' := s.drawn) (ch := []) (fun _ z => nomatch z) (fun b o _ hb _ e n => u.keep b o e n hb (by simp)) (fun b o _ hb _ e n => u.slot b o e n hb (by simp)) (fun b o _ e n => u.free b o e n (by simp)) (fun b o _ e => u.there b o e (by simp)) u.tups u.frzs u.tbls (fun m' hm => by
    obtain ⟨o', es', ep', ho', r'⟩ := hm
    rw [ho] at ho'; cases ho'
    exact ⟨_, es', ep', hL, r'⟩) hok I.bare
/-- behind a call (or a comprehension's block): the slots of this frame may have changed too, the records at ch may have turned -/
theorem Inv.call {g' : Array GenState} {t' : Nat} {d' : Drawn} {ch : List Addr} (I : Inv X pins σ H s) (u : Un (frs X.stack) ch H H' s.heap h') (hok : HOk X.prog X.w H' h') (hg : AllBare g')
    (hch : ∀ b ∈ ch, (b ∈ X.ex ∨ X.s_0.heap.objs.size ≤ b) ∧ b ≠ X.env.locals ∧ (∀ x c, X.env.cells.lookup x = some c → c ≠ b) ∧ ∀ p ∈ X.pn ++ pins, p.1 ≠ b) :
    Inv X pins σ H' { s with heap := h', gens := g', drawn := d', toks := t' } := by
  obtain ⟨m, ⟨o, es, ep, ho, r⟩, _⟩ := id I.loc
  obtain ⟨sl, hL⟩ := u.any ho I.free fun z => (hch _ z).2.1 rfl
  exact I.step (ch := ch) hch (fun b o hL hb hc e n => u.keep b o e n (fun z => (List.mem_cons.mp (I.stkSub b z)).elim hL hb) hc) (fun b o _ _ hc e n => u.any e n hc) (fun b o hc e n => u.free b o e n hc) (fun b o hc e => u.there b o e hc) u.tups u.frzs u.tbls (fun m' hm => by
    obtain ⟨o', es', ep', ho', r'⟩ := hm
    rw [ho] at ho'; cases ho'
    exact ⟨_, es', ep', hL, r'⟩) hok hg
/-- an untracked record of ours (an iterator) has turned -/
theorem Inv.turned {t' : Nat} {it : Addr} (I : Inv X pins σ H s) (k : ∀ b o, b ≠ it → s.heap.get? b = some o → h'.get? b = some o) (hn : H it = none) (hL : it ≠ X.env.locals)
    (h1 : it ∈ X.ex ∨ X.s_0.heap.objs.size ≤ it) (h2 : ∀ x c, X.env.cells.lookup x = some c → c ≠ it) (h3 : ∀ p ∈ X.pn ++ pins, p.1 ≠ it) : Inv X pins σ H { s with heap := h', toks := t' } := by
  have nit : ∀ b u, H b = some u → b ≠ it := fun b u e z => by rw [z, hn] at e; cases e
  refine I.step (g' := s.gens) (d' := s.drawn) (ch := [it]) (fun b hb => ?_) (fun b o _ _ hc e _ => k b o (fun z => hc (by simp [z])) e) (fun b o _ _ hc e _ => ⟨o.slots, k b o (fun z => hc (by simp [z])) e⟩) (fun _ _ _ _ n => n)
    (fun b o hc e => ⟨o, k b o (fun z => hc (by simp [z])) e⟩) (fun _ _ e => e) (fun _ _ _ e => e) (fun b ps e => ⟨#[], by rw [e]; simp⟩) (fun m hm => ?_) (fun b u e => ?_) I.bare
  · have e : b = it := by simpa using hb
    subst e
    exact ⟨h1, hL, h2, h3⟩
  · obtain ⟨o, es, ep, ho, r⟩ := hm
    exact ⟨o, es, ep, k _ o (Ne.symm hL) ho, r⟩
  · refine (I.hok b u e).stay (fun c v hc q => k c v ?_ q) (fun _ q => q) fun _ _ q => q
    rcases hc with z | z
    · rw [z]; exact nit b u e
    · exact nit c _ z
theorem Inv.tok (I : Inv X pins σ H s) (t : Nat) : Inv X pins σ H { s with toks := t } := I.un (h' := s.heap) (t' := t) Un.refl I.hok
/-- all objects kept -/
theorem Inv.kept {t' : Nat} (I : Inv X pins σ H s) (k : ∀ b u, s.heap.get? b = some u → h'.get? b = some u) : Inv X pins σ H { s with heap := h', toks := t' } := I.un (Un.kept k) (I.hok.kept k)
/-- a new object laid and tracked -/
theorem Inv.laid {a : Addr} {o : HO} {t' : Nat} (I : Inv X pins σ H s) (k : ∀ b u, s.heap.get? b = some u → h'.get? b = some u) (hp : s.heap.objs.size ≤ a) (new : ObjOk X.prog X.w (upd H a o) h' a o) :
    Inv X pins σ (upd H a o) { s with heap := h', toks := t' } := I.un (Un.laid k hp (I.hok.fresh hp)) (I.hok.laid k hp new)
/-- an object written -/
theorem Inv.write {x e : Addr} {o : HO} {t' : Nat} (I : Inv X pins σ H s) (mu : Mut (H x)) (he : e = x ∨ H e = some (.own x)) (k : ∀ b u, b ≠ e → s.heap.get? b = some u → h'.get? b = some u) (heo : ∃ u, h'.get? e = some u)
    (new : ObjOk X.prog X.w (upd H x o) h' x o) : Inv X pins σ (upd H x o) { s with heap := h', toks := t' } := I.un (Un.write mu he k heo) (I.hok.write mu he k heo new)
/-- forgetting slots, pins -/
theorem Inv.weak {σ' : List (Option V)} (I : Inv X pins σ H s) (hl : σ'.length = σ.length) (w : ∀ (i : Nat) v, σ'[i]? = some (some v) → σ[i]? = some (some v)) : Inv X pins σ' H s :=
  ⟨I.ok, I.os, I.bare, I.base, let ⟨m, hn, hl'⟩ := I.loc; ⟨m, hn, fun i x v e1 e2 e3 => hl' i x v e1 (w i v e2) e3⟩, I.cell, I.free, I.freeC, I.pin, I.hok, hl.trans I.len⟩
theorem Inv.pins_of {pins' : List (Addr × Obj)} (I : Inv X pins σ H s) (h : ∀ p ∈ pins', s.heap.get? p.1 = some p.2 ∧ H p.1 = none ∧ p.1 ≠ X.env.locals ∧ p.1 ∉ X.fs ∧ ∀ v, p.2.data ≠ .cell v) : Inv X pins' σ H s :=
  ⟨I.ok, I.os, I.bare, I.base, I.loc, I.cell, I.free, I.freeC, fun p hp => (List.mem_append.mp hp).elim (fun z => I.pin p (List.mem_append_left _ z)) (h p), I.hok, I.len⟩

theorem nodup_ix {N : List Str} (hN : N.Nodup) {i j : Nat} {x : Str} (a : N[i]? = some x) (b : N[j]? = some x) : i = j := by
  obtain ⟨h1, e1⟩ := List.getElem?_eq_some_iff.mp a
  obtain ⟨h2, e2⟩ := List.getElem?_eq_some_iff.mp b
  exact (List.getElem_inj hN).mp (e1.trans e2.symm)

/-- a name is stored; what changed -/
theorem store_ok2 {M : Model} {A : Around} {E : Value → Shared → Prop} {i : Nat} {x : Str} {v : V} {u : Value} {Q : Unit → Shared → Prop} (I : Inv X pins σ H s) (hN : X.N.Nodup) (hi : X.N[i]? = some x) (hx : Loc X.env.scope x) (r : RelV v u)
    (h : ∀ s', Inv X pins (σ.set i (some v)) H s' → (∃ a, Heap.SameBut a s.heap s'.heap ∧ (a = X.env.locals ∨ X.env.cells.lookup x = some a)) → Q () s') (hf : X.fn x = true ∨ X.env.scope.names.lookup x = some .local := by first | exact .inl rfl | exact .inr rfl | assumption) : wpAny M A (storeName X.env x u) Q E s := by
  obtain ⟨m, hn, hl⟩ := id I.loc
  have hcls : (X.env.scope.kind == .class || (X.env.scope.kind == .module && X.env.locals != X.env.globals)) = false := by rw [I.ok.kind]; rfl
  have hiσ : i < σ.length := by rw [I.len]; exact (List.getElem?_eq_some_iff.mp hi).1
  have cne := I.cne
  have tracked : ∀ {a : Addr} {h' : Heap}, (∃ o, s.heap.get? a = some o ∧ H a = none) → Heap.SameBut a s.heap h' → HOk X.prog X.w H h' := fun {a h'} ha hs b ob e => by
    obtain ⟨_, _, hfree⟩ := ha
    refine (I.hok b ob e).stay (fun c w' hc q => (hs.2 c ?_).trans q) (fun _ q => q) fun _ _ q => q
    rintro rfl
    rcases hc with rfl | hc
    · rw [hfree] at e; cases e
    · rw [hfree] at hc; cases hc
  rcases hx with hk | hk
  · refine wpAny_storeName_local hk hn (fun h' hn' hs => ?_) hcls
    obtain ⟨oL, _, _, hoL, _⟩ := id hn
    refine h _ ⟨I.ok, I.os, I.bare, ⟨fun b o e n hb hx => ?_, fun b o e n hb hx => ?_, I.base.free, fun b o e hx => ?_, I.base.tups, I.base.frzs, I.base.tbls⟩, ⟨_, hn', fun j y v' e1 e2 e3 => ?_⟩, fun y c e => ?_, I.free, I.freeC, fun p hp => ?_, tracked ⟨oL, hoL, I.free⟩ hs, by simpa using I.len⟩ ⟨_, hs, .inl rfl⟩
    · exact (hs.2 b (Nat.ne_of_lt (Nat.lt_of_lt_of_le (Heap.lt_size e) I.ok.above))).trans (I.base.keep b o e n hb hx)
    · obtain ⟨sl, e1⟩ := I.base.slot b o e n hb hx
      exact ⟨sl, (hs.2 b (Nat.ne_of_lt (Nat.lt_of_lt_of_le (Heap.lt_size e) I.ok.above))).trans e1⟩
    · obtain ⟨o', e1⟩ := I.base.there b o e hx
      exact ⟨o', (hs.2 b (Nat.ne_of_lt (Nat.lt_of_lt_of_le (Heap.lt_size e) I.ok.above))).trans e1⟩
    · by_cases hj : j = i
      · subst hj
        rw [hi] at e1; cases e1
        rw [List.getElem?_set_self hiσ] at e2
        cases e2
        exact ⟨u, r, .inl ⟨hk, by simp⟩⟩
      · rw [List.getElem?_set_ne (Ne.symm hj)] at e2
        obtain ⟨u', r', q⟩ := hl j y v' e1 e2 e3
        refine ⟨u', r', ?_⟩
        rcases q with ⟨k, e⟩ | ⟨k, c, e, z⟩
        · refine .inl ⟨k, ?_⟩
          have : y ≠ x := fun e => hj (nodup_ix hN e1 (e ▸ hi))
          simp [this, e]
        · exact .inr ⟨k, c, e, z.sameBut hs (cne y c e)⟩
    · obtain ⟨w', z⟩ := I.cell y c e
      exact ⟨w', z.sameBut hs (cne y c e)⟩
    · obtain ⟨e, n, ne, nf, d⟩ := I.pin p hp
      exact ⟨(hs.2 p.1 ne).trans e, n, ne, nf, d⟩
  · have hfn : X.fn x = true := by
      rcases hf with z | z
      · exact z
      · rw [z] at hk; cases hk
    obtain ⟨c, hc⟩ := I.ok.has x (.inl hk)
    obtain ⟨w', z⟩ := I.cell x c hc
    refine wpAny_storeName_cell I.ok.kind hk hc z (fun h' hc' hs => ?_)
    obtain ⟨oc, hoc, hocd⟩ := id z
    refine h { s with heap := h' } ⟨I.ok, I.os, I.bare, ⟨fun b o e n hb hx => ?_, fun b o e n hb hx => ?_, I.base.free, fun b o e hx => ?_, I.base.tups, I.base.frzs, I.base.tbls⟩, ⟨m, hn.sameBut hs (Ne.symm (cne x c hc)), fun j y v' e1 e2 e3 => ?_⟩, fun y c' e => ?_, I.free, I.freeC, fun p hp => ?_, tracked ⟨oc, hoc, I.freeC x c hc⟩ hs, by simpa using I.len⟩ ⟨c, hs, .inr hc⟩
    · exact (hs.2 b (Nat.ne_of_lt (Nat.lt_of_lt_of_le (Heap.lt_size e) (I.ok.cab x c hfn hc)))).trans (I.base.keep b o e n hb hx)
    · obtain ⟨sl, e1⟩ := I.base.slot b o e n hb hx
      exact ⟨sl, (hs.2 b (Nat.ne_of_lt (Nat.lt_of_lt_of_le (Heap.lt_size e) (I.ok.cab x c hfn hc)))).trans e1⟩
    · obtain ⟨o', e1⟩ := I.base.there b o e hx
      exact ⟨o', (hs.2 b (Nat.ne_of_lt (Nat.lt_of_lt_of_le (Heap.lt_size e) (I.ok.cab x c hfn hc)))).trans e1⟩
    · by_cases hj : j = i
      · subst hj
        rw [hi] at e1; cases e1
        rw [List.getElem?_set_self hiσ] at e2
        cases e2
        exact ⟨u, r, .inr ⟨.inl hk, c, hc, hc'⟩⟩
      · rw [List.getElem?_set_ne (Ne.symm hj)] at e2
        obtain ⟨u', r', q⟩ := hl j y v' e1 e2 e3
        refine ⟨u', r', ?_⟩
        rcases q with q | ⟨k, c', e, z'⟩
        · exact .inl q
        · refine .inr ⟨k, c', e, z'.sameBut hs ?_⟩
          rintro rfl
          exact hj (nodup_ix hN e1 (I.ok.inj _ _ _ e hc ▸ hi))
    · by_cases hcc : c' = c
      · subst hcc; exact ⟨_, hc'⟩
      · obtain ⟨w2, z2⟩ := I.cell y c' e
        exact ⟨w2, z2.sameBut hs hcc⟩
    · obtain ⟨e, n, ne, nf, d⟩ := I.pin p hp
      refine ⟨(hs.2 p.1 ?_).trans e, n, ne, nf, d⟩
      intro q
      rw [q, hoc] at e
      have q' : oc = p.2 := Option.some.inj e
      exact d w' (by rw [← q']; exact hocd)
theorem store_ok {M : Model} {A : Around} {E : Value → Shared → Prop} {i : Nat} {x : Str} {v : V} {u : Value} {Q : Unit → Shared → Prop} (I : Inv X pins σ H s) (hN : X.N.Nodup) (hi : X.N[i]? = some x) (hx : Loc X.env.scope x) (r : RelV v u)
    (h : ∀ s', Inv X pins (σ.set i (some v)) H s' → Q () s') (hf : X.fn x = true ∨ X.env.scope.names.lookup x = some .local := by first | exact .inl rfl | exact .inr rfl | assumption) : wpAny M A (storeName X.env x u) Q E s :=
  store_ok2 I hN hi hx r (fun s' I' _ => h s' I') hf
/-- behind a call or a block, the state as it is -/
theorem Inv.call' {s' : Shared} {ch : List Addr} (I : Inv X pins σ H s) (ho : s'.os = s.os) (u : Un (frs X.stack) ch H H' s.heap s'.heap) (hok : HOk X.prog X.w H' s'.heap) (hg : AllBare s'.gens)
    (hch : ∀ b ∈ ch, (b ∈ X.ex ∨ X.s_0.heap.objs.size ≤ b) ∧ b ≠ X.env.locals ∧ (∀ x c, X.env.cells.lookup x = some c → c ≠ b) ∧ ∀ p ∈ X.pn ++ pins, p.1 ≠ b) : Inv X pins σ H' s' := by
  obtain ⟨h', g', d', t', o'⟩ := s'
  have e : o' = s.os := ho
  subst e
  exact I.call (g' := g') (t' := t') (d' := d') u hok hg hch
end

/-! ### the judgements -/
/-- an exception: its class, its own dict's address (where it has one), the abstract heap behind it -/
abbrev XK := Value → Option Addr → Hp → Prop
abbrev St := List (Option V)
abbrev VK := V → Hp → Prop
/-- an expression's reading; a test's; an argument list's -/
abbrev TE := St → Hp → VK → Prop
abbrev TT := St → Hp → (Bool → Hp → Prop) → Prop
abbrev TA := St → Hp → (List V → Hp → Prop) → Prop
/-- what is wanted behind a statement -/
structure Ends where
  nx : St → Hp → Prop
  rt : VK
  bk : St → Hp → Prop := fun _ _ => False
  ct : St → Hp → Prop := fun _ _ => False
abbrev TS := Ends → St → Hp → Prop

def EP (X : Cx) (pins : List (Addr × Obj)) (σ : St) (Q : VK) (u : Value) (s' : Shared) : Prop := ∃ v H', Inv X pins σ H' s' ∧ RelV v u ∧ Q v H'
def TP (X : Cx) (pins : List (Addr × Obj)) (σ : St) (Q : Bool → Hp → Prop) (b : Bool) (s' : Shared) : Prop := ∃ H', Inv X pins σ H' s' ∧ Q b H'
def AP (X : Cx) (pins : List (Addr × Obj)) (σ : St) (Q : List V → Hp → Prop) (us : List Value) (s' : Shared) : Prop := ∃ vs H', Inv X pins σ H' s' ∧ Vals vs us ∧ Q vs H'
def SP (X : Cx) (pins : List (Addr × Obj)) (D : Ends) (f : Flow) (s' : Shared) : Prop :=
  match f with
  | .next => ∃ σ' H', Inv X pins σ' H' s' ∧ D.nx σ' H'
  | .brk => ∃ σ' H', Inv X pins σ' H' s' ∧ D.bk σ' H'
  | .cont => ∃ σ' H', Inv X pins σ' H' s' ∧ D.ct σ' H'
  | .ret u => ∃ v σ' H', Inv X pins σ' H' s' ∧ RelV v u ∧ D.rt v H'

def PE (X : Cx) (e : Expr) (t : TE) : Prop :=
  ∀ (pins : List (Addr × Obj)) (s : Shared) (σ : St) (H : Hp) (Q : VK), Inv X pins σ H s → t σ H Q → wpAny (model X.prog X.w) X.A (eval e X.env) (EP X pins σ Q) X.xe s
def PT (X : Cx) (e : Expr) (t : TT) : Prop :=
  ∀ (pins : List (Addr × Obj)) (s : Shared) (σ : St) (H : Hp) (Q : Bool → Hp → Prop), Inv X pins σ H s → t σ H Q → wpAny (model X.prog X.w) X.A (isTrue e X.env (eval e X.env)) (TP X pins σ Q) X.xe s
/-- a test whatever its 'whole' is (and, or) -/
def PW (X : Cx) (e : Expr) (t : TT) : Prop :=
  ∀ (whole : Sem Value) (pins : List (Addr × Obj)) (s : Shared) (σ : St) (H : Hp) (Q : Bool → Hp → Prop), Inv X pins σ H s → t σ H Q → wpAny (model X.prog X.w) X.A (isTrue e X.env whole) (TP X pins σ Q) X.xe s
theorem PW.pt {X : Cx} {e : Expr} {t : TT} (h : PW X e t) : PT X e t := h _
/-- an argument list (no star), from the left -/
def PA (X : Cx) (es : List Expr) (t : TA) : Prop :=
  ∀ (pos : Pos) (pins : List (Addr × Obj)) (s : Shared) (σ : St) (H : Hp) (Q : List V → Hp → Prop), Inv X pins σ H s → t σ H Q → wpAny (model X.prog X.w) X.A (spliced (backTo pos (starEach es X.env))) (AP X pins σ Q) X.xe s
def PS (X : Cx) (st : Stmt) (t : TS) : Prop :=
  ∀ (pins : List (Addr × Obj)) (s : Shared) (σ : St) (H : Hp) (D : Ends), Inv X pins σ H s → t D σ H → wpAny (model X.prog X.w) X.A (exec st X.env) (SP X pins D) X.xe s
def PSs (X : Cx) (st : List Stmt) (t : TS) : Prop :=
  ∀ (pins : List (Addr × Obj)) (s : Shared) (σ : St) (H : Hp) (D : Ends), Inv X pins σ H s → t D σ H → wpAny (model X.prog X.w) X.A (execs st X.env) (SP X pins D) X.xe s
/-- weaken the end -/
theorem thn {α : Type} {t : Sem α} {Q Q' : α → Shared → Prop} {M : Model} {A : Around} {E : Value → Shared → Prop} {s : Shared} (h : wpAny M A t Q E s) (hQ : ∀ a s, Q a s → Q' a s) : wpAny M A t Q' E s := wpAny_mono h hQ fun _ _ x => x
end L2

namespace L2
open PySem PySem.Spec PyProof.Rows
section
variable {X : Cx}

/-! ### names and constants -/
def tVar (i : Nat) : TE := fun σ H Q => ∃ v, σ[i]? = some (some v) ∧ Q v H
def tC (v : V) : TE := fun _ H Q => Q v H
theorem pe_var {i : Nat} {x : Str} {pos : Pos} (hN : X.N[i]? = some x) (hv : Vis X.env.scope x) (hd : (x == ("__debug__" : Str)) = false := by decide) (hcd : (x == ("__classdict__" : Str)) = false := by decide) : PE X (.Name x pos) (tVar i) := by
  intro pins s σ H Q I h
  obtain ⟨v, e, h⟩ := h
  obtain ⟨m, hn, hl⟩ := I.loc
  obtain ⟨u, r, l⟩ := hl i x v hN e hv
  have fin : EP X pins σ Q u s := ⟨v, H, I, r, h⟩
  rcases l with ⟨hk, hm⟩ | ⟨hk, c, hc, hcell⟩
  · exact wpAny_Name (wpAny_loadName_local I.ok.kind hk hn hm fin) hd
  · rcases hk with hk | hk
    · exact wpAny_Name (wpAny_loadName_cell I.ok.kind hk hc hcell fin) hd
    · exact wpAny_Name (wpAny_loadName_free I.ok.kind hk hc hcell fin hcd) hd
theorem pe_int {i j pos} : PE X (.Constant (.int i) j pos) (tC (.int i)) := fun _ _ _ H _ I h => wpAny_Constant_int ⟨.int i, H, I.tok _, ⟨_, rfl⟩, h⟩
theorem pe_bl {b j pos} : PE X (.Constant (.bool b) j pos) (tC (.bl b)) := fun _ _ _ H _ I h => Constant_bool ⟨.bl b, H, I, rfl, h⟩
theorem pe_str {x j pos} : PE X (.Constant (.str x) j pos) (tC (.str x)) := fun _ _ _ H _ I h => Calls.Constant_str ⟨.str x, H, I.tok _, ⟨_, rfl⟩, h⟩

/-- a global name of the def -/
def Gl (X : Cx) (x : Str) : Prop := X.env.kindOf x = some .globalImplicit
theorem ld_glob {E : Value → Shared → Prop} {pins : List (Addr × Obj)} {s : Shared} {σ : St} {H : Hp} {x : Str} {u : Value} {pos : Pos} {Q : Value → Shared → Prop} (I : Inv X pins σ H s) (hg : Gl X x) (hm : X.mg x = some u) (h : Q u s)
    (hd : (x == ("__debug__" : Str)) = false := by decide) : wpAny (model X.prog X.w) X.A (eval (.Name x pos) X.env) Q E s :=
  Calls.Name_function_global I.ok.kind hg (Calls.loadGlobal_global (by rw [I.ok.glob]; exact I.mod.glob.keeps I.bk) hm h) hd
theorem ld_blt {E : Value → Shared → Prop} {pins : List (Addr × Obj)} {s : Shared} {σ : St} {H : Hp} {x : Str} {u : Value} {pos : Pos} {Q : Value → Shared → Prop} (I : Inv X pins σ H s) (hg : Gl X x) (hm : X.mg x = none) (hv : bootBuiltins x = some u) (h : Q u s)
    (hn : x ≠ "__name__" := by decide) (hd : (x == ("__debug__" : Str)) = false := by decide) : wpAny (model X.prog X.w) X.A (eval (.Name x pos) X.env) Q E s := by
  obtain ⟨mb, h1, h2⟩ := I.mod.blt
  exact Calls.Name_function_global I.ok.kind hg (Calls.loadGlobal_builtin (by rw [I.ok.glob]; exact I.mod.glob.keeps I.bk) hm (by rw [I.ok.blt]; exact h1.keeps I.bk) ((h2 x hn).trans hv) h) hd
/-- a module's constant, a class, a function, as a value -/
theorem pe_glob {x : Str} {v : V} {u : Value} {pos : Pos} (hg : Gl X x) (hm : X.mg x = some u) (r : RelV v u) (hd : (x == ("__debug__" : Str)) = false := by decide) : PE X (.Name x pos) (tC v) :=
  fun _ _ _ H _ I h => ld_glob I hg hm ⟨v, H, I, r, h⟩ hd
/-! ### arithmetic -/
variable {a b : Expr} {ta tb : TE} {pos : Pos}
/-! ### comparisons -/
/-- a comparison as a value, as a test -/
def tB (t : TE) : TT := fun σ H Q => t σ H fun x H1 => ∃ c, x = .bl c ∧ Q c H1
/-- an expression whose value is a bool, as a test -/
theorem pt_val {e : Expr} {t : TE} (h : PE X e t) (he : ∀ whole, isTrue e X.env whole = (do let v ← whole; standAt e.pos; holding [v] (truthy v)) := by intro _; rfl) : PT X e (tB t) := by
  intro pins s σ H Q I hw
  refine isTrue_plain (thn (h pins s σ H _ I hw) fun v s1 ⟨x, H1, I1, r1, q1⟩ => ?_) (he _)
  obtain ⟨d, rfl, q⟩ := q1
  cases r1
  exact wpAny_truthy_bool ⟨H1, I1, q⟩

/-! ### and, or, not -/
variable {tA tB' : TT} {rest : List Expr}
def tAnd (t u : TT) : TT := fun σ H Q => t σ H fun c H1 => if c = true then u σ H1 Q else Q false H1
def tNot (t : TT) : TT := fun σ H Q => t σ H fun c H1 => Q (!c) H1
theorem pw_and1 (ha : PT X a tA) : PW X (.BoolOp .And [a] pos) tA := by
  intro wh pins s σ H Q I h
  refine isTrue_and (thn (ha pins s σ H Q I h) fun c s1 e => ?_)
  cases c with
  | true => exact isTrue_and_nil e
  | false => exact e
theorem pw_and (ha : PT X a tA) (hb : PW X (.BoolOp .And (b :: rest) pos) tB') : PW X (.BoolOp .And (a :: b :: rest) pos) (tAnd tA tB') := by
  intro wh pins s σ H Q I h
  refine isTrue_and (thn (ha pins s σ H _ I h) fun c s1 ⟨H1, I1, q1⟩ => ?_)
  cases c with
  | true => exact hb wh pins s1 σ H1 Q I1 q1
  | false => exact ⟨H1, I1, q1⟩
theorem pt_not (ha : PT X a tA) : PT X (.UnaryOp .Not a pos) (tNot tA) := by
  intro pins s σ H Q I h
  exact isTrue_not (ha pins s σ H (fun c H1 => Q (!c) H1) I h)
def tNotV (ta : TE) : TE := fun σ H Q => ta σ H fun x H1 => ∃ c, x = .bl c ∧ Q (.bl (!c)) H1
theorem pe_not (ha : PE X a ta) : PE X (.UnaryOp .Not a pos) (tNotV ta) := by
  intro pins s σ H Q I h
  refine UnaryOp_ (thn (ha pins s σ H _ I h) fun v s1 ⟨x, H1, I1, r1, q1⟩ => ?_)
  obtain ⟨c, rfl, q1⟩ := q1
  cases r1
  exact not_of (wpAny_truthy_bool ⟨.bl (!c), H1, I1, rfl, q1⟩)
/-- a if t else b -/
def tIf (t : TT) (ta tb : TE) : TE := fun σ H Q => t σ H fun c H1 => if c = true then ta σ H1 Q else tb σ H1 Q
theorem pe_ifExp {c : Expr} (hc : PT X c tA) (ha : PE X a ta) (hb : PE X b tb) : PE X (.IfExp c a b pos) (tIf tA ta tb) := by
  intro pins s σ H Q I h
  refine wpAny_IfExp (thn (hc pins s σ H _ I h) fun d s1 ⟨H1, I1, q1⟩ => ?_)
  cases d with
  | true => exact ha pins s1 σ H1 Q I1 q1
  | false => exact hb pins s1 σ H1 Q I1 q1
end
end L2

namespace L2
open PySem PySem.Spec PyProof.Rows

/-! ### a list, a tuple that is read: tracked, frozen, or an object of the module -/
def SqL (K : PySem.W.Frag) (H : Hp) (a : Addr) (xs : List V) : Prop :=
  Rd H a (.lst xs) ∨
    ∃ (o : Obj) (its : Array Value) (n : Nat), K.lookup a = some o ∧ o.cls = .type "list" ∧ o.dict = none ∧ o.data = .seq its n ∧ its.size ≤ sizeLine ∧ Vals xs its.toList
def SqT (K : PySem.W.Frag) (H : Hp) (a : Addr) (xs : List V) : Prop :=
  Rd H a (.tup xs) ∨
    ∃ (o : Obj) (its : Array Value) (n : Nat), K.lookup a = some o ∧ o.cls = .type "tuple" ∧ o.data = .seq its n ∧ its.size ≤ sizeLine ∧ Vals xs its.toList
def absV : Value → Option V
  | .none => some .non
  | .bool b => some (.bl b)
  | .int i _ => some (.int i)
  | .str x _ => some (.str x)
  | .bytes b _ => some (.byt b)
  | .float b _ => some (.flt b)
  | .ref a => some (.ref a)
  | .type n => some (.ty n)
  | _ => none
theorem RelV.abs {x : V} {u : Value} (r : RelV x u) : absV u = some x := by
  cases x with
  | non => cases r; rfl
  | bl _ => cases r; rfl
  | int _ => obtain ⟨t, rfl⟩ := r; rfl
  | str _ => obtain ⟨t, rfl⟩ := r; rfl
  | byt _ => obtain ⟨t, rfl⟩ := r; rfl
  | flt _ => obtain ⟨t, rfl⟩ := r; rfl
  | ref _ => cases r; rfl
  | ty _ => cases r; rfl
theorem RelV.inj {x y : V} {u : Value} (r : RelV x u) (q : RelV y u) : x = y := Option.some.inj (r.abs.symm.trans q.abs)
theorem Vals.inj : ∀ {xs ys : List V} {us : List Value}, Vals xs us → Vals ys us → xs = ys
  | _, _, _, .nil, .nil => rfl
  | _, _, _, .cons r t, .cons r' t' => by rw [r.inj r', Vals.inj t t']
section
variable {X : Cx} {pins : List (Addr × Obj)} {σ : St} {H : Hp} {s : Shared} {a : Addr} {xs ys : List V}
theorem SqL.of {K : PySem.W.Frag} (h : H a = some (.lst xs)) : SqL K H a xs := .inl (.inl h)
theorem SqT.of {K : PySem.W.Frag} (h : H a = some (.tup xs)) : SqT K H a xs := .inl (.inl h)
theorem Inv.list (I : Inv X pins σ H s) (h : SqL X.K H a xs) : ∃ its : List Value, Vals xs its ∧ PlainL s.heap a its.toArray ∧ xs.length ≤ sizeLine := by
  rcases h with h | ⟨o, its, n, hk, hc, hd, hs, hz, r⟩
  · obtain ⟨z, its, n, r, e⟩ := h.ok I.hok
    exact ⟨its, r, ⟨_, n, e, rfl, rfl, rfl⟩, z⟩
  · refine ⟨its.toList, r, ⟨o, n, I.kIn a o hk, hc, hd, by simpa using hs⟩, ?_⟩
    have e := r.length
    simp only [Array.length_toList] at e
    omega
theorem Inv.tuple (I : Inv X pins σ H s) (h : SqT X.K H a xs) : ∃ its : List Value, Vals xs its ∧ IsTup s.heap a its.toArray ∧ xs.length ≤ sizeLine := by
  rcases h with h | ⟨o, its, n, hk, hc, hs, hz, r⟩
  · obtain ⟨z, its, r, p⟩ := h.ok I.hok
    exact ⟨its, r, p, z⟩
  · refine ⟨its.toList, r, ⟨o, I.kIn a o hk, hc, n, by simpa using hs⟩, ?_⟩
    have e := r.length
    simp only [Array.length_toList] at e
    omega
theorem Inv.list_inj (I : Inv X pins σ H s) (h : SqL X.K H a xs) (h' : SqL X.K H a ys) : xs = ys := by
  obtain ⟨its, r, ⟨o, n, e, _, _, d⟩, _⟩ := I.list h
  obtain ⟨its', r', ⟨o', n', e', _, _, d'⟩, _⟩ := I.list h'
  rw [e] at e'; cases e'
  rw [d] at d'
  injection d' with d1 _
  have : its = its' := by simpa using congrArg Array.toList d1
  subst this
  exact r.inj r'
theorem Inv.tuple_inj (I : Inv X pins σ H s) (h : SqT X.K H a xs) (h' : SqT X.K H a ys) : xs = ys := by
  obtain ⟨its, r, ⟨o, e, _, n, d⟩, _⟩ := I.tuple h
  obtain ⟨its', r', ⟨o', e', _, n', d'⟩, _⟩ := I.tuple h'
  rw [e] at e'; cases e'
  rw [d] at d'
  injection d' with d1 _
  have : its = its' := by simpa using congrArg Array.toList d1
  subst this
  exact r.inj r'
end

/-! ### another wish about exceptions -/
abbrev Cx.wish (X : Cx) (E : Value → Shared → Prop) : Cx := { X with xe := E }
/-- no exception leaves -/
abbrev Cx.nox (X : Cx) : Cx := X.wish fun _ _ => False
theorem Cx.Ok.wish {X : Cx} (ok : X.Ok) (E : Value → Shared → Prop) : (X.wish E).Ok :=
  ⟨ok.mod, ok.kind, ok.glob, ok.blt, ok.above, ok.inj, ok.has, ok.cab, ok.hd, ok.frames, ok.stk, ok.exf, ok.bs, ok.bsz, ok.noex, ok.exfs, ok.funs, ok.frf⟩
theorem Cx.Ok.unwish {X : Cx} {E : Value → Shared → Prop} (ok : (X.wish E).Ok) : X.Ok :=
  ⟨ok.mod, ok.kind, ok.glob, ok.blt, ok.above, ok.inj, ok.has, ok.cab, ok.hd, ok.frames, ok.stk, ok.exf, ok.bs, ok.bsz, ok.noex, ok.exfs, ok.funs, ok.frf⟩
section
variable {X : Cx} {pins : List (Addr × Obj)} {σ : St} {H : Hp} {s : Shared} {E : Value → Shared → Prop}
theorem Inv.wish (I : Inv X pins σ H s) (E : Value → Shared → Prop) : Inv (X.wish E) pins σ H s := ⟨I.ok.wish E, I.os, I.bare, I.base, I.loc, I.cell, I.free, I.freeC, I.pin, I.hok, I.len⟩
theorem Inv.unwish (I : Inv (X.wish E) pins σ H s) : Inv X pins σ H s := ⟨I.ok.unwish, I.os, I.bare, I.base, I.loc, I.cell, I.free, I.freeC, I.pin, I.hok, I.len⟩
theorem SP.unwish {D : Ends} {f : Flow} {s' : Shared} (h : SP (X.wish E) pins D f s') : SP X pins D f s' := by
  cases f with
  | next => obtain ⟨σ', H', I, q⟩ := h; exact ⟨σ', H', I.unwish, q⟩
  | brk => obtain ⟨σ', H', I, q⟩ := h; exact ⟨σ', H', I.unwish, q⟩
  | cont => obtain ⟨σ', H', I, q⟩ := h; exact ⟨σ', H', I.unwish, q⟩
  | ret u => obtain ⟨v, σ', H', I, r, q⟩ := h; exact ⟨v, σ', H', I.unwish, r, q⟩
theorem PE.nox {e : Expr} {t : TE} (h : PE X.nox e t) : PE X e t := fun pins s σ H Q I hw =>
  wpAny_mono (h pins s σ H Q (I.wish _) hw) (fun _ _ ⟨v, H', I', r, q⟩ => ⟨v, H', I'.unwish, r, q⟩) fun _ _ z => False.elim z
theorem PT.nox {e : Expr} {t : TT} (h : PT X.nox e t) : PT X e t := fun pins s σ H Q I hw =>
  wpAny_mono (h pins s σ H Q (I.wish _) hw) (fun _ _ ⟨H', I', q⟩ => ⟨H', I'.unwish, q⟩) fun _ _ z => False.elim z
theorem PSs.nox {st : List Stmt} {t : TS} (h : PSs X.nox st t) : PSs X st t := fun pins s σ H D I hw =>
  wpAny_mono (h pins s σ H D (I.wish _) hw) (fun _ _ q => q.unwish) fun _ _ z => False.elim z
end

/-! ### blocks and small statements -/
section
variable {X : Cx} {st : Stmt} {rest : List Stmt} {t u : TS} {e : Expr} {te : TE} {pos : Pos}
def tNext : TS := fun D σ H => D.nx σ H
def tSeq (t u : TS) : TS := fun D σ H => t { D with nx := u D } σ H
theorem pss_nil : PSs X [] tNext := fun _ _ σ H _ I h => wpAny_execs_nil ⟨σ, H, I, h⟩
theorem pss_cons (h1 : PS X st t) (h2 : PSs X rest u) : PSs X (st :: rest) (tSeq t u) := by
  intro pins s σ H D I h
  refine wpAny_execs_cons (thn (h1 pins s σ H { D with nx := u D } I h) fun f s1 q => ?_)
  cases f with
  | next =>
    obtain ⟨σ', H', I', q⟩ := q
    exact h2 pins s1 σ' H' D I' q
  | ret v => exact q
  | brk => exact q
  | cont => exact q
theorem pss_one (h1 : PS X st t) : PSs X [st] t := by
  intro pins s σ H D I h
  refine wpAny_execs_cons (thn (h1 pins s σ H D I h) fun f s1 q => ?_)
  cases f with
  | next => exact wpAny_execs_nil q
  | ret v => exact q
  | brk => exact q
  | cont => exact q
/-- in a def's body nothing is shown -/
theorem Inv.quiet {pins : List (Addr × Obj)} {σ : St} {H : Hp} {s : Shared} (I : Inv X pins σ H s) : interactive X.env = false := by simp [interactive, I.ok.kind]
/-- an expression whose value is dropped -/
def tDrop (te : TE) : TS := fun D σ H => te σ H fun _ H1 => D.nx σ H1
theorem ps_expr (he : PE X e te) (hs : swapsWith e none pos.line X.env = pure false := by rfl) : PS X (.Expr e pos) (tDrop te) := by
  intro pins s σ H D I h
  exact wpAny_Expr_any (thn (he pins s σ H _ I h) fun v s1 ⟨x, H1, I1, r1, q1⟩ => ⟨σ, H1, I1, q1⟩) I.quiet hs
def tRet (te : TE) : TS := fun D σ H => te σ H D.rt
theorem ps_ret (he : PE X e te) : PS X (.Return (some e) pos) (tRet te) := by
  intro pins s σ H D I h
  exact wpAny_Return_some (thn (he pins s σ H _ I h) fun v s1 ⟨x, H1, I1, r1, q1⟩ => ⟨x, σ, H1, I1, r1, q1⟩)
def tIfS (c : TT) (t u : TS) : TS := fun D σ H => c σ H fun b H1 => if b = true then t D σ H1 else u D σ H1
theorem ps_if {c : Expr} {a b : List Stmt} {tc : TT} (hc : PT X c tc) (ha : PSs X a t) (hb : PSs X b u) : PS X (.If c a b pos) (tIfS tc t u) := by
  intro pins s σ H D I h
  refine wpAny_If (thn (hc pins s σ H _ I h) fun d s1 ⟨H1, I1, q1⟩ => ?_)
  cases d with
  | true => exact ha pins s1 σ H1 D I1 q1
  | false => exact hb pins s1 σ H1 D I1 q1
end

/-! ### targets -/
abbrev TG := V → St → Hp → (St → Hp → Prop) → Prop
abbrev TGs := List V → St → Hp → (St → Hp → Prop) → Prop
def PG (X : Cx) (target : Expr) (t : TG) : Prop :=
  ∀ (pins : List (Addr × Obj)) (s : Shared) (σ : St) (H : Hp) (v : V) (u : Value) (Q : St → Hp → Prop), Inv X pins σ H s → RelV v u → t v σ H Q →
    wpAny (model X.prog X.w) X.A (assign target X.env u) (fun _ s' => ∃ σ' H', Inv X pins σ' H' s' ∧ Q σ' H') X.xe s
/-- several targets, one after another -/
def PGs (X : Cx) (ts : List Expr) (t : TGs) : Prop :=
  ∀ (pins : List (Addr × Obj)) (s : Shared) (σ : St) (H : Hp) (vs : List V) (us : List Value) (Q : St → Hp → Prop), Inv X pins σ H s → Vals vs us → t vs σ H Q →
    wpAny (model X.prog X.w) X.A (assignInOrder ((assignEach ts X.env).map (·.2)) us) (fun _ s' => ∃ σ' H', Inv X pins σ' H' s' ∧ Q σ' H') X.xe s
section
variable {X : Cx} {pos : Pos}
def gName (i : Nat) : TG := fun v σ H Q => Q (σ.set i (some v)) H
theorem pg_name {i : Nat} {x : Str} (hN : X.N.Nodup) (hi : X.N[i]? = some x) (hx : Loc X.env.scope x) (hf : X.fn x = true ∨ X.env.scope.names.lookup x = some .local := by first | exact .inl rfl | exact .inr rfl | assumption) : PG X (.Name x pos) (gName i) := by
  intro pins s σ H v u Q I r h
  exact wpAny_assign_Name (store_ok I hN hi hx r (fun s' I' => ⟨_, H, I', h⟩) hf)
def gNil : TGs := fun vs σ H Q => vs = [] ∧ Q σ H
def gCons (t : TG) (u : TGs) : TGs := fun vs σ H Q => ∃ v r, vs = v :: r ∧ t v σ H fun σ' H' => u r σ' H' Q
theorem pgs_nil : PGs X [] gNil := by
  intro pins s σ H vs us Q I r h
  obtain ⟨e, h⟩ := h
  subst e
  cases r
  exact assignInOrder_nil ⟨σ, H, I, h⟩
theorem pgs_cons {e : Expr} {es : List Expr} {t : TG} {u : TGs} (h1 : PG X e t) (h2 : PGs X es u)
    (hs : (assignEach (e :: es) X.env).map (·.2) = assign e X.env :: (assignEach es X.env).map (·.2) := by rfl) : PGs X (e :: es) (gCons t u) := by
  intro pins s σ H vs us Q I r h
  obtain ⟨v, vr, e1, h⟩ := h
  subst e1
  cases r with
  | cons r rr =>
    rw [hs]
    refine assignInOrder_cons (thn (h1 pins s σ H _ _ _ I r h) fun _ s1 ⟨σ1, H1, I1, q1⟩ => ?_)
    exact h2 pins s1 σ1 H1 _ _ Q I1 rr q1
/-- (a, b, ..) = a tuple of that length -/
def gTup (K : PySem.W.Frag) (n : Nat) (t : TGs) : TG := fun v σ H Q => ∃ a xs, v = .ref a ∧ SqT K H a xs ∧ xs.length = n ∧ t xs σ H Q
theorem pg_tup {es : List Expr} {k : Nat} {t : TGs} {n : Nat} (hc : X.calm = true) (h : PGs X es t)
    (hn : (assignEach es X.env).length = n := by rfl) (hst : (assignEach es X.env).findIdx? (·.1) = none := by rfl) : PG X (.Tuple es k pos) (gTup X.K n t) := by
  intro pins s σ H v u Q I r hw
  obtain ⟨a, xs, e1, hq, hl, hw⟩ := hw
  subst e1
  cases r
  obtain ⟨its, rv, ht, hz⟩ := I.tuple hq
  refine assign_Tuple_tuple (I.ok.hd hc) ht (by simp [hn, ← hl, rv.length]) hst fun h' hx => ?_
  have I1 : Inv X pins σ H { s with heap := h' } := I.kept (t' := s.toks) fun b o e => hx b o (Nat.ne_of_lt (Heap.lt_size e)) e
  exact h pins _ σ H xs _ Q I1 (by simpa using rv) hw
/-- target = value -/
def tAsg (te : TE) (g : TG) : TS := fun D σ H => te σ H fun x H1 => g x σ H1 D.nx
theorem ps_asg {tg e : Expr} {te : TE} {g : TG} (he : PE X e te) (hg : PG X tg g) (hs : swapsWithSole [tg] e pos.line X.env = pure false := by rfl) (hw : swappedStores [tg] e X.env = pure none := by rfl)
    (h1 : (assignEach [tg] X.env).map (·.2) = [assign tg X.env] := by rfl) : PS X (.Assign [tg] e pos) (tAsg te g) := by
  intro pins s σ H D I h
  refine wpAny_Assign_stores (thn (he pins s σ H _ I h) fun v s1 ⟨x, H1, I1, r1, q1⟩ => ?_) hs hw
  rw [h1]
  exact thn (hg pins s1 σ H1 x v _ I1 r1 q1) fun _ s2 q => q
/-- name = value -/
theorem ps_set {i : Nat} {x : Str} {e : Expr} {te : TE} {pos' : Pos} (hN : X.N.Nodup) (hi : X.N[i]? = some x) (hx : Loc X.env.scope x) (he : PE X e te) (hs : swapsWith e (some (.Name x pos')) pos.line X.env = pure false := by rfl) (hf : X.fn x = true ∨ X.env.scope.names.lookup x = some .local := by first | exact .inl rfl | exact .inr rfl | assumption) :
    PS X (.Assign [.Name x pos'] e pos) (tAsg te (gName i)) := by
  intro pins s σ H D I h
  refine wpAny_Assign_Name (thn (he pins s σ H _ I h) fun v s1 ⟨y, H1, I1, r1, q1⟩ => ?_) hs
  exact store_ok I1 hN hi hx r1 (fun s2 I2 => ⟨_, H1, I2, q1⟩) hf
/-- a, b = x, y with plain local names: stored from the right; the pair itself is not tracked (the opening rows as in PyProof/Rows/TupAssign.lean:23) -/
def tPar (i j : Nat) (ta : TA) : TS := fun D σ H => ta σ H fun vs H1 => ∃ v w, vs = [v, w] ∧ D.nx ((σ.set i (some v)).set j (some w)) H1
theorem ps_par {i j : Nat} {x y : Str} {a b : Expr} {ta : TA} {px py pt : Pos} {kt k2 pt2} (hc : X.calm = true) (hN : X.N.Nodup) (hi : X.N[i]? = some x) (hj : X.N[j]? = some y) (hij : i ≠ j)
    (hx : X.env.scope.names.lookup x = some .local) (hy : X.env.scope.names.lookup y = some .local) (ha : PA X [a, b] ta)
    (hw : swappedStores [.Tuple [.Name x px, .Name y py] kt pt] (.Tuple [a, b] k2 pt2) X.env = pure (some [x, y]))
    (hs : swapsWithSole [.Tuple [.Name x px, .Name y py] kt pt] (.Tuple [a, b] k2 pt2) pos.line X.env = pure false := by rfl) :
    PS X (.Assign [.Tuple [.Name x px, .Name y py] kt pt] (.Tuple [a, b] k2 pt2) pos) (tPar i j ta) := by
  intro pins s σ H D I h
  rw [exec_Assign_arm]
  refine wpAny_bind (wpAny_standAt ?_)
  rw [hs]
  refine wpAny_bind (wpAny_pure ?_)
  rw [if_neg (by decide)]
  refine wpAny_bind (Tuple_ (thn (ha _ pins s σ H _ I h) fun us s1 ⟨vs, H1, I1, r1, q1⟩ => ?_))
  obtain ⟨v, w, e1, q1⟩ := q1
  subst e1
  obtain ⟨u1, u2, rfl, rv, rw'⟩ : ∃ u1 u2, us = [u1, u2] ∧ RelV v u1 ∧ RelV w u2 := by
    cases r1 with
    | cons p q =>
      cases q with
      | cons p' q' =>
        cases q'
        exact ⟨_, _, rfl, p, p'⟩
  refine wpAny_newObj_type ?_ (by show 2 ≤ sizeLine; decide)
  have I2 : Inv X pins σ H1 { s1 with heap := s1.heap.push { cls := .type "tuple", data := .seq [u1, u2].toArray } } := I1.kept (t' := s1.toks) fun b o e => Heap.get?_push_of_some _ e
  rw [hw]
  refine wpAny_bind (wpAny_pure ?_)
  show wpAny (model X.prog X.w) X.A (do rule "assign.swapped-stores"; let items ← unpackItems (.ref s1.heap.objs.size) 2 none; assignInOrder [fun v => bindName X.env y v, fun v => bindName X.env x v] items.reverse; pure Flow.next) _ _ _
  refine wpAny_bind (wpAny_rule (wpAny_bind (unpackItems_tuple (items := #[u1, u2]) (I.ok.hd hc) (IsTup.new s1.heap _) fun h' hx' => ?_)))
  have I3 := I2.kept (h' := h') (t' := s1.toks) fun b o e => hx' b o (Nat.ne_of_lt (Heap.lt_size e)) e
  show wpAny _ _ (assignInOrder [fun v => bindName X.env y v, fun v => bindName X.env x v] [u2, u1] >>= fun _ => pure Flow.next) _ _ _
  refine wpAny_bind (assignInOrder_cons (wpAny_bindName (store_ok I3 hN hj (.inl hy) rw' (fun s2 I4 => ?_) (.inr hy))))
  refine assignInOrder_cons (wpAny_bindName (store_ok I4 hN hi (.inl hx) rv (fun s3 I5 => assignInOrder_nil (wpAny_pure ?_)) (.inr hx)))
  rw [List.set_comm _ _ (Ne.symm hij)] at I5
  exact ⟨_, H1, I5, q1⟩
end

/-! ### while -/
section
variable {X : Cx} {pos : Pos}
end

/-! ### what a loop or a comprehension walks -/
/-- at turn i: it yields x (the heap may grow), or it stops -/
structure It where
  go : Nat → Hp → Prop
  yld : Nat → Hp → V → Hp → Prop
  stop : Nat → Hp → Prop
/-- the iterator's own objects may turn: they are not the frame's, not pinned, younger than the entry (or a comprehension's own) -/
def FpOk (X : Cx) (pins : List (Addr × Obj)) (H : Hp) (b : Addr) : Prop :=
  H b = none ∧ b ≠ X.env.locals ∧ b ∉ X.fs ∧ (b ∈ X.ex ∨ X.s_0.heap.objs.size ≤ b) ∧ (∀ x c, X.env.cells.lookup x = some c → c ≠ b) ∧ ∀ p ∈ X.pn ++ pins, p.1 ≠ b
theorem Inv.fpOk {X : Cx} {pins : List (Addr × Obj)} {σ : St} {H H' : Hp} {s : Shared} {b : Addr} (I : Inv X pins σ H s) (hb : s.heap.objs.size ≤ b) (hn : H' b = none) : FpOk X pins H' b := by
  refine ⟨hn, Nat.ne_of_gt (Nat.lt_of_lt_of_le I.lt hb), I.nofs hb, .inr (Nat.le_trans I.sz hb), fun x c e z => ?_, fun p hp z => ?_⟩
  · obtain ⟨v, q⟩ := I.cell x c e
    exact absurd (Nat.lt_of_lt_of_le q.lt (by rw [z]; exact hb)) (Nat.lt_irrefl _)
  · exact absurd (Nat.lt_of_lt_of_le (Heap.lt_size (I.pin p hp).1) (by rw [z]; exact hb)) (Nat.lt_irrefl _)
structure Turn (P : Program) (w : World) (K : PySem.W.Frag) (tg : Expr) (J : It) (fp : List Addr) (it : Addr) (tn : Nat → Heap → Prop) : Prop where
  mem : it ∈ fp
  obj : ∀ i h, tn i h → ∀ b ∈ fp, ∃ o, h.get? b = some o ∧ ∀ v, o.data ≠ .cell v
  keep : ∀ i h h', tn i h → (∀ b ∈ fp, ∀ o, h.get? b = some o → h'.get? b = some o) → tn i h'
  item : ∀ (X : Cx), X.prog = P → X.w = w → X.K = K → X.calm = true → ∀ (i : Nat) (pins : List (Addr × Obj)) (s : Shared) (σ : St) (H : Hp) (E : Value → Shared → Prop), Inv X pins σ H s → (∀ b ∈ fp, FpOk X pins H b) → tn i s.heap → J.go i H →
    wpAny (model P w) X.A (pyNext (.ref it)) (fun r s1 => ∃ u, r = some u ∧
      wpAny (model P w) X.A (letOwnedTupleGo tg (.ref it) u) (fun _ s2 => ∃ x H', Inv X pins σ H' s2 ∧ RelV x u ∧ J.yld i H x H' ∧ tn (i + 1) s2.heap ∧ ∀ b ∈ fp, H' b = none) E s1) E s
  done : ∀ (X : Cx), X.prog = P → X.w = w → X.K = K → X.calm = true → ∀ (i : Nat) (pins : List (Addr × Obj)) (s : Shared) (σ : St) (H : Hp) (E : Value → Shared → Prop), Inv X pins σ H s → (∀ b ∈ fp, FpOk X pins H b) → tn i s.heap → J.stop i H →
    wpAny (model P w) X.A (pyNext (.ref it)) (fun r s1 => r = none ∧ Inv X pins σ H s1) E s
  self : ∀ (A : Around) (i : Nat) (s : Shared) (Q : Value → Shared → Prop) (E : Value → Shared → Prop), tn i s.heap → Q (.ref it) s → wpAny (model P w) A (pyIter (.ref it)) Q E s
abbrev TI := St → Hp → (It → Hp → Prop) → Prop
/-- an iterator has come -/
def PIE (X : Cx) (pins : List (Addr × Obj)) (σ : St) (tg : Expr) (R : It → Hp → Prop) (itv : Value) (s2 : Shared) : Prop :=
  ∃ (it : Addr) (fp : List Addr) (tn : Nat → Heap → Prop) (J : It) (H' : Hp), itv = .ref it ∧ Inv X pins σ H' s2 ∧ Turn X.prog X.w X.K tg J fp it tn ∧ tn 0 s2.heap ∧ (∀ b ∈ fp, FpOk X pins H' b) ∧ R J H'
def PI (X : Cx) (tg iter : Expr) (wi : TI) : Prop :=
  ∀ (pins : List (Addr × Obj)) (s : Shared) (σ : St) (H : Hp) (R : It → Hp → Prop), Inv X pins σ H s → wi σ H R →
    wpAny (model X.prog X.w) X.A (eval iter X.env) (fun v s1 => wpAny (model X.prog X.w) X.A (pyIter v) (PIE X pins σ tg R) X.xe s1) X.xe s

/-- the step ahead of the store is nothing for an iterator that keeps no tuple -/
theorem go_of {M : Model} {A : Around} {E : Value → Shared → Prop} {s : Shared} {tg : Expr} {it : Addr} {u : Value} {o : Obj} {n : String} {vs : Array Value} {Q : Unit → Shared → Prop} (ho : s.heap.get? it = some o) (hc : o.cls = .type n) (hd : o.data = .fields vs)
    (hn : ["enumerate", "zip", "dict_itemiterator", "dict_reverseitemiterator", "odict_iterator", "itertools.zip_longest", "itertools.pairwise"].contains n = false) (hQ : Q () s) : wpAny M A (letOwnedTupleGo tg (.ref it) u) Q E s := by
  unfold letOwnedTupleGo
  cases tg <;> first
    | exact wpAny_pure hQ
    | (cases u <;> first
        | exact wpAny_pure hQ
        | (refine wpAny_bind (wpAny_load ho ?_)
           rw [hc, hd]
           show wpAny M A (if (["enumerate", "zip", "dict_itemiterator", "dict_reverseitemiterator", "odict_iterator", "itertools.zip_longest", "itertools.pairwise"].contains n && vs[0]? == some (rawInt _)) = true then _ else _) Q E s
           rw [if_neg (by intro h; rw [hn, Bool.false_and] at h; cases h)]
           exact wpAny_pure hQ))

/-- the list at a, as it stands at each turn (a loop may append to it) -/
def Itl (K : PySem.W.Frag) (a : Addr) : It :=
  ⟨fun i H => ∃ xs x, SqL K H a xs ∧ xs[i]? = some x, fun i H x H' => H' = H ∧ ∀ xs, SqL K H a xs → xs[i]? = some x, fun i H => ∃ xs, SqL K H a xs ∧ xs.length ≤ i⟩
def Itt (K : PySem.W.Frag) (a : Addr) : It :=
  ⟨fun i H => ∃ xs x, SqT K H a xs ∧ xs[i]? = some x, fun i H x H' => H' = H ∧ ∀ xs, SqT K H a xs → xs[i]? = some x, fun i H => ∃ xs, SqT K H a xs ∧ xs.length ≤ i⟩
/-- lo, lo + 1, .. (n of them) -/
def Itr (lo : Int) (n : Nat) : It := ⟨fun i _ => i < n, fun i H x H' => H' = H ∧ x = .int (lo + i), fun i _ => n ≤ i⟩
theorem turn_list {P : Program} {w : World} {K : PySem.W.Frag} {tg : Expr} (a it : Addr) : Turn P w K tg (Itl K a) [it] it (fun i h => h.IsListIter it a i) where
  mem := by simp
  obj := fun i h st b hb => by
    have e : b = it := by simpa using hb
    subst e
    obtain ⟨o, e, c, d⟩ := st
    exact ⟨o, e, fun v z => by rw [d] at z; cases z⟩
  keep := fun i h h' st k => st.at fun o e => k it (by simp) o e
  item := by
    intro X hP hw hK hc i pins s σ H E I hf st hg
    subst hP hw hK
    obtain ⟨xs, x, hq, hx⟩ := hg
    obtain ⟨its, rv, p, hz⟩ := I.list hq
    obtain ⟨u, hu, ru⟩ := rv.get hx
    obtain ⟨f0, f1, f2, f3, f4, f5⟩ := hf it (by simp)
    refine wpAny_pyNext_list_item st p.isList (x := u) (by simpa using hu) fun h' st' sb => ?_
    have I1 : Inv X pins σ H { s with heap := h' } := I.turned (t' := s.toks) (fun b o hb e => (sb.2 b hb).trans e) f0 f1 f3 f4 f5
    obtain ⟨o, e, c, d⟩ := id st'
    exact ⟨u, rfl, go_of (s := { s with heap := h' }) e c d (by decide) ⟨x, H, I1, ru, ⟨rfl, fun ys hy => by rw [I.list_inj hy hq]; exact hx⟩, st', fun b hb => (hf b hb).1⟩⟩
  done := by
    intro X hP hw hK hc i pins s σ H E I hf st hg
    subst hP hw hK
    obtain ⟨xs, hq, hx⟩ := hg
    obtain ⟨its, rv, p, hz⟩ := I.list hq
    obtain ⟨f0, f1, f2, f3, f4, f5⟩ := hf it (by simp)
    have hl := rv.length
    exact wpAny_pyNext_list_end (I.ok.hd hc) st p.isList (by simp; omega) fun h' eb => ⟨rfl, I.turned (t' := s.toks) (fun b o hb e => eb b o hb e) f0 f1 f3 f4 f5⟩
  self := fun _ _ _ _ _ st h => wpAny_pyIter_listiter st h
theorem turn_tuple {P : Program} {w : World} {K : PySem.W.Frag} {tg : Expr} (a it : Addr) : Turn P w K tg (Itt K a) [it] it (fun i h => h.IsTupleIter it a i) where
  mem := by simp
  obj := fun i h st b hb => by
    have e : b = it := by simpa using hb
    subst e
    obtain ⟨o, e, c, d⟩ := st
    exact ⟨o, e, fun v z => by rw [d] at z; cases z⟩
  keep := fun i h h' st k => st.at fun o e => k it (by simp) o e
  item := by
    intro X hP hw hK hc i pins s σ H E I hf st hg
    subst hP hw hK
    obtain ⟨xs, x, hq, hx⟩ := hg
    obtain ⟨its, rv, p, hz⟩ := I.tuple hq
    obtain ⟨u, hu, ru⟩ := rv.get hx
    obtain ⟨f0, f1, f2, f3, f4, f5⟩ := hf it (by simp)
    refine wpAny_pyNext_tuple_item st (show s.heap.IsTuple a its.toArray from p) (x := u) (by simpa using hu) fun h' st' sb => ?_
    have I1 : Inv X pins σ H { s with heap := h' } := I.turned (t' := s.toks) (fun b o hb e => (sb.2 b hb).trans e) f0 f1 f3 f4 f5
    obtain ⟨o, e, c, d⟩ := id st'
    exact ⟨u, rfl, go_of (s := { s with heap := h' }) e c d (by decide) ⟨x, H, I1, ru, ⟨rfl, fun ys hy => by rw [I.tuple_inj hy hq]; exact hx⟩, st', fun b hb => (hf b hb).1⟩⟩
  done := by
    intro X hP hw hK hc i pins s σ H E I hf st hg
    subst hP hw hK
    obtain ⟨xs, hq, hx⟩ := hg
    obtain ⟨its, rv, p, hz⟩ := I.tuple hq
    obtain ⟨f0, f1, f2, f3, f4, f5⟩ := hf it (by simp)
    have hl := rv.length
    exact wpAny_pyNext_tuple_end (I.ok.hd hc) st (show s.heap.IsTuple a its.toArray from p) (by simp; omega) fun h' eb => ⟨rfl, I.turned (t' := s.toks) (fun b o hb e => eb b o hb e) f0 f1 f3 f4 f5⟩
  self := fun _ _ _ _ _ st h => wpAny_pyIter_tupleiter st h
theorem turn_range {P : Program} {w : World} {K : PySem.W.Frag} {tg : Expr} (it : Addr) (lo : Int) (n : Nat) : Turn P w K tg (Itr lo n) [it] it (fun i h => IsRangeIter h it (lo + (i : Nat) * 1) ((n : Int) - (i : Nat)) 1) where
  mem := by simp
  obj := fun i h st b hb => by
    have e : b = it := by simpa using hb
    subst e
    exact ⟨_, st, fun v z => by
      have z' : Data.fields _ = Data.cell v := z
      cases z'⟩
  keep := fun i h h' st k => k it (by simp) _ st
  item := by
    intro X hP hw hK hc i pins s σ H E I hf st hg
    subst hP hw hK
    obtain ⟨f0, f1, f2, f3, f4, f5⟩ := hf it (by simp)
    have W := Walks.range (prog := X.prog) (w := X.w) (I.ok.hd hc) it lo 1 n
    refine W.item i s _ _ hg st fun v h' tk hv st' kk => ?_
    obtain ⟨t, rfl⟩ := hv
    have I1 : Inv X pins σ H { s with heap := h', toks := tk } := I.turned (fun b o hb e => kk b o (by simpa using hb) e) f0 f1 f3 f4 f5
    refine ⟨_, rfl, go_of (s := { s with heap := h', toks := tk }) (n := "range_iterator") st' rfl rfl (by decide) ⟨.int (lo + i), H, I1, ⟨t, ?_⟩, ⟨rfl, rfl⟩, st', fun b hb => (hf b hb).1⟩⟩
    rw [Int.mul_one]
  done := by
    intro X hP hw hK hc i pins s σ H E I hf st hg
    subst hP hw hK
    obtain ⟨f0, f1, f2, f3, f4, f5⟩ := hf it (by simp)
    exact wpAny_pyNext_range_end (I.ok.hd hc) st (by have : n ≤ i := hg; omega) fun h' eb => ⟨rfl, I.turned (t' := s.toks) (fun b o hb e => eb b o hb e) f0 f1 f3 f4 f5⟩
  self := fun _ _ _ _ _ st h => wpAny_pyIter_rangeiter st h
end L2

namespace L2
open PySem PySem.Spec PyProof.Rows
section
variable {X : Cx} {tg : Expr}
def iList (K : PySem.W.Frag) (tl : TE) : TI := fun σ H R => tl σ H fun x H1 => ∃ a, x = .ref a ∧ (∃ xs, SqL K H1 a xs) ∧ R (Itl K a) H1
def iTup (K : PySem.W.Frag) (tl : TE) : TI := fun σ H R => tl σ H fun x H1 => ∃ a, x = .ref a ∧ (∃ xs, SqT K H1 a xs) ∧ R (Itt K a) H1
theorem pi_list {l : Expr} {tl : TE} (hl : PE X l tl) : PI X tg l (iList X.K tl) := by
  intro pins s σ H R I h
  refine thn (hl pins s σ H _ I h) fun v s1 ⟨x, H1, I1, r1, q1⟩ => ?_
  obtain ⟨a, e, ⟨xs, hq⟩, q⟩ := q1
  subst e
  cases r1
  obtain ⟨its, rv, p, hz⟩ := I1.list hq
  refine wpAny_pyIter_list p.isList ?_
  refine ⟨s1.heap.objs.size, [s1.heap.objs.size], _, _, H1, rfl, I1.kept (t' := s1.toks) fun b o e => Heap.get?_push_of_some _ e, turn_list a _, ⟨_, Heap.get?_push_size _ rfl, rfl, rfl⟩, fun b hb => ?_, q⟩
  have e : b = s1.heap.objs.size := by simpa using hb
  subst e
  exact I1.fpOk (Nat.le_refl _) (I1.hok.fresh (Nat.le_refl _))
theorem pi_tup {l : Expr} {tl : TE} (hl : PE X l tl) : PI X tg l (iTup X.K tl) := by
  intro pins s σ H R I h
  refine thn (hl pins s σ H _ I h) fun v s1 ⟨x, H1, I1, r1, q1⟩ => ?_
  obtain ⟨a, e, ⟨xs, hq⟩, q⟩ := q1
  subst e
  cases r1
  obtain ⟨its, rv, p, hz⟩ := I1.tuple hq
  refine wpAny_pyIter_tuple (show s1.heap.IsTuple a its.toArray from p) ?_
  refine ⟨s1.heap.objs.size, [s1.heap.objs.size], _, _, H1, rfl, I1.kept (t' := s1.toks) fun b o e => Heap.get?_push_of_some _ e, turn_tuple a _, ⟨_, Heap.get?_push_size _ rfl, rfl, rfl⟩, fun b hb => ?_, q⟩
  have e : b = s1.heap.objs.size := by simpa using hb
  subst e
  exact I1.fpOk (Nat.le_refl _) (I1.hok.fresh (Nat.le_refl _))
/-- a range object just made, walked -/
theorem range_it {pins : List (Addr × Obj)} {σ : St} {H : Hp} {s : Shared} {R : It → Hp → Prop} {E : Value → Shared → Prop} {lo hi : Int} {t u v : Tok} {tk : Nat} (I : Inv X pins σ H s) (h1 : -(2 ^ 62) ≤ lo) (h2 : lo < 2 ^ 62) (h3 : -(2 ^ 62) ≤ hi) (h4 : hi < 2 ^ 62)
    (q : R (Itr lo (hi - lo).toNat) H) : wpAny (model X.prog X.w) X.A (pyIter (.ref s.heap.objs.size)) (PIE X pins σ tg R) E { s with heap := s.heap.push { cls := .type "range", data := .fields #[.int lo t, .int hi u, .int 1 v] }, toks := tk } := by
  refine wpAny_pyIter_range (IsRange.new ..) (small_one h1 h2 h3 h4) ?_
  have I1 : Inv X pins σ H { s with heap := s.heap.push { cls := .type "range", data := .fields #[.int lo t, .int hi u, .int 1 v] }, toks := tk } := I.kept fun b o e => Heap.get?_push_of_some _ e
  refine ⟨(s.heap.push { cls := .type "range", data := .fields #[.int lo t, .int hi u, .int 1 v] }).objs.size, [(s.heap.push { cls := .type "range", data := .fields #[.int lo t, .int hi u, .int 1 v] }).objs.size], _, _, H, rfl,
    I1.kept (t' := tk) fun b o e => Heap.get?_push_of_some _ e, turn_range _ lo (hi - lo).toNat, ?_, fun b hb => ?_, q⟩
  · have e1 : lo + ((0 : Nat) : Int) * 1 = lo := by simp
    have e2 : (((hi - lo).toNat : Nat) : Int) - ((0 : Nat) : Int) = Builtin.Range.rangeSize lo hi 1 := by rw [rangeSize_one]; split <;> omega
    show IsRangeIter _ _ (lo + ((0 : Nat) : Int) * 1) ((((hi - lo).toNat : Nat) : Int) - ((0 : Nat) : Int)) 1
    rw [e1, e2]
    exact Heap.get?_push_size _ rfl
  · have e : b = (s.heap.push { cls := .type "range", data := .fields #[.int lo t, .int hi u, .int 1 v] }).objs.size := by simpa using hb
    subst e
    exact I1.fpOk (Nat.le_refl _) (I1.hok.fresh (Nat.le_refl _))
def iRng1 (ta : TA) : TI := fun σ H R => ta σ H fun vs H1 => ∃ j : Int, vs = [.int j] ∧ -(2 ^ 62) ≤ j ∧ j < 2 ^ 62 ∧ R (Itr 0 j.toNat) H1
theorem pi_range1 {a : Expr} {ta : TA} {p pos : Pos} (hg : Gl X "range") (hm : X.mg "range" = none) (ha : PA X [a] ta) (hs : starEach [a] X.env = [(false, eval a X.env)] := by rfl) : PI X tg (.Call (.Name "range" p) [a] [] pos) (iRng1 ta) := by
  intro pins s σ H R I h
  refine Call_ (ld_blt I hg hm boot_range (PyProof.Rows.callWith_type1 (thn (ha pos pins s σ H _ I h) fun us s1 ⟨vs, H1, I1, r1, q1⟩ => ?_) hs rfl))
  obtain ⟨j, e, q1, q2, q⟩ := q1
  subst e
  cases r1 with
  | cons r rr =>
    cases rr
    obtain ⟨t, rfl⟩ := r
    exact call_range_1 (range_it I1 (by omega) (by omega) q1 q2 (by simpa using q))
/-! ### for -/
/-- W: the invariant by the turn and a measure; N: what the body is to reach -/
def tFor (wi : TI) (g : TG) (tb : TS) : TS := fun D σ H => wi σ H fun J H1 => ∃ W : Nat → Nat → St → Hp → Prop, (∃ m, W 0 m σ H1) ∧ ∀ i m σ H, W i m σ H →
  (J.stop i H ∧ D.nx σ H) ∨ (J.go i H ∧ ∃ N : St → Hp → Prop, (∀ σ' H', N σ' H' → ∃ m', m' < m ∧ W (i + 1) m' σ' H') ∧ ∀ x H', J.yld i H x H' → g x σ H' fun σ2 H2 => tb { D with nx := N, ct := N, bk := D.nx } σ2 H2)
/-- the records at fp as they stand -/
def pinsAt (fp : List Addr) (h : Heap) : List (Addr × Obj) := fp.filterMap fun b => (h.get? b).map fun o => (b, o)
theorem mem_pinsAt {fp : List Addr} {h : Heap} {b : Addr} {o : Obj} (hb : b ∈ fp) (e : h.get? b = some o) : (b, o) ∈ pinsAt fp h := List.mem_filterMap.mpr ⟨b, hb, by rw [e]; rfl⟩
theorem of_pinsAt {fp : List Addr} {h : Heap} {p : Addr × Obj} (hp : p ∈ pinsAt fp h) : p.1 ∈ fp ∧ h.get? p.1 = some p.2 := by
  obtain ⟨b, hb, e⟩ := List.mem_filterMap.mp hp
  cases q : h.get? b with
  | none => rw [q] at e; cases e
  | some o =>
    rw [q] at e
    have e' : (b, o) = p := Option.some.inj e
    subst e'
    exact ⟨hb, q⟩
theorem Inv.pinned {pins : List (Addr × Obj)} {σ : St} {H : Hp} {s : Shared} {fp : List Addr} (I : Inv X pins σ H s) (hf : ∀ b ∈ fp, FpOk X pins H b) (ho : ∀ b ∈ fp, ∃ o, s.heap.get? b = some o ∧ ∀ v, o.data ≠ .cell v) : Inv X (pins ++ pinsAt fp s.heap) σ H s :=
  I.pins_of fun p hp => (List.mem_append.mp hp).elim (fun z => I.pin p (List.mem_append_right _ z)) fun z => by
    obtain ⟨hb, e⟩ := of_pinsAt z
    obtain ⟨f0, f1, f2, _⟩ := hf p.1 hb
    obtain ⟨o, e', d⟩ := ho p.1 hb
    rw [e] at e'; cases e'
    exact ⟨e, f0, f1, f2, d⟩
theorem Inv.unpinned {pins pl : List (Addr × Obj)} {σ : St} {H : Hp} {s : Shared} (I : Inv X (pins ++ pl) σ H s) : Inv X pins σ H s := I.pins_of fun p hp => I.pin p (List.mem_append_right _ (List.mem_append_left _ hp))
theorem ps_for {iter : Expr} {body : List Stmt} {wi : TI} {g : TG} {tb : TS} {pos : Pos} (hp : PassesOwn (model X.prog X.w) X.A X.env X.xe) (hc : X.calm = true) (hi : PI X tg iter wi) (hg : PG X tg g) (hb : PSs X body tb)
    (hs : ∀ x, foldedSetIterable iter X.env x = pure x := by intro _; rfl) : PS X (.For tg iter body [] pos) (tFor wi g tb) := by
  intro pins s σ H D I h
  refine wpAny_For (thn (hi pins s σ H _ I h) fun v s1 h1 => thn h1 fun itv s2 h2 => ?_) hs
  obtain ⟨it, fp, tn, J, H2, e, I2, T, st2, f2, W, ⟨m0, w0⟩, turn⟩ := h2
  subst e
  -- what stays true of the iterator's objects through the loop
  have stat : ∀ {H' : Hp}, (∀ b ∈ fp, H' b = none) → ∀ b ∈ fp, FpOk X pins H' b := fun hn b hb => ⟨hn b hb, (f2 b hb).2⟩
  refine codeAny_forLoop_any (fun n s' => ∃ i σ' H', Inv X pins σ' H' s' ∧ tn i s'.heap ∧ (∀ b ∈ fp, H' b = none) ∧ W i n σ' H') ?_ m0 ⟨0, σ, H2, I2, st2, fun b hb => (f2 b hb).1, w0⟩
  rintro n s3 ⟨i, σ3, H3, I3, st3, fr3, w3⟩
  rcases turn i n σ3 H3 w3 with ⟨stop, qn⟩ | ⟨go, N, hN, step⟩
  · refine wpAny_passesOwn hp (thn (T.done X rfl rfl rfl hc i pins s3 σ3 H3 X.xe I3 (stat fr3) st3 stop) fun r s4 ⟨hr, I4⟩ => ?_)
    subst hr
    exact wpAny_execs_nil ⟨σ3, H3, I4, qn⟩
  · refine wpAny_passesOwn hp (thn (T.item X rfl rfl rfl hc i pins s3 σ3 H3 X.xe I3 (stat fr3) st3 go) fun r s4 ⟨u, hr, h4⟩ => ?_)
    subst hr
    refine wpAny_passesOwn hp (thn h4 fun _ s5 ⟨x, H5, I5, r5, y5, st5, fr5⟩ => ?_)
    have I5' := I5.pinned (stat fr5) (T.obj _ _ st5)
    refine wpAny_passesOwn hp (thn (hg _ s5 σ3 H5 x u _ I5' r5 (step x H5 y5)) fun _ s6 ⟨σ6, H6, I6, q6⟩ => ?_)
    refine wpAny_passesOwn hp (thn (hb _ s6 σ6 H6 _ I6 q6) fun f s7 q7 => ?_)
    have again : ∀ {σ7 : St} {H7 : Hp}, Inv X (pins ++ pinsAt fp s5.heap) σ7 H7 s7 → N σ7 H7 → ∃ m, m < n ∧ ∃ i σ' H', Inv X pins σ' H' s7 ∧ tn i s7.heap ∧ (∀ b ∈ fp, H' b = none) ∧ W i m σ' H' := fun {σ7 H7} I7 n7 => by
      obtain ⟨m', hm, w7⟩ := hN σ7 H7 n7
      refine ⟨m', hm, i + 1, σ7, H7, I7.unpinned, T.keep _ _ _ st5 fun b hb o e => (I7.pin (b, o) (List.mem_append_right _ (List.mem_append_right _ (mem_pinsAt hb e)))).1, fun b hb => ?_, w7⟩
      obtain ⟨o, e, d⟩ := T.obj _ _ st5 b hb
      exact (I7.pin (b, o) (List.mem_append_right _ (List.mem_append_right _ (mem_pinsAt hb e)))).2.1
    cases f with
    | next => obtain ⟨σ7, H7, I7, n7⟩ := q7; exact again I7 n7
    | cont => obtain ⟨σ7, H7, I7, n7⟩ := q7; exact again I7 n7
    | brk => obtain ⟨σ7, H7, I7, q7⟩ := q7; exact ⟨σ7, H7, I7.unpinned, q7⟩
    | ret v => obtain ⟨x7, σ7, H7, I7, r7, q7⟩ := q7; exact ⟨x7, σ7, H7, I7.unpinned, r7, q7⟩
end

/-! ### the forms one uses -/
/-- over a list that the body leaves as it is -/
theorem for_list {K : PySem.W.Frag} {a : Addr} {xs : List V} {g : TG} {tb : TS} {D : Ends} {σ : St} {H : Hp} (Pv : Nat → St → Hp → Prop) (h0 : Pv 0 σ H) (hl : ∀ i σ H, i ≤ xs.length → Pv i σ H → SqL K H a xs)
    (hs : ∀ i x σ H, xs[i]? = some x → Pv i σ H → g x σ H fun σ2 H2 => tb { D with nx := Pv (i + 1), ct := Pv (i + 1), bk := D.nx } σ2 H2) (hd : ∀ σ H, Pv xs.length σ H → D.nx σ H) :
    ∃ W : Nat → Nat → St → Hp → Prop, (∃ m, W 0 m σ H) ∧ ∀ i m σ H, W i m σ H →
      ((Itl K a).stop i H ∧ D.nx σ H) ∨ ((Itl K a).go i H ∧ ∃ N : St → Hp → Prop, (∀ σ' H', N σ' H' → ∃ m', m' < m ∧ W (i + 1) m' σ' H') ∧ ∀ x H', (Itl K a).yld i H x H' → g x σ H' fun σ2 H2 => tb { D with nx := N, ct := N, bk := D.nx } σ2 H2) := by
  refine ⟨fun i m σ H => m = xs.length - i ∧ i ≤ xs.length ∧ Pv i σ H, ⟨xs.length, by simp, Nat.zero_le _, h0⟩, ?_⟩
  rintro i m σ H ⟨rfl, hi, p⟩
  have q := hl i σ H hi p
  by_cases hlt : i < xs.length
  · refine .inr ⟨⟨xs, xs[i], q, by simp [hlt]⟩, Pv (i + 1), fun σ' H' p' => ⟨xs.length - (i + 1), by omega, rfl, hlt, p'⟩, fun x H' y => ?_⟩
    obtain ⟨e, y⟩ := y
    subst e
    exact hs i x σ _ (y xs q) p
  · have e : i = xs.length := by omega
    subst e
    exact .inl ⟨⟨xs, q, Nat.le_refl _⟩, hd σ H p⟩
theorem for_tup {K : PySem.W.Frag} {a : Addr} {xs : List V} {g : TG} {tb : TS} {D : Ends} {σ : St} {H : Hp} (Pv : Nat → St → Hp → Prop) (h0 : Pv 0 σ H) (hl : ∀ i σ H, i ≤ xs.length → Pv i σ H → SqT K H a xs)
    (hs : ∀ i x σ H, xs[i]? = some x → Pv i σ H → g x σ H fun σ2 H2 => tb { D with nx := Pv (i + 1), ct := Pv (i + 1), bk := D.nx } σ2 H2) (hd : ∀ σ H, Pv xs.length σ H → D.nx σ H) :
    ∃ W : Nat → Nat → St → Hp → Prop, (∃ m, W 0 m σ H) ∧ ∀ i m σ H, W i m σ H →
      ((Itt K a).stop i H ∧ D.nx σ H) ∨ ((Itt K a).go i H ∧ ∃ N : St → Hp → Prop, (∀ σ' H', N σ' H' → ∃ m', m' < m ∧ W (i + 1) m' σ' H') ∧ ∀ x H', (Itt K a).yld i H x H' → g x σ H' fun σ2 H2 => tb { D with nx := N, ct := N, bk := D.nx } σ2 H2) := by
  refine ⟨fun i m σ H => m = xs.length - i ∧ i ≤ xs.length ∧ Pv i σ H, ⟨xs.length, by simp, Nat.zero_le _, h0⟩, ?_⟩
  rintro i m σ H ⟨rfl, hi, p⟩
  have q := hl i σ H hi p
  by_cases hlt : i < xs.length
  · refine .inr ⟨⟨xs, xs[i], q, by simp [hlt]⟩, Pv (i + 1), fun σ' H' p' => ⟨xs.length - (i + 1), by omega, rfl, hlt, p'⟩, fun x H' y => ?_⟩
    obtain ⟨e, y⟩ := y
    subst e
    exact hs i x σ _ (y xs q) p
  · have e : i = xs.length := by omega
    subst e
    exact .inl ⟨⟨xs, q, Nat.le_refl _⟩, hd σ H p⟩
theorem for_range {lo : Int} {n : Nat} {g : TG} {tb : TS} {D : Ends} {σ : St} {H : Hp} (Pv : Nat → St → Hp → Prop) (h0 : Pv 0 σ H)
    (hs : ∀ i σ H, i < n → Pv i σ H → g (.int (lo + i)) σ H fun σ2 H2 => tb { D with nx := Pv (i + 1), ct := Pv (i + 1), bk := D.nx } σ2 H2) (hd : ∀ σ H, Pv n σ H → D.nx σ H) :
    ∃ W : Nat → Nat → St → Hp → Prop, (∃ m, W 0 m σ H) ∧ ∀ i m σ H, W i m σ H →
      ((Itr lo n).stop i H ∧ D.nx σ H) ∨ ((Itr lo n).go i H ∧ ∃ N : St → Hp → Prop, (∀ σ' H', N σ' H' → ∃ m', m' < m ∧ W (i + 1) m' σ' H') ∧ ∀ x H', (Itr lo n).yld i H x H' → g x σ H' fun σ2 H2 => tb { D with nx := N, ct := N, bk := D.nx } σ2 H2) := by
  refine ⟨fun i m σ H => m = n - i ∧ i ≤ n ∧ Pv i σ H, ⟨n, by simp, Nat.zero_le _, h0⟩, ?_⟩
  rintro i m σ H ⟨rfl, hi, p⟩
  by_cases hlt : i < n
  · refine .inr ⟨hlt, Pv (i + 1), fun σ' H' p' => ⟨n - (i + 1), by omega, rfl, hlt, p'⟩, fun x H' y => ?_⟩
    obtain ⟨e, y⟩ := y
    subst e y
    exact hs i σ _ hlt p
  · have e : i = n := by omega
    subst e
    exact .inl ⟨Nat.le_refl _, hd σ H p⟩
end L2

namespace L2
open PySem PySem.Spec PyProof.Rows

abbrev R2 := V → V → Hp → VK → Prop
/-- a two-place operation on values: f is binaryOp op, inplaceOp op or compareOp op -/
def OpR (X : Cx) (f : Value → Value → Sem Value) (r : R2) : Prop :=
  ∀ (pins : List (Addr × Obj)) (s : Shared) (σ : St) (H : Hp) (x y : V) (v u : Value) (Q : VK), Inv X pins σ H s → RelV x v → RelV y u → r x y H Q →
    wpAny (model X.prog X.w) X.A (f v u) (EP X pins σ Q) X.xe s
/-- a one-place operation -/
def UnR (X : Cx) (f : Value → Sem Value) (r : V → Hp → VK → Prop) : Prop :=
  ∀ (pins : List (Addr × Obj)) (s : Shared) (σ : St) (H : Hp) (x : V) (v : Value) (Q : VK), Inv X pins σ H s → RelV x v → r x H Q →
    wpAny (model X.prog X.w) X.A (f v) (EP X pins σ Q) X.xe s
/-- a call of a value that is known (a builtin, a type) with values -/
def CallR (X : Cx) (f : Value) (r : List V → Hp → VK → Prop) : Prop :=
  ∀ (pins : List (Addr × Obj)) (s : Shared) (σ : St) (H : Hp) (xs : List V) (us : List Value) (Q : VK), Inv X pins σ H s → Vals xs us → r xs H Q →
    wpAny (model X.prog X.w) X.A (call f us) (EP X pins σ Q) X.xe s
def tOp (r : R2) (ta tb : TE) : TE := fun σ H Q => ta σ H fun x H1 => tb σ H1 fun y H2 => r x y H2 Q
def tUn (r : V → Hp → VK → Prop) (ta : TE) : TE := fun σ H Q => ta σ H fun x H1 => r x H1 Q
/-- ints in, under C, and a value out -/
def rI (C : Int → Int → Prop) (g : Int → Int → V) : R2 := fun x y H Q => ∃ i j, x = .int i ∧ y = .int j ∧ C i j ∧ Q (g i j) H
def rI0 (g : Int → Int → V) : R2 := fun x y H Q => ∃ i j, x = .int i ∧ y = .int j ∧ Q (g i j) H
def rU (g : Int → V) : V → Hp → VK → Prop := fun x H Q => ∃ i, x = .int i ∧ Q (g i) H

section
variable {X : Cx} {a b c : Expr} {ta tb tc : TE} {pos : Pos}

theorem binT (ha : PE X a ta) (hb : PE X b tb) {pins : List (Addr × Obj)} {s : Shared} {σ : St} {H : Hp} {R : V → V → Hp → Prop} (I : Inv X pins σ H s)
    (h : ta σ H fun x H1 => tb σ H1 fun y H2 => R x y H2) {Q : Value → Shared → Prop} {f : Value → Value → Sem Value}
    (hf : ∀ v u s2 x y H2, Inv X pins σ H2 s2 → RelV x v → RelV y u → R x y H2 → wpAny (model X.prog X.w) X.A (f v u) Q X.xe s2) :
    wpAny (model X.prog X.w) X.A (eval a X.env) (fun v s₁ => wpAny (model X.prog X.w) X.A (eval b X.env) (fun u s₂ => wpAny (model X.prog X.w) X.A (f v u) Q X.xe s₂) X.xe s₁) X.xe s := by
  refine thn (ha pins s σ H _ I h) fun v s1 ⟨x, H1, I1, r1, q1⟩ => ?_
  refine thn (hb pins s1 σ H1 _ I1 q1) fun u s2 ⟨y, H2, I2, r2, q2⟩ => ?_
  exact hf v u s2 x y H2 I2 r1 r2 q2

theorem pe_op {op : Operator} {r : R2} (ho : OpR X (binaryOp op) r) (ha : PE X a ta) (hb : PE X b tb) : PE X (.BinOp a op b pos) (tOp r ta tb) := by
  intro pins s σ H Q I h
  exact wpAny_BinOp (binT ha hb I h fun v u s2 x y H2 I2 rx ry q => ho pins s2 σ H2 x y v u Q I2 rx ry q)
theorem pe_un {op : UnaryOp} {r : V → Hp → VK → Prop} (ho : UnR X (unaryOp op) r) (ha : PE X a ta) : PE X (.UnaryOp op a pos) (tUn r ta) := by
  intro pins s σ H Q I h
  exact UnaryOp_ (thn (ha pins s σ H _ I h) fun v s1 ⟨x, H1, I1, r1, q1⟩ => ho pins s1 σ H1 x v Q I1 r1 q1)
/-! ### ints -/
theorem opI {f : Value → Value → Sem Value} {C : Int → Int → Prop} {g : Int → Int → Int}
    (rule : ∀ (i j : Int) (t u : Tok) (s : Shared) (Q : Value → Shared → Prop) (E : Value → Shared → Prop), C i j → Q (.int (g i j) s.toks) { s with toks := s.toks + 1 } → wpAny (model X.prog X.w) X.A (f (.int i t) (.int j u)) Q E s) :
    OpR X f (rI C fun i j => .int (g i j)) := by
  intro pins s σ H x y v u Q I rx ry h
  obtain ⟨i, j, rfl, rfl, hc, q⟩ := h
  obtain ⟨t, rfl⟩ := rx
  obtain ⟨t', rfl⟩ := ry
  exact rule i j t t' s _ _ hc ⟨.int (g i j), H, I.tok _, ⟨_, rfl⟩, q⟩
theorem opI0 {f : Value → Value → Sem Value} {g : Int → Int → Int}
    (rule : ∀ (i j : Int) (t u : Tok) (s : Shared) (Q : Value → Shared → Prop) (E : Value → Shared → Prop), Q (.int (g i j) s.toks) { s with toks := s.toks + 1 } → wpAny (model X.prog X.w) X.A (f (.int i t) (.int j u)) Q E s) :
    OpR X f (rI0 fun i j => .int (g i j)) := by
  intro pins s σ H x y v u Q I rx ry h
  obtain ⟨i, j, rfl, rfl, q⟩ := h
  obtain ⟨t, rfl⟩ := rx
  obtain ⟨t', rfl⟩ := ry
  exact rule i j t t' s _ _ ⟨.int (g i j), H, I.tok _, ⟨_, rfl⟩, q⟩
theorem opB0 {f : Value → Value → Sem Value} {g : Int → Int → Bool}
    (rule : ∀ (i j : Int) (t u : Tok) (s : Shared) (Q : Value → Shared → Prop) (E : Value → Shared → Prop), Q (.bool (g i j)) s → wpAny (model X.prog X.w) X.A (f (.int i t) (.int j u)) Q E s) :
    OpR X f (rI0 fun i j => .bl (g i j)) := by
  intro pins s σ H x y v u Q I rx ry h
  obtain ⟨i, j, rfl, rfl, q⟩ := h
  obtain ⟨t, rfl⟩ := rx
  obtain ⟨t', rfl⟩ := ry
  exact rule i j t t' s _ _ ⟨.bl (g i j), H, I, rfl, q⟩

def CDiv (i j : Int) : Prop := 0 < j ∧ j < 1073741824
def CPow (i j : Int) : Prop := 0 ≤ j ∧ j ≤ 1000000 ∧ i.natAbs < 2 ^ 64
def CMul (i j : Int) : Prop := (-(2 ^ 64) < i ∧ i < 2 ^ 64) ∨ (-(2 ^ 64) < j ∧ j < 2 ^ 64)
theorem CMul.ok {i j : Int} (h : CMul i j) : IntMulOk i j := by
  rcases h with ⟨h1, h2⟩ | ⟨h1, h2⟩
  · exact .of_left (intBits_le_64 h1 h2)
  · exact .of_right (intBits_le_64 h1 h2)
theorem op_add : OpR X (binaryOp .Add) (rI0 fun i j => .int (i + j)) := opI0 fun _ _ _ _ _ _ _ q => add_int q
theorem op_sub : OpR X (binaryOp .Sub) (rI0 fun i j => .int (i - j)) := opI0 fun _ _ _ _ _ _ _ q => sub_int q
theorem op_mul : OpR X (binaryOp .Mult) (rI CMul fun i j => .int (i * j)) := opI fun _ _ _ _ _ _ _ hc q => mul_int q hc.ok
/-- // by a positive divisor -/
theorem op_fdiv : OpR X (binaryOp .FloorDiv) (rI CDiv fun i j => .int (i / j)) := opI fun i j _ _ _ _ _ hc q => by
  have h1 : (0 : Int) < j := hc.1
  have h2 : j < 1073741824 := hc.2
  exact floordiv_int (by omega) (by rw [Int.fdiv_eq_ediv_of_nonneg i (by omega)]; exact q) (.inl (PyProof.noPylong_small (by omega)))
/-- % by a positive divisor of any size -/
theorem op_mod : OpR X (binaryOp .Mod) (rI (fun _ j => 0 < j) fun i j => .int (i % j)) := opI fun i j _ _ _ _ _ hc q => by
  have h1 : (0 : Int) < j := hc
  exact mod_int' (by omega) (by rw [Int.fmod_eq_emod_of_nonneg i (by omega)]; exact q)
theorem op_pow : OpR X (binaryOp .Pow) (rI CPow fun i j => .int (i ^ j.toNat)) := opI fun _ _ _ _ _ _ _ hc q => pow_int_small hc.1 hc.2.1 hc.2.2 q
theorem unI {f : Value → Sem Value} {g : Int → Int}
    (rule : ∀ (i : Int) (t : Tok) (s : Shared) (Q : Value → Shared → Prop) (E : Value → Shared → Prop), Q (.int (g i) s.toks) { s with toks := s.toks + 1 } → wpAny (model X.prog X.w) X.A (f (.int i t)) Q E s) :
    UnR X f (rU fun i => .int (g i)) := by
  intro pins s σ H x v Q I rx h
  obtain ⟨i, rfl, q⟩ := h
  obtain ⟨t, rfl⟩ := rx
  exact rule i t s _ _ ⟨.int (g i), H, I.tok _, ⟨_, rfl⟩, q⟩
theorem un_neg : UnR X (unaryOp .USub) (rU fun i => .int (-i)) := unI fun _ _ _ _ _ q => neg_int q
/-! ### bools among ints: n += (a < b) -/
end

/-! ### comparisons -/
/-- the scalars that == tells apart as data does -/
def scal : V → V → Bool
  | .non, .non => true | .non, .int _ => true | .int _, .non => true | .non, .bl _ => true | .bl _, .non => true | .non, .str _ => true | .str _, .non => true
  | .int _, .int _ => true | .bl _, .bl _ => true | .str _, .str _ => true | .byt _, .byt _ => true
  | .int _, .str _ => true | .str _, .int _ => true | .bl _, .str _ => true | .str _, .bl _ => true
  | _, _ => false
def rEq : R2 := fun x y H Q => scal x y = true ∧ Q (.bl (decide (x = y))) H
def rNe : R2 := fun x y H Q => scal x y = true ∧ Q (.bl (!decide (x = y))) H

theorem dec_int {i j : Int} : decide (V.int i = V.int j) = (i == j) := by
  rw [Bool.eq_iff_iff]
  simp
theorem dec_bl {i j : Bool} : decide (V.bl i = V.bl j) = (i == j) := by
  rw [Bool.eq_iff_iff]
  simp
theorem dec_str {i j : Str} : decide (V.str i = V.str j) = (i == j) := by
  rw [Bool.eq_iff_iff]
  simp
theorem dec_byt {i j : Array UInt8} : decide (V.byt i = V.byt j) = (i.toList == j.toList) := by
  rw [Bool.eq_iff_iff]
  cases i
  cases j
  simp

section
variable {X : Cx} {a b c : Expr} {ta tb tc : TE} {pos : Pos}
theorem fin_bl {pins : List (Addr × Obj)} {σ : St} {H : Hp} {s : Shared} {Q : VK} {k k' : Bool} (I : Inv X pins σ H s) (q : Q (.bl k) H) (e : k = k') : EP X pins σ Q (.bool k') s := by
  subst e
  exact ⟨.bl k, H, I, rfl, q⟩
theorem op_eq : OpR X (compareOp .Eq) rEq := by
  intro pins s σ H x y v u Q I rx ry h
  obtain ⟨hs, q⟩ := h
  cases x with
  | non =>
    cases rx
    cases y with
    | non => cases ry; exact PySem.EqNone.eq_none_none (fin_bl I q (by simp))
    | bl j => cases ry; exact PySem.EqNone.eq_none_bool (fin_bl I q (by simp))
    | int j => obtain ⟨t', rfl⟩ := ry; exact PySem.EqNone.eq_none_int (fin_bl I q (by simp))
    | str j => obtain ⟨t', rfl⟩ := ry; exact PySem.EqNone.eq_none_str (fin_bl I q (by simp))
    | _ => exact absurd (show false = true from hs) Bool.false_ne_true
  | bl i =>
    cases rx
    cases y with
    | non => cases ry; exact PySem.EqNone.eq_bool_none (fin_bl I q (by simp))
    | bl j => cases ry; exact eq_bool (fin_bl I q dec_bl)
    | str j => obtain ⟨t', rfl⟩ := ry; exact PySem.EqMixed.eq_bool_str (fin_bl I q (by simp))
    | _ => exact absurd (show false = true from hs) Bool.false_ne_true
  | int i =>
    obtain ⟨t, rfl⟩ := rx
    cases y with
    | non => cases ry; exact PySem.EqNone.eq_int_none (fin_bl I q (by simp))
    | int j => obtain ⟨t', rfl⟩ := ry; exact eq_int (fin_bl I q dec_int)
    | str j => obtain ⟨t', rfl⟩ := ry; exact PySem.EqMixed.eq_int_str (fin_bl I q (by simp))
    | _ => exact absurd (show false = true from hs) Bool.false_ne_true
  | str i =>
    obtain ⟨t, rfl⟩ := rx
    cases y with
    | non => cases ry; exact PySem.EqNone.eq_str_none (fin_bl I q (by simp))
    | bl j => cases ry; exact PySem.EqMixed.eq_str_bool (fin_bl I q (by simp))
    | int j => obtain ⟨t', rfl⟩ := ry; exact PySem.EqMixed.eq_str_int (fin_bl I q (by simp))
    | str j => obtain ⟨t', rfl⟩ := ry; exact eq_str (fin_bl I q dec_str)
    | _ => exact absurd (show false = true from hs) Bool.false_ne_true
  | byt i =>
    obtain ⟨t, rfl⟩ := rx
    cases y with
    | byt j => obtain ⟨t', rfl⟩ := ry; exact PySem.W.eq_bytes (fin_bl I q dec_byt)
    | _ => exact absurd (show false = true from hs) Bool.false_ne_true
  | _ => cases y <;> exact absurd (show false = true from hs) Bool.false_ne_true
theorem op_ne : OpR X (compareOp .NotEq) rNe := by
  intro pins s σ H x y v u Q I rx ry h
  obtain ⟨hs, q⟩ := h
  cases x with
  | non =>
    cases rx
    cases y with
    | non => cases ry; exact PySem.EqNone.ne_none_none (fin_bl I q (by simp))
    | bl j => cases ry; exact PySem.EqNone.ne_none_bool (fin_bl I q (by simp))
    | int j => obtain ⟨t', rfl⟩ := ry; exact PySem.EqNone.ne_none_int (fin_bl I q (by simp))
    | str j => obtain ⟨t', rfl⟩ := ry; exact PySem.EqNone.ne_none_str (fin_bl I q (by simp))
    | _ => exact absurd (show false = true from hs) Bool.false_ne_true
  | bl i =>
    cases rx
    cases y with
    | non => cases ry; exact PySem.EqNone.ne_bool_none (fin_bl I q (by simp))
    | bl j => cases ry; exact ne_bool (fin_bl I q (congrArg not dec_bl))
    | str j => obtain ⟨t', rfl⟩ := ry; exact PySem.EqMixed.ne_bool_str (fin_bl I q (by simp))
    | _ => exact absurd (show false = true from hs) Bool.false_ne_true
  | int i =>
    obtain ⟨t, rfl⟩ := rx
    cases y with
    | non => cases ry; exact PySem.EqNone.ne_int_none (fin_bl I q (by simp))
    | int j => obtain ⟨t', rfl⟩ := ry; exact ne_int (fin_bl I q (congrArg not dec_int))
    | str j => obtain ⟨t', rfl⟩ := ry; exact PySem.EqMixed.ne_int_str (fin_bl I q (by simp))
    | _ => exact absurd (show false = true from hs) Bool.false_ne_true
  | str i =>
    obtain ⟨t, rfl⟩ := rx
    cases y with
    | non => cases ry; exact PySem.EqNone.ne_str_none (fin_bl I q (by simp))
    | bl j => cases ry; exact PySem.EqMixed.ne_str_bool (fin_bl I q (by simp))
    | int j => obtain ⟨t', rfl⟩ := ry; exact PySem.EqMixed.ne_str_int (fin_bl I q (by simp))
    | str j => obtain ⟨t', rfl⟩ := ry; exact ne_str (fin_bl I q (congrArg not dec_str))
    | _ => exact absurd (show false = true from hs) Bool.false_ne_true
  | byt i =>
    obtain ⟨t, rfl⟩ := rx
    cases y with
    | byt j => obtain ⟨t', rfl⟩ := ry; exact PySem.W.ne_bytes (fin_bl I q (congrArg not dec_byt))
    | _ => exact absurd (show false = true from hs) Bool.false_ne_true
  | _ => cases y <;> exact absurd (show false = true from hs) Bool.false_ne_true

theorem op_lt : OpR X (compareOp .Lt) (rI0 fun i j => .bl (decide (i < j))) := opB0 fun _ _ _ _ _ _ _ q => lt_int q
theorem op_le : OpR X (compareOp .LtE) (rI0 fun i j => .bl (decide (i ≤ j))) := opB0 fun _ _ _ _ _ _ _ q => le_int q
theorem op_gt : OpR X (compareOp .Gt) (rI0 fun i j => .bl (decide (j < i))) := opB0 fun _ _ _ _ _ _ _ q => gt_int q
theorem op_ge : OpR X (compareOp .GtE) (rI0 fun i j => .bl (decide (j ≤ i))) := opB0 fun _ _ _ _ _ _ _ q => ge_int q
theorem nomark (b : Expr) {op : CmpOp} (h : op ≠ .In := by decide) (h2 : op ≠ .NotIn := by decide) : behindInMarks op b = false := by
  have e1 : (op == CmpOp.In) = false := by cases op <;> first | rfl | exact absurd rfl h
  have e2 : (op == CmpOp.NotIn) = false := by cases op <;> first | rfl | exact absurd rfl h2
  cases b <;> simp [behindInMarks, e1, e2]
/-- a comparison as a value; hm: nomark b, or (for in, not in) by with_unfolding_all rfl -/
theorem pe_cmpR {op : CmpOp} {r : R2} (ho : OpR X (compareOp op) r) (ha : PE X a ta) (hb : PE X b tb) (hm : behindInMarks op b = false) : PE X (.Compare a [op] [b] pos) (tOp r ta tb) := by
  intro pins s σ H Q I h
  exact wpAny_Compare1 (binT ha hb I h fun v u s2 x y H2 I2 rx ry q => ho pins s2 σ H2 x y v u Q I2 rx ry q) hm
/-- a reading of a value as a test -/
def tTest (t : TE) : TT := fun σ H Q => t σ H fun x H' => ∃ k, x = .bl k ∧ Q k H'
theorem pt_cmpR {op : CmpOp} {r : R2} (ho : OpR X (compareOp op) r) (ha : PE X a ta) (hb : PE X b tb) (hm : behindInMarks op b = false) : PT X (.Compare a [op] [b] pos) (tTest (tOp r ta tb)) := by
  intro pins s σ H Q I h
  refine wpAny_isTrue_Compare1 (thn (ha pins s σ H _ I h) fun v s1 ⟨x, H1, I1, r1, q1⟩ => thn (hb pins s1 σ H1 _ I1 q1) fun u s2 ⟨y, H2, I2, r2, q2⟩ =>
    thn (ho pins s2 σ H2 x y v u _ I2 r1 r2 q2) fun c s3 ⟨z, H3, I3, r3, k, e, q3⟩ => ?_) hm
  subst e
  cases r3
  exact wpAny_truthy_bool ⟨H3, I3, q3⟩
/-- a op1 b op2 c -/
def tChain (r r' : R2) (ta tb tc : TE) : TE := fun σ H Q => ta σ H fun x H1 => tb σ H1 fun y H2 => r x y H2 fun z H3 => ∃ k, z = .bl k ∧
  (if k = true then tc σ H3 fun w' H4 => r' y w' H4 Q else Q (.bl false) H3)
theorem pe_chain {op op' : CmpOp} {r r' : R2} (ho : OpR X (compareOp op) r) (ho' : OpR X (compareOp op') r') (ha : PE X a ta) (hb : PE X b tb) (hc : PE X c tc)
    (hm : lastMarks [op, op'] [b, c] = false := by with_unfolding_all rfl) : PE X (.Compare a [op, op'] [b, c] pos) (tChain r r' ta tb tc) := by
  intro pins s σ H Q I h
  refine Compare_chain (thn (ha pins s σ H _ I h) fun v s1 ⟨x, H1, I1, r1, q1⟩ => chain_link (thn (hb pins s1 σ H1 _ I1 q1) fun u s2 ⟨y, H2, I2, r2, q2⟩ =>
    thn (ho pins s2 σ H2 x y v u _ I2 r1 r2 q2) fun d s3 ⟨z, H3, I3, r3, k, e, q3⟩ => ?_)) hm
  subst e
  cases r3
  refine wpAny_truthy_bool ?_
  cases k with
  | false => exact ite_ff ⟨.bl false, H3, I3, rfl, q3⟩
  | true => exact ite_tt (chain_last (thn (hc pins s3 σ H3 _ I3 q3) fun w' s4 ⟨z', H4, I4, r4, q4⟩ => ho' pins s4 σ H4 y z' u w' Q I4 r2 r4 q4))
theorem pt_chain {op op' : CmpOp} {r r' : R2} (ho : OpR X (compareOp op) r) (ho' : OpR X (compareOp op') r') (ha : PE X a ta) (hb : PE X b tb) (hc : PE X c tc)
    (hm : lastMarks [op, op'] [b, c] = false := by with_unfolding_all rfl) : PT X (.Compare a [op, op'] [b, c] pos) (tTest (tChain r r' ta tb tc)) := by
  intro pins s σ H Q I h
  refine isTrue_chain (thn (ha pins s σ H _ I h) fun v s1 ⟨x, H1, I1, r1, q1⟩ => test_link (thn (hb pins s1 σ H1 _ I1 q1) fun u s2 ⟨y, H2, I2, r2, q2⟩ =>
    thn (ho pins s2 σ H2 x y v u _ I2 r1 r2 q2) fun d s3 ⟨z, H3, I3, r3, k, e, q3⟩ => ?_)) hm
  subst e
  cases r3
  refine wpAny_truthy_bool ?_
  cases k with
  | false =>
    obtain ⟨k', e', q'⟩ := q3
    cases e'
    exact ite_ff ⟨H3, I3, q'⟩
  | true =>
    refine ite_tt (test_last (thn (hc pins s3 σ H3 _ I3 q3) fun w' s4 ⟨z', H4, I4, r4, q4⟩ => thn (ho' pins s4 σ H4 y z' u w' _ I4 r2 r4 q4) fun d' s5 ⟨z2, H5, I5, r5, k2, e2, q5⟩ => ?_))
    subst e2
    cases r5
    exact wpAny_truthy_bool ⟨H5, I5, q5⟩

/-! ### truth -/
theorem line63 : (sizeLine : Nat) < 2 ^ 63 := by rw [sizeLine_eq]; decide
/-! ### strs and bytes -/
theorem op_add_str : OpR X (binaryOp .Add) (fun x y H Q => ∃ i j, x = .str i ∧ y = .str j ∧ i.length + j.length ≤ sizeLine ∧ Q (.str (i ++ j)) H) := by
  intro pins s σ H x y v u Q I rx ry h
  obtain ⟨i, j, rfl, rfl, hz, q⟩ := h
  obtain ⟨t, rfl⟩ := rx
  obtain ⟨t', rfl⟩ := ry
  exact add_str (fun t' tk => ⟨.str (i ++ j), H, I.tok _, ⟨_, rfl⟩, q⟩) hz
/-! ### scalar builtins, by CallR -/
theorem vals1 {x : V} {us : List Value} (r : Vals [x] us) : ∃ u, us = [u] ∧ RelV x u := by
  cases r with
  | cons r1 r2 => cases r2; exact ⟨_, rfl, r1⟩
theorem vals2 {x y : V} {us : List Value} (r : Vals [x, y] us) : ∃ u w', us = [u, w'] ∧ RelV x u ∧ RelV y w' := by
  cases r with
  | cons r1 r2 =>
    cases r2 with
    | cons r3 r4 => cases r4; exact ⟨_, _, rfl, r1, r3⟩
theorem call_max2 (hc : X.calm = true) : CallR X (.builtin "max") (fun xs H Q => ∃ i j, xs = [.int i, .int j] ∧ Q (.int (if j > i then j else i)) H) := by
  intro pins s σ H xs us Q I r h
  obtain ⟨i, j, rfl, q⟩ := h
  obtain ⟨u, w', rfl, ⟨t, rfl⟩, ⟨t', rfl⟩⟩ := vals2 r
  refine max_two_ints (I.ok.hd hc) fun h' tk k => ⟨_, H, I.kept k, ?_, q⟩
  by_cases hj : j > i
  · rw [if_pos hj, if_pos hj]; exact ⟨_, rfl⟩
  · rw [if_neg hj, if_neg hj]; exact ⟨_, rfl⟩
theorem call_min2 (hc : X.calm = true) : CallR X (.builtin "min") (fun xs H Q => ∃ i j, xs = [.int i, .int j] ∧ Q (.int (if j < i then j else i)) H) := by
  intro pins s σ H xs us Q I r h
  obtain ⟨i, j, rfl, q⟩ := h
  obtain ⟨u, w', rfl, ⟨t, rfl⟩, ⟨t', rfl⟩⟩ := vals2 r
  refine min_two_ints (I.ok.hd hc) fun h' tk k => ⟨_, H, I.kept k, ?_, q⟩
  by_cases hj : j < i
  · rw [if_pos hj, if_pos hj]; exact ⟨_, rfl⟩
  · rw [if_neg hj, if_neg hj]; exact ⟨_, rfl⟩
theorem call_int1 : CallR X (.type "int") (fun xs H Q => (∃ i, xs = [.int i] ∧ Q (.int i) H) ∨ ∃ k, xs = [.bl k] ∧ Q (.int (if k then 1 else 0)) H) := by
  intro pins s σ H xs us Q I r h
  rcases h with ⟨i, rfl, q⟩ | ⟨k, rfl, q⟩
  · obtain ⟨u, rfl, t, rfl⟩ := vals1 r
    exact call_int_int ⟨.int i, H, I, ⟨_, rfl⟩, q⟩
  · obtain ⟨u, rfl, r1⟩ := vals1 r
    cases r1
    exact call_int_bool ⟨.int (if k then 1 else 0), H, I.tok _, ⟨_, rfl⟩, q⟩
end
end L2

namespace L2
open PySem PySem.Spec PyProof.Rows

/-! ### an instance, its attributes a map -/
structure ObjM (h : Heap) (x dx C : Addr) (mA : Str → Option Value) : Prop where
  obj : h.get? x = some (PySem.W.instObj C dx)
  ns : h.Ns1 dx mA
  ne : dx ≠ x

theorem lookIn_ns {h : Heap} {dx : Addr} {mA : Str → Option Value} (n : h.Ns1 dx mA) : ∃ od, h.get? dx = some od ∧ ∀ name, PySem.W.lookIn name od = some (mA name) := by
  obtain ⟨o, es, ep, ho, hd, hk, _, hm⟩ := n
  refine ⟨o, ho, fun name => ?_⟩
  have e := hm name
  unfold nsFind findBy at e
  rw [← Array.find?_toList] at e
  unfold PySem.W.lookIn
  rw [hd]
  dsimp only
  split
  · rename_i y q
    rw [q] at e
    exact congrArg some e
  · rename_i q
    rw [q] at e
    have a : es.toList.any (·.refKey) = false := by
      rw [List.any_eq_false]
      intro y hy
      obtain ⟨z, t, hkey⟩ := hk y (Array.mem_toList_iff.mp hy)
      simp [DictEntry.refKey, hkey]
    have a' : ¬ es.toList.any (·.refKey) = true := by rw [a]; exact Bool.false_ne_true
    rw [if_neg a']
    exact congrArg some e

theorem ObjM.look {h : Heap} {x dx C : Addr} {mA : Str → Option Value} (I : ObjM h x dx C mA) : ∃ od, PySem.W.InstAt h x (PySem.W.instObj C dx) C (some od) ∧ ∀ name, PySem.W.lookIn name od = some (mA name) :=
  let ⟨od, ho, hl⟩ := lookIn_ns I.ns
  ⟨od, ⟨I.obj, rfl, rfl, ho⟩, hl⟩

section
variable {prog : Program} {w : World} {A : Around} {E : Value → Shared → Prop} {s : Shared} {K : PySem.W.Frag} {x dx C f : Addr} {mA : Str → Option Value} {name : Str} {v : Value}

end

/-! ### the attributes as a list of pairs -/
section
variable {P : Program} {w : World} {H H' : Hp} {h h' : Heap} {a C dx : Addr} {fs fs' : List (Str × V)}
end

/-! ### what of the text a class must have -/
structure Cls (K : PySem.W.Frag) (C : Addr) : Prop where
  pg : PySem.W.plainGet K C Str.empty = true
  hd : PySem.W.hasDictIn K C = true
  po : PySem.W.plainOver K C = true
  sa : PySem.W.findIn K (.ref C) "__setattr__" = some (some (.builtin "object.__setattr__"))
theorem Cls.get {K : PySem.W.Frag} {C : Addr} (c : Cls K C) (f : Str) : PySem.W.plainGet K C f = true := c.pg
section
variable {X : Cx} {pins : List (Addr × Obj)} {σ : St} {H : Hp} {s : Shared} {a C dx : Addr} {fs : List (Str × V)} {f : Str} {v : V} {A : Around} {E : Value → Shared → Prop}

/-- a new instance, tracked, without attributes -/
theorem Inv.made (I : Inv X pins σ H s) : Inv X pins σ (upd (upd H s.heap.objs.size (.own (s.heap.objs.size + 1))) (s.heap.objs.size + 1) (.ins C s.heap.objs.size []))
    { s with heap := (s.heap.push PySem.W.emptyDict).push (PySem.W.instObj C s.heap.objs.size) } := by
  have e1 : (s.heap.push PySem.W.emptyDict).get? s.heap.objs.size = some PySem.W.emptyDict := Heap.get?_push_size s.heap rfl
  have e2 : ((s.heap.push PySem.W.emptyDict).push (PySem.W.instObj C s.heap.objs.size)).get? (s.heap.objs.size + 1) = some (PySem.W.instObj C s.heap.objs.size) := by
    have := Heap.get?_push_size (s.heap.push PySem.W.emptyDict) (o := PySem.W.instObj C s.heap.objs.size) rfl
    rwa [Heap.size_push] at this
  have e3 : (s.heap.push PySem.W.emptyDict).Ns s.heap.objs.size (fun _ => none) := ⟨PySem.W.emptyDict, #[], _, e1, rfl, (fun e he => absurd he (by simp)), fun _ => rfl⟩
  have I1 := I.laid (a := s.heap.objs.size) (o := .own (s.heap.objs.size + 1)) (h' := s.heap.push PySem.W.emptyDict) (t' := s.toks) (fun b u q => Heap.get?_push_of_some _ q) (Nat.le_refl _) ⟨_, e1⟩
  refine I1.laid (a := s.heap.objs.size + 1) (o := .ins C s.heap.objs.size []) (t' := s.toks) (fun b u q => Heap.get?_push_of_some _ q) (Nat.le_of_eq (Heap.size_push _ _)) ?_
  have ne : s.heap.objs.size ≠ s.heap.objs.size + 1 := Nat.ne_of_lt (Nat.lt_succ_self _)
  refine ⟨by rw [upd_ne ne, upd_same], Nat.zero_le _, ne, e2, fun _ => none, (Heap.Ns1.of_empty e3).at fun o q => Heap.get?_push_of_some _ q, fun _ => True.intro, fun y hy => absurd rfl hy⟩

end

/-! ### readings and rules -/
section
variable {X : Cx} {o e value : Expr} {f : Str} {pos pos' tpos : Pos} {ta tv : TE}
end

/-! ### isinstance -/
section
variable {X : Cx} {pins : List (Addr × Obj)} {σ : St} {H : Hp} {s : Shared} {A : Around} {E : Value → Shared → Prop} {Q : Value → Shared → Prop} {c : Value} {b : Bool}
/-- the type of a value, as the fragment's deciders take it; for an instance its class -/
inductive TyOf (K : PySem.W.Frag) (H : Hp) : V → Value → Prop where
  | non : TyOf K H .non (.type "NoneType")
  | bl (x : Bool) : TyOf K H (.bl x) (.type "bool")
  | int (i : Int) : TyOf K H (.int i) (.type "int")
  | str (x : Str) : TyOf K H (.str x) (.type "str")
  | flt (x : UInt64) : TyOf K H (.flt x) (.type "float")
  | lst {a : Addr} {xs : List V} (e : H a = some (.lst xs)) : TyOf K H (.ref a) (.type "list")
  | frz {a : Addr} {o : Obj} {xs : List V} (e : H a = some (.frz o (.lst xs))) : TyOf K H (.ref a) (.type "list")
  | tup {a : Addr} {xs : List V} (e : H a = some (.tup xs)) : TyOf K H (.ref a) (.type "tuple")
  | dK {a : Addr} {kvs : List (Key × V)} (e : H a = some (.dK kvs)) : TyOf K H (.ref a) (.type "dict")
  | dT {a : Addr} {kvs : List (List Key × V)} (e : H a = some (.dT kvs)) : TyOf K H (.ref a) (.type "dict")
  | ins {a C dx : Addr} {fs : List (Str × V)} (e : H a = some (.ins C dx fs)) (cl : Cls K C) (ha : PySem.W.findIn K (.ref C) "__class__" = some (some (.builtin "object.__class__")))
      (hn : PySem.W.specialIn K (.builtin "object.__class__") "__get__" = some (some (.builtin "getset_descriptor.__get__"))) (htk : PySem.W.takesIn K (.builtin "object.__class__") = some true)
      (hm : PySem.W.mroIn K C (.type "object") = some true) : TyOf K H (.ref a) (.ref C)
end
end L2

namespace L2
open PySem PySem.Spec PyProof.Rows

/-! ### room -/
structure Room (k : Nat) (A : Around) : Prop where
  hd : A.handled = none
  dp : A.depth + 3 * k + 5 < recursionLimit
  un : A.units + 16 * k + 200 < cLine
theorem Room.mono {j k : Nat} {A : Around} (r : Room k A) (h : j ≤ k) : Room j A := ⟨r.hd, by have := r.dp; omega, by have := r.un; omega⟩
theorem Room.deeper {k : Nat} {A : Around} (r : Room (k + 1) A) (env : Env) : Room k (A.deeper env) :=
  ⟨r.hd, by have := r.dp; show A.depth + 1 + 3 * k + 5 < _; omega, by have := r.un; show A.units + 3 + 16 * k + 200 < _; omega⟩
theorem Room.in1 {k : Nat} {A : Around} (r : Room (k + 1) A) : Room k A.in1 :=
  ⟨r.hd, by have := r.dp; show A.depth + 3 * k + 5 < _; omega, by have := r.un; show A.units + 1 + 16 * k + 200 < _; omega⟩
theorem Room.depth {k : Nat} {A : Around} (r : Room k A) : A.depth < recursionLimit := by have := r.dp; omega
theorem Room.units {k : Nat} {A : Around} (r : Room k A) : A.units + 64 < cLine := by have := r.un; omega
/-! ### argument lists and displays -/
def tNil : TA := fun _ H Q => Q [] H
def tCons (ta : TE) (tr : TA) : TA := fun σ H Q => ta σ H fun x H1 => tr σ H1 fun xs H2 => Q (x :: xs) H2
section
variable {X : Cx} {e : Expr} {es : List Expr} {te : TE} {t : TA} {pos : Pos}
theorem pa_nil : PA X [] tNil := fun _ _ _ _ H Q I h => Calls.spliced_nil ⟨[], H, I, .nil, h⟩
theorem pa_cons (ha : PE X e te) (hr : PA X es t) (hs : starEach (e :: es) X.env = (false, eval e X.env) :: starEach es X.env := by rfl) : PA X (e :: es) (tCons te t) := by
  intro pos pins s σ H Q I h
  rw [hs]
  show wpAny _ _ (spliced ((false, eval e X.env) :: backTo pos (starEach es X.env))) _ _ s
  refine Calls.spliced_cons (thn (ha pins s σ H _ I h) fun u s1 ⟨x, H1, I1, r1, q1⟩ => ?_)
  exact thn (hr pos pins s1 σ H1 _ I1 q1) fun us s2 ⟨xs, H2, I2, r2, q2⟩ => ⟨x :: xs, H2, I2, .cons r1 r2, q2⟩

/-- a tuple, a list of written items -/
def tTup (t : TA) : TE := fun σ H Q => t σ H fun xs H1 => xs.length ≤ sizeLine ∧ ∀ p, H1 p = none → Q (.ref p) (upd H1 p (.tup xs))
def tLst (t : TA) : TE := fun σ H Q => t σ H fun xs H1 => xs.length ≤ sizeLine ∧ ∀ p, H1 p = none → Q (.ref p) (upd H1 p (.lst xs))
theorem pe_tup {x1} (h : PA X es t) : PE X (.Tuple es x1 pos) (tTup t) := by
  intro pins s σ H Q I hq
  refine wpAny_Tuple_spliced (thn (h pos pins s σ H _ I hq) fun us s1 ⟨xs, H1, I1, r, z, q⟩ => ⟨by rw [← r.length]; exact z, ?_⟩)
  have hf : H1 s1.heap.objs.size = none := I1.hok.fresh (Nat.le_refl _)
  refine ⟨.ref s1.heap.objs.size, upd H1 s1.heap.objs.size (.tup xs), I1.laid (t' := s1.toks) (fun b u e => Heap.get?_push_of_some _ e) (Nat.le_refl _) ?_, rfl, q _ hf⟩
  exact ⟨z, us, r, ⟨_, Heap.get?_push_size _ rfl, rfl, _, rfl⟩⟩
theorem pe_lst (h : PA X es t) : PE X (.List es pos) (tLst t) := by
  intro pins s σ H Q I hq
  refine wpAny_List_spliced (thn (h pos pins s σ H _ I hq) fun us s1 ⟨xs, H1, I1, r, z, q⟩ => ⟨by rw [← r.length]; exact z, ?_⟩)
  have hf : H1 s1.heap.objs.size = none := I1.hok.fresh (Nat.le_refl _)
  refine ⟨.ref s1.heap.objs.size, upd H1 s1.heap.objs.size (.lst xs), I1.laid (t' := s1.toks) (fun b u e => Heap.get?_push_of_some _ e) (Nat.le_refl _) ?_, rfl, q _ hf⟩
  exact ⟨z, us, 0, r, Heap.get?_push_size _ rfl⟩
end

/-! ### what a def promises -/
/-- a def's promise: the bound arguments in the parameters' order, the heap, the wanted end, the wanted exception -/
abbrev Sp := List V → Hp → VK → XK → Prop
/-- how an exception lies behind a call (file 08 gives it): the callers' frames, abstract heap and state ahead of the call, the wish, the exception, the state -/
abbrev CXT := List Env → Hp → Shared → XK → Value → Shared → Prop

/-- the state at a call -/
structure Env0 (P : Program) (w : World) (K : PySem.W.Frag) (mg : Str → Option Value) (base : Heap) (A : Around) (outer : List Env) (s : Shared) (H : Hp) : Prop where
  frames : A.frames = some outer
  mod : Mod K mg base
  bs : ∀ b o, base.get? b = some o → s.heap.get? b = some o ∧ H b = none
  bsz : base.objs.size ≤ s.heap.objs.size
  funs : s.heap.FunFrames base outer
  frf : ∀ b ∈ frs outer, H b = none
  hok : HOk P w H s.heap
  bare : AllBare s.gens
/-- a call's end -/
def CE (outer : List Env) (P : Program) (w : World) (H : Hp) (s : Shared) (Q : VK) (u : Value) (s' : Shared) : Prop :=
  ∃ v H', s'.os = s.os ∧ AllBare s'.gens ∧ Un (frs outer) [] H H' s.heap s'.heap ∧ HOk P w H' s'.heap ∧ RelV v u ∧ Q v H'
def CR (CX : CXT) (outer : List Env) (P : Program) (w : World) (H : Hp) (s : Shared) (Q : VK) (E : XK) (r : Result) (s' : Shared) : Prop :=
  match r with
  | .ok (.ret u) => CE outer P w H s Q u s'
  | .ok _ => False
  | .error e => CX outer H s E e s'
structure FnOk (P : Program) (w : World) (K : PySem.W.Frag) (mg : Str → Option Value) (base : Heap) (CX : CXT) (k : Nat) (f : Addr) (fd : FuncData) (ps : List Str) (sp : Sp) : Prop where
  len : ∀ vs H Q E, sp vs H Q E → vs.length = ps.length
  run : ∀ (A : Around) (outer : List Env) (s : Shared) (H : Hp) (args : Args) (us : List Value) (vs : List V) (Q : VK) (E : XK), Room k A → Env0 P w K mg base A outer s H → BindsTo s fd args (ps.zip us) → Vals vs us → sp vs H Q E →
    codeAny (model P w) A (.call (.ref f) args) (CR CX outer P w H s Q E) s
theorem FnOk.mono {P : Program} {w : World} {K : PySem.W.Frag} {mg : Str → Option Value} {base : Heap} {CX : CXT} {j k : Nat} {f : Addr} {fd : FuncData} {ps : List Str} {sp : Sp} (F : FnOk P w K mg base CX j f fd ps sp) (h : j ≤ k) :
    FnOk P w K mg base CX k f fd ps sp := ⟨F.len, fun A outer s H args us vs Q E hr => F.run A outer s H args us vs Q E (hr.mono h)⟩
/-- a weaker promise -/
theorem FnOk.imp {P : Program} {w : World} {K : PySem.W.Frag} {mg : Str → Option Value} {base : Heap} {CX : CXT} {k : Nat} {f : Addr} {fd : FuncData} {ps : List Str} {sp sp' : Sp} (F : FnOk P w K mg base CX k f fd ps sp)
    (h : ∀ vs H Q E, sp' vs H Q E → sp vs H Q E) : FnOk P w K mg base CX k f fd ps sp' :=
  ⟨fun vs H Q E q => F.len vs H Q E (h _ _ _ _ q), fun A outer s H args us vs Q E hr he hb hv hs => F.run A outer s H args us vs Q E hr he hb hv (h _ _ _ _ hs)⟩

theorem Env0.in1 {P : Program} {w : World} {K : PySem.W.Frag} {mg : Str → Option Value} {base : Heap} {A : Around} {outer : List Env} {s : Shared} {H : Hp} (e : Env0 P w K mg base A outer s H) :
    Env0 P w K mg base A.in1 outer s H := ⟨e.frames, e.mod, e.bs, e.bsz, e.funs, e.frf, e.hok, e.bare⟩

section
variable {X : Cx} {pins : List (Addr × Obj)} {σ : St} {H : Hp} {s s' : Shared}
/-- from a body: what a callee wants -/
theorem Inv.env0 (I : Inv X pins σ H s) : Env0 X.prog X.w X.K X.mg X.base X.A X.stack s H :=
  ⟨I.ok.frames, I.ok.mod, I.bs, Nat.le_trans I.ok.bsz I.sz, I.stack, I.stkFree, I.hok, I.bare⟩
/-- behind a call -/
theorem Inv.after {Q : VK} {u : Value} (I : Inv X pins σ H s) (h : CE X.stack X.prog X.w H s Q u s') : EP X pins σ Q u s' := by
  obtain ⟨v, H', os, bare, un, hok, r, q⟩ := h
  obtain ⟨hh, g, d, t, os'⟩ := s'
  obtain rfl : os' = s.os := os
  exact ⟨v, H', I.call (h' := hh) (g' := g) (d' := d) (t' := t) (ch := []) un hok bare (fun b z => absurd z (by simp)), r, q⟩
end

/-! ### calls -/
/-- f(..): the written arguments, then the defaults dvs; E: what is wanted of an exception -/
def tCall (sp : Sp) (dvs : List V) (E : XK) (t : TA) : TE := fun σ H Q => t σ H fun vs H1 => sp (vs ++ dvs) H1 Q E
/-- how the parameters are bound: us the positional arguments, kw the keywords' values by name, ds the defaults that fill up -/
def Binds (K : PySem.W.Frag) (fd : FuncData) (ps : List Str) (ds : List Value) : Prop :=
  ∀ (s : Shared) (us : List Value), K.In s.heap → (us ++ ds).length = ps.length → BindsTo s fd ⟨us, []⟩ (ps.zip (us ++ ds))
/-- every parameter is given -/
theorem Binds.all {K : PySem.W.Frag} {fd : FuncData} {ps : List Str} (h : ∀ us : List Value, us.length = ps.length → bindArgs fd ⟨us, []⟩ = pure (ps.zip us)) : Binds K fd ps [] := fun s us _ hl => by
  rw [List.append_nil] at hl ⊢
  exact .of_eq (h us hl)

/-- an exception of a callee reaches what this body wants of exceptions -/
def Passes (CX : CXT) (X : Cx) (E : XK) : Prop := ∀ (pins : List (Addr × Obj)) (σ : St) (H : Hp) (s : Shared) (e : Value) (s' : Shared), Inv X pins σ H s → CX X.stack H s E e s' → X.xe e s'

section
variable {X : Cx} {CX : CXT} {k : Nat} {f C : Addr} {fd : FuncData} {ps : List Str} {sp : Sp} {dvs : List V} {ds : List Value} {E : XK} {x m : Str} {p pos apos : Pos} {e o : Expr} {es : List Expr} {ta : TE} {t : TA}

/-- the callee runs -/
theorem run_fn {pins : List (Addr × Obj)} {σ : St} {H : Hp} {s : Shared} {Q : VK} {us : List Value} {vs : List V} (F : FnOk X.prog X.w X.K X.mg X.base CX k f fd ps sp) (hr : Room k X.A) (hb : Binds X.K fd ps ds) (hd : Vals dvs ds) (hx : Passes CX X E)
    (I : Inv X pins σ H s) (r : Vals vs us) (h : sp (vs ++ dvs) H Q E) : wpAny (model X.prog X.w) X.A (call (.ref f) us) (EP X pins σ Q) X.xe s := by
  have r2 : Vals (vs ++ dvs) (us ++ ds) := r.append hd
  have hl : (us ++ ds).length = ps.length := by rw [← r2.length]; exact F.len _ _ _ _ h
  refine wpAny_call (codeAny_mono (F.run X.A X.stack s H ⟨us, []⟩ (us ++ ds) (vs ++ dvs) Q E hr I.env0 (hb s us I.kIn hl) r2 h) fun r s' hq => ?_)
  cases r with
  | error e => exact hx pins σ H s e s' I hq
  | ok fl =>
    cases fl with
    | ret u => exact I.after hq
    | next => exact False.elim hq
    | brk => exact False.elim hq
    | cont => exact False.elim hq

theorem pe_call (F : FnOk X.prog X.w X.K X.mg X.base CX k f fd ps sp) (hr : Room k X.A) (hg : Gl X x) (hm : X.mg x = some (.ref f)) (hk : PySem.W.keepIn X.K (.ref f) = true) (hb : Binds X.K fd ps ds) (hd : Vals dvs ds) (hx : Passes CX X E)
    (ha : PA X (e :: es) t) (hdb : (x == ("__debug__" : Str)) = false := by decide) (he : starEach (e :: es) X.env = (false, eval e X.env) :: starEach es X.env := by rfl) (hpl : (backTo pos (starEach es X.env)).any (·.1) = false := by rfl) :
    PE X (.Call (.Name x p) (e :: es) [] pos) (tCall sp dvs E t) := by
  intro pins s σ H Q I h
  refine wpAny_Call_Name_kw (ld_glob I hg hm ?_ hdb)
  refine PySem.W.callWith_K (h₀ := X.base) I.ok.mod.kin hk (thn (ha pos pins s σ H _ I h) fun us s1 ⟨vs, H1, I1, r, q⟩ => ⟨I1.kIn, ?_⟩) he hpl
  exact run_fn F hr hb hd hx I1 r q
end

/-! ### keywords -/
section
variable {X : Cx} {CX : CXT} {k : Nat} {f C : Addr} {fd : FuncData} {ps ks : List Str} {sp : Sp} {E : XK} {x m : Str} {p pos apos kpos : Pos} {e o : Expr} {es : List Expr} {kws : List Keyword} {te ta : TE} {t tk : TA} {nm : Option Str}
variable {g : List Value → List Value → List Value} {gV : List V → List V → List V}
end

/-! ### a def's body keeps its promise -/
/-- names: the parameters first -/
structure FnScope (N P : List Str) (sc : Scope) : Prop where
  kind : sc.kind = .function
  co : sc.isCoroutine = false
  gen : sc.isGenerator = false
  nd : N.Nodup
  pre : N.take P.length = P
  par : ∀ x ∈ P, sc.names.lookup x = some .local ∨ sc.names.lookup x = some .cell
  nofree : ∀ y ∈ sc.names, y.2 ≠ .free

theorem bindL_out {kindOf : Str → Option NameKind} {x : Str} : ∀ {binds : List (Str × Value)} {m : Str → Option Value}, (∀ v, (x, v) ∉ binds) → bindL kindOf binds m x = m x
  | [], _, _ => rfl
  | (n, v) :: r, m, h => by
    unfold bindL
    rw [bindL_out fun w hw => h w (List.mem_cons_of_mem _ hw)]
    split
    · have : x ≠ n := by rintro rfl; exact h v List.mem_cons_self
      simp [this]
    · rfl
theorem bindC_out {kindOf : Str → Option NameKind} {x : Str} : ∀ {binds : List (Str × Value)} {m : Str → Option Value}, (∀ v, (x, v) ∉ binds) → bindC kindOf binds m x = m x
  | [], _, _ => rfl
  | (n, v) :: r, m, h => by
    unfold bindC
    rw [bindC_out fun w hw => h w (List.mem_cons_of_mem _ hw)]
    split
    · rfl
    · have : x ≠ n := by rintro rfl; exact h v List.mem_cons_self
      simp [this]
theorem bindL_get {kindOf : Str → Option NameKind} {x : Str} {v : Value} : ∀ {P : List Str} {vs : List Value} {i : Nat} {m : Str → Option Value}, P.Nodup → P[i]? = some x → vs[i]? = some v → kindOf x = some .local →
    bindL kindOf (P.zip vs) m x = some v
  | [], _, _, _, _, h, _, _ => by simp at h
  | _ :: _, [], _, _, _, _, h, _ => by simp at h
  | p :: P, w :: vs, 0, m, nd, h1, h2, hk => by
    simp at h1 h2; subst h1; subst h2
    show bindL kindOf ((p, w) :: P.zip vs) m p = _
    unfold bindL
    rw [bindL_out fun v hv => (List.nodup_cons.mp nd).1 (List.of_mem_zip hv).1, if_pos hk]
    simp
  | p :: P, w :: vs, i + 1, m, nd, h1, h2, hk => by
    show bindL kindOf ((p, w) :: P.zip vs) m x = _
    unfold bindL
    exact bindL_get (i := i) (List.nodup_cons.mp nd).2 (by simpa using h1) (by simpa using h2) hk
theorem bindC_get {kindOf : Str → Option NameKind} {x : Str} {v : Value} : ∀ {P : List Str} {vs : List Value} {i : Nat} {m : Str → Option Value}, P.Nodup → P[i]? = some x → vs[i]? = some v → kindOf x ≠ some .local →
    bindC kindOf (P.zip vs) m x = some v
  | [], _, _, _, _, h, _, _ => by simp at h
  | _ :: _, [], _, _, _, _, h, _ => by simp at h
  | p :: P, w :: vs, 0, m, nd, h1, h2, hk => by
    simp at h1 h2; subst h1; subst h2
    show bindC kindOf ((p, w) :: P.zip vs) m p = _
    unfold bindC
    rw [bindC_out fun v hv => (List.nodup_cons.mp nd).1 (List.of_mem_zip hv).1, if_neg hk]
    simp
  | p :: P, w :: vs, i + 1, m, nd, h1, h2, hk => by
    show bindC kindOf ((p, w) :: P.zip vs) m x = _
    unfold bindC
    exact bindC_get (i := i) (List.nodup_cons.mp nd).2 (by simpa using h1) (by simpa using h2) hk

/-- the names' values at the entry -/
def start (N : List Str) (vs : List V) : St := vs.map some ++ List.replicate (N.length - vs.length) none

/-- the context of a def's body, at its entry; an exception leaves the frame, then lies as CX says -/
def cxOf (CX : CXT) (P : Program) (w : World) (K : PySem.W.Frag) (mg : Str → Option Value) (base : Heap) (N : List Str) (qual : Str) (scope : Scope) (f : Addr) (cd : Value) (A : Around) (outer : List Env) (s : Shared) (H : Hp) (E : XK) : Cx where
  prog := P
  w := w
  K := K
  mg := mg
  base := base
  A := A.deeper (envOfC qual scope s.heap.objs.size f cd)
  N := N
  s_0 := s
  H_0 := H
  env := envOfC qual scope s.heap.objs.size f cd
  outer := outer
  stack := envOfC qual scope s.heap.objs.size f cd :: outer
  ex := []
  calm := true
  fn := fun _ => true
  pn := []
  xe := fun e s' => wpAny (model P w) (A.deeper (envOfC qual scope s.heap.objs.size f cd)) (leaving (envOfC qual scope s.heap.objs.size f cd) e) (fun _ s'' => CX outer H s E e s'') (fun e' s'' => CX outer H s E e' s'') s'

theorem cell_has {sc : Scope} {n : Nat} {x : Str} (h : sc.names.lookup x = some .cell) : ∃ c, (cellsFrom n sc.names []).lookup x = some c := by
  have q := PySem.W.cellsFrom_some sc.names n [] (.inl h)
  exact Option.isSome_iff_exists.mp q

theorem inv_start {CX : CXT} {P : Program} {w : World} {K : PySem.W.Frag} {mg : Str → Option Value} {base : Heap} {N ps : List Str} {qual : Str} {scope : Scope} {f : Addr} {cd : Value} {A : Around} {outer : List Env} {s s1 : Shared} {H : Hp} {E : XK} {us : List Value} {vs : List V}
    (S : FnScope N ps scope) (hd : A.handled = none) (e0 : Env0 P w K mg base A outer s H) (hl : vs.length = ps.length) (r : Vals vs us)
    (x : InCallC s s.heap.objs.size (bindL (envOfC qual scope s.heap.objs.size f cd).kindOf (ps.zip us) fun _ => none) (cellsFrom (s.heap.objs.size + 1) scope.names []) (bindC (envOfC qual scope s.heap.objs.size f cd).kindOf (ps.zip us) fun _ => none) s1) :
    Inv (cxOf CX P w K mg base N qual scope f cd A outer s H E) [] (start N vs) H s1 := by
  have hpl : ps.length ≤ N.length := by have := congrArg List.length S.pre; rw [List.length_take] at this; omega
  obtain ⟨h1, tk, rfl, hk⟩ := x.done
  have noA : ∀ b : Addr, b ∉ (cxOf CX P w K mg base N qual scope f cd A outer s H E).ex := fun b z => absurd (show b ∈ ([] : List Addr) from z) (by simp)
  refine ⟨⟨e0.mod, S.kind, rfl, rfl, Nat.le_refl _, fun y z c h1 h2 => ?_, fun y hy => ?_, fun y c _ h => ?_, fun _ => hd, Around.frames_deeper e0.frames, .inr ⟨rfl, rfl⟩, fun b z => absurd z (noA b), e0.bs, e0.bsz, fun b _ _ => noA b, fun b z => absurd z (noA b), e0.funs, e0.frf⟩,
    rfl, e0.bare, Un.kept hk, ⟨_, x.toInCall.ns, fun i y v h1 h2 h3 => ?_⟩, fun y c h => ⟨_, x.cell y c h⟩, e0.hok.fresh (Nat.le_refl _), fun y c h => ?_, fun p hp => absurd (show p ∈ ([] : List (Addr × Obj)) from hp) (by simp), e0.hok.kept hk, ?_⟩
  · exact name_of_addr x.apart (PySem.mem_of_lookup h1) (PySem.mem_of_lookup h2)
  · have hy : scope.names.lookup y = some .cell ∨ scope.names.lookup y = some .free := hy
    rcases hy with hy | hy
    · exact cell_has hy
    · exact absurd rfl (S.nofree _ (PySem.mem_of_lookup hy))
  · exact Nat.le_of_lt (x.above y c (PySem.mem_of_lookup h))
  · have hi : i < vs.length := by
      unfold start at h2
      by_cases hi : i < vs.length
      · exact hi
      · rw [List.getElem?_append_right (by simpa using hi)] at h2
        rw [List.getElem?_replicate] at h2
        split at h2 <;> cases h2
    have ha : vs[i]? = some v := by
      unfold start at h2
      rw [List.getElem?_append_left (by simpa using hi), List.getElem?_map] at h2
      cases e : vs[i]? with
      | none => rw [e] at h2; cases h2
      | some a => rw [e] at h2; cases h2; rfl
    obtain ⟨u, hu, rv⟩ := r.get ha
    have hp : ps[i]? = some y := by
      rw [← S.pre, List.getElem?_take_of_lt (by omega)]; exact h1
    have ndP : ps.Nodup := by rw [← S.pre]; exact S.nd.sublist (List.take_sublist _ _)
    refine ⟨u, rv, ?_⟩
    rcases S.par y (List.mem_of_getElem? hp) with k | k
    · exact .inl ⟨k, bindL_get ndP hp hu k⟩
    · obtain ⟨c, e⟩ := cell_has (n := s.heap.objs.size + 1) k
      refine .inr ⟨.inl k, c, e, ?_⟩
      have q := x.cell y c e
      rw [bindC_get ndP hp hu (by show scope.names.lookup y ≠ _; rw [k]; decide)] at q
      exact q
  · exact e0.hok.fresh (Nat.le_of_lt (x.above y c (PySem.mem_of_lookup h)))
  · unfold start
    show _ = N.length
    rw [List.length_append, List.length_map, List.length_replicate]
    omega

/-- THE RULE: a def (or a method) of the text, by its body. The body's reading t is chosen for each entry; it is run at the parameters' values -/
theorem fn_of {CX : CXT} {P : Program} {w : World} {K : PySem.W.Frag} {mg : Str → Option Value} {base : Heap} {k : Nat} {f : Addr} {name qual : Str} {params : Arguments} {body : List Stmt} {scope : Scope} {dV kV doc pm cdv ct oc : Value} {an od : Option Addr}
    {osl : Array (Option Value)} {N ps : List Str} {sp : Sp} (lk : K.lookup f = some ⟨oc, od, .func (PySem.W.fnOf name qual params body scope dV kV doc pm an cdv ct), osl⟩) (hcd : PySem.W.codeIn K cdv qual = true) (S : FnScope N ps scope)
    (len : ∀ vs H Q E, sp vs H Q E → vs.length = ps.length)
    (hbody : ∀ (A : Around) (outer : List Env) (s : Shared) (H : Hp) (vs : List V) (Q : VK) (E : XK), Room k (A.deeper (envOfC qual scope s.heap.objs.size f cdv)) → sp vs H Q E →
      ∃ t, PSs (cxOf CX P w K mg base N qual scope f cdv A outer s H E) body t ∧ t { nx := fun _ H' => Q .non H', rt := Q } (start N vs) H) :
    FnOk P w K mg base CX (k + 1) f (PySem.W.fnOf name qual params body scope dV kV doc pm an cdv ct) ps sp := by
  refine ⟨len, fun A outer s H args us vs Q E hr e0 hb r hsp => ?_⟩
  have hl := len _ _ _ _ hsp
  have KX : K.In s.heap := e0.mod.kin.keeps fun b o e => (e0.bs b o e).1
  have lim : s.heap.NoLimit := e0.mod.nolimit.keeps fun b o e => (e0.bs b o e).1
  have hkind : ∀ y ∈ ps.zip us, scope.names.lookup y.1 = some .local ∨ (scope.names.lookup y.1 = some .cell ∧ ((cellsFrom (s.heap.objs.size + 1) scope.names []).lookup y.1).isSome = true) := fun ⟨n, v⟩ hy => by
    rcases S.par n (List.of_mem_zip hy).1 with q | q
    · exact .inl q
    · exact .inr ⟨q, PySem.W.cellsFrom_some _ _ _ (.inl q)⟩
  refine codeAny_call_function hr.depth (KX _ _ lk) rfl S.co S.gen rfl (PySem.W.codeRec_of KX hcd) (hb _ _ _ _ ?_)
  refine wpAny_newFunctionEnv_cells S.kind hkind fun env he s1 x => ?_
  subst he
  refine ⟨lim.keeps x.toInCall.keep, codeAny_func ?_⟩
  obtain ⟨t, ht, hq⟩ := hbody A outer s H vs Q E (hr.deeper _) hsp
  have I : Inv (cxOf CX P w K mg base N qual scope f cdv A outer s H E) [] (start N vs) H s1 := inv_start S hr.hd e0 hl r x
  refine wpAny_mono (ht [] s1 (start N vs) H _ I hq) (fun fl s' hs => ?_) fun e s' hs => hs
  have fin : ∀ {σ' : St} {H' : Hp} {v : V} {u : Value}, Inv (cxOf CX P w K mg base N qual scope f cdv A outer s H E) [] σ' H' s' → RelV v u → Q v H' → CE outer P w H s Q u s' :=
    fun {σ' H' v u} J rv q => ⟨v, H', J.os, J.bare, J.base, J.hok, rv, q⟩
  cases fl with
  | ret u =>
    obtain ⟨v, σ', H', J, rv, q⟩ := hs
    exact fin J rv q
  | next =>
    obtain ⟨σ', H', J, q⟩ := hs
    exact fin (v := V.non) (u := Value.none) J rfl q
  | brk =>
    obtain ⟨_, _, _, q⟩ := hs
    exact False.elim q
  | cont =>
    obtain ⟨_, _, _, q⟩ := hs
    exact False.elim q
end L2

namespace L2
open PySem PySem.Spec PyProof.Rows
section
variable {X : Cx} {x : Str} {p pos : Pos} {e : Expr} {es : List Expr} {t : TA} {id T : String} {r : List V → Hp → VK → Prop}

def tCB (r : List V → Hp → VK → Prop) (t : TA) : TE := fun σ H Q => t σ H fun vs H1 => r vs H1 Q
/-- f(e, ..), f a built-in function -/
theorem pe_callB (hc : CallR X (.builtin id) r) (hg : Gl X x) (hm : X.mg x = none) (hv : bootBuiltins x = some (.builtin id)) (ha : PA X (e :: es) t) (hn : x ≠ "__name__" := by decide) (hdb : (x == ("__debug__" : Str)) = false := by decide)
    (he : starEach (e :: es) X.env = (false, eval e X.env) :: starEach es X.env := by rfl) (hpl : (backTo pos (starEach es X.env)).any (·.1) = false := by rfl) : PE X (.Call (.Name x p) (e :: es) [] pos) (tCB r t) := by
  intro pins s σ H Q I h
  refine wpAny_Call_Name_kw (ld_blt I hg hm hv ?_ hn hdb)
  exact PyProof.Rows.callWith_builtin1 (thn (ha pos pins s σ H _ I h) fun us s1 ⟨vs, H1, I1, r1, q1⟩ => hc pins s1 σ H1 vs us Q I1 r1 q1) he hpl
/-- T(e, ..), T a built-in type -/
theorem pe_callTy (hc : CallR X (.type T) r) (hg : Gl X x) (hm : X.mg x = none) (hv : bootBuiltins x = some (.type T)) (ha : PA X (e :: es) t) (hn : x ≠ "__name__" := by decide) (hdb : (x == ("__debug__" : Str)) = false := by decide)
    (he : starEach (e :: es) X.env = (false, eval e X.env) :: starEach es X.env := by rfl) (hpl : (backTo pos (starEach es X.env)).any (·.1) = false := by rfl) : PE X (.Call (.Name x p) (e :: es) [] pos) (tCB r t) := by
  intro pins s σ H Q I h
  refine wpAny_Call_Name_kw (ld_blt I hg hm hv ?_ hn hdb)
  exact PyProof.Rows.callWith_type1 (thn (ha pos pins s σ H _ I h) fun us s1 ⟨vs, H1, I1, r1, q1⟩ => hc pins s1 σ H1 vs us Q I1 r1 q1) he hpl
end
end L2

namespace HT
open PySem PyProof.Rows

/-- t < u of tuples of ints -/
def lexLt : List Int → List Int → Bool
  | [], [] => false
  | [], _ :: _ => true
  | _ :: _, [] => false
  | x :: xs, y :: ys => if x = y then lexLt xs ys else decide (x < y)
theorem lexLt_cons (x y : Int) (xs ys : List Int) : lexLt (x :: xs) (y :: ys) = if x = y then lexLt xs ys else decide (x < y) := rfl
theorem lexLt_nil_nil : lexLt [] [] = false := rfl
theorem lexLt_nil_cons (y : Int) (ys : List Int) : lexLt [] (y :: ys) = true := rfl
theorem lexLt_cons_nil (x : Int) (xs : List Int) : lexLt (x :: xs) [] = false := rfl

theorem eqAt_int (A : Around) (s : Shared) (a : Int) (t : Tok) (c : Int) (u : Tok) : ∃ e, SeqAt.EqAt A s (.int a t) (.int c u) e ∧ (e = true ↔ a = c) :=
  ⟨(a == c), SeqAt.EqAt.int_int a t c u, by simp⟩
theorem rcLt_int (A : Around) (s : Shared) (a : Int) (t : Tok) (c : Int) (u : Tok) (prog : Program) (w : World) (E : Value → Shared → Prop) (Q : Value → Shared → Prop) (h : Q (.bool (decide (a < c))) s) :
    wpAny (model prog w) A (richCompare .Lt (.int a t) (.int c u)) Q E s :=
  (PyProof.Rows.lt_int h : wpAny (model prog w) A (compareOp .Lt (.int a t) (.int c u)) Q E s)

section
open PySem.SeqAt
open PySem.AutoSeq1 (wpAny_loadPart')
open PySem.MeetsSeq PySem.MeetsSeq2 PySem.MeetsSeq3

theorem tuple_lt_ints (l b : Addr) (items items2 : Array Value) (n n2 : Nat) (dd dd2 : Option Addr) (sl sl2 : Array (Option Value)) (ns ms : List Int) (hi : IntsAre items.toList ns) (hj : IntsAre items2.toList ms) :
    Meets (Builtin.«tuple.__lt__» ⟨[.ref l, .ref b], []⟩)
      (fun _ R s => s.heap.get? l = some { cls := .type "tuple", dict := dd, data := .seq items n, slots := sl } ∧ s.heap.get? b = some { cls := .type "tuple", dict := dd2, data := .seq items2 n2, slots := sl2 } ∧
        R (.ok (.ret (.bool (lexLt ns ms)))) s) :=
  .of_wp fun prog w A R s h => by
    obtain ⟨hp, g, d, tk, os⟩ := s; obtain ⟨hl, hb, h⟩ := h
    have f2 := AutoSeq1.sub_tuple_tuple
    have z1 : items.size = ns.length := by rw [← hi.length]; simp
    have z2 : items2.size = ms.length := by rw [← hj.length]; simp
    wp_walk using wpAny_loadPart' hl, wpAny_loadPart' hb, wpAny_forIn_list _ (fun rest b s' => b.1 = none ∧ s' = ⟨hp, g, d, tk, os⟩ ∧ ∃ (vs ws : List Value) (ns' ms' : List Int), rest = vs.zip ws ∧
      IntsAre vs ns' ∧ IntsAre ws ms' ∧ ns'.length + items2.size = ms'.length + items.size ∧ R (.ok (.ret (.bool (lexLt ns' ms')))) ⟨hp, g, d, tk, os⟩) _
    case turn =>
      rintro ⟨y, x⟩ rest b s' ⟨hb', rfl, vs, ws, ns', ms', hz, hvi, hwi, hlen, hR⟩
      cases hvi with
      | nil => rw [List.zip_nil_left] at hz; cases hz
      | cons a t hvi' =>
        cases hwi with
        | nil => rw [List.zip_nil_right] at hz; cases hz
        | cons c u hwi' =>
          rw [List.zip_cons_cons] at hz
          injection hz with hyx hrest
          injection hyx with hy hx
          subst hy hx
          rw [lexLt_cons] at hR
          simp only [List.length_cons] at hlen
          obtain ⟨e, he, hiff⟩ := eqAt_int A.in1 ⟨hp, g, d, tk, os⟩ a t c u
          refine wpAny_bind (he prog w _ _ ?_)
          cases e with
          | true =>
            rw [if_pos (hiff.mp rfl)] at hR
            wp_walk
            exact ⟨rfl, rfl, _, _, _, _, hrest, hvi', hwi', by omega, hR⟩
          | false =>
            rw [if_neg (fun q => absurd (hiff.mpr q) Bool.false_ne_true)] at hR
            have hri := rcLt_int A.in1 ⟨hp, g, d, tk, os⟩ a t c u prog w
            wp_walk using hri
            exact ⟨_, rfl, by simpa using hR⟩
    case fin =>
      rintro ⟨b1, b2⟩ s' ⟨hb', rfl, vs, ws, ns', ms', hz, hvi, hwi, hlen, hR⟩
      simp only at hb'
      subst hb'
      have hv : lexLt ns' ms' = decide (items.size < items2.size) := by
        cases hvi with
        | nil =>
          cases hwi with
          | nil =>
            simp only [List.length_nil] at hlen
            rw [lexLt_nil_nil]
            exact (decide_eq_false (by omega)).symm
          | cons c u hw =>
            simp only [List.length_nil, List.length_cons] at hlen
            rw [lexLt_nil_cons]
            exact (decide_eq_true (by omega)).symm
        | cons a t hv =>
          cases hwi with
          | nil =>
            simp only [List.length_nil, List.length_cons] at hlen
            rw [lexLt_cons_nil]
            exact (decide_eq_false (by omega)).symm
          | cons c u hw =>
            rw [List.zip_cons_cons] at hz
            cases hz
      rw [hv] at hR
      wp_walk
      exact ⟨_, rfl, by simpa [Builtin.Tuple.tupleCompareSizes] using hR⟩
    case h =>
      exact ⟨rfl, rfl, items.toList, items2.toList, ns, ms, rfl, hi, hj, by omega, h⟩
end

section
variable {prog : Program} {w : World} {A : Around} {E : Value → Shared → Prop} {s : Shared}

theorem lt_tupInts {l b : Addr} {items items2 : Array Value} {ns ms : List Int} {Q : Value → Shared → Prop} (hl : IsTup s.heap l items) (hb : IsTup s.heap b items2) (hi : IntsAre items.toList ns) (hj : IntsAre items2.toList ms)
    (hu : A.units < cLine) (h : Q (.bool (lexLt ns ms)) s) : wpAny (model prog w) A (compareOp .Lt (.ref l) (.ref b)) Q E s := by
  obtain ⟨⟨cls, dd, data, sl⟩, ho, hc, n, hd⟩ := id hl
  obtain ⟨⟨cls2, dd2, data2, sl2⟩, ho2, hc2, n2, hd2⟩ := id hb
  simp only at hc hd hc2 hd2
  subst hc hd hc2 hd2
  exact richCompare_meets_room (op := .Lt) ⟨_, ho, rfl⟩ ⟨_, ho2, rfl⟩ PySem.F.slot_tuple_lt PySem.F.entry_tuple_lt (PySem.F.args_tuple_lt_2 _ _) (tuple_lt_ints l b items items2 n n2 dd dd2 sl sl2 ns ms hi hj)
    ⟨ho, ho2, show Value.bool (lexLt ns ms) ≠ Value.notImplemented ∧ Q (.bool (lexLt ns ms)) s from ⟨(fun x => nomatch x), h⟩⟩ hu

/-! ### t[a:b], not the whole -/
/-- a slice's bound as a place among n (d where it is left out) -/
def sIx (n d : Nat) : Option Int → Nat
  | none => d
  | some v => if v < 0 then (v + (n : Int)).toNat else min v.toNat n
theorem sIx_none (n d : Nat) : sIx n d none = d := rfl
theorem sIx_nat (n d k : Nat) : sIx n d (some (k : Int)) = min k n := by
  show (if (k : Int) < 0 then ((k : Int) + (n : Int)).toNat else min (k : Int).toNat n) = min k n
  rw [if_neg (by omega), Int.toNat_natCast]
end
end HT

namespace L2
open PySem PySem.Spec PyProof.Rows

/-! ### the parts of a slice -/
abbrev TO := St → Hp → (Option Int → Hp → Prop) → Prop
/-- a slice's part (left out, or an int) -/
def PO (X : Cx) (e : Option Expr) (t : TO) : Prop :=
  ∀ (pins : List (Addr × Obj)) (s : Shared) (σ : St) (H : Hp) (Q : Option Int → Hp → Prop), Inv X pins σ H s → t σ H Q →
    wpAny (model X.prog X.w) X.A (evalPart e X.env) (fun u s' => ∃ o H', Inv X pins σ H' s' ∧ IsPart u o ∧ Q o H') X.xe s
def tNoPart : TO := fun _ H Q => Q none H
def tPart (t : TE) : TO := fun σ H Q => t σ H fun x H1 => ∃ i, x = .int i ∧ Q (some i) H1

section
variable {X : Cx} {e : Expr} {te : TE} {lo hi : Option Expr} {tl th : TO} {pos p2 : Pos}

theorem po_none : PO X none tNoPart := by
  intro pins s σ H Q I h
  rw [evalPart_none]
  exact wpAny_pure ⟨none, H, I, .none, h⟩
theorem po_some (h : PE X e te) : PO X (some e) (tPart te) := by
  intro pins s σ H Q I hw
  rw [evalPart_some]
  refine thn (h pins s σ H _ I hw) fun u s1 ⟨x, H1, I1, r1, q1⟩ => ?_
  obtain ⟨i, rfl, q⟩ := q1
  obtain ⟨t, rfl⟩ := r1
  exact ⟨some i, H1, I1, .int i t, q⟩

/-- what a slice of a value is, by values: the slice object stands at sl -/
def SlR (X : Cx) (r : V → Option Int → Option Int → Hp → VK → Prop) : Prop :=
  ∀ (pins : List (Addr × Obj)) (s : Shared) (σ : St) (H : Hp) (x : V) (v vl vu : Value) (lo hi : Option Int) (sl : Addr) (Q : VK), Inv X pins σ H s → RelV x v → s.heap.IsSliceOf sl vl vu .none → IsPart vl lo → IsPart vu hi → r x lo hi H Q →
    ∃ T id, typeLookup (.type T) "__getitem__" = pure (some (.builtin id)) ∧ s.TypeIs v T ∧ wpAny (model X.prog X.w) X.A (getItem v (.ref sl)) (EP X pins σ Q) X.xe s
def tSl (r : V → Option Int → Option Int → Hp → VK → Prop) (te : TE) (tl th : TO) : TE := fun σ H Q => te σ H fun x H1 => tl σ H1 fun l H2 => th σ H2 fun u H3 => r x l u H3 Q
/-- a[lo:hi], any a -/
theorem pe_slice {r : V → Option Int → Option Int → Hp → VK → Prop} (hr : SlR X r) (he : PE X e te) (hl : PO X lo tl) (hu : PO X hi th) : PE X (.Subscript e (.Slice lo hi none p2) pos) (tSl r te tl th) := by
  intro pins s σ H Q I h
  refine Subscript_ (thn (he pins s σ H _ I h) fun v s1 ⟨x, H1, I1, r1, q1⟩ => ?_)
  refine wpAny_Slice (thn (hl pins s1 σ H1 _ I1 q1) fun vl s2 ⟨l, H2, I2, pl, q2⟩ => thn (hu pins s2 σ H2 _ I2 q2) fun vu s3 ⟨u, H3, I3, pu, q3⟩ => ?_)
  rw [evalPart_none]
  refine wpAny_pure ?_
  have I4 : Inv X pins σ H3 { s3 with heap := s3.heap.push { cls := .type "slice", data := .fields #[vl, vu, .none] } } := I3.kept (t' := s3.toks) fun b ob q => Heap.get?_push_of_some _ q
  obtain ⟨T, id, hT, ht, hg⟩ := hr pins { s3 with heap := s3.heap.push { cls := .type "slice", data := .fields #[vl, vu, .none] } } σ H3 x v vl vu l u s3.heap.objs.size Q I4 r1 (Heap.IsSliceOf.new ..) pl pu q3
  show wpAny (model X.prog X.w) X.A (subscriptTail e (.Slice lo hi none p2) v (.ref s3.heap.objs.size)) (EP X pins σ Q) X.xe { s3 with heap := s3.heap.push { cls := .type "slice", data := .fields #[vl, vu, .none] } }
  exact tail_any (ops := [.ref s3.heap.objs.size, v]) ht hT hg (by with_unfolding_all rfl)

/-- the items of xs[lo:hi] -/
def cutV (xs : List V) (lo hi : Option Int) : List V := (xs.drop (HT.sIx xs.length 0 lo)).take (HT.sIx xs.length xs.length hi - HT.sIx xs.length 0 lo)
theorem cutV_length (xs : List V) (lo hi : Option Int) : (cutV xs lo hi).length ≤ xs.length := by
  unfold cutV
  rw [List.length_take, List.length_drop]
  omega
/-! ### t < u, t + u -/
end
end L2

namespace L2
open PySem PySem.Spec PyProof.Rows

/-! ### places -/
/-- the place that an index of any sign means -/
def ixN (n : Nat) (i : Int) : Option Nat := if 0 ≤ i then (if i < n then some i.toNat else none) else if -(n : Int) ≤ i then some (i + n).toNat else none
def atI {α : Type} (xs : List α) (i : Int) : Option α := (ixN xs.length i).bind fun j => xs[j]?
theorem ixN_seq {n : Nat} {i : Int} {j : Nat} (h : ixN n i = some j) : seqIndex? i n = some j ∧ j < n ∧ -(n : Int) ≤ i ∧ i < n := by
  unfold ixN at h
  by_cases h0 : 0 ≤ i
  · rw [if_pos h0] at h
    by_cases h1 : i < n
    · rw [if_pos h1] at h
      have e : i.toNat = j := Option.some.inj h
      exact ⟨by rw [seqIndex_of h0 h1, e], by omega, by omega, h1⟩
    · rw [if_neg h1] at h; cases h
  · rw [if_neg h0] at h
    by_cases h1 : -(n : Int) ≤ i
    · rw [if_pos h1] at h
      have e : (i + n).toNat = j := Option.some.inj h
      exact ⟨by rw [seqIndex_neg (by omega) h1, e], by omega, h1, by omega⟩
    · rw [if_neg h1] at h; cases h
theorem atI_get {α : Type} {xs : List α} {i : Int} {v : α} (h : atI xs i = some v) : ∃ j, seqIndex? i xs.length = some j ∧ xs[j]? = some v ∧ j < xs.length ∧ -(xs.length : Int) ≤ i ∧ i < xs.length := by
  unfold atI at h
  cases e : ixN xs.length i with
  | none => rw [e] at h; cases h
  | some j =>
    rw [e] at h
    obtain ⟨h1, h2, h3, h4⟩ := ixN_seq e
    exact ⟨j, h1, h, h2, h3, h4⟩
theorem atI_nat {α : Type} {xs : List α} {j : Nat} {v : α} (h : xs[j]? = some v) : atI xs (j : Int) = some v := by
  have hj : j < xs.length := (List.getElem?_eq_some_iff.mp h).1
  have e : ixN xs.length (j : Int) = some j := by
    unfold ixN
    rw [if_pos (by omega), if_pos (by omega)]; simp
  unfold atI; rw [e]; exact h
/-! ### what may be subscripted -/
/-- what stands as an index of a plain subscript -/
def PlainIx (b : Expr) : Prop := ∀ o i, subscripted b false o i = operate [o, i] (getItem o i)
/-- a subscript by values -/
def IxR (X : Cx) (r : R2) : Prop :=
  ∀ (value slice : Expr) (pins : List (Addr × Obj)) (s : Shared) (σ : St) (H : Hp) (x y : V) (v u : Value) (Q : VK), Inv X pins σ H s → RelV x v → RelV y u → r x y H Q →
    subscripted slice false v u = operate [v, u] (getItem v u) → wpAny (model X.prog X.w) X.A (subscriptTail value slice v u) (EP X pins σ Q) X.xe s
/-- a call of a builtin's method by values: the receiver, the arguments -/
def MtR (X : Cx) (id : String) (r : V → List V → Hp → VK → Prop) : Prop :=
  ∀ (pins : List (Addr × Obj)) (s : Shared) (σ : St) (H : Hp) (x : V) (xs : List V) (v : Value) (us : List Value) (Q : VK), Inv X pins σ H s → RelV x v → Vals xs us → r x xs H Q →
    wpAny (model X.prog X.w) X.A (call (.builtin id) (v :: us)) (EP X pins σ Q) X.xe s
section
variable {X : Cx} {a b : Expr} {ta tb : TE} {pos : Pos}
/-- a[b] -/
theorem pe_ix {r : R2} (hr : IxR X r) (ha : PE X a ta) (hb : PE X b tb) (hs : PlainIx b) : PE X (.Subscript a b pos) (tOp r ta tb) := by
  intro pins s σ H Q I h
  exact Subscript_ (binT ha hb I h fun v u s2 x y H2 I2 rx ry q => hr a b pins s2 σ H2 x y v u Q I2 rx ry q (hs _ _))

def rIxL (K : PySem.W.Frag) : R2 := fun x y H Q => ∃ p xs i v, x = .ref p ∧ y = .int i ∧ SqL K H p xs ∧ atI xs i = some v ∧ Q v H
def rIxT (K : PySem.W.Frag) : R2 := fun x y H Q => ∃ p xs i v, x = .ref p ∧ y = .int i ∧ SqT K H p xs ∧ atI xs i = some v ∧ Q v H
def rIxS : R2 := fun x y H Q => ∃ z i c, x = .str z ∧ y = .int i ∧ z.length ≤ sizeLine ∧ atI z.cps.toList i = some c ∧ Q (.str ⟨#[c]⟩) H
theorem ix_list : IxR X (rIxL X.K) := by
  intro value slice pins s σ H x y v u Q I rx ry h hs
  obtain ⟨p, xs, i, z, rfl, rfl, hq, he, q⟩ := h
  cases rx
  obtain ⟨t, rfl⟩ := ry
  obtain ⟨its, r, pl, hz⟩ := I.list hq
  obtain ⟨j, h1, h2, h3, h4, h5⟩ := atI_get he
  obtain ⟨w, ew, rw'⟩ := r.get h2
  have hl := r.length
  have hn := line63
  have fin : EP X pins σ Q w s := ⟨z, H, I, rw', q⟩
  by_cases h0 : 0 ≤ i
  · have hj : i.toNat = j := by
      rw [seqIndex_of h0 h5] at h1
      exact Option.some.inj h1
    exact item_listR pl.isList h0 (by omega) (by rw [hj]; simpa using ew) fin hs
  · have hj : (i + (its.toArray.size : Int)).toNat = j := by
      rw [seqIndex_neg (by omega) h4] at h1
      rw [List.size_toArray, ← hl]
      exact Option.some.inj h1
    exact subscriptTail_builtinR (x := w) pl.isList.typeIs slot_list_getitem.lookup
      (wpAny_getItem_list_neg (Q := fun r s' => r = w ∧ EP X pins σ Q r s') pl.isList (by omega) (by rw [List.size_toArray] <;> omega) (by omega) (by rw [hj]; simpa using ew) ⟨rfl, fin⟩) hs
theorem ix_tup : IxR X (rIxT X.K) := by
  intro value slice pins s σ H x y v u Q I rx ry h hs
  obtain ⟨p, xs, i, z, rfl, rfl, hq, he, q⟩ := h
  cases rx
  obtain ⟨t, rfl⟩ := ry
  obtain ⟨its, r, pl, hz⟩ := I.tuple hq
  obtain ⟨j, h1, h2, h3, h4, h5⟩ := atI_get he
  obtain ⟨w, ew, rw'⟩ := r.get h2
  have hl := r.length
  have hn := line63
  have fin : EP X pins σ Q w s := ⟨z, H, I, rw', q⟩
  exact subscriptTail_builtinR (x := w) pl.typeIs slot_tuple_getitem.lookup
    (getItem_tuple (j := j) (Q := fun r s' => r = w ∧ EP X pins σ Q r s') pl (by omega) (by omega) (by rw [List.size_toArray, ← hl]; exact h1) (by simpa using ew) ⟨rfl, fin⟩) hs
theorem ix_str : IxR X rIxS := by
  intro value slice pins s σ H x y v u Q I rx ry h hs
  obtain ⟨z, i, c, rfl, rfl, hz, he, q⟩ := h
  obtain ⟨t, rfl⟩ := rx
  obtain ⟨t', rfl⟩ := ry
  obtain ⟨j, h1, h2, h3, h4, h5⟩ := atI_get he
  have hl : z.cps.toList.length = z.length := by simp [Str.length]
  rw [hl] at h1 h4 h5
  have hn := line63
  exact tail_any (typeIs_str s z t) slot_str_getitem.lookup (getItem_str (c := c) (by
    have e1 : decide (i < -(2 ^ 63 : Int)) = false := decide_eq_false (by omega)
    have e2 : decide (i ≥ 2 ^ 63) = false := decide_eq_false (by omega)
    rw [e1, e2, Bool.or_false]) (by rw [h1]; simpa using h2) ⟨.str ⟨#[c]⟩, H, I.tok _, ⟨_, rfl⟩, q⟩) hs
/-! ### xs[i] = v, any sign -/
theorem Inv.lst {pins : List (Addr × Obj)} {σ : St} {H : Hp} {s : Shared} {p : Addr} {xs : List V} (I : Inv X pins σ H s) (h : H p = some (.lst xs)) :
    ∃ (its : List Value) (n : Nat), Vals xs its ∧ s.heap.get? p = some { cls := .type "list", data := .seq its.toArray n } ∧ xs.length ≤ sizeLine := by
  obtain ⟨z, its, n, r, e⟩ := I.hok p _ h
  exact ⟨its, n, r, e, z⟩
/-! ### slices -/
theorem slice_bounds (lo hi : Option Int) (n : Nat) : (sliceBounds lo hi none n).1 = ((HT.sIx n 0 lo : Nat) : Int) ∧ (sliceBounds lo hi none n).2.1 = ((HT.sIx n n hi : Nat) : Int) ∧ (sliceBounds lo hi none n).2.2 = 1 := by
  refine ⟨?_, ?_, rfl⟩
  · cases lo with
    | none => simp [sliceBounds, HT.sIx]
    | some i =>
      simp only [sliceBounds, HT.sIx, Option.getD_none, show (1 : Int) > 0 by decide, if_true]
      by_cases h : i < 0
      · simp only [h, if_true] <;> omega
      · simp only [h, if_false] <;> omega
  · cases hi with
    | none => simp [sliceBounds, HT.sIx]
    | some i =>
      simp only [sliceBounds, HT.sIx, Option.getD_none, show (1 : Int) > 0 by decide, if_true]
      by_cases h : i < 0
      · simp only [h, if_true] <;> omega
      · simp only [h, if_false] <;> omega
theorem slicePick_cut (its : List Value) (lo hi : Option Int) : slicePick its.toArray lo hi none = ((its.drop (HT.sIx its.length 0 lo)).take (HT.sIx its.length its.length hi - HT.sIx its.length 0 lo)).toArray := by
  obtain ⟨h1, h2, h3⟩ := slice_bounds lo hi its.toArray.size
  unfold slicePick
  rw [h1, h2, h3]
  simp only [sliceRange_one, pick_run, List.size_toArray] <;> rfl
/-- xs[lo:hi] of a list: a new list -/
def rSlL (K : PySem.W.Frag) : V → Option Int → Option Int → Hp → VK → Prop := fun x lo hi H Q => ∃ a xs, x = .ref a ∧ SqL K H a xs ∧ ∀ p, H p = none → Q (.ref p) (upd H p (.lst (cutV xs lo hi)))
theorem sl_list : SlR X (rSlL X.K) := by
  intro pins s σ H x v vl vu lo hi sl Q I rx hs pl pu h
  obtain ⟨a, xs, rfl, hx, q⟩ := h
  cases rx
  obtain ⟨its, r, ht, hz⟩ := I.list hx
  have hlen := r.length
  refine ⟨"list", _, slot_list_getitem.lookup, ht.isList.typeIs, ?_⟩
  refine wpAny_getItem_list_slice ht.isList hs pl pu .none (by simp) ?_ (by rw [List.size_toArray] <;> omega)
  rw [slicePick_cut, ← hlen]
  refine ⟨.ref s.heap.objs.size, _, I.laid (t' := s.toks) (o := .lst (cutV xs lo hi)) (fun b ob q => Heap.get?_push_of_some _ q) (Nat.le_refl _) ?_, rfl, q _ (I.hok.fresh (Nat.le_refl _))⟩
  exact ⟨Nat.le_trans (cutV_length xs lo hi) hz, _, 0, (r.drop (HT.sIx xs.length 0 lo)).take (HT.sIx xs.length xs.length hi - HT.sIx xs.length 0 lo), Heap.get?_push_size _ rfl⟩

/-! ### in, not in: flat items -/
/-! ### len, list(x), tuple(x) of any list or tuple that is read -/
theorem call_len_seq : CallR X (.builtin "len") (fun xs H Q => ∃ p ys, xs = [.ref p] ∧ (SqL X.K H p ys ∨ SqT X.K H p ys) ∧ Q (.int ys.length) H) := by
  intro pins s σ H xs us Q I r h
  obtain ⟨p, ys, rfl, hq, q⟩ := h
  obtain ⟨u, rfl, rx⟩ := vals1 r
  cases rx
  have hn := line63
  rcases hq with hq | hq
  · obtain ⟨its, r', pl, hz⟩ := I.list hq
    have hlen := r'.length
    exact Calls.call_len_list pl.isList (by simp only [List.size_toArray] <;> omega) ⟨.int ys.length, H, I.tok _, ⟨s.toks + 1, by rw [List.size_toArray, hlen]⟩, q⟩
  · obtain ⟨its, r', pl, hz⟩ := I.tuple hq
    have hlen := r'.length
    exact len_tuple pl (by simp only [List.size_toArray] <;> omega) ⟨.int ys.length, H, I.tok _, ⟨s.toks + 1, by rw [List.size_toArray, hlen]⟩, q⟩
theorem call_len_str : CallR X (.builtin "len") (fun xs H Q => ∃ z, xs = [.str z] ∧ z.length ≤ sizeLine ∧ Q (.int z.length) H) := by
  intro pins s σ H xs us Q I r h
  obtain ⟨z, rfl, hz, q⟩ := h
  obtain ⟨u, rfl, t, rfl⟩ := vals1 r
  have hn := line63
  exact len_str (by omega) ⟨.int z.length, H, I.tok _, ⟨_, rfl⟩, q⟩
theorem call_tuple_of : CallR X (.type "tuple") (fun xs H Q => ∃ p ys, xs = [.ref p] ∧ ((SqL X.K H p ys ∧ ∀ l, H l = none → Q (.ref l) (upd H l (.tup ys))) ∨ (SqT X.K H p ys ∧ Q (.ref p) H))) := by
  intro pins s σ H xs us Q I r h
  obtain ⟨p, ys, rfl, h⟩ := h
  obtain ⟨u, rfl, rx⟩ := vals1 r
  cases rx
  rcases h with ⟨hq, q⟩ | ⟨hq, q⟩
  · obtain ⟨its, r', pl, hz⟩ := I.list hq
    have hlen := r'.length
    refine call_tuple_list pl.isList (fun h' kp => ?_) (by simp only [List.size_toArray] <;> omega)
    have I1 : Inv X pins σ H { s with heap := h' } := I.kept (t' := s.toks) kp
    have I2 : Inv X pins σ (upd H h'.objs.size (.tup ys)) { s with heap := h'.push { cls := .type "tuple", data := .seq its.toArray } } :=
      I1.laid (t' := s.toks) (fun b o e => Heap.get?_push_of_some _ e) (Nat.le_refl _) (show ObjOk X.prog X.w _ _ _ (.tup ys) from ⟨hz, its, r', IsTup.new _ _⟩)
    exact ⟨.ref h'.objs.size, _, I2, rfl, q _ (I1.hok.fresh (Nat.le_refl _))⟩
  · obtain ⟨its, r', pl, hz⟩ := I.tuple hq
    exact call_tuple_same pl ⟨.ref p, H, I, rfl, q⟩

/-! ### the call of a builtin's method: o.m(..) -/
/-- the value is of that builtin type -/
def tyV (K : PySem.W.Frag) (T : String) (x : V) (H : Hp) : Prop := match x with
  | .str _ => T = "str"
  | .int _ => T = "int"
  | .ref p => (T = "list" ∧ ∃ xs, SqL K H p xs) ∨ (T = "tuple" ∧ ∃ o, K.lookup p = some o ∧ o.cls = .type "tuple" ∧ o.dict = none) ∨
      (T = "dict" ∧ ((∃ kvs, H p = some (.dK kvs)) ∨ ∃ kvs, H p = some (.dT kvs))) ∨ (T = "set" ∧ ∃ S n, H p = some (.set S n))
  | _ => False
theorem tyV_is {pins : List (Addr × Obj)} {σ : St} {H : Hp} {s : Shared} {T : String} {x : V} {v : Value} (I : Inv X pins σ H s) (r : RelV x v) (ty : tyV X.K T x H) :
    s.TypeIs v T ∧ ∀ a, v = .ref a → ∃ ob, s.heap.get? a = some ob ∧ ob.dict = none := by
  cases x with
  | str z =>
    obtain ⟨t, rfl⟩ := r
    cases (show T = "str" from ty)
    exact ⟨typeIs_str s z t, fun _ e => nomatch e⟩
  | int i =>
    obtain ⟨t, rfl⟩ := r
    cases (show T = "int" from ty)
    exact ⟨typeIs_int s i t, fun _ e => nomatch e⟩
  | ref p =>
    cases r
    rcases ty with ⟨rfl, xs, hq⟩ | ⟨rfl, o, hk, hc, hd⟩ | ⟨rfl, hk⟩ | ⟨rfl, S, n, hk⟩
    · obtain ⟨its, _, pl, _⟩ := I.list hq
      refine ⟨pl.isList.typeIs, fun a e => ?_⟩
      cases e
      obtain ⟨o, n, e, c, hd, _⟩ := pl
      exact ⟨o, e, hd⟩
    · refine ⟨⟨o, I.kIn p o hk, hc⟩, fun a e => ?_⟩
      cases e
      exact ⟨o, I.kIn _ o hk, hd⟩
    · have z : ∃ o, s.heap.get? p = some o ∧ o.ExactDict := by
        rcases hk with ⟨kvs, hk⟩ | ⟨kvs, hk⟩
        · obtain ⟨_, _, _, _, o, _, _, e, ex, _⟩ := I.hok p _ hk
          exact ⟨o, e, ex⟩
        · obtain ⟨_, _, _, _, o, _, _, e, ex, _⟩ := I.hok p _ hk
          exact ⟨o, e, ex⟩
      obtain ⟨o, e, ex⟩ := z
      refine ⟨⟨o, e, ex.1⟩, fun a e2 => ?_⟩
      cases e2
      exact ⟨o, e, ex.2.1⟩
    · obtain ⟨o, _, _, _, e, ex, _⟩ := I.hok p _ hk
      refine ⟨⟨o, e, ex.1⟩, fun a e2 => ?_⟩
      cases e2
      exact ⟨o, e, ex.2.1⟩
  | _ => exact False.elim ty
def tBM (K : PySem.W.Frag) (T : String) (r : V → List V → Hp → VK → Prop) (to : TE) (t : TA) : TE := fun σ H Q => to σ H fun x H1 => tyV K T x H1 ∧ t σ H1 fun xs H2 => r x xs H2 Q
variable {o e : Expr} {es : List Expr} {to : TE} {t : TA} {name : Str} {apos cpos : Pos} {T id : String} {r : V → List V → Hp → VK → Prop}
theorem pe_bm (pa : PlainAttrs T) (slot : Slot T name id) (hty : typeOf (.builtin id) = pure (.type "method_descriptor")) (hm : MtR X id r) (ho : PE X o to) (ha : PA X (e :: es) t)
    (hbase : attributeBase o name X.env (eval o X.env) = eval o X.env := by rfl)
    (hfew : ((backTo cpos (starEach (e :: es) X.env)).all (fun x => !x.1) && (backToKw cpos (keywordEach [] X.env)).all (fun x => x.1.isSome)
      && decide ((e :: es).length + ([] : List Keyword).length + (if ([] : List Keyword).isEmpty then 0 else 1) < 30)) = true := by rfl)
    (hline : (apos.endLine == cpos.line) = true := by rfl) (hs : starEach (e :: es) X.env = (false, eval e X.env) :: starEach es X.env := by rfl) (hplain : (backTo cpos (starEach es X.env)).any (·.1) = false := by rfl) :
    PE X (.Call (.Attribute o name apos) (e :: es) [] cpos) (tBM X.K T r to t) := by
  intro pins s σ H Q I h
  refine wpAny_Call_method_late hbase hfew hline rfl (thn (ho pins s σ H _ I h) fun v s1 ⟨x, H1, I1, r1, ty, q1⟩ => ?_)
  obtain ⟨h1, h2⟩ := tyV_is I1 r1 ty
  refine ⟨T, id, pa, slot, hty, h1, h2, ?_⟩
  have hA := ha cpos pins s1 σ H1 _ I1 q1
  rw [hs] at hA ⊢
  refine Calls.callWith_builtin (by show (false || (backTo cpos (starEach es X.env)).any (·.1)) = false; rw [hplain] <;> rfl) (Calls.evalArgs_plain ?_)
  exact thn hA fun us s2 ⟨vs, H2, I2, r2, q2⟩ => hm pins s2 σ H2 x vs v us Q I2 r1 r2 q2
/- xs.append(e), list.index on a module's tuple .. are MtR facts of 06m -/
end
end L2

namespace L2
open PySem PySem.Spec PyProof.Rows

def MtM (X : Cx) (id : String) (r : V → List V → Hp → VK → Prop) : Prop :=
  ∀ (pins : List (Addr × Obj)) (s : Shared) (σ : St) (H : Hp) (x : V) (xs : List V) (v : Value) (us : List Value) (Q : VK), Inv X pins σ H s → RelV x v → Vals xs us → r x xs H Q →
    wpAny (model X.prog X.w) X.A (call (.builtin id) (v :: us)) (EP X pins σ Q) X.xe s

/-! ### lists of values -/
theorem Vals.one : ∀ {x : V} {us : List Value}, Vals [x] us → ∃ u, us = [u] ∧ RelV x u
  | _, _, .cons r .nil => ⟨_, rfl, r⟩
theorem Vals.two : ∀ {x y : V} {us : List Value}, Vals [x, y] us → ∃ u v, us = [u, v] ∧ RelV x u ∧ RelV y v
  | _, _, _, .cons r (.cons q .nil) => ⟨_, _, rfl, r, q⟩
theorem Vals.zero : ∀ {us : List Value}, Vals [] us → us = []
  | _, .nil => rfl
theorem Vals.eraseIdx : ∀ {xs : List V} {us : List Value} (i : Nat), Vals xs us → Vals (xs.eraseIdx i) (us.eraseIdx i)
  | _, _, _, .nil => .nil
  | _, _, 0, .cons _ t => t
  | _, _, i + 1, .cons r t => .cons r (Vals.eraseIdx i t)
theorem Vals.reverse {xs : List V} {us : List Value} (h : Vals xs us) : Vals xs.reverse us.reverse := by
  induction h with
  | nil => exact .nil
  | cons r t ih => rw [List.reverse_cons, List.reverse_cons]; exact Vals.append ih (.cons r .nil)
theorem Vals.rep {xs : List V} {us : List Value} (h : Vals xs us) : ∀ k : Nat, Vals (List.replicate k xs).flatten (List.replicate k us).flatten
  | 0 => .nil
  | k + 1 => by
    rw [List.replicate_succ, List.replicate_succ, List.flatten_cons, List.flatten_cons]
    exact Vals.append h (Vals.rep h k)
section
variable {X : Cx} {pins : List (Addr × Obj)} {σ : St} {H : Hp} {s : Shared} {l b : Addr} {xs ys zs : List V}

/-! ### the two steps: a tracked list is rewritten, a new list is laid -/
theorem Inv.lset {its its' : List Value} {n : Nat} {f : Array Value → Array Value} {t' : Nat} (I : Inv X pins σ H s) (hH : H l = some (.lst xs))
    (e : s.heap.get? l = some { cls := .type "list", data := .seq its.toArray n }) (hf : f its.toArray = its'.toArray) (hv : Vals ys its') (hz : ys.length ≤ sizeLine) :
    Inv X pins σ (upd H l (.lst ys)) { s with heap := s.heap.update l (Obj.mapSeq f), toks := t' } := by
  have q := PySem.IsL.update e f
  rw [hf] at q
  refine I.write (x := l) (e := l) (by rw [hH]; exact trivial) (.inl rfl) (fun b' u hb hu => (Heap.get?_update_other s.heap (Obj.mapSeq f) (Ne.symm hb)).trans hu) ⟨_, q⟩ ?_
  exact ⟨hz, its', _, hv, q⟩
theorem Inv.lnew {its : List Value} {t' : Nat} (I : Inv X pins σ H s) (hv : Vals ys its) (hz : ys.length ≤ sizeLine) :
    Inv X pins σ (upd H s.heap.objs.size (.lst ys)) { s with heap := s.heap.push { cls := .type "list", data := .seq its.toArray }, toks := t' } :=
  I.laid (fun _ _ q => Heap.get?_push_of_some _ q) (Nat.le_refl _) ⟨hz, its, 0, hv, Heap.get?_push_size _ rfl⟩
theorem Inv.fresh (I : Inv X pins σ H s) : H s.heap.objs.size = none := I.hok.fresh (Nat.le_refl _)
theorem Inv.lstM (I : Inv X pins σ H s) (hH : H l = some (.lst xs)) : xs.length ≤ sizeLine ∧ ∃ (its : List Value) (n : Nat), Vals xs its ∧ xs.length = its.length ∧ s.heap.get? l = some { cls := .type "list", data := .seq its.toArray n } := by
  obtain ⟨z, its, n, r, e⟩ := I.hok l _ hH
  exact ⟨z, its, n, r, r.length, e⟩

end

section
variable {X : Cx}

/-! ### methods -/
def rAppend : V → List V → Hp → VK → Prop := fun x vs H Q => ∃ l xs y, x = .ref l ∧ vs = [y] ∧ H l = some (.lst xs) ∧ xs.length < sizeLine ∧ Q .non (upd H l (.lst (xs ++ [y])))
theorem mt_append : MtM X "list.append" rAppend := by
  intro pins s σ H x vs v us Q I rx rv h
  obtain ⟨l, xs, y, rfl, rfl, hH, hz, q⟩ := h
  cases rx
  obtain ⟨u, rfl, ru⟩ := rv.one
  obtain ⟨z, its, n, r, hl, e⟩ := I.lstM hH
  refine call_meets F.slot_list_append ⟨_, e, rfl⟩ F.entry_list_append (F.args_list_append_2 _ _) (PySem.list_append l its.toArray n u (by rw [List.size_toArray]; omega)) ⟨e, ?_⟩
  refine ⟨.non, _, I.lset (its' := its ++ [u]) hH e (by simp) (r.append (.cons ru .nil)) ?_, rfl, q⟩
  rw [List.length_append, List.length_singleton]
  omega

/-! ### list + list, list += list, list * int -/
def rCat : R2 := fun x y H Q => ∃ l b xs zs, x = .ref l ∧ y = .ref b ∧ H l = some (.lst xs) ∧ H b = some (.lst zs) ∧ xs.length + zs.length ≤ sizeLine ∧ ∀ p, H p = none → Q (.ref p) (upd H p (.lst (xs ++ zs)))
theorem op_cat : OpR X (binaryOp .Add) rCat := by
  intro pins s σ H x y v u Q I rx ry h
  obtain ⟨l, b, xs, zs, rfl, rfl, hH, hB, hz, q⟩ := h
  cases rx
  cases ry
  obtain ⟨z, its, n, r, hl, e⟩ := I.lstM hH
  obtain ⟨z2, its2, n2, r2, hl2, e2⟩ := I.lstM hB
  refine PySem.P.add_list e e2 ?_ (by rw [List.size_toArray, List.size_toArray]; omega)
  have ea : its.toArray ++ its2.toArray = (its ++ its2).toArray := by simp
  rw [ea]
  exact ⟨.ref _, _, I.lnew (t' := s.toks) (r.append r2) (by rw [List.length_append]; omega), rfl, q _ I.fresh⟩
theorem len_rep {α : Type} (xs : List α) (k : Nat) : (List.replicate k xs).flatten.length = k * xs.length := by
  induction k with
  | zero => simp
  | succ k ih => rw [List.replicate_succ, List.flatten_cons, List.length_append, ih, Nat.succ_mul, Nat.add_comm]
/-! ### del xs[i] -/
end

/-! ### xs[a:b] = ys -/
section
variable {prog : Program} {w : World} {A : Around} {E : Value → Shared → Prop} {s : Shared}
end

section
variable {X : Cx}
end
end L2

namespace L2
open PySem PySem.Spec PyProof.Rows

theorem Vals.ints : ∀ {ns : List Int} {us : List Value}, Vals (ns.map V.int) us → IntsAre us ns
  | [], us, h => by
    rw [List.map_nil] at h
    cases h
    exact IntsAre.nil
  | n :: ns, us, h => by
    rw [List.map_cons] at h
    cases h with
    | cons r t =>
      obtain ⟨k, rfl⟩ := r
      exact IntsAre.cons n k (Vals.ints t)
theorem Vals.bls : ∀ {bs : List Bool} {us : List Value}, Vals (bs.map V.bl) us → us = bs.map Value.bool
  | [], us, h => by
    rw [List.map_nil] at h
    cases h
    rfl
  | b :: bs, us, h => by
    rw [List.map_cons] at h
    cases h with
    | cons r t =>
      cases r
      rw [Vals.bls t, List.map_cons]
theorem Vals.ref1 {a : Addr} {us : List Value} (r : Vals [V.ref a] us) : us = [Value.ref a] := by
  cases r with
  | cons r t =>
    cases t
    cases r
    rfl
/-! ### the library's walks over a list of ints, kept objects alone -/
section
variable {prog : Program} {w : World} {A : Around} {E : Value → Shared → Prop} {s : Shared} {l : Addr} {its : List Value} {ns : List Int} {Q : Value → Shared → Prop}
theorem max_raw (hh : A.handled = none) (hl : s.heap.IsList l its.toArray) (hi : IntsAre its ns) (hne : 0 < ns.length)
    (h : ∀ h' tk M t', (∀ b o, s.heap.get? b = some o → h'.get? b = some o) → M ∈ ns → (∀ a, a ∈ ns → a ≤ M) → Q (.int M t') { s with heap := h', toks := tk }) : wpAny (model prog w) A (call (.builtin "max") [.ref l]) Q E s := by
  obtain ⟨xs, e⟩ := hi.allInts.items
  have hn : numsOf (intItems xs).toList = ns := by rw [← e]; exact hi.numsOf
  rw [nums_intItems] at hn
  subst hn
  rw [e] at hl
  have hsz : 0 < xs.size := by simpa using hne
  refine PySem.max_intList hh hl hsz fun v h' tk hv hk => ?_
  obtain ⟨t, rfl⟩ := intItems_at hv
  obtain ⟨h1, h2⟩ := argBest_gt (numAt xs) (xs.size - 1)
  refine h h' tk _ t hk ?_ fun a ha => ?_
  · rw [numAt_eq]; exact PySem.getD_mem (by rw [List.length_map, Array.length_toList]; omega)
  · obtain ⟨j, hj, rfl⟩ := mem_getD ha
    rw [List.length_map, Array.length_toList] at hj
    rw [← numAt_eq]; exact h2 j (by omega)
theorem min_raw (hh : A.handled = none) (hl : s.heap.IsList l its.toArray) (hi : IntsAre its ns) (hne : 0 < ns.length)
    (h : ∀ h' tk M t', (∀ b o, s.heap.get? b = some o → h'.get? b = some o) → M ∈ ns → (∀ a, a ∈ ns → M ≤ a) → Q (.int M t') { s with heap := h', toks := tk }) : wpAny (model prog w) A (call (.builtin "min") [.ref l]) Q E s := by
  obtain ⟨xs, e⟩ := hi.allInts.items
  have hn : numsOf (intItems xs).toList = ns := by rw [← e]; exact hi.numsOf
  rw [nums_intItems] at hn
  subst hn
  rw [e] at hl
  have hsz : 0 < xs.size := by simpa using hne
  refine PySem.min_intList hh hl hsz fun v h' tk hv hk => ?_
  obtain ⟨t, rfl⟩ := intItems_at hv
  obtain ⟨h1, h2⟩ := argBest_lt (numAt xs) (xs.size - 1)
  refine h h' tk _ t hk ?_ fun a ha => ?_
  · rw [numAt_eq]; exact PySem.getD_mem (by rw [List.length_map, Array.length_toList]; omega)
  · obtain ⟨j, hj, rfl⟩ := mem_getD ha
    rw [List.length_map, Array.length_toList] at hj
    rw [← numAt_eq]; exact h2 j (by omega)
end

/-! ### the calls, by values (CallR of 03t; MtR of 06l) -/
section
variable {X : Cx}
/-- max(xs), min(xs) of a list of ints -/
def rMax (K : PySem.W.Frag) : List V → Hp → VK → Prop := fun vs H Q => ∃ (a : Addr) (ns : List Int), vs = [V.ref a] ∧ SqL K H a (ns.map V.int) ∧ 0 < ns.length ∧ ∀ m, m ∈ ns → (∀ y, y ∈ ns → y ≤ m) → Q (.int m) H
def rMin (K : PySem.W.Frag) : List V → Hp → VK → Prop := fun vs H Q => ∃ (a : Addr) (ns : List Int), vs = [V.ref a] ∧ SqL K H a (ns.map V.int) ∧ 0 < ns.length ∧ ∀ m, m ∈ ns → (∀ y, y ∈ ns → m ≤ y) → Q (.int m) H
theorem cr_max (hc : X.calm = true) : CallR X (.builtin "max") (rMax X.K) := by
  intro pins s σ H vs us Q I r h
  obtain ⟨a, ns, rfl, hs, hne, q⟩ := h
  obtain ⟨its, rv, hl, _⟩ := I.list hs
  rw [Vals.ref1 r]
  exact max_raw (I.ok.hd hc) hl.isList rv.ints hne fun h' tk m t' hk h1 h2 => ⟨.int _, H, I.kept hk, ⟨_, rfl⟩, q m h1 h2⟩
theorem cr_min (hc : X.calm = true) : CallR X (.builtin "min") (rMin X.K) := by
  intro pins s σ H vs us Q I r h
  obtain ⟨a, ns, rfl, hs, hne, q⟩ := h
  obtain ⟨its, rv, hl, _⟩ := I.list hs
  rw [Vals.ref1 r]
  exact min_raw (I.ok.hd hc) hl.isList rv.ints hne fun h' tk m t' hk h1 h2 => ⟨.int _, H, I.kept hk, ⟨_, rfl⟩, q m h1 h2⟩

/-! sorted, sort (fewer than 64 items: the library's own bound) -/
end

/-! ### list.index, flat items -/
section
variable {X : Cx}
end

/-! ### type(x) of an own instance; is, is not of a module's class -/
section
variable {X : Cx}
end

/-! ### any(xs), all(xs) of a list of bools -/
theorem iter_any {prog : Program} {w : World} {A : Around} {E : Value → Shared → Prop} {s : Shared} {l : Addr} {items : Array Value} {Q : Value → Shared → Prop} (hl : s.heap.IsList l items)
    (h : ∀ s₂ : Shared, s₂ = { s with heap := s.heap.push { cls := .type "list_iterator", data := .fields #[.ref l, .int 0 0] } } →
      (s₂.heap.IsListIter s.heap.objs.size l 0 ∧ s₂.heap.IsList l items) → l ≠ s.heap.objs.size → Q (.ref s.heap.objs.size) s₂) : wpAny (model prog w) A (pyIter (.ref l)) Q E s := by
  have hlt : l < s.heap.objs.size := by obtain ⟨_, e, _⟩ := hl; exact Heap.lt_size e
  exact wpAny_pyIter_list hl (h _ rfl ⟨⟨_, Heap.get?_push_size _ rfl, rfl, rfl⟩, hl.push _⟩ (Nat.ne_of_lt hlt))
theorem truth_bools {prog : Program} {w : World} {A : Around} {bs : List Bool} {its : List Value} (e : its = bs.map Value.bool) :
    TruthOf prog w A (fun i v => its.toArray[i]? = some v) (fun i => bs.getD i false) := fun i v s Q E hv hq => by
  have hv' : its[i]? = some v := by simpa using hv
  rw [e, List.getElem?_map] at hv'
  obtain ⟨b, hb, rfl⟩ := Option.map_eq_some_iff.mp hv'
  have hg : bs.getD i false = b := by rw [List.getD_eq_getElem?_getD, hb] <;> rfl
  have hq' : Q (bs.getD i false) s := hq
  rw [hg] at hq'
  exact wpAny_truthy_bool hq'
theorem any_range : ∀ bs : List Bool, (List.range bs.length).any (fun i => bs.getD i false) = bs.any id
  | [] => rfl
  | b :: bs => by
    rw [List.length_cons, List.range_succ_eq_map, List.any_cons, List.any_map, List.any_cons, ← any_range bs]
    all_goals rfl
section
variable {X : Cx}
def rAny (K : PySem.W.Frag) : List V → Hp → VK → Prop := fun vs H Q => ∃ (a : Addr) (bs : List Bool), vs = [V.ref a] ∧ SqL K H a (bs.map V.bl) ∧ Q (.bl (bs.any id)) H
theorem cr_any (hc : X.calm = true) : CallR X (.builtin "any") (rAny X.K) := by
  intro pins s σ H vs us Q I r h
  obtain ⟨a, bs, rfl, hs, q⟩ := h
  obtain ⟨its, rv, hl, _⟩ := I.list hs
  rw [Vals.ref1 r]
  have hb := rv.bls
  refine call_any_walk (iter_any hl.isList fun s₂ e2 st hne => ?_)
  subst e2
  refine ⟨_, _, _, _, _, _, _, rfl, Walks.list (A := X.A.in1) (I.ok.hd hc) _ a hne its.toArray, st, truth_bools hb, fun h' tk hk => ?_⟩
  refine ⟨.bl _, H, I.kept fun b o eo => hk b o (fun hmem => ?_) (Heap.get?_push_of_some _ eo), ?_, q⟩
  · rcases List.mem_cons.mp hmem with e1 | hmem
    · exact absurd (e1 ▸ Heap.lt_size eo) (Nat.lt_irrefl _)
    · cases hmem
  · show Value.bool _ = Value.bool _
    rw [← any_range, hb, List.size_toArray, List.length_map]
end

/-! ### == and != of data at any depth: none, bools, ints, texts, lists, tuples -/
mutual
inductive Dp (K : PySem.W.Frag) (H : Hp) : V → PyData → Prop
  | non : Dp K H .non .none
  | bl (b : Bool) : Dp K H (.bl b) (.bool b)
  | int (i : Int) : Dp K H (.int i) (.int i)
  | str (x : Str) : Dp K H (.str x) (.str x)
  | lst {a : Addr} {xs : List V} {ds : List PyData} : SqL K H a xs → DpAll K H xs ds → Dp K H (.ref a) (.list ds)
  | tup {a : Addr} {xs : List V} {ds : List PyData} : SqT K H a xs → DpAll K H xs ds → Dp K H (.ref a) (.tuple ds)
inductive DpAll (K : PySem.W.Frag) (H : Hp) : List V → List PyData → Prop
  | nil : DpAll K H [] []
  | cons {v : V} {vs : List V} {d : PyData} {ds : List PyData} : Dp K H v d → DpAll K H vs ds → DpAll K H (v :: vs) (d :: ds)
end
section
variable {X : Cx} {pins : List (Addr × Obj)} {σ : St} {H : Hp} {s : Shared}
mutual
theorem Dp.reads (I : Inv X pins σ H s) : ∀ (d : PyData) (v : V) (u : Value), Dp X.K H v d → RelV v u → ∃ as, Reads s.heap u d as
  | .none, _, _, h, r => by
    cases h
    cases r
    exact ⟨_, Reads.none⟩
  | .bool b, _, _, h, r => by
    cases h
    cases r
    exact ⟨_, Reads.bool b⟩
  | .int i, _, _, h, r => by
    cases h
    obtain ⟨t, rfl⟩ := r
    exact ⟨_, Reads.int i t⟩
  | .str x, _, _, h, r => by
    cases h
    obtain ⟨t, rfl⟩ := r
    exact ⟨_, Reads.str x t⟩
  | .list ds, _, _, h, r => by
    cases h with
    | lst hs ha =>
      cases r
      obtain ⟨its, rv, ⟨o, n, ho, hc, _, hd⟩, _⟩ := I.list hs
      obtain ⟨as, hr⟩ := Dp.readsAll I ds _ its ha rv
      exact ⟨_, Reads.list ho hc hd hr⟩
  | .tuple ds, _, _, h, r => by
    cases h with
    | tup hs ha =>
      cases r
      obtain ⟨its, rv, ⟨o, ho, hc, n, hd⟩, _⟩ := I.tuple hs
      obtain ⟨as, hr⟩ := Dp.readsAll I ds _ its ha rv
      exact ⟨_, Reads.tuple ho hc hd hr⟩
  | .dict _, _, _, h, _ => by cases h
theorem Dp.readsAll (I : Inv X pins σ H s) : ∀ (ds : List PyData) (vs : List V) (us : List Value), DpAll X.K H vs ds → Vals vs us → ∃ as, ReadsAll s.heap us ds as
  | [], _, _, h, r => by
    cases h
    cases r
    exact ⟨_, ReadsAll.nil⟩
  | d :: ds, _, _, h, r => by
    cases h with
    | cons h1 h2 =>
      cases r with
      | cons r1 r2 =>
        obtain ⟨as, q1⟩ := Dp.reads I d _ _ h1 r1
        obtain ⟨bs, q2⟩ := Dp.readsAll I ds _ _ h2 r2
        exact ⟨_, ReadsAll.cons q1 q2⟩
end
end
section
variable {X : Cx}
def rEqD (K : PySem.W.Frag) : R2 := fun x y H Q => ∃ d e, Dp K H x d ∧ Dp K H y e ∧ SeqAt.shaped d = true ∧ SeqAt.shaped e = true ∧ Q (.bl (PyData.eqv d e)) H
def rNeD (K : PySem.W.Frag) : R2 := fun x y H Q => ∃ d e, Dp K H x d ∧ Dp K H y e ∧ SeqAt.shaped d = true ∧ SeqAt.shaped e = true ∧ Q (.bl (!PyData.eqv d e)) H
theorem op_eqD (hu : X.A.units + 64 < cLine) : OpR X (compareOp .Eq) (rEqD X.K) := by
  intro pins s σ H x y v u Q I rx ry h
  obtain ⟨d, e, hd, he, sd, se, q⟩ := h
  obtain ⟨as, r1⟩ := Dp.reads I d x v hd rx
  obtain ⟨bs, r2⟩ := Dp.reads I e y u he ry
  exact SeqAt.compareEq_shaped r1 r2 sd se hu ⟨.bl _, H, I, rfl, q⟩
theorem op_neD (hu : X.A.units + 64 < cLine) : OpR X (compareOp .NotEq) (rNeD X.K) := by
  intro pins s σ H x y v u Q I rx ry h
  obtain ⟨d, e, hd, he, sd, se, q⟩ := h
  obtain ⟨as, r1⟩ := Dp.reads I d x v hd rx
  obtain ⟨bs, r2⟩ := Dp.reads I e y u he ry
  exact SeqAt.compareNe_shaped r1 r2 sd se hu ⟨.bl _, H, I, rfl, q⟩
end
end L2

namespace L2
open PySem PySem.Spec PyProof.Rows
abbrev CellAt (h : Heap) (c : Addr) (v : Option Value) : Prop := h.IsCell c v
def relS (scope sc : Scope) : Scope :=
  { scope with names := scope.names.map fun (n, k) => if (k == .free && sc.kind == .function && sc.names.lookup n == some .cell) then (n, .cell) else (n, k) }

def cloFrom (cells : List (Str × Addr)) : List (Str × NameKind) → List (Str × Addr) → List (Str × Addr)
  | [], acc => acc
  | (n, k) :: r, acc => if k == .free then cloFrom cells r ((n, (cells.lookup n).getD 0) :: acc) else cloFrom cells r acc

theorem closure_loop (env : Env) (f : Str × NameKind → List (Str × Addr) → Sem (ForInStep (List (Str × Addr))))
    (hf : ∀ n k c, f (n, k) c = if k == .free then (do let a ← cellOf env n; pure (.yield ((n, a) :: c))) else pure (.yield c)) :
    ∀ (names : List (Str × NameKind)) (acc : List (Str × Addr)), (∀ y ∈ names, y.2 = .free → ∃ c, env.cells.lookup y.1 = some c) → forIn names acc f = pure (cloFrom env.cells names acc)
  | [], acc, _ => by rw [List.forIn_nil]; rfl
  | (n, k) :: r, acc, h => by
    rw [List.forIn_cons, hf]
    have ih := fun acc => closure_loop env f hf r acc fun y hy => h y (List.mem_cons_of_mem _ hy)
    unfold cloFrom
    by_cases hk : (k == NameKind.free) = true
    · rw [if_pos hk, if_pos hk]
      obtain ⟨c, hc⟩ := h (n, k) List.mem_cons_self (by simpa using hk)
      have e : cellOf env n = pure c := by unfold cellOf; rw [hc]
      rw [e]
      have e2 : (env.cells.lookup n).getD 0 = c := by rw [hc]; rfl
      rw [e2]
      exact ih _
    · rw [if_neg hk, if_neg hk]
      exact ih _
theorem closure_ok {scope : Scope} {env : Env} (h : ∀ y ∈ scope.names, y.2 = .free → ∃ c, env.cells.lookup y.1 = some c) : closureFor scope env = pure (cloFrom env.cells scope.names []) := by
  simp only [closureFor]
  rw [closure_loop env _ (fun n k c => rfl) scope.names [] h]
  rfl

theorem mem_lookup {α : Type} : ∀ {l : List (Str × α)} {n : Str} {c : α}, (n, c) ∈ l → ∃ c', l.lookup n = some c'
  | (k, v) :: r, n, c, h => by
    rw [List.lookup_cons]
    cases hb : n == k with
    | true => exact ⟨_, rfl⟩
    | false =>
      rcases List.mem_cons.mp h with e | h
      · cases e; simp at hb
      · exact mem_lookup h

theorem cloFrom_mem {cells : List (Str × Addr)} : ∀ {names : List (Str × NameKind)} {acc : List (Str × Addr)} {n : Str} {c : Addr}, (n, c) ∈ cloFrom cells names acc → (n, c) ∈ acc ∨ ((n, .free) ∈ names ∧ c = (cells.lookup n).getD 0)
  | [], _, _, _, h => .inl h
  | (m, k) :: r, acc, n, c, h => by
    unfold cloFrom at h
    split at h
    · rename_i hk
      have hk : k = .free := by simpa using hk
      rcases cloFrom_mem h with h | ⟨h1, h2⟩
      · rcases List.mem_cons.mp h with e | h
        · cases e; exact .inr ⟨hk ▸ List.mem_cons_self, rfl⟩
        · exact .inl h
      · exact .inr ⟨List.mem_cons_of_mem _ h1, h2⟩
    · rcases cloFrom_mem h with h | ⟨h1, h2⟩
      · exact .inl h
      · exact .inr ⟨List.mem_cons_of_mem _ h1, h2⟩
theorem cloFrom_acc {cells : List (Str × Addr)} : ∀ {names : List (Str × NameKind)} {acc : List (Str × Addr)} {p : Str × Addr}, p ∈ acc → p ∈ cloFrom cells names acc
  | [], _, _, h => h
  | (m, k) :: r, acc, p, h => by
    unfold cloFrom
    split
    · exact cloFrom_acc (List.mem_cons_of_mem _ h)
    · exact cloFrom_acc h
theorem cloFrom_has {cells : List (Str × Addr)} : ∀ {names : List (Str × NameKind)} {acc : List (Str × Addr)} {n : Str}, (n, .free) ∈ names → (n, (cells.lookup n).getD 0) ∈ cloFrom cells names acc
  | (m, k) :: r, acc, n, h => by
    unfold cloFrom
    rcases List.mem_cons.mp h with e | h
    · cases e
      exact cloFrom_acc List.mem_cons_self
    · split
      · exact cloFrom_has h
      · exact cloFrom_has h

theorem cells_mem : ∀ {names : List (Str × NameKind)} {h : Heap} {acc : List (Str × Addr)} {x : Str} {c : Addr}, (x, c) ∈ cellsFrom h.objs.size names acc →
    (x, c) ∈ acc ∨ ((x, .cell) ∈ names ∧ h.objs.size ≤ c ∧ CellAt (pushCells h names) c none)
  | [], _, _, _, _, h => .inl h
  | (n, k) :: r, h, acc, x, c, hm => by
    unfold cellsFrom at hm
    unfold pushCells
    split at hm
    · rename_i hk
      rw [if_pos hk]
      have hk : k = .cell := by simpa using hk
      rw [← Heap.size_push h { cls := .type "cell", data := .cell none }] at hm
      rcases cells_mem hm with hm | ⟨h1, h2, h3⟩
      · rcases List.mem_cons.mp hm with e | hm
        · cases e
          exact .inr ⟨hk ▸ List.mem_cons_self, Nat.le_refl _, _, pushCells_keeps r _ _ _ (Heap.get?_push_size _ rfl), rfl⟩
        · exact .inl hm
      · rw [Heap.size_push] at h2
        exact .inr ⟨List.mem_cons_of_mem _ h1, Nat.le_of_succ_le h2, h3⟩
    · rename_i hk
      rw [if_neg hk]
      rcases cells_mem hm with hm | ⟨h1, h2, h3⟩
      · exact .inl hm
      · exact .inr ⟨List.mem_cons_of_mem _ h1, h2, h3⟩
theorem cells_acc : ∀ {names : List (Str × NameKind)} {n : Nat} {acc : List (Str × Addr)} {p : Str × Addr}, p ∈ acc → p ∈ cellsFrom n names acc
  | [], _, _, _, h => h
  | (m, k) :: r, n, acc, p, h => by
    unfold cellsFrom
    split
    · exact cells_acc (List.mem_cons_of_mem _ h)
    · exact cells_acc h
theorem cells_has : ∀ {names : List (Str × NameKind)} {n : Nat} {acc : List (Str × Addr)} {x : Str}, (x, .cell) ∈ names → ∃ c, (x, c) ∈ cellsFrom n names acc
  | (m, k) :: r, n, acc, x, h => by
    unfold cellsFrom
    rcases List.mem_cons.mp h with e | h
    · cases e
      exact ⟨n, cells_acc List.mem_cons_self⟩
    · split
      · exact cells_has h
      · exact cells_has h
theorem cells_inj : ∀ {names : List (Str × NameKind)} {h : Heap} {acc : List (Str × Addr)} {x y : Str} {c : Addr}, (∀ p ∈ acc, p.2 < h.objs.size) → (∀ x y c, (x, c) ∈ acc → (y, c) ∈ acc → x = y) →
    (x, c) ∈ cellsFrom h.objs.size names acc → (y, c) ∈ cellsFrom h.objs.size names acc → x = y
  | [], _, _, _, _, _, _, hi, h1, h2 => hi _ _ _ h1 h2
  | (n, k) :: r, h, acc, x, y, c, hl, hi, h1, h2 => by
    unfold cellsFrom at h1 h2
    split at h1
    · rename_i hk
      rw [if_pos hk] at h2
      rw [← Heap.size_push h { cls := .type "cell", data := .cell none }] at h1 h2
      refine cells_inj (h := h.push _) (fun p hp => ?_) (fun x y c a b => ?_) h1 h2
      · rw [Heap.size_push]
        rcases List.mem_cons.mp hp with rfl | hp
        · exact Nat.lt_succ_self _
        · exact Nat.lt_succ_of_lt (hl p hp)
      · rcases List.mem_cons.mp a with e | a <;> rcases List.mem_cons.mp b with e' | b
        · cases e; cases e'; rfl
        · cases e; exact absurd (hl _ b) (Nat.lt_irrefl _)
        · cases e'; exact absurd (hl _ a) (Nat.lt_irrefl _)
        · exact hi _ _ _ a b
    · rename_i hk
      rw [if_neg hk] at h2
      exact cells_inj hl hi h1 h2

theorem newEnv_comp {M : Model} {A : Around} {E : Value → Shared → Prop} {s : Shared} {scope : Scope} {globals : Addr} {closure : List (Str × Addr)} {qual : Str} {func : Option Addr} {code : Value} {around : Env} {builtins : Addr} {Q : Env → Shared → Prop}
    (h : Q (newEnv scope s.heap.objs.size globals (cellsFrom (s.heap.objs.size + 1) scope.names closure) qual func code (some around) builtins)
      { s with heap := pushCells (s.heap.push { cls := .type "dict", data := .dict #[] }) scope.names }) :
    wpAny M A (newFunctionEnv scope globals closure [] qual func code (some around) builtins) Q E s := by
  simp only [newFunctionEnv, Option.isSome_some, if_true]
  refine wpAny_bind (wpAny_alloc ?_)
  refine wpAny_bind (wpAny_layCells _ (fun n k c => rfl) scope.names closure _ _ ?_)
  rw [show ({ s with heap := s.heap.push { cls := .type "dict", data := .dict #[] } } : Shared).heap.objs.size = s.heap.objs.size + 1 from Heap.size_push ..]
  rw [List.forIn_nil]
  exact wpAny_bind (wpAny_pure (wpAny_pure h))

/-- every name of the written scope, in the scope that runs -/
theorem lookup_relS {sc : Scope} : ∀ {names : List (Str × NameKind)} {x : Str} {k : NameKind},
    (names.map fun (n, k) => if (k == NameKind.free && sc.kind == .function && sc.names.lookup n == some .cell) then (n, NameKind.cell) else (n, k)).lookup x = some k →
    ∃ k', names.lookup x = some k' ∧ (k = k' ∨ (k' = .free ∧ k = .cell))
  | [], _, _, h => by simp at h
  | (n, k₀) :: r, x, k, h => by
    have ih := @lookup_relS sc r x k
    have h' : List.lookup x ((if (k₀ == NameKind.free && sc.kind == .function && sc.names.lookup n == some .cell) = true then (n, NameKind.cell) else (n, k₀)) :: (r.map _)) = some k := h
    cases hx : x == n with
    | true =>
      simp only [List.lookup_cons, hx]
      by_cases hc : (k₀ == NameKind.free && sc.kind == .function && sc.names.lookup n == some .cell) = true
      · rw [if_pos hc] at h'
        simp only [List.lookup_cons, hx] at h'
        cases h'
        simp only [Bool.and_eq_true, beq_iff_eq] at hc
        exact ⟨k₀, rfl, .inr ⟨hc.1.1, rfl⟩⟩
      · rw [if_neg hc] at h'
        simp only [List.lookup_cons, hx] at h'
        cases h'
        exact ⟨_, rfl, .inl rfl⟩
    | false =>
      simp only [List.lookup_cons, hx]
      by_cases hc : (k₀ == NameKind.free && sc.kind == .function && sc.names.lookup n == some .cell) = true
      · rw [if_pos hc] at h'
        simp only [List.lookup_cons, hx] at h'
        exact ih h'
      · rw [if_neg hc] at h'
        simp only [List.lookup_cons, hx] at h'
        exact ih h'
/-- the names of a comprehension's block: its own (with their places in N), or captured -/
structure BlkOk (N : List Str) (sc scope : Scope) (own : List (Str × Nat)) : Prop where
  kind : scope.kind = .function
  uniq : ∀ y ∈ scope.names, scope.names.lookup y.1 = some y.2
  ix : ∀ p ∈ own, N[p.2]? = some p.1
  free : ∀ y ∈ scope.names, y.2 = .free → sc.names.lookup y.1 = some .cell ∨ sc.names.lookup y.1 = some .free
  own : ∀ y ∈ scope.names, y.2 = .local ∨ y.2 = .cell → y.1 ∈ own.map (·.1) ∨ y.1 ∉ N
/-- the slots of the block's own names forgotten -/
def wipe (σ : St) : List Nat → St
  | [] => σ
  | v :: vs => (wipe σ vs).set v none
theorem wipe_length (σ : St) : ∀ vs : List Nat, (wipe σ vs).length = σ.length
  | [] => rfl
  | v :: vs => by unfold wipe; rw [List.length_set, wipe_length σ vs]
theorem wipe_some {σ : St} {i : Nat} {x : V} : ∀ {vs : List Nat}, (wipe σ vs)[i]? = some (some x) → σ[i]? = some (some x) ∧ i ∉ vs
  | [], h => ⟨h, by simp⟩
  | v :: vs, h => by
    unfold wipe at h
    by_cases hi : v = i
    · subst hi
      by_cases hv : v < (wipe σ vs).length
      · rw [List.getElem?_set_self hv] at h; cases h
      · rw [List.getElem?_eq_none (by simpa using hv)] at h; cases h
    · rw [List.getElem?_set_ne hi] at h
      obtain ⟨h1, h2⟩ := wipe_some h
      exact ⟨h1, by simp only [List.mem_cons, not_or]; exact ⟨fun e => hi e.symm, h2⟩⟩

/-- the context of a block that starts at s, its iterator's objects at fp -/
abbrev Cx.blk (X : Cx) (s : Shared) (H : Hp) (scope : Scope) (cenv : Env) (fp : List Addr) : Cx := { X with s_0 := s, H_0 := H, env := cenv, outer := X.stack, ex := fp, fn := fun x => scope.names.lookup x == some .cell, pn := [], xe := fun _ _ => False }
section
variable {X : Cx} {pins : List (Addr × Obj)} {σ : St} {H : Hp} {s : Shared}
theorem block_start {scope : Scope} {own : List (Str × Nat)} {fp : List Addr} (I : Inv X pins σ H s) (ok : BlkOk X.N X.env.scope scope own) (hN : X.N.Nodup) (hfp : ∀ b ∈ fp, FpOk X pins H b ∧ b < s.heap.objs.size) :
    Inv (X.blk s H scope (compEnvC scope (cellsFrom (s.heap.objs.size + 1) scope.names (cloFrom X.env.cells scope.names [])) s.heap.objs.size X.env) fp) [] (wipe σ (own.map (·.2))) H { s with heap := pushCells (s.heap.push { cls := .type "dict", data := .dict #[] }) scope.names } := by
  have hfree : ∀ y ∈ scope.names, y.2 = .free → ∃ c, X.env.cells.lookup y.1 = some c := fun y hy e => by
    rcases ok.free y hy e with k | k
    · exact I.ok.has _ (.inl k)
    · exact I.ok.has _ (.inr k)
  generalize hcenv : compEnvC scope (cellsFrom (s.heap.objs.size + 1) scope.names (cloFrom X.env.cells scope.names [])) s.heap.objs.size X.env = cenv
  have kp : ∀ b o, s.heap.get? b = some o → (pushCells (s.heap.push { cls := .type "dict", data := .dict #[] }) scope.names).get? b = some o := fun b o e => pushCells_keeps _ _ _ _ (Heap.get?_push_of_some _ e)
  have hL : cenv.locals = s.heap.objs.size := by rw [← hcenv]; rfl
  have hcl : cenv.cells = cellsFrom (s.heap.objs.size + 1) scope.names (cloFrom X.env.cells scope.names []) := by rw [← hcenv]; rfl
  have hsc : cenv.scope = relS scope X.env.scope := by rw [← hcenv]; rfl
  rw [← Heap.size_push s.heap { cls := .type "dict", data := .dict #[] }] at hcl
  have cm : ∀ {y c}, (y, c) ∈ cloFrom X.env.cells scope.names [] → X.env.cells.lookup y = some c ∧ c < s.heap.objs.size := fun {y c} hm => by
    rcases cloFrom_mem hm with hm | ⟨h1, rfl⟩
    · cases hm
    · obtain ⟨c, hc⟩ := hfree _ h1 rfl
      rw [hc]
      obtain ⟨w, z⟩ := I.cell _ _ hc
      exact ⟨rfl, z.lt⟩
  have mem : ∀ {y c}, cenv.cells.lookup y = some c → (X.env.cells.lookup y = some c ∧ c < s.heap.objs.size) ∨ (s.heap.objs.size + 1 ≤ c ∧ CellAt (pushCells (s.heap.push { cls := .type "dict", data := .dict #[] }) scope.names) c none) := fun {y c} e => by
    rw [hcl] at e
    rcases cells_mem (PySem.mem_of_lookup e) with hm | ⟨_, h2, h3⟩
    · exact .inl (cm hm)
    · rw [Heap.size_push] at h2; exact .inr ⟨h2, h3⟩
  have look : ∀ {y}, scope.names.lookup y = some .free → ∃ c, cenv.cells.lookup y = some c ∧ X.env.cells.lookup y = some c := fun {y} hl => by
    have hy : (y, NameKind.free) ∈ scope.names := PySem.mem_of_lookup hl
    obtain ⟨c', e'⟩ := mem_lookup (cells_acc (names := scope.names) (n := (s.heap.push { cls := .type "dict", data := .dict #[] }).objs.size) (cloFrom_has (cells := X.env.cells) (acc := []) hy))
    rw [← hcl] at e'
    refine ⟨c', e', ?_⟩
    rw [hcl] at e'
    rcases cells_mem (PySem.mem_of_lookup e') with hm | ⟨h1, _, _⟩
    · exact (cm hm).1
    · have := ok.uniq _ h1
      rw [hl] at this; cases this
  have okB : (X.blk s H scope cenv fp).Ok := by
    refine ⟨I.ok.mod, by show cenv.scope.kind = _; rw [hsc]; exact ok.kind, by show cenv.globals = _; rw [← hcenv]; exact I.ok.glob, by show cenv.builtins = _; rw [← hcenv]; exact I.ok.blt, by show s.heap.objs.size ≤ cenv.locals; rw [hL]; exact Nat.le_refl _,
      fun y z c e1 e2 => ?_, fun y hy => ?_, fun y c z e => ?_, I.ok.hd, I.ok.frames, .inl rfl, fun b hb => ⟨?_, fun y c e z => ?_⟩, I.bs, Nat.le_trans I.ok.bsz I.sz, fun b o e hb => ?_, fun b hb z => ?_, I.stack, I.stkFree⟩
    · have e1 : cenv.cells.lookup y = some c := e1
      have e2 : cenv.cells.lookup z = some c := e2
      rw [hcl] at e1 e2
      refine cells_inj (fun p hp => ?_) (fun y z c a b => I.ok.inj y z c (cm a).1 (cm b).1) (PySem.mem_of_lookup e1) (PySem.mem_of_lookup e2)
      rw [Heap.size_push]
      exact Nat.lt_succ_of_lt (cm (y := p.1) (c := p.2) hp).2
    · show ∃ c, cenv.cells.lookup y = some c
      have key : ∀ k, cenv.kindOf y = some k → (k = .cell ∨ k = .free) → ∃ c, cenv.cells.lookup y = some c := fun k hk hk' => by
        unfold Env.kindOf at hk
        rw [hsc] at hk
        obtain ⟨k', e, r⟩ := lookup_relS hk
        have : k' = .cell ∨ k' = .free := by
          rcases r with rfl | ⟨rfl, _⟩
          · exact hk'
          · exact .inr rfl
        rcases this with rfl | rfl
        · obtain ⟨c, hm⟩ := cells_has (n := (s.heap.push { cls := .type "dict", data := .dict #[] }).objs.size) (acc := cloFrom X.env.cells scope.names []) (PySem.mem_of_lookup e)
          obtain ⟨c', e'⟩ := mem_lookup hm
          exact ⟨c', by rw [hcl]; exact e'⟩
        · obtain ⟨c, h1, _⟩ := look e
          exact ⟨c, h1⟩
      rcases hy with hy | hy
      · exact key _ hy (.inl rfl)
      · exact key _ hy (.inr rfl)
    · have z : (scope.names.lookup y == some NameKind.cell) = true := z
      have z : scope.names.lookup y = some .cell := by simpa using z
      have e : cenv.cells.lookup y = some c := e
      rw [hcl] at e
      rcases cells_mem (PySem.mem_of_lookup e) with hm | ⟨_, h2, _⟩
      · rcases cloFrom_mem hm with hm | ⟨h1, _⟩
        · cases hm
        · have q := ok.uniq _ h1
          rw [z] at q; cases q
      · rw [Heap.size_push] at h2
        exact Nat.le_of_succ_le h2
    · show b ≠ cenv.locals
      rw [hL]; exact Nat.ne_of_lt (hfp b hb).2
    · have e : cenv.cells.lookup y = some c := e
      rcases mem e with ⟨h1, _⟩ | ⟨h1, _⟩
      · exact (hfp b hb).1.2.2.2.2.1 y c h1 z
      · have h2 : s.heap.objs.size + 1 ≤ b := by rw [← z]; exact h1
        exact absurd (Nat.lt_of_lt_of_le (hfp b hb).2 (Nat.le_of_succ_le h2)) (Nat.lt_irrefl _)
    · rcases (hfp b hb).1.2.2.2.1 with z | z
      · exact I.ok.noex b o e z
      · exact absurd (Nat.lt_of_lt_of_le (Heap.lt_size e) (Nat.le_trans I.ok.bsz z)) (Nat.lt_irrefl _)
    · rcases List.mem_cons.mp (I.stkSub b z) with z | z
      · exact (hfp b hb).1.2.1 z
      · exact (hfp b hb).1.2.2.1 z
  refine ⟨okB, rfl, I.bare, Un.kept kp, ⟨fun _ => none, ?_, fun i y av e1 e2 e3 => ?_⟩, fun y c e => ?_, ?_, fun y c e => ?_, fun p hp => ?_, I.hok.kept kp, by rw [wipe_length]; exact I.len⟩
  · show Heap.Ns _ cenv.locals _
    rw [hL]
    exact Heap.Ns.keeps (Heap.Ns.new ..) fun b o e => pushCells_keeps _ _ _ _ e
  · obtain ⟨e2, hne⟩ := wipe_some e2
    have hfr : scope.names.lookup y = some .free ∧ (cenv.kindOf y = some .cell ∨ cenv.kindOf y = some .free) := by
      have key : ∀ k, cenv.scope.names.lookup y = some k → k = .local ∨ k = .cell ∨ k = .free → scope.names.lookup y = some .free ∧ (cenv.kindOf y = some .cell ∨ cenv.kindOf y = some .free) := fun k hk hk' => by
        have hk0 := hk
        rw [hsc] at hk
        obtain ⟨k', e, r⟩ := lookup_relS hk
        have no : ¬ (k' = .local ∨ k' = .cell) := fun hh => by
          rcases ok.own _ (PySem.mem_of_lookup e) hh with e' | e'
          · obtain ⟨p, hp, hpy⟩ := List.mem_map.mp e'
            have e3 := ok.ix p hp
            have : p.1 = y := hpy
            rw [this] at e3
            exact hne (List.mem_map.mpr ⟨p, hp, nodup_ix hN e3 e1⟩)
          · exact e' (List.mem_of_getElem? e1)
        rcases r with rfl | ⟨rfl, rfl⟩
        · rcases hk' with rfl | rfl | rfl
          · exact absurd (.inl rfl) no
          · exact absurd (.inr rfl) no
          · exact ⟨e, .inr hk0⟩
        · exact ⟨e, .inl hk0⟩
      have e3 : Vis cenv.scope y := e3
      rcases e3 with e3 | e3 | e3
      · exact key _ e3 (.inl rfl)
      · exact key _ e3 (.inr (.inl rfl))
      · exact key _ e3 (.inr (.inr rfl))
    obtain ⟨m, hn, hl⟩ := I.loc
    have hvis : Vis X.env.scope y := (ok.free _ (PySem.mem_of_lookup hfr.1) rfl).elim (fun k => .inr (.inl k)) (fun k => .inr (.inr k))
    obtain ⟨w, r, q⟩ := hl i y av e1 e2 hvis
    refine ⟨w, r, .inr ⟨hfr.2, ?_⟩⟩
    obtain ⟨c, h1, h2⟩ := look hfr.1
    rcases q with ⟨k, _⟩ | ⟨_, c', e', z⟩
    · have k : X.env.scope.names.lookup y = some .local := k
      rcases ok.free _ (PySem.mem_of_lookup hfr.1) rfl with k' | k' <;> rw [show X.env.scope.names.lookup y = _ from k'] at k <;> cases k
    · rw [h2] at e'; cases e'
      exact ⟨c, h1, z.keeps kp⟩
  · have e : cenv.cells.lookup y = some c := e
    rcases mem e with ⟨h1, _⟩ | ⟨_, z⟩
    · obtain ⟨w, z⟩ := I.cell y c h1
      exact ⟨w, z.keeps kp⟩
    · exact ⟨_, z⟩
  · show H cenv.locals = none
    rw [hL]; exact I.hok.fresh (Nat.le_refl _)
  · have e : cenv.cells.lookup y = some c := e
    rcases mem e with ⟨h1, _⟩ | ⟨h1, _⟩
    · exact I.freeC y c h1
    · exact I.hok.fresh (Nat.le_of_succ_le h1)
  · exact absurd (show p ∈ ([] : List (Addr × Obj)) ++ [] from hp) (by simp)

/-- an item appended to a tracked list -/
theorem app_ok {E : Value → Shared → Prop} {D : Addr} {xs : List V} {y : V} {v : Value} {Q : Value → Shared → Prop} (I : Inv X pins σ H s) (hD : H D = some (.lst xs)) (hz : xs.length < sizeLine) (r : RelV y v)
    (h : ∀ s', Inv X pins σ (upd H D (.lst (xs ++ [y]))) s' → Q .none s') : wpAny (model X.prog X.w) X.A (call (.builtin "list.append") [.ref D, v]) Q E s := by
  obtain ⟨hz', its, n, ri, e⟩ := I.hok D _ hD
  have hl := ri.length
  refine append_at (hsz := by rw [List.size_toArray]; omega) e fun h' sb ho' => ?_
  refine h { s with heap := h' } (I.write (t' := s.toks) (by rw [hD]; trivial) (.inl rfl) (fun b u hb q => (sb.2 b hb).trans q) ⟨_, ho'⟩ ⟨by rw [List.length_append]; exact hz, its ++ [v], n + 1, ri.append (.cons r .nil), ?_⟩)
  rw [ho']
  simp

/-- a clause's tests -/
def PTs (X : Cx) (ifs : List Expr) (t : TT) : Prop :=
  ∀ (pins : List (Addr × Obj)) (s : Shared) (σ : St) (H : Hp) (Q : Bool → Hp → Prop), Inv X pins σ H s → t σ H Q →
    wpAny (model X.prog X.w) X.A (forIn ifs true fun c r => if r = true then do let ok ← isTrue c X.env (eval c X.env); pure (ForInStep.yield ok) else pure (ForInStep.yield r)) (TP X pins σ Q) X.xe s
def tYes : TT := fun _ H Q => Q true H
theorem pts_nil : PTs X [] tYes := fun _ _ _ H _ I h => wpAny_tests_nil ⟨H, I, h⟩
theorem pts_one {c : Expr} {t : TT} (h : PT X c t) : PTs X [c] t := fun pins s σ H Q I hw => wpAny_tests_one (h pins s σ H Q I hw)
end

theorem thnF {α : Type} {t : Sem α} {Q Q' : α → Shared → Prop} {M : Model} {A : Around} {E : Value → Shared → Prop} {s : Shared} (h : wpAny M A t Q (fun _ _ => False) s) (hQ : ∀ a s, Q a s → Q' a s) : wpAny M A t Q' E s := wpAny_mono h hQ fun _ _ z => False.elim z

/-- the loop of a list comprehension's block, the target of any form (codeAny_compLoop_tests asks a target that no tuple goes to; statement and proof follow it, PyProof/CompMap.lean:41-61, with the step letOwnedTupleGo kept) -/
theorem compLoop_any {prog : Program} {w : World} {A : Around} {R : Result → Shared → Prop} {s : Shared} {elt target iter : Expr} {ifs : List Expr} {scope : Scope} {pos : Pos} {it acc : Value} {env : Env} (I : Nat → Shared → Prop)
    (turn : ∀ n s, I n s → wpAny (model prog w) A (pyNext it) (fun r s₁ => match r with
      | none => R (.ok .next) s₁
      | some v => wpAny (model prog w) A (letOwnedTupleGo target it v) (fun _ s₁' => wpAny (model prog w) A (assign target env v) (fun _ s₂ =>
          wpAny (model prog w) A (forIn ifs true fun c r => if r = true then do let ok ← isTrue c env (eval c env); pure (ForInStep.yield ok) else pure (ForInStep.yield r)) (fun ok s₃ =>
            if ok = true then wpAny (model prog w) A (eval elt env) (fun x s₄ =>
              wpAny (model prog w) A (call (.builtin "list.append") [acc, x]) (fun _ s₅ => ∃ m, m < n ∧ I m s₅) (notedBy (model prog w) A env fun e s' => R (.error e) s') s₄) (notedBy (model prog w) A env fun e s' => R (.error e) s') s₃
            else ∃ m, m < n ∧ I m s₃) (notedBy (model prog w) A env fun e s' => R (.error e) s') s₂) (notedBy (model prog w) A env fun e s' => R (.error e) s') s₁') (notedBy (model prog w) A env fun e s' => R (.error e) s') s₁) (notedBy (model prog w) A env fun e s' => R (.error e) s') s)
    (n : Nat) (h : I n s) :
    codeAny (model prog w) A (.compLoop (.ListComp elt [⟨target, iter, ifs, 0⟩] scope pos) 0 it acc env) R s := by
  refine codeAny_loop rfl I (fun n s hI => ?_) n h
  show wpAny _ A ((compTurn (.ListComp elt [⟨target, iter, ifs, 0⟩] scope pos) 0 it acc env).onRaise (fun x => do noteFrame x env; theTreesLotGoes x)) _ _ s
  refine wpAny_noted ?_
  rw [compTurn_list]
  refine wpAny_bind (wpAny_standAt (wpAny_bind (wpAny_mono (turn n s hI) (fun r s₁ h₁ => ?_) fun _ _ h' => h')))
  cases r with
  | none => exact wpAny_pure h₁
  | some v =>
    refine wpAny_bind (wpAny_mono h₁ (fun _ s₁' h₁' => ?_) fun _ _ h' => h')
    refine wpAny_bind (wpAny_mono h₁' (fun _ s₂ h₂ => wpAny_bind (wpAny_mono h₂ (fun ok s₃ h₃ => ?_) fun _ _ h' => h')) fun _ _ h' => h')
    cases ok with
    | false => exact wpAny_pure ⟨rfl, h₃⟩
    | true =>
      exact wpAny_bind (wpAny_bind (wpAny_mono h₃ (fun x s₄ h₄ => wpAny_bind (wpAny_mono h₄ (fun _ s₅ h₅ => wpAny_pure (wpAny_pure ⟨rfl, h₅⟩)) fun _ _ h' => h')) fun _ _ h' => h'))

section
variable {X : Cx}
/-- [elt for target in iter if ..]: D the new list; W by the turn and a measure, Nx what a turn is to reach -/
def tLc (wi : TI) (g : TG) (tt : TT) (te : TE) (vs : List Nat) : TE := fun σ H Q => wi σ H fun J H1 => ∀ D, H1 D = none → ∃ W : Nat → Nat → Hp → Prop, (∃ m, W 0 m (upd H1 D (.lst []))) ∧ ∀ i m H, W i m H →
  (J.stop i H ∧ Q (.ref D) H) ∨ (J.go i H ∧ ∃ Nx : Hp → Prop, (∀ H', Nx H' → ∃ m', m' < m ∧ W (i + 1) m' H') ∧ ∀ x H', J.yld i H x H' → g x (wipe σ vs) H' fun σ2 H2 => wipe σ2 vs = wipe σ vs ∧ tt σ2 H2 fun b H3 =>
    if b = true then te σ2 H3 fun y H4 => ∃ acc, H4 D = some (.lst acc) ∧ acc.length < sizeLine ∧ Nx (upd H4 D (.lst (acc ++ [y]))) else Nx H3)
theorem lc_core {pins : List (Addr × Obj)} {s : Shared} {σ : St} {H : Hp} {Q : VK} {elt tg iter : Expr} {ifs : List Expr} {scope : Scope} {own : List (Str × Nat)} {pos pos' : Pos} {wi : TI} {g : TG} {tt : TT} {te : TE} {use : Option (Value → Sem Unit)} {Qf : Value → Shared → Prop}
    (hc : X.calm = true) (hN : X.N.Nodup) (I : Inv X pins σ H s) (hi : PI X tg iter wi) (ok : BlkOk X.N X.env.scope scope own)
    (hg : ∀ (s : Shared) (H : Hp) (C : Addr) (cl : List (Str × Addr)) (fp : List Addr), PG (X.blk s H scope (compEnvC scope cl C X.env) fp) tg g) (ht : ∀ (s : Shared) (H : Hp) (C : Addr) (cl : List (Str × Addr)) (fp : List Addr), PTs (X.blk s H scope (compEnvC scope cl C X.env) fp) ifs tt)
    (he : ∀ (s : Shared) (H : Hp) (C : Addr) (cl : List (Str × Addr)) (fp : List Addr), PE (X.blk s H scope (compEnvC scope cl C X.env) fp) elt te) (hs : ∀ x, foldedSetIterable iter X.env x = pure x)
    (h : tLc wi g tt te (own.map (·.2)) σ H Q)
    (hRR : ∀ D C s' m H', Inv X pins σ H' s' → Q (.ref D) H' → s'.heap.Ns C m → FpOk X pins H' C → compPost (model X.prog X.w) X.A X.xe use Qf (.ref D) C (.ok .next) s') :
    wpAny (model X.prog X.w) X.A (comprehension (.ListComp elt [⟨tg, iter, ifs, 0⟩] scope pos) scope X.env pos' (newList []) false (eval iter X.env) use) Qf X.xe s := by
  have hfree : ∀ y ∈ scope.names, y.2 = .free → ∃ c, X.env.cells.lookup y.1 = some c := fun y hy e => by
    rcases ok.free y hy e with k | k
    · exact I.ok.has _ (.inl k)
    · exact I.ok.has _ (.inr k)
  refine wpAny_comprehension_free (use := use) rfl hs (closure_ok hfree) ok.kind (fun y hy e => by rw [ok.uniq y hy, e])
    (thn (hi pins s σ H _ I h) fun xv s1 hx => thn hx fun itv s2 h2 => ?_)
  obtain ⟨it, fp, tn, J, H2, e, I2, T, st2, f2, q⟩ := h2
  subst e
  refine wpAny_newObj_type (newEnv_comp ?_) (by show 0 ≤ sizeLine; decide)
  generalize hD : s2.heap.objs.size = D
  have hDn : H2 D = none := I2.hok.fresh (Nat.le_of_eq hD)
  obtain ⟨W, ⟨m0, w0⟩, turn⟩ := q D hDn
  -- the new list
  generalize hs3 : ({ s2 with heap := s2.heap.push { cls := .type "list", data := .seq ([] : List Value).toArray } } : Shared) = s3
  have I3 : Inv X pins σ (upd H2 D (.lst [])) s3 := by
    rw [← hs3]
    refine I2.laid (t' := s2.toks) (fun b o e => Heap.get?_push_of_some _ e) (Nat.le_of_eq hD) ⟨Nat.zero_le _, [], 0, .nil, ?_⟩
    rw [← hD]
    exact Heap.get?_push_size _ rfl
  have h3 : s3.heap = s2.heap.push { cls := .type "list", data := .seq ([] : List Value).toArray } := by rw [← hs3]
  have sz : ∀ b ∈ fp, b < s2.heap.objs.size := fun b hb => by
    obtain ⟨o, e, _⟩ := T.obj _ _ st2 b hb
    exact Heap.lt_size e
  have f3 : ∀ b ∈ fp, FpOk X pins (upd H2 D (.lst [])) b ∧ b < s3.heap.objs.size := fun b hb => by
    have hlt := sz b hb
    refine ⟨⟨?_, (f2 b hb).2⟩, by rw [h3, Heap.size_push]; exact Nat.lt_succ_of_lt hlt⟩
    rw [upd_ne (by rw [← hD]; exact Nat.ne_of_lt hlt)]
    exact (f2 b hb).1
  have st3 : tn 0 s3.heap := T.keep _ _ _ st2 fun b _ o e => by rw [h3]; exact Heap.get?_push_of_some _ e
  have I4 := block_start I3 ok hN f3
  have pg := hg s3 (upd H2 D (.lst [])) s3.heap.objs.size (cellsFrom (s3.heap.objs.size + 1) scope.names (cloFrom X.env.cells scope.names [])) fp
  have pt := ht s3 (upd H2 D (.lst [])) s3.heap.objs.size (cellsFrom (s3.heap.objs.size + 1) scope.names (cloFrom X.env.cells scope.names [])) fp
  have pe := he s3 (upd H2 D (.lst [])) s3.heap.objs.size (cellsFrom (s3.heap.objs.size + 1) scope.names (cloFrom X.env.cells scope.names [])) fp
  show codeAny _ _ (.compStart (.ListComp elt [⟨tg, iter, ifs, 0⟩] scope pos) 0 (.ref it) (.ref D) (compEnvC scope (cellsFrom (s3.heap.objs.size + 1) scope.names (cloFrom X.env.cells scope.names [])) s3.heap.objs.size X.env)) (compPost (model X.prog X.w) X.A X.xe use Qf (.ref D) s3.heap.objs.size) { s3 with heap := pushCells (s3.heap.push { cls := .type "dict", data := .dict #[] }) scope.names }
  have nfp : ∀ b ∈ fp, (upd H2 D (.lst [])) b = none := fun b hb => (f3 b hb).1.1
  generalize hce : compEnvC scope (cellsFrom (s3.heap.objs.size + 1) scope.names (cloFrom X.env.cells scope.names [])) s3.heap.objs.size X.env = ce at I4 pg pt pe ⊢
  have cL : ce.locals = s3.heap.objs.size := by subst hce; rfl
  generalize hH3 : upd H2 D (.lst []) = H3 at I3 I4 pg pt pe w0 nfp f3
  generalize hs4 : ({ s3 with heap := pushCells (s3.heap.push { cls := .type "dict", data := .dict #[] }) scope.names } : Shared) = s4 at I4 ⊢
  have st4 : tn 0 s4.heap := T.keep _ _ _ st3 fun b _ o e => by rw [← hs4]; exact pushCells_keeps _ _ _ _ (Heap.get?_push_of_some _ e)
  have stat : ∀ {σ' : St} {H' : Hp} {s' : Shared}, Inv (X.blk s3 H3 scope ce fp) [] σ' H' s' → (∀ b ∈ fp, H' b = none) → ∀ b ∈ fp, FpOk (X.blk s3 H3 scope ce fp) [] H' b := fun {σ' H' s'} I' hn b hb =>
    ⟨hn b hb, (I'.ok.exf b hb).1, I'.ok.exfs b hb, .inl hb, fun x c e => (I'.ok.exf b hb).2 x c e, fun p hp => absurd (show p ∈ ([] : List (Addr × Obj)) ++ [] from hp) (by simp)⟩
  have loop : codeAny (model X.prog X.w) X.A (.compLoop (.ListComp elt [⟨tg, iter, ifs, 0⟩] scope pos) 0 (.ref it) (.ref D) ce) (compPost (model X.prog X.w) X.A X.xe use Qf (.ref D) s3.heap.objs.size) s4 := by
    refine compLoop_any (fun n s' => ∃ i H', Inv (X.blk s3 H3 scope ce fp) [] (wipe σ (own.map (·.2))) H' s' ∧ tn i s'.heap ∧ (∀ b ∈ fp, H' b = none) ∧ W i n H') ?_ m0 ⟨0, H3, I4, st4, nfp, w0⟩
    rintro n s5 ⟨i, H5, I5, st5, n5, w5⟩
    rcases turn i n H5 w5 with ⟨stop, qq⟩ | ⟨go, Nx, hNx, step⟩
    · have td := T.done (X.blk s3 H3 scope ce fp) rfl rfl rfl hc i [] s5 _ H5 (fun _ _ => False) I5 (stat I5 n5) st5 stop
      refine thnF td fun r s6 ⟨hr, I6⟩ => ?_
      subst hr
      -- back in the def's context
      have I7 : Inv X pins σ H5 s6 := I3.call' (ch := fp) I6.os I6.base I6.hok I6.bare fun b hb => ⟨(f3 b hb).1.2.2.2.1, (f3 b hb).1.2.1, (f3 b hb).1.2.2.2.2.1, (f3 b hb).1.2.2.2.2.2⟩
      have nC : H5 s3.heap.objs.size = none := by
        have z : H5 ce.locals = none := I6.free
        rw [cL] at z
        exact z
      obtain ⟨m, hn, _⟩ := I6.loc
      have hn : s6.heap.Ns ce.locals m := hn
      rw [cL] at hn
      exact hRR D s3.heap.objs.size s6 m H5 I7 qq hn (I3.fpOk (Nat.le_refl _) nC)
    · have ti := T.item (X.blk s3 H3 scope ce fp) rfl rfl rfl hc i [] s5 _ H5 (fun _ _ => False) I5 (stat I5 n5) st5 go
      refine thnF ti fun r s6 ⟨u, hr, h6⟩ => ?_
      subst hr
      refine thnF h6 fun _ s7 ⟨x, H7, I7, r7, y7, st7, n7⟩ => ?_
      have I7' := I7.pinned (stat I7 n7) (T.obj _ _ st7)
      refine thnF (pg _ s7 _ H7 x u _ I7' r7 (step x H7 y7)) fun _ s8 ⟨σ8, H8, I8, hw8, q8⟩ => ?_
      refine thnF (pt _ s8 σ8 H8 _ I8 q8) fun b s9 ⟨H9, I9, q9⟩ => ?_
      -- the turn's end
      have fin : ∀ {s' : Shared} {H' : Hp}, Inv (X.blk s3 H3 scope ce fp) ([] ++ pinsAt fp s7.heap) σ8 H' s' → Nx H' → ∃ m, m < n ∧ ∃ i H', Inv (X.blk s3 H3 scope ce fp) [] (wipe σ (own.map (·.2))) H' s' ∧ tn i s'.heap ∧ (∀ b ∈ fp, H' b = none) ∧ W i m H' := fun {s' H'} I' nx => by
        obtain ⟨m', hm, w'⟩ := hNx H' nx
        have pin' : ∀ b ∈ fp, ∀ o, s7.heap.get? b = some o → s'.heap.get? b = some o ∧ H' b = none := fun b hb o e =>
          let z := I'.pin (b, o) (List.mem_append_right _ (List.mem_append_right _ (mem_pinsAt hb e)))
          ⟨z.1, z.2.1⟩
        have hl : (wipe σ (own.map (·.2))).length = σ8.length := by rw [← hw8, wipe_length]
        refine ⟨m', hm, i + 1, H', (I'.unpinned (pins := [])).weak hl (fun j v e => ?_), T.keep _ _ _ st7 fun b hb o e => (pin' b hb o e).1, fun b hb => ?_, w'⟩
        · rw [← hw8] at e
          exact (wipe_some e).1
        · obtain ⟨o, e, _⟩ := T.obj _ _ st7 b hb
          exact (pin' b hb o e).2
      cases b with
      | false =>
        simp only [Bool.false_eq_true, if_false] at q9 ⊢
        exact fin I9 q9
      | true =>
        simp only [if_true] at q9 ⊢
        refine thnF (pe _ s9 σ8 H9 _ I9 q9) fun z s10 ⟨yv, H10, I10, r10, acc, hD10, hz10, nx⟩ => ?_
        exact app_ok (X := X.blk s3 H3 scope ce fp) I10 hD10 hz10 r10 fun s11 I11 => fin I11 nx
  exact codeAny_compStart_list loop (T.self X.A 0 _ _ _ st4 loop)
/-- as a value -/
theorem pe_lc {elt tg iter : Expr} {ifs : List Expr} {scope : Scope} {own : List (Str × Nat)} {pos : Pos} {wi : TI} {g : TG} {tt : TT} {te : TE} (hc : X.calm = true) (hN : X.N.Nodup) (hi : PI X tg iter wi) (ok : BlkOk X.N X.env.scope scope own)
    (hg : ∀ (s : Shared) (H : Hp) (C : Addr) (cl : List (Str × Addr)) (fp : List Addr), PG (X.blk s H scope (compEnvC scope cl C X.env) fp) tg g) (ht : ∀ (s : Shared) (H : Hp) (C : Addr) (cl : List (Str × Addr)) (fp : List Addr), PTs (X.blk s H scope (compEnvC scope cl C X.env) fp) ifs tt)
    (he : ∀ (s : Shared) (H : Hp) (C : Addr) (cl : List (Str × Addr)) (fp : List Addr), PE (X.blk s H scope (compEnvC scope cl C X.env) fp) elt te) (hs : ∀ x, foldedSetIterable iter X.env x = pure x := by intro _; rfl) :
    PE X (.ListComp elt [⟨tg, iter, ifs, 0⟩] scope pos) (tLc wi g tt te (own.map (·.2))) := by
  intro pins s σ H Q I h
  rw [eval_ListComp]
  refine lc_core hc hN I hi ok hg ht he hs h fun D C s' m H' I' q hn f => ⟨m, hn, fun h'' sb => ?_⟩
  obtain ⟨f0, f1, f2, f3, f4, f5⟩ := f
  exact ⟨.ref D, H', I'.turned (t' := s'.toks) (fun b o hb e => (sb.2 b hb).trans e) f0 f1 f3 f4 f5, rfl, q⟩
/-- name = [..] on one line, the name a local -/
theorem ps_setLc {i : Nat} {y : Str} {py : Pos} {elt tg iter : Expr} {ifs : List Expr} {scope : Scope} {own : List (Str × Nat)} {pos spos : Pos} {wi : TI} {g : TG} {tt : TT} {te : TE} (hc : X.calm = true) (hN : X.N.Nodup) (hy : X.N[i]? = some y) (hyl : X.env.scope.names.lookup y = some .local)
    (hsw : swapsWith (.ListComp elt [⟨tg, iter, ifs, 0⟩] scope pos) (some (.Name y py)) spos.line X.env = pure true) (hi : PI X tg iter wi) (ok : BlkOk X.N X.env.scope scope own)
    (hg : ∀ (s : Shared) (H : Hp) (C : Addr) (cl : List (Str × Addr)) (fp : List Addr), PG (X.blk s H scope (compEnvC scope cl C X.env) fp) tg g) (ht : ∀ (s : Shared) (H : Hp) (C : Addr) (cl : List (Str × Addr)) (fp : List Addr), PTs (X.blk s H scope (compEnvC scope cl C X.env) fp) ifs tt)
    (he : ∀ (s : Shared) (H : Hp) (C : Addr) (cl : List (Str × Addr)) (fp : List Addr), PE (X.blk s H scope (compEnvC scope cl C X.env) fp) elt te) (hs : ∀ x, foldedSetIterable iter X.env x = pure x := by intro _; rfl) :
    PS X (.Assign [.Name y py] (.ListComp elt [⟨tg, iter, ifs, 0⟩] scope pos) spos) (tAsg (tLc wi g tt te (own.map (·.2))) (gName i)) := by
  intro pins s σ H D I h
  rw [exec_Assign_Name_used _ _ _ _ hsw]
  refine wpAny_bind (wpAny_standAt (wpAny_bind ?_))
  show wpAny _ X.A (do let _ ← comprehension (.ListComp elt [⟨tg, iter, ifs, 0⟩] scope pos) scope X.env (firstIterPos [⟨tg, iter, ifs, 0⟩] pos) (newList []) false (eval iter X.env) (some (assign (.Name y py) X.env))) _ _ s
  have h : tLc wi g tt te (own.map (·.2)) σ H (fun x H1 => gName i x σ H1 D.nx) := h
  refine wpAny_bind (thn (lc_core (Qf := fun _ s' => SP X pins D .next s') hc hN I hi ok hg ht he hs h fun L C s' m H' I' q hn f => ?_) fun _ s' hq => wpAny_pure (wpAny_pure hq))
  show wpAny _ _ (assign (.Name y py) X.env (.ref L)) _ _ _
  refine wpAny_assign_Name (store_ok2 (v := V.ref L) I' hN hy (.inl hyl) rfl (fun s2 I2 ⟨a, sb, ha⟩ => ?_) (.inr hyl))
  obtain ⟨f0, f1, f2, f3, f4, f5⟩ := f
  have haC : C ≠ a := by
    rcases ha with z | z
    · rw [z]; exact f1
    · exact fun e => f4 y a z e.symm
  refine ⟨m, hn.sameBut sb haC, fun h3 sb3 => ?_⟩
  exact ⟨_, H', I2.turned (t' := s2.toks) (fun b o hb e => (sb3.2 b hb).trans e) f0 f1 f3 f4 f5, q⟩
theorem sw_true {elt : Expr} {gs : List Comprehension} {scope : Scope} {pos py : Pos} {y : Str} {l : Nat} {env : Env} (hk : env.scope.kind = .function) (hy : env.scope.names.lookup y = some .local) (hl : (py.line == pos.line) = true)
    (ha : (scope.names.any fun (n, k) => n == y && (k == .local || k == .cell)) = false) : swapsWith (.ListComp elt gs scope pos) (some (.Name y py)) l env = pure true := by
  have ky : env.kindOf y = some .local := hy
  have hb : env.blockKind = .function := by unfold Env.blockKind; rw [hk]; rfl
  unfold swapsWith
  simp only [hb, ky, ha, Expr.pos, hl]
  rfl
end

/-! ### the forms one uses -/
/-- over a range: Pv by the turn and the heap (the new list at D within) -/
theorem lc_range {lo : Int} {n : Nat} {g : TG} {tt : TT} {te : TE} {vs : List Nat} {σ : St} {H1 : Hp} {D : Addr} {Qd : Hp → Prop} (Pv : Nat → Hp → Prop) (h0 : Pv 0 (upd H1 D (.lst [])))
    (hs : ∀ i H, i < n → Pv i H → g (.int (lo + i)) (wipe σ vs) H fun σ2 H2 => wipe σ2 vs = wipe σ vs ∧ tt σ2 H2 fun b H3 =>
      if b = true then te σ2 H3 fun y H4 => ∃ acc, H4 D = some (.lst acc) ∧ acc.length < sizeLine ∧ Pv (i + 1) (upd H4 D (.lst (acc ++ [y]))) else Pv (i + 1) H3) (hd : ∀ H, Pv n H → Qd H) :
    ∃ W : Nat → Nat → Hp → Prop, (∃ m, W 0 m (upd H1 D (.lst []))) ∧ ∀ i m H, W i m H →
      ((Itr lo n).stop i H ∧ Qd H) ∨ ((Itr lo n).go i H ∧ ∃ Nx : Hp → Prop, (∀ H', Nx H' → ∃ m', m' < m ∧ W (i + 1) m' H') ∧ ∀ x H', (Itr lo n).yld i H x H' → g x (wipe σ vs) H' fun σ2 H2 => wipe σ2 vs = wipe σ vs ∧ tt σ2 H2 fun b H3 =>
        if b = true then te σ2 H3 fun y H4 => ∃ acc, H4 D = some (.lst acc) ∧ acc.length < sizeLine ∧ Nx (upd H4 D (.lst (acc ++ [y]))) else Nx H3) := by
  refine ⟨fun i m H => m = n - i ∧ i ≤ n ∧ Pv i H, ⟨n, by simp, Nat.zero_le _, h0⟩, ?_⟩
  rintro i m H ⟨rfl, hi, p⟩
  by_cases hlt : i < n
  · refine .inr ⟨hlt, Pv (i + 1), fun H' p' => ⟨n - (i + 1), by omega, rfl, hlt, p'⟩, fun x H' y => ?_⟩
    obtain ⟨e, y⟩ := y
    subst e y
    exact hs i _ hlt p
  · have e : i = n := by omega
    subst e
    exact .inl ⟨Nat.le_refl _, hd H p⟩
/-- over a list that the block leaves as it is -/
theorem lc_list {K : PySem.W.Frag} {a : Addr} {xs : List V} {g : TG} {tt : TT} {te : TE} {vs : List Nat} {σ : St} {H1 : Hp} {D : Addr} {Qd : Hp → Prop} (Pv : Nat → Hp → Prop) (h0 : Pv 0 (upd H1 D (.lst []))) (hl : ∀ i H, i ≤ xs.length → Pv i H → SqL K H a xs)
    (hs : ∀ i x H, xs[i]? = some x → Pv i H → g x (wipe σ vs) H fun σ2 H2 => wipe σ2 vs = wipe σ vs ∧ tt σ2 H2 fun b H3 =>
      if b = true then te σ2 H3 fun y H4 => ∃ acc, H4 D = some (.lst acc) ∧ acc.length < sizeLine ∧ Pv (i + 1) (upd H4 D (.lst (acc ++ [y]))) else Pv (i + 1) H3) (hd : ∀ H, Pv xs.length H → Qd H) :
    ∃ W : Nat → Nat → Hp → Prop, (∃ m, W 0 m (upd H1 D (.lst []))) ∧ ∀ i m H, W i m H →
      ((Itl K a).stop i H ∧ Qd H) ∨ ((Itl K a).go i H ∧ ∃ Nx : Hp → Prop, (∀ H', Nx H' → ∃ m', m' < m ∧ W (i + 1) m' H') ∧ ∀ x H', (Itl K a).yld i H x H' → g x (wipe σ vs) H' fun σ2 H2 => wipe σ2 vs = wipe σ vs ∧ tt σ2 H2 fun b H3 =>
        if b = true then te σ2 H3 fun y H4 => ∃ acc, H4 D = some (.lst acc) ∧ acc.length < sizeLine ∧ Nx (upd H4 D (.lst (acc ++ [y]))) else Nx H3) := by
  refine ⟨fun i m H => m = xs.length - i ∧ i ≤ xs.length ∧ Pv i H, ⟨xs.length, by simp, Nat.zero_le _, h0⟩, ?_⟩
  rintro i m H ⟨rfl, hi, p⟩
  have q := hl i H hi p
  by_cases hlt : i < xs.length
  · refine .inr ⟨⟨xs, xs[i], q, by simp [hlt]⟩, Pv (i + 1), fun H' p' => ⟨xs.length - (i + 1), by omega, rfl, hlt, p'⟩, fun x H' y => ?_⟩
    obtain ⟨e, y⟩ := y
    subst e
    exact hs i x _ (y xs q) p
  · have e : i = xs.length := by omega
    subst e
    exact .inl ⟨⟨xs, q, Nat.le_refl _⟩, hd H p⟩
/-- over a tuple -/
theorem lc_tup {K : PySem.W.Frag} {a : Addr} {xs : List V} {g : TG} {tt : TT} {te : TE} {vs : List Nat} {σ : St} {H1 : Hp} {D : Addr} {Qd : Hp → Prop} (Pv : Nat → Hp → Prop) (h0 : Pv 0 (upd H1 D (.lst []))) (hl : ∀ i H, i ≤ xs.length → Pv i H → SqT K H a xs)
    (hs : ∀ i x H, xs[i]? = some x → Pv i H → g x (wipe σ vs) H fun σ2 H2 => wipe σ2 vs = wipe σ vs ∧ tt σ2 H2 fun b H3 =>
      if b = true then te σ2 H3 fun y H4 => ∃ acc, H4 D = some (.lst acc) ∧ acc.length < sizeLine ∧ Pv (i + 1) (upd H4 D (.lst (acc ++ [y]))) else Pv (i + 1) H3) (hd : ∀ H, Pv xs.length H → Qd H) :
    ∃ W : Nat → Nat → Hp → Prop, (∃ m, W 0 m (upd H1 D (.lst []))) ∧ ∀ i m H, W i m H →
      ((Itt K a).stop i H ∧ Qd H) ∨ ((Itt K a).go i H ∧ ∃ Nx : Hp → Prop, (∀ H', Nx H' → ∃ m', m' < m ∧ W (i + 1) m' H') ∧ ∀ x H', (Itt K a).yld i H x H' → g x (wipe σ vs) H' fun σ2 H2 => wipe σ2 vs = wipe σ vs ∧ tt σ2 H2 fun b H3 =>
        if b = true then te σ2 H3 fun y H4 => ∃ acc, H4 D = some (.lst acc) ∧ acc.length < sizeLine ∧ Nx (upd H4 D (.lst (acc ++ [y]))) else Nx H3) := by
  refine ⟨fun i m H => m = xs.length - i ∧ i ≤ xs.length ∧ Pv i H, ⟨xs.length, by simp, Nat.zero_le _, h0⟩, ?_⟩
  rintro i m H ⟨rfl, hi, p⟩
  have q := hl i H hi p
  by_cases hlt : i < xs.length
  · refine .inr ⟨⟨xs, xs[i], q, by simp [hlt]⟩, Pv (i + 1), fun H' p' => ⟨xs.length - (i + 1), by omega, rfl, hlt, p'⟩, fun x H' y => ?_⟩
    obtain ⟨e, y⟩ := y
    subst e
    exact hs i x _ (y xs q) p
  · have e : i = xs.length := by omega
    subst e
    exact .inl ⟨⟨xs, q, Nat.le_refl _⟩, hd H p⟩
def blkC (N : List Str) (sc scope : Scope) (own : List (Str × Nat)) : Bool :=
  (match scope.kind with | .function => true | _ => false) && (scope.names.all fun y => decide (scope.names.lookup y.1 = some y.2)) && (own.all fun p => decide (N[p.2]? = some p.1)) &&
    (scope.names.all fun y => match y.2 with
      | .free => (match sc.names.lookup y.1 with | some .cell => true | some .free => true | _ => false)
      | .local => decide (y.1 ∈ own.map (·.1)) || decide (y.1 ∉ N)
      | .cell => decide (y.1 ∈ own.map (·.1)) || decide (y.1 ∉ N)
      | _ => true)
theorem blkOk_by {N : List Str} {sc scope : Scope} {own : List (Str × Nat)} (h : blkC N sc scope own = true) : BlkOk N sc scope own := by
  unfold blkC at h
  simp only [Bool.and_eq_true, List.all_eq_true, decide_eq_true_eq] at h
  obtain ⟨⟨⟨h1, h2⟩, h3⟩, h4⟩ := h
  refine ⟨?_, h2, h3, fun y hy e => ?_, fun y hy e => ?_⟩
  · split at h1
    · assumption
    · cases h1
  · have q := h4 y hy
    simp only [e] at q
    split at q <;> first | exact .inl (by assumption) | exact .inr (by assumption) | cases q
  · have q := h4 y hy
    rcases e with e | e <;> (simp only [e, Bool.or_eq_true, decide_eq_true_eq] at q; exact q)
end L2

namespace L2
open PySem PySem.Spec PyProof.Rows

theorem compTurn2_out (elt t0 i0 t1 i1 : Expr) (ifs0 ifs1 : List Expr) (scope : Scope) (pos : Pos) (it acc : Value) (env : Env) :
    compTurn (.ListComp elt [⟨t0, i0, ifs0, 0⟩, ⟨t1, i1, ifs1, 0⟩] scope pos) 0 it acc env = (do
      standAt i0.pos
      match ← pyNext it with
      | none => pure (.done .next)
      | some v =>
        letOwnedTupleGo t0 it v
        assign t0 env v
        let mut ok := true
        for c in ifs0 do
          if ok then ok ← isTrue c env (eval c env)
        if ok then
          let x ← eval i1 env
          standAt i1.pos
          let x ← foldedSetIterable i1 env x
          let _ ← runOwn (.compStart (.ListComp elt [⟨t0, i0, ifs0, 0⟩, ⟨t1, i1, ifs1, 0⟩] scope pos) 1 (← holding [x] (pyIter x)) acc env) env
        again (.compLoop (.ListComp elt [⟨t0, i0, ifs0, 0⟩, ⟨t1, i1, ifs1, 0⟩] scope pos) 0 it acc env)) := by rfl
theorem compTurn2_in (elt t0 i0 t1 i1 : Expr) (ifs0 ifs1 : List Expr) (scope : Scope) (pos : Pos) (it acc : Value) (env : Env) :
    compTurn (.ListComp elt [⟨t0, i0, ifs0, 0⟩, ⟨t1, i1, ifs1, 0⟩] scope pos) 1 it acc env = (do
      standAt i1.pos
      match ← pyNext it with
      | none => pure (.done .next)
      | some v =>
        letOwnedTupleGo t1 it v
        assign t1 env v
        let mut ok := true
        for c in ifs1 do
          if ok then ok ← isTrue c env (eval c env)
        if ok then
          (do let _ ← call (.builtin "list.append") [acc, ← eval elt env])
        again (.compLoop (.ListComp elt [⟨t0, i0, ifs0, 0⟩, ⟨t1, i1, ifs1, 0⟩] scope pos) 1 it acc env)) := by rfl

section
variable {prog : Program} {w : World} {A : Around} {R : Result → Shared → Prop} {s : Shared} {elt t0 i0 t1 i1 : Expr} {ifs0 ifs1 : List Expr} {scope : Scope} {pos : Pos} {it acc : Value} {env : Env}
/-- the loop of the first clause -/
theorem compLoop2_out (hs : ∀ x, foldedSetIterable i1 env x = pure x) (I : Nat → Shared → Prop)
    (turn : ∀ n s, I n s → wpAny (model prog w) A (pyNext it) (fun r s₁ => match r with
      | none => R (.ok .next) s₁
      | some v => wpAny (model prog w) A (letOwnedTupleGo t0 it v) (fun _ s₁' => wpAny (model prog w) A (assign t0 env v) (fun _ s₂ =>
          wpAny (model prog w) A (forIn ifs0 true fun c r => if r = true then do let ok ← isTrue c env (eval c env); pure (ForInStep.yield ok) else pure (ForInStep.yield r)) (fun ok s₃ =>
            if ok = true then wpAny (model prog w) A (eval i1 env) (fun x s₄ => wpAny (model prog w) A (pyIter x) (fun it1 s₅ =>
              codeAny (model prog w) A (.compStart (.ListComp elt [⟨t0, i0, ifs0, 0⟩, ⟨t1, i1, ifs1, 0⟩] scope pos) 1 it1 acc env) (fun r s' => match r with
                | .ok _ => ∃ m, m < n ∧ I m s'
                | .error _ => False) s₅) (notedBy (model prog w) A env fun e s' => R (.error e) s') s₄) (notedBy (model prog w) A env fun e s' => R (.error e) s') s₃
            else ∃ m, m < n ∧ I m s₃) (notedBy (model prog w) A env fun e s' => R (.error e) s') s₂) (notedBy (model prog w) A env fun e s' => R (.error e) s') s₁') (notedBy (model prog w) A env fun e s' => R (.error e) s') s₁) (notedBy (model prog w) A env fun e s' => R (.error e) s') s)
    (n : Nat) (h : I n s) :
    codeAny (model prog w) A (.compLoop (.ListComp elt [⟨t0, i0, ifs0, 0⟩, ⟨t1, i1, ifs1, 0⟩] scope pos) 0 it acc env) R s := by
  refine codeAny_loop rfl I (fun n s hI => ?_) n h
  show wpAny _ A ((compTurn (.ListComp elt [⟨t0, i0, ifs0, 0⟩, ⟨t1, i1, ifs1, 0⟩] scope pos) 0 it acc env).onRaise (fun x => do noteFrame x env; theTreesLotGoes x)) _ _ s
  refine wpAny_noted ?_
  rw [compTurn2_out]
  refine wpAny_bind (wpAny_standAt (wpAny_bind (wpAny_mono (turn n s hI) (fun r s₁ h₁ => ?_) fun _ _ h' => h')))
  cases r with
  | none => exact wpAny_pure h₁
  | some v =>
    refine wpAny_bind (wpAny_mono h₁ (fun _ s₁' h₁' => ?_) fun _ _ h' => h')
    refine wpAny_bind (wpAny_mono h₁' (fun _ s₂ h₂ => wpAny_bind (wpAny_mono h₂ (fun ok s₃ h₃ => ?_) fun _ _ h' => h')) fun _ _ h' => h')
    cases ok with
    | false => exact wpAny_pure ⟨rfl, h₃⟩
    | true =>
      refine wpAny_bind (wpAny_mono h₃ (fun x s₄ h₄ => ?_) fun _ _ h' => h')
      refine wpAny_bind (wpAny_standAt (wpAny_bind (wpAny_of_eq (hs x) (wpAny_bind (wpAny_holding (wpAny_mono h₄ (fun it1 s₅ h₅ => ?_) fun _ _ h' => h'))))))
      refine wpAny_bind (wpAny_runOwn ?_)
      rw [Around.mark_none]
      refine codeAny_mono h₅ fun r s' hr => ?_
      cases r with
      | ok f =>
        first
          | exact wpAny_pure ⟨rfl, hr⟩
          | exact wpAny_bind (wpAny_pure (wpAny_pure ⟨rfl, hr⟩))
      | error e => exact hr.elim
/-- the loop of the second -/
theorem compLoop2_in (I : Nat → Shared → Prop)
    (turn : ∀ n s, I n s → wpAny (model prog w) A (pyNext it) (fun r s₁ => match r with
      | none => R (.ok .next) s₁
      | some v => wpAny (model prog w) A (letOwnedTupleGo t1 it v) (fun _ s₁' => wpAny (model prog w) A (assign t1 env v) (fun _ s₂ =>
          wpAny (model prog w) A (forIn ifs1 true fun c r => if r = true then do let ok ← isTrue c env (eval c env); pure (ForInStep.yield ok) else pure (ForInStep.yield r)) (fun ok s₃ =>
            if ok = true then wpAny (model prog w) A (eval elt env) (fun x s₄ =>
              wpAny (model prog w) A (call (.builtin "list.append") [acc, x]) (fun _ s₅ => ∃ m, m < n ∧ I m s₅) (notedBy (model prog w) A env fun e s' => R (.error e) s') s₄) (notedBy (model prog w) A env fun e s' => R (.error e) s') s₃
            else ∃ m, m < n ∧ I m s₃) (notedBy (model prog w) A env fun e s' => R (.error e) s') s₂) (notedBy (model prog w) A env fun e s' => R (.error e) s') s₁') (notedBy (model prog w) A env fun e s' => R (.error e) s') s₁) (notedBy (model prog w) A env fun e s' => R (.error e) s') s)
    (n : Nat) (h : I n s) :
    codeAny (model prog w) A (.compLoop (.ListComp elt [⟨t0, i0, ifs0, 0⟩, ⟨t1, i1, ifs1, 0⟩] scope pos) 1 it acc env) R s := by
  refine codeAny_loop rfl I (fun n s hI => ?_) n h
  show wpAny _ A ((compTurn (.ListComp elt [⟨t0, i0, ifs0, 0⟩, ⟨t1, i1, ifs1, 0⟩] scope pos) 1 it acc env).onRaise (fun x => do noteFrame x env; theTreesLotGoes x)) _ _ s
  refine wpAny_noted ?_
  rw [compTurn2_in]
  refine wpAny_bind (wpAny_standAt (wpAny_bind (wpAny_mono (turn n s hI) (fun r s₁ h₁ => ?_) fun _ _ h' => h')))
  cases r with
  | none => exact wpAny_pure h₁
  | some v =>
    refine wpAny_bind (wpAny_mono h₁ (fun _ s₁' h₁' => ?_) fun _ _ h' => h')
    refine wpAny_bind (wpAny_mono h₁' (fun _ s₂ h₂ => wpAny_bind (wpAny_mono h₂ (fun ok s₃ h₃ => ?_) fun _ _ h' => h')) fun _ _ h' => h')
    cases ok with
    | false => exact wpAny_pure ⟨rfl, h₃⟩
    | true =>
      exact wpAny_bind (wpAny_bind (wpAny_mono h₃ (fun x s₄ h₄ => wpAny_bind (wpAny_mono h₄ (fun _ s₅ h₅ => wpAny_pure (wpAny_pure ⟨rfl, h₅⟩)) fun _ _ h' => h')) fun _ _ h' => h'))
/-- the second clause's start -/
theorem compStart1_ok (h0 : codeAny (model prog w) A (.compLoop (.ListComp elt [⟨t0, i0, ifs0, 0⟩, ⟨t1, i1, ifs1, 0⟩] scope pos) 1 it acc env) R s)
    (h : wpAny (model prog w) A (pyIter it) (fun it' s' => codeAny (model prog w) A (.compLoop (.ListComp elt [⟨t0, i0, ifs0, 0⟩, ⟨t1, i1, ifs1, 0⟩] scope pos) 1 it' acc env) R s')
      (notedBy (model prog w) A env fun x s' => R (.error x) s') s) :
    codeAny (model prog w) A (.compStart (.ListComp elt [⟨t0, i0, ifs0, 0⟩, ⟨t1, i1, ifs1, 0⟩] scope pos) 1 it acc env) R s := by
  refine codeAny_of_tree ?_
  show wpAny _ _ ((compStart (.ListComp elt [⟨t0, i0, ifs0, 0⟩, ⟨t1, i1, ifs1, 0⟩] scope pos) 1 it acc env).onRaise (fun x => do noteFrame x env; standAt theWindowsPlace)) _ _ s
  refine wpAny_notedAt ?_
  unfold compStart
  show wpAny _ _ (ask >>= _) _ _ s
  refine wpAny_bind (wpAny_askSetting (wpAny_ite ?_))
  split
  · first
      | exact wpAny_bind (wpAny_pure (wpAny_pure (And.intro rfl h0)))
      | exact wpAny_pure (And.intro rfl h0)
  · first
      | exact wpAny_bind (wpAny_rule (wpAny_bind (wpAny_standAt (wpAny_bind (wpAny_mono h (fun it' s' h' => wpAny_pure (And.intro rfl h')) fun _ _ x => x)))))
      | (refine wpAny_bind (wpAny_rule ?_); show wpAny _ _ (standAt i1.pos >>= _) _ _ s; exact wpAny_bind (wpAny_standAt (wpAny_bind (wpAny_mono h (fun it' s' h' => wpAny_pure (And.intro rfl h')) fun _ _ x => x))))
end

theorem wipe_out {σ : St} {i : Nat} : ∀ {vs : List Nat}, i ∉ vs → (wipe σ vs)[i]? = σ[i]?
  | [], _ => rfl
  | v :: vs, h => by
    have h1 : v ≠ i := fun e => h (by rw [e]; exact List.mem_cons_self)
    have h2 : i ∉ vs := fun m => h (List.mem_cons_of_mem _ m)
    unfold wipe
    rw [List.getElem?_set_ne h1]
    exact wipe_out h2
section
variable {X : Cx}
/-- [elt for tg in iter if .. for tg1 in iter1 if ..]: behind the first clause's store and tests the second source's own loop, from which Nx is reached. vs: the block's names; vs1: those of the second target -/
def tLc2 (wi : TI) (g : TG) (tt : TT) (wi1 : TI) (g1 : TG) (tt1 : TT) (te : TE) (vs vs1 : List Nat) : TE := fun σ H Q => wi σ H fun J H1 => ∀ D, H1 D = none → ∃ W : Nat → Nat → Hp → Prop, (∃ m, W 0 m (upd H1 D (.lst []))) ∧ ∀ i m H, W i m H →
  (J.stop i H ∧ Q (.ref D) H) ∨ (J.go i H ∧ ∃ Nx : Hp → Prop, (∀ H', Nx H' → ∃ m', m' < m ∧ W (i + 1) m' H') ∧ ∀ x H', J.yld i H x H' → g x (wipe σ vs) H' fun σ2 H2 => wipe σ2 vs = wipe σ vs ∧ tt σ2 H2 fun b H3 =>
    if b = true then wi1 σ2 H3 fun J1 H4 => ∃ W1 : Nat → Nat → Hp → Prop, (∃ m, W1 0 m H4) ∧ ∀ j k H, W1 j k H →
      (J1.stop j H ∧ Nx H) ∨ (J1.go j H ∧ ∃ Nx1 : Hp → Prop, (∀ H', Nx1 H' → ∃ k', k' < k ∧ W1 (j + 1) k' H') ∧ ∀ x H', J1.yld j H x H' → g1 x (wipe σ2 vs1) H' fun σ3 H5 => wipe σ3 vs1 = wipe σ2 vs1 ∧ tt1 σ3 H5 fun b H6 =>
        if b = true then te σ3 H6 fun y H7 => ∃ acc, H7 D = some (.lst acc) ∧ acc.length < sizeLine ∧ Nx1 (upd H7 D (.lst (acc ++ [y]))) else Nx1 H6)
    else Nx H3)
theorem lc2_core {pins : List (Addr × Obj)} {s : Shared} {σ : St} {H : Hp} {Q : VK} {elt tg iter tg1 iter1 : Expr} {ifs ifs1 : List Expr} {scope : Scope} {own : List (Str × Nat)} {vs1 : List Nat} {pos pos' : Pos} {wi wi1 : TI} {g g1 : TG} {tt tt1 : TT} {te : TE} {use : Option (Value → Sem Unit)} {Qf : Value → Shared → Prop}
    (hc : X.calm = true) (hN : X.N.Nodup) (I : Inv X pins σ H s) (hi : PI X tg iter wi) (ok : BlkOk X.N X.env.scope scope own) (hv : ∀ i ∈ vs1, i ∈ own.map (·.2))
    (hg : ∀ (s : Shared) (H : Hp) (C : Addr) (cl : List (Str × Addr)) (fp : List Addr), PG (X.blk s H scope (compEnvC scope cl C X.env) fp) tg g) (ht : ∀ (s : Shared) (H : Hp) (C : Addr) (cl : List (Str × Addr)) (fp : List Addr), PTs (X.blk s H scope (compEnvC scope cl C X.env) fp) ifs tt)
    (he : ∀ (s : Shared) (H : Hp) (C : Addr) (cl : List (Str × Addr)) (fp : List Addr), PE (X.blk s H scope (compEnvC scope cl C X.env) fp) elt te) (hs : ∀ x, foldedSetIterable iter X.env x = pure x)
    (hi1 : ∀ (s : Shared) (H : Hp) (C : Addr) (cl : List (Str × Addr)) (fp : List Addr), PI (X.blk s H scope (compEnvC scope cl C X.env) fp) tg1 iter1 wi1)
    (hg1 : ∀ (s : Shared) (H : Hp) (C : Addr) (cl : List (Str × Addr)) (fp : List Addr), PG (X.blk s H scope (compEnvC scope cl C X.env) fp) tg1 g1)
    (ht1 : ∀ (s : Shared) (H : Hp) (C : Addr) (cl : List (Str × Addr)) (fp : List Addr), PTs (X.blk s H scope (compEnvC scope cl C X.env) fp) ifs1 tt1)
    (hs1 : ∀ env x, foldedSetIterable iter1 env x = pure x)
    (h : tLc2 wi g tt wi1 g1 tt1 te (own.map (·.2)) vs1 σ H Q)
    (hRR : ∀ D C s' m H', Inv X pins σ H' s' → Q (.ref D) H' → s'.heap.Ns C m → FpOk X pins H' C → compPost (model X.prog X.w) X.A X.xe use Qf (.ref D) C (.ok .next) s') :
    wpAny (model X.prog X.w) X.A (comprehension (.ListComp elt [⟨tg, iter, ifs, 0⟩, ⟨tg1, iter1, ifs1, 0⟩] scope pos) scope X.env pos' (newList []) false (eval iter X.env) use) Qf X.xe s := by
  have hfree : ∀ y ∈ scope.names, y.2 = .free → ∃ c, X.env.cells.lookup y.1 = some c := fun y hy e => by
    rcases ok.free y hy e with k | k
    · exact I.ok.has _ (.inl k)
    · exact I.ok.has _ (.inr k)
  refine wpAny_comprehension_free (use := use) rfl hs (closure_ok hfree) ok.kind (fun y hy e => by rw [ok.uniq y hy, e])
    (thn (hi pins s σ H _ I h) fun xv s1 hx => thn hx fun itv s2 h2 => ?_)
  obtain ⟨it, fp, tn, J, H2, e, I2, T, st2, f2, q⟩ := h2
  subst e
  refine wpAny_newObj_type (newEnv_comp ?_) (by show 0 ≤ sizeLine; decide)
  generalize hD : s2.heap.objs.size = D
  have hDn : H2 D = none := I2.hok.fresh (Nat.le_of_eq hD)
  obtain ⟨W, ⟨m0, w0⟩, turn⟩ := q D hDn
  -- the new list
  generalize hs3 : ({ s2 with heap := s2.heap.push { cls := .type "list", data := .seq ([] : List Value).toArray } } : Shared) = s3
  have I3 : Inv X pins σ (upd H2 D (.lst [])) s3 := by
    rw [← hs3]
    refine I2.laid (t' := s2.toks) (fun b o e => Heap.get?_push_of_some _ e) (Nat.le_of_eq hD) ⟨Nat.zero_le _, [], 0, .nil, ?_⟩
    rw [← hD]
    exact Heap.get?_push_size _ rfl
  have h3 : s3.heap = s2.heap.push { cls := .type "list", data := .seq ([] : List Value).toArray } := by rw [← hs3]
  have sz : ∀ b ∈ fp, b < s2.heap.objs.size := fun b hb => by
    obtain ⟨o, e, _⟩ := T.obj _ _ st2 b hb
    exact Heap.lt_size e
  have f3 : ∀ b ∈ fp, FpOk X pins (upd H2 D (.lst [])) b ∧ b < s3.heap.objs.size := fun b hb => by
    have hlt := sz b hb
    refine ⟨⟨?_, (f2 b hb).2⟩, by rw [h3, Heap.size_push]; exact Nat.lt_succ_of_lt hlt⟩
    rw [upd_ne (by rw [← hD]; exact Nat.ne_of_lt hlt)]
    exact (f2 b hb).1
  have st3 : tn 0 s3.heap := T.keep _ _ _ st2 fun b _ o e => by rw [h3]; exact Heap.get?_push_of_some _ e
  have I4 := block_start I3 ok hN f3
  have pg := hg s3 (upd H2 D (.lst [])) s3.heap.objs.size (cellsFrom (s3.heap.objs.size + 1) scope.names (cloFrom X.env.cells scope.names [])) fp
  have pt := ht s3 (upd H2 D (.lst [])) s3.heap.objs.size (cellsFrom (s3.heap.objs.size + 1) scope.names (cloFrom X.env.cells scope.names [])) fp
  have pe := he s3 (upd H2 D (.lst [])) s3.heap.objs.size (cellsFrom (s3.heap.objs.size + 1) scope.names (cloFrom X.env.cells scope.names [])) fp
  have pi1 := hi1 s3 (upd H2 D (.lst [])) s3.heap.objs.size (cellsFrom (s3.heap.objs.size + 1) scope.names (cloFrom X.env.cells scope.names [])) fp
  have pg1 := hg1 s3 (upd H2 D (.lst [])) s3.heap.objs.size (cellsFrom (s3.heap.objs.size + 1) scope.names (cloFrom X.env.cells scope.names [])) fp
  have pt1 := ht1 s3 (upd H2 D (.lst [])) s3.heap.objs.size (cellsFrom (s3.heap.objs.size + 1) scope.names (cloFrom X.env.cells scope.names [])) fp
  show codeAny _ _ (.compStart (.ListComp elt [⟨tg, iter, ifs, 0⟩, ⟨tg1, iter1, ifs1, 0⟩] scope pos) 0 (.ref it) (.ref D) (compEnvC scope (cellsFrom (s3.heap.objs.size + 1) scope.names (cloFrom X.env.cells scope.names [])) s3.heap.objs.size X.env)) (compPost (model X.prog X.w) X.A X.xe use Qf (.ref D) s3.heap.objs.size) { s3 with heap := pushCells (s3.heap.push { cls := .type "dict", data := .dict #[] }) scope.names }
  have nfp : ∀ b ∈ fp, (upd H2 D (.lst [])) b = none := fun b hb => (f3 b hb).1.1
  generalize hce : compEnvC scope (cellsFrom (s3.heap.objs.size + 1) scope.names (cloFrom X.env.cells scope.names [])) s3.heap.objs.size X.env = ce at I4 pg pt pe pi1 pg1 pt1 ⊢
  have cL : ce.locals = s3.heap.objs.size := by subst hce; rfl
  generalize hH3 : upd H2 D (.lst []) = H3 at I3 I4 pg pt pe pi1 pg1 pt1 w0 nfp f3
  generalize hs4 : ({ s3 with heap := pushCells (s3.heap.push { cls := .type "dict", data := .dict #[] }) scope.names } : Shared) = s4 at I4 ⊢
  have st4 : tn 0 s4.heap := T.keep _ _ _ st3 fun b _ o e => by rw [← hs4]; exact pushCells_keeps _ _ _ _ (Heap.get?_push_of_some _ e)
  have stat : ∀ {σ' : St} {H' : Hp} {s' : Shared}, Inv (X.blk s3 H3 scope ce fp) [] σ' H' s' → (∀ b ∈ fp, H' b = none) → ∀ b ∈ fp, FpOk (X.blk s3 H3 scope ce fp) [] H' b := fun {σ' H' s'} I' hn b hb =>
    ⟨hn b hb, (I'.ok.exf b hb).1, I'.ok.exfs b hb, .inl hb, fun x c e => (I'.ok.exf b hb).2 x c e, fun p hp => absurd (show p ∈ ([] : List (Addr × Obj)) ++ [] from hp) (by simp)⟩
  have loop : codeAny (model X.prog X.w) X.A (.compLoop (.ListComp elt [⟨tg, iter, ifs, 0⟩, ⟨tg1, iter1, ifs1, 0⟩] scope pos) 0 (.ref it) (.ref D) ce) (compPost (model X.prog X.w) X.A X.xe use Qf (.ref D) s3.heap.objs.size) s4 := by
    refine compLoop2_out (hs1 ce) (fun n s' => ∃ i H', Inv (X.blk s3 H3 scope ce fp) [] (wipe σ (own.map (·.2))) H' s' ∧ tn i s'.heap ∧ (∀ b ∈ fp, H' b = none) ∧ W i n H') ?_ m0 ⟨0, H3, I4, st4, nfp, w0⟩
    rintro n s5 ⟨i, H5, I5, st5, n5, w5⟩
    rcases turn i n H5 w5 with ⟨stop, qq⟩ | ⟨go, Nx, hNx, step⟩
    · have td := T.done (X.blk s3 H3 scope ce fp) rfl rfl rfl hc i [] s5 _ H5 (fun _ _ => False) I5 (stat I5 n5) st5 stop
      refine thnF td fun r s6 ⟨hr, I6⟩ => ?_
      subst hr
      -- back in the def's context
      have I7 : Inv X pins σ H5 s6 := I3.call' (ch := fp) I6.os I6.base I6.hok I6.bare fun b hb => ⟨(f3 b hb).1.2.2.2.1, (f3 b hb).1.2.1, (f3 b hb).1.2.2.2.2.1, (f3 b hb).1.2.2.2.2.2⟩
      have nC : H5 s3.heap.objs.size = none := by
        have z : H5 ce.locals = none := I6.free
        rw [cL] at z
        exact z
      obtain ⟨m, hn, _⟩ := I6.loc
      have hn : s6.heap.Ns ce.locals m := hn
      rw [cL] at hn
      exact hRR D s3.heap.objs.size s6 m H5 I7 qq hn (I3.fpOk (Nat.le_refl _) nC)
    · have ti := T.item (X.blk s3 H3 scope ce fp) rfl rfl rfl hc i [] s5 _ H5 (fun _ _ => False) I5 (stat I5 n5) st5 go
      refine thnF ti fun r s6 ⟨u, hr, h6⟩ => ?_
      subst hr
      refine thnF h6 fun _ s7 ⟨x, H7, I7, r7, y7, st7, n7⟩ => ?_
      have I7' := I7.pinned (stat I7 n7) (T.obj _ _ st7)
      refine thnF (pg _ s7 _ H7 x u _ I7' r7 (step x H7 y7)) fun _ s8 ⟨σ8, H8, I8, hw8, q8⟩ => ?_
      refine thnF (pt _ s8 σ8 H8 _ I8 q8) fun b s9 ⟨H9, I9, q9⟩ => ?_
      -- the turn's end, from any slots that know what the block knew at its start
      have fin : ∀ {σ9 : St} {s' : Shared} {H' : Hp}, Inv (X.blk s3 H3 scope ce fp) ([] ++ pinsAt fp s7.heap) σ9 H' s' → (wipe σ (own.map (·.2))).length = σ9.length → (∀ (j : Nat) v, (wipe σ (own.map (·.2)))[j]? = some (some v) → σ9[j]? = some (some v)) → Nx H' →
          ∃ m, m < n ∧ ∃ i H', Inv (X.blk s3 H3 scope ce fp) [] (wipe σ (own.map (·.2))) H' s' ∧ tn i s'.heap ∧ (∀ b ∈ fp, H' b = none) ∧ W i m H' := fun {σ9 s' H'} I' hl hk nx => by
        obtain ⟨m', hm, w'⟩ := hNx H' nx
        have pin' : ∀ b ∈ fp, ∀ o, s7.heap.get? b = some o → s'.heap.get? b = some o ∧ H' b = none := fun b hb o e =>
          let z := I'.pin (b, o) (List.mem_append_right _ (List.mem_append_right _ (mem_pinsAt hb e)))
          ⟨z.1, z.2.1⟩
        refine ⟨m', hm, i + 1, H', (I'.unpinned (pins := [])).weak hl hk, T.keep _ _ _ st7 fun b hb o e => (pin' b hb o e).1, fun b hb => ?_, w'⟩
        obtain ⟨o, e, _⟩ := T.obj _ _ st7 b hb
        exact (pin' b hb o e).2
      have hl8 : (wipe σ (own.map (·.2))).length = σ8.length := by rw [← hw8, wipe_length]
      have hk8 : ∀ (j : Nat) v, (wipe σ (own.map (·.2)))[j]? = some (some v) → σ8[j]? = some (some v) := fun j v e => by
        rw [← hw8] at e
        exact (wipe_some e).1
      have hk9 : ∀ (j : Nat) v, (wipe σ (own.map (·.2)))[j]? = some (some v) → (wipe σ8 vs1)[j]? = some (some v) := fun j v e => by
        rw [← hw8] at e
        obtain ⟨e1, e2⟩ := wipe_some e
        rw [wipe_out fun z => e2 (hv j z)]
        exact e1
      cases b with
      | false =>
        simp only [Bool.false_eq_true, if_false] at q9 ⊢
        exact fin I9 hl8 hk8 q9
      | true =>
        simp only [if_true] at q9 ⊢
        refine thnF (pi1 _ s9 σ8 H9 _ I9 q9) fun xv s10 hx => thnF hx fun itv s11 h11 => ?_
        obtain ⟨it1, fp1, tn1, J1, H11, e1, I11, T1, st11, f11, W1, ⟨m1, w1⟩, turn1⟩ := h11
        subst e1
        -- the inner loop
        have stat1 : ∀ {H' : Hp}, (∀ b ∈ fp1, H' b = none) → ∀ b ∈ fp1, FpOk (X.blk s3 H3 scope ce fp) ([] ++ pinsAt fp s7.heap) H' b := fun hn b hb => ⟨hn b hb, (f11 b hb).2⟩
        have loop1 : codeAny (model X.prog X.w) X.A (.compLoop (.ListComp elt [⟨tg, iter, ifs, 0⟩, ⟨tg1, iter1, ifs1, 0⟩] scope pos) 1 (.ref it1) (.ref D) ce)
            (fun r s' => match r with
              | .ok _ => ∃ m, m < n ∧ ∃ i H', Inv (X.blk s3 H3 scope ce fp) [] (wipe σ (own.map (·.2))) H' s' ∧ tn i s'.heap ∧ (∀ b ∈ fp, H' b = none) ∧ W i m H'
              | .error _ => False) s11 := by
          refine compLoop2_in (fun k s' => ∃ j H', Inv (X.blk s3 H3 scope ce fp) ([] ++ pinsAt fp s7.heap) (wipe σ8 vs1) H' s' ∧ tn1 j s'.heap ∧ (∀ b ∈ fp1, H' b = none) ∧ W1 j k H') ?_ m1 ⟨0, H11, I11.weak (wipe_length _ _) (fun j v e => (wipe_some e).1), st11, fun b hb => (f11 b hb).1, w1⟩
          rintro k s12 ⟨j, H12, I12, st12, n12, w12⟩
          rcases turn1 j k H12 w12 with ⟨stop1, nx1⟩ | ⟨go1, Nx1, hNx1, step1⟩
          · refine thnF (T1.done (X.blk s3 H3 scope ce fp) rfl rfl rfl hc j _ s12 (wipe σ8 vs1) H12 (fun _ _ => False) I12 (stat1 n12) st12 stop1) fun r s13 ⟨hr, I13⟩ => ?_
            subst hr
            exact fin I13 (hl8.trans (wipe_length σ8 vs1).symm) hk9 nx1
          · refine thnF (T1.item (X.blk s3 H3 scope ce fp) rfl rfl rfl hc j _ s12 (wipe σ8 vs1) H12 (fun _ _ => False) I12 (stat1 n12) st12 go1) fun r s13 ⟨u1, hr, h13⟩ => ?_
            subst hr
            refine thnF h13 fun _ s14 ⟨x1, H14, I14, r14, y14, st14, n14⟩ => ?_
            have I14' := I14.pinned (stat1 n14) (T1.obj _ _ st14)
            refine thnF (pg1 _ s14 (wipe σ8 vs1) H14 x1 u1 _ I14' r14 (step1 x1 H14 y14)) fun _ s15 ⟨σ15, H15, I15, hw15, q15⟩ => ?_
            refine thnF (pt1 _ s15 σ15 H15 _ I15 q15) fun b1 s16 ⟨H16, I16, q16⟩ => ?_
            have fin1 : ∀ {s' : Shared} {H' : Hp}, Inv (X.blk s3 H3 scope ce fp) (([] ++ pinsAt fp s7.heap) ++ pinsAt fp1 s14.heap) σ15 H' s' → Nx1 H' → ∃ m, m < k ∧ ∃ j H', Inv (X.blk s3 H3 scope ce fp) ([] ++ pinsAt fp s7.heap) (wipe σ8 vs1) H' s' ∧ tn1 j s'.heap ∧ (∀ b ∈ fp1, H' b = none) ∧ W1 j m H' := fun {s' H'} I' nx => by
              obtain ⟨m', hm, w'⟩ := hNx1 H' nx
              have pin' : ∀ b ∈ fp1, ∀ o, s14.heap.get? b = some o → s'.heap.get? b = some o ∧ H' b = none := fun b hb o e =>
                let z := I'.pin (b, o) (List.mem_append_right _ (List.mem_append_right _ (mem_pinsAt hb e)))
                ⟨z.1, z.2.1⟩
              refine ⟨m', hm, j + 1, H', I'.unpinned.weak (by rw [← hw15, wipe_length]) (fun j v e => by rw [← hw15] at e; exact (wipe_some e).1), T1.keep _ _ _ st14 fun b hb o e => (pin' b hb o e).1, fun b hb => ?_, w'⟩
              obtain ⟨o, e, _⟩ := T1.obj _ _ st14 b hb
              exact (pin' b hb o e).2
            cases b1 with
            | false =>
              simp only [Bool.false_eq_true, if_false] at q16 ⊢
              exact fin1 I16 q16
            | true =>
              simp only [if_true] at q16 ⊢
              refine thnF (pe _ s16 σ15 H16 _ I16 q16) fun z s17 ⟨yv, H17, I17, r17, acc, hD17, hz17, nx⟩ => ?_
              exact app_ok (X := X.blk s3 H3 scope ce fp) I17 hD17 hz17 r17 fun s18 I18 => fin1 I18 nx
        exact compStart1_ok loop1 (T1.self X.A 0 _ _ _ st11 loop1)
  exact codeAny_compStart_list loop (T.self X.A 0 _ _ _ st4 loop)
/-- as a value -/
theorem pe_lc2 {elt tg iter tg1 iter1 : Expr} {ifs ifs1 : List Expr} {scope : Scope} {own : List (Str × Nat)} {vs1 : List Nat} {pos : Pos} {wi wi1 : TI} {g g1 : TG} {tt tt1 : TT} {te : TE} (hc : X.calm = true) (hN : X.N.Nodup) (hi : PI X tg iter wi) (ok : BlkOk X.N X.env.scope scope own) (hv : ∀ i ∈ vs1, i ∈ own.map (·.2))
    (hg : ∀ (s : Shared) (H : Hp) (C : Addr) (cl : List (Str × Addr)) (fp : List Addr), PG (X.blk s H scope (compEnvC scope cl C X.env) fp) tg g) (ht : ∀ (s : Shared) (H : Hp) (C : Addr) (cl : List (Str × Addr)) (fp : List Addr), PTs (X.blk s H scope (compEnvC scope cl C X.env) fp) ifs tt)
    (hi1 : ∀ (s : Shared) (H : Hp) (C : Addr) (cl : List (Str × Addr)) (fp : List Addr), PI (X.blk s H scope (compEnvC scope cl C X.env) fp) tg1 iter1 wi1)
    (hg1 : ∀ (s : Shared) (H : Hp) (C : Addr) (cl : List (Str × Addr)) (fp : List Addr), PG (X.blk s H scope (compEnvC scope cl C X.env) fp) tg1 g1) (ht1 : ∀ (s : Shared) (H : Hp) (C : Addr) (cl : List (Str × Addr)) (fp : List Addr), PTs (X.blk s H scope (compEnvC scope cl C X.env) fp) ifs1 tt1)
    (he : ∀ (s : Shared) (H : Hp) (C : Addr) (cl : List (Str × Addr)) (fp : List Addr), PE (X.blk s H scope (compEnvC scope cl C X.env) fp) elt te) (hs : ∀ x, foldedSetIterable iter X.env x = pure x := by intro _; rfl) (hs1 : ∀ env x, foldedSetIterable iter1 env x = pure x := by intro _ _; rfl) :
    PE X (.ListComp elt [⟨tg, iter, ifs, 0⟩, ⟨tg1, iter1, ifs1, 0⟩] scope pos) (tLc2 wi g tt wi1 g1 tt1 te (own.map (·.2)) vs1) := by
  intro pins s σ H Q I h
  rw [eval_ListComp]
  refine lc2_core hc hN I hi ok hv hg ht he hs hi1 hg1 ht1 hs1 h fun D C s' m H' I' q hn f => ⟨m, hn, fun h'' sb => ?_⟩
  obtain ⟨f0, f1, f2, f3, f4, f5⟩ := f
  exact ⟨.ref D, H', I'.turned (t' := s'.toks) (fun b o hb e => (sb.2 b hb).trans e) f0 f1 f3 f4 f5, rfl, q⟩
theorem ps_setLc2 {i : Nat} {y : Str} {py : Pos} {elt tg iter tg1 iter1 : Expr} {ifs ifs1 : List Expr} {scope : Scope} {own : List (Str × Nat)} {vs1 : List Nat} {pos spos : Pos} {wi wi1 : TI} {g g1 : TG} {tt tt1 : TT} {te : TE} (hc : X.calm = true) (hN : X.N.Nodup) (hy : X.N[i]? = some y) (hyl : X.env.scope.names.lookup y = some .local)
    (hsw : swapsWith (.ListComp elt [⟨tg, iter, ifs, 0⟩, ⟨tg1, iter1, ifs1, 0⟩] scope pos) (some (.Name y py)) spos.line X.env = pure true) (hi : PI X tg iter wi) (ok : BlkOk X.N X.env.scope scope own) (hv : ∀ i ∈ vs1, i ∈ own.map (·.2))
    (hg : ∀ (s : Shared) (H : Hp) (C : Addr) (cl : List (Str × Addr)) (fp : List Addr), PG (X.blk s H scope (compEnvC scope cl C X.env) fp) tg g) (ht : ∀ (s : Shared) (H : Hp) (C : Addr) (cl : List (Str × Addr)) (fp : List Addr), PTs (X.blk s H scope (compEnvC scope cl C X.env) fp) ifs tt)
    (hi1 : ∀ (s : Shared) (H : Hp) (C : Addr) (cl : List (Str × Addr)) (fp : List Addr), PI (X.blk s H scope (compEnvC scope cl C X.env) fp) tg1 iter1 wi1)
    (hg1 : ∀ (s : Shared) (H : Hp) (C : Addr) (cl : List (Str × Addr)) (fp : List Addr), PG (X.blk s H scope (compEnvC scope cl C X.env) fp) tg1 g1) (ht1 : ∀ (s : Shared) (H : Hp) (C : Addr) (cl : List (Str × Addr)) (fp : List Addr), PTs (X.blk s H scope (compEnvC scope cl C X.env) fp) ifs1 tt1)
    (he : ∀ (s : Shared) (H : Hp) (C : Addr) (cl : List (Str × Addr)) (fp : List Addr), PE (X.blk s H scope (compEnvC scope cl C X.env) fp) elt te) (hs : ∀ x, foldedSetIterable iter X.env x = pure x := by intro _; rfl) (hs1 : ∀ env x, foldedSetIterable iter1 env x = pure x := by intro _ _; rfl) :
    PS X (.Assign [.Name y py] (.ListComp elt [⟨tg, iter, ifs, 0⟩, ⟨tg1, iter1, ifs1, 0⟩] scope pos) spos) (tAsg (tLc2 wi g tt wi1 g1 tt1 te (own.map (·.2)) vs1) (gName i)) := by
  intro pins s σ H D I h
  rw [exec_Assign_Name_used _ _ _ _ hsw]
  refine wpAny_bind (wpAny_standAt (wpAny_bind ?_))
  show wpAny _ X.A (do let _ ← comprehension (.ListComp elt [⟨tg, iter, ifs, 0⟩, ⟨tg1, iter1, ifs1, 0⟩] scope pos) scope X.env (firstIterPos [⟨tg, iter, ifs, 0⟩, ⟨tg1, iter1, ifs1, 0⟩] pos) (newList []) false (eval iter X.env) (some (assign (.Name y py) X.env))) _ _ s
  have h : tLc2 wi g tt wi1 g1 tt1 te (own.map (·.2)) vs1 σ H (fun x H1 => gName i x σ H1 D.nx) := h
  refine wpAny_bind (thn (lc2_core (Qf := fun _ s' => SP X pins D .next s') hc hN I hi ok hv hg ht he hs hi1 hg1 ht1 hs1 h fun L C s' m H' I' q hn f => ?_) fun _ s' hq => wpAny_pure (wpAny_pure hq))
  show wpAny _ _ (assign (.Name y py) X.env (.ref L)) _ _ _
  refine wpAny_assign_Name (store_ok2 (v := V.ref L) I' hN hy (.inl hyl) rfl (fun s2 I2 ⟨a, sb, ha⟩ => ?_) (.inr hyl))
  obtain ⟨f0, f1, f2, f3, f4, f5⟩ := f
  have haC : C ≠ a := by
    rcases ha with z | z
    · rw [z]; exact f1
    · exact fun e => f4 y a z e.symm
  refine ⟨m, hn.sameBut sb haC, fun h3 sb3 => ?_⟩
  exact ⟨_, H', I2.turned (t' := s2.toks) (fun b o hb e => (sb3.2 b hb).trans e) f0 f1 f3 f4 f5, q⟩
end
end L2

namespace L2
open PySem PySem.Spec PyProof.Rows

/-! ### lists of pairs as tables -/
section
variable {κ : Type} [DecidableEq κ]
def valV (kvs : List (κ × V)) (k : κ) : Option V := (kvs.find? fun kv => decide (kv.1 = k)).map (·.2)
/-- in its place, or at the end -/
def putK (kvs : List (κ × V)) (k : κ) (v : V) : List (κ × V) :=
  if (kvs.any fun kv => decide (kv.1 = k)) = true then kvs.map (fun kv => if kv.1 = k then (kv.1, v) else kv) else kvs ++ [(k, v)]
def dropK (kvs : List (κ × V)) (k : κ) : List (κ × V) := kvs.filter fun kv => decide (kv.1 ≠ k)

theorem valV_pos {p : κ × V} {r : List (κ × V)} {k : κ} (e : p.1 = k) : valV (p :: r) k = some p.2 := by simp [valV, List.find?_cons, e]
theorem valV_neg {p : κ × V} {r : List (κ × V)} {k : κ} (e : ¬ p.1 = k) : valV (p :: r) k = valV r k := by simp [valV, List.find?_cons, e]
theorem valV_any (k : κ) : ∀ kvs : List (κ × V), (kvs.any fun kv => decide (kv.1 = k)) = (valV kvs k).isSome
  | [] => rfl
  | p :: r => by
    rw [List.any_cons]
    by_cases e : p.1 = k
    · simp only [valV_pos e, decide_eq_true e, Bool.true_or, Option.isSome_some]
    · rw [valV_neg e, decide_eq_false e, Bool.false_or]; exact valV_any k r
theorem RelO.isSome_eq {o : Option V} {u : Option Value} (r : RelO o u) : o.isSome = u.isSome := by
  cases o with
  | none => cases u with
    | none => rfl
    | some _ => exact (show False from r).elim
  | some _ => cases u with
    | none => exact (show False from r).elim
    | some _ => rfl
theorem RelO.getD {o : Option V} {u : Option Value} {d : V} {d' : Value} (r : RelO o u) (rd : RelV d d') : RelV (o.getD d) (u.getD d') := by
  cases o with
  | none => cases u with
    | none => exact rd
    | some _ => exact (show False from r).elim
  | some _ => cases u with
    | none => exact (show False from r).elim
    | some _ => exact r

/-- raw tables of the same keys -/
theorem KV.val {kvs : List (κ × V)} {vs : List (κ × Value)} (r : KV kvs vs) (k : κ) : RelO (valV kvs k) (valueAt vs k) := by
  unfold KV at r
  induction r with
  | nil => exact True.intro
  | @cons p q ps qs h t ih =>
    obtain ⟨h1, h2⟩ := h
    by_cases e : p.1 = k
    · have e' : q.1 = k := h1.symm.trans e
      have b : valueAt (q :: qs) k = some q.2 := by simp [valueAt, List.find?_cons, e']
      rw [valV_pos e, b]; exact h2
    · have e' : ¬ q.1 = k := fun z => e (h1.trans z)
      have b : valueAt (q :: qs) k = valueAt qs k := by simp [valueAt, List.find?_cons, e']
      rw [valV_neg e, b]; exact ih
theorem KV.any {kvs : List (κ × V)} {vs : List (κ × Value)} (r : KV kvs vs) (k : κ) : (kvs.any fun kv => decide (kv.1 = k)) = vs.any fun kv => decide (kv.1 = k) := by
  unfold KV at r
  induction r with
  | nil => rfl
  | cons h t ih => rw [List.any_cons, List.any_cons, ih, h.1]
theorem KV.repl {kvs : List (κ × V)} {vs : List (κ × Value)} (r : KV kvs vs) (k : κ) {y : V} {u : Value} (ry : RelV y u) :
    KV (kvs.map fun kv => if kv.1 = k then (kv.1, y) else kv) (vs.map fun kv => if kv.1 = k then (kv.1, u) else kv) := by
  unfold KV at r ⊢
  induction r with
  | nil => exact .nil
  | @cons p q ps qs h t ih =>
    rw [List.map_cons, List.map_cons]
    refine .cons ?_ ih
    obtain ⟨h1, h2⟩ := h
    by_cases e : p.1 = k
    · rw [if_pos e, if_pos (h1.symm.trans e)]; exact ⟨h1, ry⟩
    · rw [if_neg e, if_neg (fun z => e (h1.trans z))]; exact ⟨h1, h2⟩
theorem KV.put {kvs : List (κ × V)} {vs : List (κ × Value)} (r : KV kvs vs) (k : κ) {y : V} {u : Value} (ry : RelV y u) : KV (putK kvs k y) (stored vs k u) := by
  unfold putK stored
  rw [r.any k]
  by_cases e : (vs.any fun kv => decide (kv.1 = k)) = true
  · rw [if_pos e, if_pos e]; exact r.repl k ry
  · rw [if_neg e, if_neg e]; exact Paired.snoc r ⟨rfl, ry⟩
theorem KV.drop {kvs : List (κ × V)} {vs : List (κ × Value)} (r : KV kvs vs) (k : κ) : KV (dropK kvs k) (without vs k) := by
  unfold KV at r ⊢
  unfold dropK without
  induction r with
  | nil => exact .nil
  | @cons p q ps qs h t ih =>
    obtain ⟨h1, h2⟩ := h
    rw [List.filter_cons, List.filter_cons]
    by_cases e : p.1 = k
    · have a : ¬ decide (p.1 ≠ k) = true := by simp [e]
      have b : ¬ decide (q.1 ≠ k) = true := by simp [h1.symm.trans e]
      rw [if_neg a, if_neg b]; exact ih
    · have e' : ¬ q.1 = k := fun z => e (h1.trans z)
      have a : decide (p.1 ≠ k) = true := by simp [e]
      have b : decide (q.1 ≠ k) = true := by simp [e']
      rw [if_pos a, if_pos b]; exact .cons ⟨h1, h2⟩ ih
theorem KV.keys {kvs : List (κ × V)} {vs : List (κ × Value)} (r : KV kvs vs) : kvs.map (·.1) = vs.map (·.1) := by
  unfold KV at r
  induction r with
  | nil => rfl
  | cons h t ih => rw [List.map_cons, List.map_cons, ih, h.1]
theorem KV.length {kvs : List (κ × V)} {vs : List (κ × Value)} (r : KV kvs vs) : kvs.length = vs.length := Paired.length r
end


/-! ### a tracked dict, its keys ints and texts or tuples of these -/
/-- raw entries of a dict with tuple keys -/
abbrev KT (H : Hp) : List (List Key × V) → List (List Key × Addr × Value) → Prop := Paired fun p q => p.1 = q.1 ∧ H q.2.1 = some (.tup (p.1.map kV)) ∧ RelV p.2 q.2.2
theorem KT.val {H : Hp} {kvs : List (List Key × V)} {xs : List (List Key × Addr × Value)} (r : KT H kvs xs) (k : List Key) : RelO (valV kvs k) ((atKey xs k).map (·.2)) := by
  induction r with
  | nil => exact True.intro
  | @cons p q ps qs h t ih =>
    obtain ⟨h1, _, h2⟩ := h
    by_cases e : p.1 = k
    · have e' : q.1 = k := h1.symm.trans e
      have b : atKey (q :: qs) k = some q.2 := by simp [atKey, List.find?_cons, e']
      rw [valV_pos e, b]; exact h2
    · have e' : ¬ q.1 = k := fun z => e (h1.trans z)
      have b : atKey (q :: qs) k = atKey qs k := by simp [atKey, List.find?_cons, e']
      rw [valV_neg e, b]; exact ih
theorem KT.repl {H : Hp} {kvs : List (List Key × V)} {xs : List (List Key × Addr × Value)} (r : KT H kvs xs) (k : List Key) {y : V} {u : Value} (ry : RelV y u) :
    KT H (kvs.map fun kv => if kv.1 = k then (kv.1, y) else kv) (xs.map (putAt k u)) := by
  induction r with
  | nil => exact .nil
  | @cons p q ps qs h t ih =>
    rw [List.map_cons, List.map_cons]
    refine .cons ?_ ih
    obtain ⟨h1, h2, h3⟩ := h
    unfold putAt
    by_cases e : p.1 = k
    · rw [if_pos e, if_pos (h1.symm.trans e)]; exact ⟨h1, h2, ry⟩
    · rw [if_neg e, if_neg (fun z => e (h1.trans z))]; exact ⟨h1, h2, h3⟩
theorem KT.put {H : Hp} {kvs : List (List Key × V)} {xs : List (List Key × Addr × Value)} (r : KT H kvs xs) (k : List Key) {b : Addr} {y : V} {u : Value} (hb : H b = some (.tup (k.map kV))) (ry : RelV y u) :
    KT H (putK kvs k y) (storedH xs k b u) := by
  have e : (kvs.any fun kv => decide (kv.1 = k)) = (atKey xs k).isSome := by
    rw [valV_any, (r.val k).isSome_eq, Option.isSome_map]
  unfold putK storedH
  rw [e]
  by_cases q : (atKey xs k).isSome = true
  · rw [if_pos q, if_pos q]; exact r.repl k ry
  · rw [if_neg q, if_neg q]; exact Paired.snoc r ⟨rfl, hb, ry⟩
theorem KT.keeps {H H' : Hp} {kvs : List (List Key × V)} {xs : List (List Key × Addr × Value)} (r : KT H kvs xs) (ht : ∀ b ys, H b = some (.tup ys) → H' b = some (.tup ys)) : KT H' kvs xs :=
  Paired.mapP r fun _ _ z => ⟨z.1, ht _ _ z.2.1, z.2.2⟩

section
variable {P : Program} {w : World} {H : Hp} {h : Heap} {a : Addr}
end

/-- what the dict at a holds at the key y -/
def DGet (H : Hp) (a : Addr) (y : V) (r : Option V) : Prop :=
  (∃ kvs k, Rd H a (.dK kvs) ∧ y = kV k ∧ r = valV kvs k) ∨ ∃ kvs k b, Rd H a (.dT kvs) ∧ y = .ref b ∧ H b = some (.tup (k.map kV)) ∧ r = valV kvs k
/-- the heap behind a[y] = v -/
def DPut (H : Hp) (a : Addr) (y v : V) (H' : Hp) : Prop :=
  (∃ kvs k, H a = some (.dK kvs) ∧ y = kV k ∧ kvs.length < sizeLine ∧ H' = upd H a (.dK (putK kvs k v))) ∨
  ∃ kvs k b, H a = some (.dT kvs) ∧ y = .ref b ∧ H b = some (.tup (k.map kV)) ∧ kvs.length < sizeLine ∧ H' = upd H a (.dT (putK kvs k v))
theorem DGet.k {H : Hp} {a : Addr} {kvs : List (Key × V)} {k : Key} (e : H a = some (.dK kvs)) : DGet H a (kV k) (valV kvs k) := .inl ⟨kvs, k, .inl e, rfl, rfl⟩
theorem DGet.t {H : Hp} {a b : Addr} {kvs : List (List Key × V)} {k : List Key} (e : H a = some (.dT kvs)) (eb : H b = some (.tup (k.map kV))) : DGet H a (.ref b) (valV kvs k) := .inr ⟨kvs, k, b, .inl e, rfl, eb, rfl⟩
theorem DPut.k {H : Hp} {a : Addr} {kvs : List (Key × V)} {k : Key} {v : V} (e : H a = some (.dK kvs)) (hl : kvs.length < sizeLine) : DPut H a (kV k) v (upd H a (.dK (putK kvs k v))) := .inl ⟨kvs, k, e, rfl, hl, rfl⟩
theorem DPut.t {H : Hp} {a b : Addr} {kvs : List (List Key × V)} {k : List Key} {v : V} (e : H a = some (.dT kvs)) (eb : H b = some (.tup (k.map kV))) (hl : kvs.length < sizeLine) :
    DPut H a (.ref b) v (upd H a (.dT (putK kvs k v))) := .inr ⟨kvs, k, b, e, rfl, eb, hl, rfl⟩


section
variable {X : Cx} {pins : List (Addr × Obj)} {σ : St} {H : Hp} {s : Shared} {a : Addr} {y v : V} {u r : Value} {o : Option V} {A : Around} {E : Value → Shared → Prop}

end

section
variable {X : Cx} {pins : List (Addr × Obj)} {σ : St} {H : Hp} {s : Shared} {a : Addr} {kvs : List (Key × V)} {k : Key} {u : Value} {A : Around} {E : Value → Shared → Prop}
end


/-! ### readings and rules -/
section
variable {X : Cx} {o i e value : Expr} {pos pos' tpos : Pos} {td ty tv : TE}
end


/-! ### displays -/
section
variable {X : Cx} {pos : Pos}
end

/-! ### methods -/
section
variable {X : Cx} {pins : List (Addr × Obj)} {σ : St} {H : Hp} {s : Shared} {a : Addr} {y d : V} {u r : Value} {o : Option V} {A : Around} {E : Value → Shared → Prop}
end

section
variable {X : Cx} {o e f : Expr} {apos cpos : Pos} {td ty tx : TE}
end

/-! ### dict(d): a copy -/
section
variable {X : Cx} {pins : List (Addr × Obj)} {σ : St} {H : Hp} {s : Shared} {a : Addr} {kvs : List (Key × V)} {A : Around} {E : Value → Shared → Prop}
end


section
variable {X : Cx} {pins : List (Addr × Obj)} {σ : St} {H : Hp} {s : Shared} {a : Addr} {y : V} {u : Value} {A : Around} {E : Value → Shared → Prop}
end
end L2

namespace L2
open PySem PySem.Spec PyProof.Rows

section
variable {prog : Program} {w : World} {A : Around} {E : Value → Shared → Prop}
end

section
variable {X : Cx}
end
end L2

namespace L2
open PySem PySem.Spec PyProof.Rows

section
variable {X : Cx} {pins : List (Addr × Obj)} {σ : St} {H : Hp} {s : Shared} {h' : Heap}
/-- .. and one new object is laid -/
theorem Inv.turnedNew {t' : Nat} {ch : List Addr} {T : Addr} {ob : HO} (I : Inv X pins σ H s) (k : ∀ b o, b ∉ ch → s.heap.get? b = some o → h'.get? b = some o) (hf : ∀ b ∈ ch, FpOk X pins H b) (hT : s.heap.objs.size ≤ T)
    (new : ObjOk X.prog X.w (upd H T ob) h' T ob) : Inv X pins σ (upd H T ob) { s with heap := h', toks := t' } := by
  have hn : H T = none := I.hok.fresh hT
  have nit : ∀ b u, H b = some u → b ∉ ch := fun b u e z => by
    have q := (hf b z).1
    rw [q] at e; cases e
  refine I.step (g' := s.gens) (d' := s.drawn) (ch := ch) (fun b hb => ⟨(hf b hb).2.2.2.1, (hf b hb).2.1, (hf b hb).2.2.2.2.1, (hf b hb).2.2.2.2.2⟩) (fun b o _ _ hc e _ => k b o hc e) (fun b o _ _ hc e _ => ⟨o.slots, k b o hc e⟩)
    (fun b o _ e n => ?_) (fun b o hc e => ⟨o, k b o hc e⟩) (fun b xs e => ?_) (fun b o u e => ?_) (fun b ps e => ⟨#[], ?_⟩) (fun m hm => ?_) (fun b u e => ?_) I.bare
  · rw [upd_ne (Nat.ne_of_lt (Nat.lt_of_lt_of_le (Heap.lt_size e) hT))]; exact n
  · rw [upd_ne (ne_of_none e hn)]; exact e
  · rw [upd_ne (ne_of_none e hn)]; exact e
  · rw [upd_ne (ne_of_none e hn), e]; simp
  · obtain ⟨o, es, ep, ho, r⟩ := hm
    exact ⟨o, es, ep, k _ o (fun z => (hf _ z).2.1 rfl) ho, r⟩
  · by_cases hb : b = T
    · subst hb
      rw [upd_same] at e
      cases e
      exact new
    · rw [upd_ne hb] at e
      refine (I.hok b u e).stay (fun c v hc q => k c v ?_ q) (fun c q => by rw [upd_ne (ne_of_none q hn)]; exact q) fun c xs q => by rw [upd_ne (ne_of_none q hn)]; exact q
      rcases hc with z | z
      · rw [z]; exact nit b u e
      · exact nit c _ z

/-! ### locking a thing while a statement runs -/
end
section
variable {X : Cx}
/-! ### one iterator just laid -/
end

/-! ### range with a step -/
/-- range(i, j, c): small bounds, n items -/
def RgC (i j c : Int) (n : Nat) : Prop := c ≠ 0 ∧ c.natAbs < 1073741824 ∧ Builtin.Range.small i j c = true ∧ Builtin.Range.rangeSize i j c = n
theorem RgC.neg {i j : Int} (ha : -(2 ^ 62) ≤ i) (ha' : i < 2 ^ 62) (hb : -(2 ^ 62) ≤ j) (hb' : j < 2 ^ 62) : RgC i j (-1) (i - j).toNat :=
  ⟨by decide, by decide, PySem.W.small_down ha ha' hb hb', PySem.W.rangeSize_downNat i j⟩
section
variable {X : Cx} {tg : Expr}
end
/-! ### reversed(list) -/
section
variable {X : Cx} {tg : Expr}
end

/-! ### a str -/
/-! ### a dict's keys: any dict's entries -/
section
variable {prog : Program} {w : World} {A : Around} {E : Value → Shared → Prop} {s : Shared}
end

/-! ### a locked dict -/
section
variable {X : Cx} {pins : List (Addr × Obj)} {σ : St} {H : Hp} {s : Shared} {d : Addr} {o : Obj}
end

section
variable {P : Program} {w : World} {K : PySem.W.Frag} {tg : Expr} {d : Addr} {o : Obj} {es : Array DictEntry} {ep : Nat}
end

/-! ### for k in d, d.keys(), d.values(), d.items() -/
section
variable {X : Cx} {tg e : Expr} {td : TE} {apos cpos : Pos}
end

/-! ### enumerate(list) -/
/-! ### zip(list, list) -/
end L2

section 
namespace Bits
open PySem PyProof.Rows

end Bits
end 

section 
namespace TL
open PySem PySem.Builtin PySem.Builtin.Str PySem.StrLaws

abbrev tl (x : Str) : List Nat := x.cps.toList
theorem tl_append (x y : Str) : tl (x ++ y) = tl x ++ tl y := by
  show (x ++ y).cps.toList = _
  rw [Str.cps_append, Array.toList_append]
/-! ### the list functions -/
/-- S stands at the head of l -/
def pre (S l : List Nat) : Bool := l.take S.length == S
/-- what stands before the first S, and behind it -/
def par (S : List Nat) : List Nat → List Nat → Option (List Nat × List Nat)
  | _, [] => none
  | acc, c :: r => if pre S (c :: r) = true then some (acc, (c :: r).drop S.length) else par S (acc ++ [c]) r

/-! ### the model's split and partition are these -/
/-! ### computing spl and par -/
/-- joined lists -/
def joinL (S : List Nat) : List (List Nat) → List Nat
  | [] => []
  | [p] => p
  | p :: q :: r => p ++ (S ++ joinL S (q :: r))
theorem tl_join (y : Str) : ∀ parts : List Str, tl (Str.join y parts) = joinL (tl y) (parts.map tl)
  | [] => rfl
  | [_] => rfl
  | x :: z :: r => by
    show tl (x ++ y ++ Str.join y (z :: r)) = tl x ++ (tl y ++ joinL (tl y) ((z :: r).map tl))
    rw [tl_append, tl_append, tl_join y (z :: r), List.append_assoc]
theorem join_eq (y : Str) (parts : List Str) : Txt.join y parts = Str.join y parts := glued_eq_join y parts
/-! ### digits -/
/-! ### words: x.split() -/
end TL
end 

namespace L2
open PySem PySem.Spec PyProof.Rows

theorem strs_of_vals : ∀ {ys : List Str} {us : List Value}, Vals (ys.map V.str) us → StrsAre us ys
  | [], _, .nil => .nil
  | y :: ys, _, .cons r t => by
    obtain ⟨k, rfl⟩ := r
    exact .cons y k (strs_of_vals t)

section
variable {X : Cx} {pins : List (Addr × Obj)} {σ : St} {H : Hp} {s : Shared} {Q : VK}
end

section
variable {X : Cx}

/-- sep.join(a list | a tuple of texts) -/
theorem mt_join : MtR X "str.join" (fun x xs H Q => ∃ a p, ∃ ys : List Str, x = .str a ∧ xs = [.ref p] ∧ (SqL X.K H p (ys.map V.str) ∨ SqT X.K H p (ys.map V.str)) ∧
    (ys.map (·.length)).sum + ys.length * a.length ≤ 16777216 ∧ Q (.str (Txt.join a ys)) H) := by
  intro pins s σ H x xs v us Q I rx rs h
  obtain ⟨a, p, ys, rfl, rfl, hp, hz, h⟩ := h
  obtain ⟨t, rfl⟩ := rx
  cases rs with
  | cons r1 rs =>
    cases rs
    cases r1
    rcases hp with hp | hp
    · obtain ⟨its, r, ⟨o, n, ho, hc, _, hd⟩, _⟩ := I.list hp
      exact PyProof.Rows.join_list (items := its.toArray) ⟨o, ho, hc, n, hd⟩ (by rw [List.toList_toArray]; exact strs_of_vals r) hz fun t' k => ⟨.str _, H, I.tok k, ⟨t', rfl⟩, h⟩
    · obtain ⟨its, r, ht, _⟩ := I.tuple hp
      exact PyProof.Rows.join_tuple (items := its.toArray) ht (by rw [List.toList_toArray]; exact strs_of_vals r) hz fun t' k => ⟨.str _, H, I.tok k, ⟨t', rfl⟩, h⟩

/-! ### of a text alone -/
/-! ### of a text and a text -/
end

section
variable {X : Cx} {o e : Expr} {to te : TE}
def tM1 (r : V → List V → Hp → VK → Prop) (to te : TE) : TE := fun σ H Q => to σ H fun x H1 => (∃ a, x = .str a) ∧ te σ H1 fun y H2 => r x [y] H2 Q
theorem pe_m1 {id : String} {name : Str} {apos pos : Pos} {r : V → List V → Hp → VK → Prop} (slot : Slot "str" name id) (ty : typeOf (.builtin id) = pure (.type "method_descriptor")) (rule : MtR X id r) (ho : PE X o to) (he : PE X e te)
    (hs : starEach [e] X.env = [(false, eval e X.env)] := by rfl) (hbase : attributeBase o name X.env (eval o X.env) = eval o X.env := by rfl) (hline : (apos.endLine == pos.line) = true := by rfl) :
    PE X (.Call (.Attribute o name apos) [e] [] pos) (tM1 r to te) := by
  intro pins s σ H Q I h
  refine PySem.Call_method1 hbase hs hline (thn (ho pins s σ H _ I h) fun v s1 ⟨x, H1, I1, r1, q1⟩ => ?_)
  obtain ⟨⟨a, rfl⟩, q1⟩ := q1
  obtain ⟨t, rfl⟩ := _root_.id r1
  refine ⟨"str", _, F.plainAttrs_str, slot, ty, typeIs_str _ _ _, (fun _ e => nomatch e), Calls.callWith_builtin rfl (Calls.evalArgs_plain (Calls.spliced_cons ?_))⟩
  exact thn (he pins s1 σ H1 _ I1 q1) fun u s2 ⟨y, H2, I2, r2, q2⟩ => Calls.spliced_nil (rule pins s2 σ H2 _ [y] _ [u] Q I2 r1 (.cons r2 .nil) q2)

theorem pe_join {apos pos : Pos} (ho : PE X o to) (he : PE X e te) (hs : starEach [e] X.env = [(false, eval e X.env)] := by rfl) (hbase : attributeBase o "join" X.env (eval o X.env) = eval o X.env := by rfl) (hline : (apos.endLine == pos.line) = true := by rfl) :
    PE X (.Call (.Attribute o "join" apos) [e] [] pos) (tM1 (fun x xs H Q => ∃ a p, ∃ ys : List Str, x = .str a ∧ xs = [.ref p] ∧ (SqL X.K H p (ys.map V.str) ∨ SqT X.K H p (ys.map V.str)) ∧
      (ys.map (·.length)).sum + ys.length * a.length ≤ 16777216 ∧ Q (.str (Txt.join a ys)) H) to te) :=
  pe_m1 F.slot_str_join F.type_str_join mt_join ho he hs hbase hline
end
end L2

namespace L2
open PySem PySem.Spec PyProof.Rows

section
variable {X : Cx}
/-- one sign in a text -/
theorem op_in_sign : OpR X (compareOp .In) (fun x y H Q => ∃ (c : Nat) (z : Str), x = .str ⟨#[c]⟩ ∧ y = .str z ∧ Q (.bl (decide (c ∈ z.cps.toList))) H) := by
  intro pins s σ H x y v u Q I rx ry h
  obtain ⟨c, z, rfl, rfl, q⟩ := h
  obtain ⟨t, rfl⟩ := rx
  obtain ⟨t', rfl⟩ := ry
  exact PyProof.Rows.in_str (fin_bl I q (PySem.StrLaws.found_one z c).symm)
end

/-! ### slices of a text -/
end L2

namespace Att
open PySem PySem.W PySem.Calls PyProof.Rows

/-! ### the script -/
theorem ints_of_wellAll {P : Params} {h : Heap} : ∀ (ns : List Int) (vs : List Value), WellAll P h vs (ns.map WData.int) → IntsAre vs ns := by
  intro ns
  induction ns with
  | nil =>
    intro vs w
    rw [List.map_nil] at w
    cases w
    exact .nil
  | cons n ns ih =>
    intro vs w
    rw [List.map_cons] at w
    cases w with
    | cons a b =>
      cases a
      exact .cons _ _ (ih _ b)

theorem script_of {l : OpenLaw} {n : Nat} (hn : l.most = some n) {P : Params} {h : Heap} {args : List WData} {vals : List Value}
    (hpre : l.row.toRowW.claim.pre args = true) (hwl : WellAll P h vals args) :
    ∃ a vs ns, vals = [Value.ref a] ∧ args = [WData.list (ns.map WData.int)] ∧ h.get? a = some { cls := .type "list", data := .seq vs.toArray } ∧ IntsAre vs ns ∧ ns.length ≤ n := by
  have hsh : WShape.hasAll [] args [.list .int] = true := (pre_splitW hpre).1
  have hc : l.pre.holds [] { args := args } = true := (pre_splitW hpre).2
  obtain ⟨d, r, rfl, h1, h2⟩ := hasAllW_cons hsh
  obtain rfl := hasAllW_nil h2
  obtain ⟨xs, rfl, h3⟩ := hasW_list h1
  obtain ⟨ns, rfl⟩ := items_int h3
  have hlen : ns.length ≤ n := by
    unfold OpenLaw.pre at hc
    have h4 : (WTm.not (.lt (.lit (.int (n : Int))) (.len (.arg 0)))).holds [] { args := [.list (ns.map .int)] } = true := by
      have h4 := (holds_andW hc).1
      rw [hn] at h4
      exact h4
    have h5 := condW_of h4 (w_not (w_lt w_lit (w_len_list (w_arg rfl))))
    rw [List.length_map] at h5
    refine Nat.le_of_not_lt fun q => ?_
    have q' : (n : Int) < ((ns.length : Nat) : Int) := by omega
    first
      | (rw [decide_eq_true q'] at h5; exact absurd h5 (by decide))
      | (simp at h5; omega)
  cases hwl with
  | cons w1 w2 =>
    cases w2
    cases w1 with
    | list ho hall => exact ⟨_, _, ns, rfl, rfl, ho, ints_of_wellAll ns _ hall, hlen⟩

theorem post_true (l : OpenLaw) (args : List WData) : l.row.toRowW.claim.post args (.bool true) args = true :=
  postW_of (r := l.row.toRowW) (X := (true == true))
    (show WShape.has [] (.bool true) .bool = true by first | rfl | decide | simp [WShape.has, WShape.arms, WShape.armsAll])
    (show (WTm.eq .res (.lit (.bool true))).value [] { args := args, res := some (.bool true), after := args } = some (.bool (true == true)) from w_eq_bool (w_res rfl) w_lit) rfl

/-! ### the attachment: holds_open's last premise (the goal 'hc' behind k_head) from a wpAny of the law's body -/
/-- the same from a codeAny of the CALL (for a layer whose function contracts speak of calls) -/
theorem attach_call {l : OpenLaw} {n : Nat} {q : Program} {loose : List Str} {XP : (Str → Option Value) → Heap → Prop} {YP : World → Heap → Prop} {d : DefRec}
    (hn : l.most = some n) (hdf : d.params.defaults = [])
    (call : ∀ (w : World) (s₀ s₁ : Shared) (mg mb : Str → Option Value) (fa : Addr) (o : Obj) (pm cd doc : Value) (a : Addr) (vs : List Value) (ns : List Int),
      Ground q loose [] XP w s₀ mg mb s₁.heap → YP w s₁.heap →
      s₁.heap.get? fa = some o → o.data = .func (docDef d.name d.params d.body d.scope pm cd doc) → s₁.heap.CodeRec cd d.name → mg d.name = some (.ref fa) →
      s₁.heap.get? a = some { cls := .type "list", data := .seq vs.toArray } → IntsAre vs ns → ns.length ≤ n → s₁.gens = #[] →
      codeAny (model l.prog w) callerA (.call (.ref fa) ⟨[.ref a], []⟩) (fun r s' => r = .ok (.ret (.bool true)) ∧ OldK s₁.heap s'.heap ∧ s'.os = s₁.os ∧ AllBare s'.gens) s₁) :
    WalkO q loose XP YP l.row.toRowW d [] (fun f vs => PySem.call f vs) := by
  intro w s₀ s₁ mg mb G Y fa o pm cd doc dV kV ho hd hcd hD hmg hg args vals as hpre hlay hrd hwl hlo
  obtain rfl : dV = .none := Dflts.none hD hdf
  obtain rfl : kV = .none := Dflts.noKw hD
  obtain ⟨a, vs, ns, rfl, rfl, hobj, hints, hlen⟩ := script_of hn hpre hwl
  refine enter_call (codeAny_mono (call w s₀ s₁ mg mb fa o pm cd doc a vs ns G Y ho (fd_plain hd) hcd hmg hobj hints hlen hg) fun r s' hq => ?_)
  obtain ⟨rfl, h2, h3, h4⟩ := hq
  exact ⟨.inl ⟨.bool true, .bool true, [], rfl, fun _ => rfl, .bool true, post_true l _, fun _ => ⟨List.Pairwise.nil, fun _ hm => (nomatch hm)⟩⟩, h2, h3, h4⟩

/-! ### rules over ANY heap (no ledger) from facts about the written part K: the library's own take a ledger (News) for what they write -/
section
variable {prog : Program} {w : World} {A : Around} {E : Value → Shared → Prop} {s : Shared} {K : Frag}

/-! the whole heap as the ledger: makes every rule that writes through a ledger a rule over any heap -/
end
end Att

namespace L2
open PySem PySem.Spec PyProof.Rows

theorem vals_ints : ∀ {vs : List Value} {ns : List Int}, IntsAre vs ns → Vals (ns.map V.int) vs
  | _, _, .nil => .nil
  | _, _, .cons n t h => .cons ⟨t, rfl⟩ (vals_ints h)

/-- nothing is tracked but the script, known to the object (or it is an object of the module) -/
def Only (H : Hp) : Prop := ∀ b, H b = none ∨ ∃ o xs, H b = some (.frz o (.lst xs))

/-- THE HEAD: the law's promise, at the heap behind the top. F, the promise of the law's def, may use that base is part of the heap (so K.In base, base.Ns mainGlobals mg stand in Mod) -/
theorem law_call {P : Program} {w : World} {K : PySem.W.Frag} {mg mb : Str → Option Value} {CX : CXT} {k : Nat} {fa a : Addr} {fd : FuncData} {x : Str} {sp : Sp} {s₁ : Shared} {vs : List Value} {ns : List Int}
    (KX : K.In s₁.heap) (hns : s₁.heap.Ns mainGlobals mg) (hb : s₁.heap.Ns builtinsNs mb) (hbb : ∀ x : Str, x ≠ "__name__" → mb x = bootBuiltins x) (hlim : s₁.heap.NoLimit) (hg : s₁.gens = #[])
    (ha : s₁.heap.get? a = some { cls := .type "list", data := .seq vs.toArray }) (hi : IntsAre vs ns) (hl : ns.length ≤ sizeLine) (hr : Room k callerA)
    (F : ∀ base : Heap, K.In base → base.Ns mainGlobals mg → FnOk P w K mg base CX k fa fd [x] sp) (hbind : ∀ (s : Shared) (u : Value), BindsTo s fd ⟨[u], []⟩ [(x, u)])
    (hsp : ∀ H : Hp, Only H → SqL K H a (ns.map V.int) → sp [.ref a] H (fun v _ => v = .bl true) fun _ _ _ => False)
    (hCX : ∀ H e s', CX [] H s₁ (fun _ _ _ => False) e s' → False) :
    codeAny (model P w) callerA (.call (.ref fa) ⟨[.ref a], []⟩) (fun r s' => r = .ok (.ret (.bool true)) ∧ OldK s₁.heap s'.heap ∧ s'.os = s₁.os ∧ AllBare s'.gens) s₁ := by
  have rv := vals_ints hi
  have lenV := hi.length
  -- from an abstract heap in which nothing but the script may be tracked
  have core : ∀ H : Hp, Only H → SqL K H a (ns.map V.int) → HOk P w H s₁.heap → (∀ b, H b ≠ none → b = a) → (H a ≠ none → K.lookup a = none) →
      codeAny (model P w) callerA (.call (.ref fa) ⟨[.ref a], []⟩) (fun r s' => r = .ok (.ret (.bool true)) ∧ OldK s₁.heap s'.heap ∧ s'.os = s₁.os ∧ AllBare s'.gens) s₁ := by
    intro H hO hS hok hA hK
    have base_of : ∀ {b : Addr} {o : Obj}, s₁.heap.get? b = some o → H b = none → (hidT s₁.heap H).get? b = some o := fun e n => hidT_get e n
    have noA : ∀ {b : Addr} {o : Obj} {es : Array DictEntry} {ep : Nat}, s₁.heap.get? b = some o → o.data = .dict es ep → H b = none := fun {b o es ep} e d => by
      cases q : H b with
      | none => rfl
      | some u =>
        have e' : b = a := hA b (by rw [q]; simp)
        subst e'
        rw [ha] at e; cases e
        have d' : Data.seq vs.toArray _ = Data.dict es ep := d
        cases d'
    have nsK : ∀ {b : Addr} {m : Str → Option Value}, s₁.heap.Ns b m → (hidT s₁.heap H).Ns b m := fun {b m} ⟨o, es, ep, e, d, r⟩ => ⟨o, es, ep, base_of e (noA e d), d, r⟩
    have hKb : K.In (hidT s₁.heap H) := fun b o e => base_of (KX b o e) (by
      cases q : H b with
      | none => rfl
      | some u =>
        have e' : b = a := hA b (by rw [q]; simp)
        subst e'
        rw [hK (by rw [q]; simp)] at e; cases e)
    have hM : Mod K mg (hidT s₁.heap H) := ⟨hKb, nsK hns, ⟨mb, nsK hb, hbb⟩, let ⟨mc, h1, h2⟩ := hlim; ⟨mc, nsK h1, h2⟩⟩
    have e0 : Env0 P w K mg (hidT s₁.heap H) callerA [] s₁ H := ⟨rfl, hM, fun b o e => of_hidT e, Nat.le_of_eq (hidT_size _ _), trivial, fun b hb => absurd (show b ∈ ([] : List Addr) from hb) (by simp), hok, .of_eq hg⟩
    refine codeAny_mono ((F _ hKb (nsK hns)).run callerA [] s₁ H ⟨[.ref a], []⟩ [.ref a] [.ref a] _ _ hr e0 (hbind s₁ (.ref a)) (.cons rfl .nil) (hsp H hO hS)) fun r s' h => ?_
    cases r with
    | error e => exact (hCX H e s' h).elim
    | ok fl =>
      cases fl with
      | next => exact False.elim h
      | brk => exact False.elim h
      | cont => exact False.elim h
      | ret u =>
        obtain ⟨v, H', os, bare, un, hok', r', q⟩ := h
        have q' : v = .bl true := q
        subst q'
        obtain rfl : u = Value.bool true := r'
        refine ⟨rfl, OldK.of_keep fun b o e => ?_, os, bare⟩
        cases q : H b with
        | none => exact un.keep b o e q (by intro z; exact absurd (show b ∈ ([] : List Addr) from z) (by simp)) (by simp)
        | some u =>
          rcases hO b with z | ⟨ob, xs, z⟩
          · rw [q] at z; cases z
          · have z2 := un.frzs b ob _ z
            obtain ⟨e1, _⟩ := hok b _ z
            obtain ⟨e2, _⟩ := hok' b _ z2
            rw [e] at e1; cases e1
            exact e2
  cases hk : K.lookup a with
  | some o =>
    -- the script is one of the module's own objects
    have e := KX a o hk
    rw [ha] at e
    cases e
    refine core (fun _ => none) (fun _ => .inl rfl) (.inr ⟨_, vs.toArray, _, hk, rfl, rfl, rfl, by rw [List.size_toArray, lenV]; exact hl, by simpa using rv⟩) (fun b u z => by have z' : (none : Option HO) = some u := z; cases z') (fun b z => absurd rfl z) fun z => absurd rfl z
  | none =>
    refine core (fun b => if b = a then some (.frz { cls := .type "list", data := .seq vs.toArray } (.lst (ns.map V.int))) else none) (fun b => ?_) (.inl (.inr ⟨{ cls := .type "list", data := .seq vs.toArray }, if_pos rfl⟩)) (fun b u z => ?_) (fun b z => ?_) fun _ => hk
    · by_cases hb : b = a
      · exact .inr ⟨_, _, if_pos hb⟩
      · exact .inl (if_neg hb)
    · by_cases hb : b = a
      · have z' := (if_pos hb).symm.trans z
        cases z'
        subst hb
        exact ⟨ha, by rw [List.length_map]; exact hl, vs, _, rv, ha⟩
      · have z' := (if_neg hb).symm.trans z
        cases z'
    · by_cases hb : b = a
      · exact hb
      · exact absurd (if_neg hb) z
end L2

namespace L2
open PySem PySem.Spec PyProof.Rows

/-- the goal that k_head leaves (case hc), from the law's promise. F gives the function object fd (K's own) once, then the promise over every base -/
theorem walk_of {l : PySem.W.OpenLaw} {n k : Nat} {q : Program} {loose : List Str} {XP : (Str → Option Value) → Heap → Prop} {YP : World → Heap → Prop} {d : DefRec} {K : Params → PySem.W.Frag} {CX : World → CXT} {sp : World → Sp} {x : Str}
    (hn : l.most = some n) (hn2 : n ≤ sizeLine) (hdf : d.params.defaults = []) (hr : Room k callerA)
    (hY : ∀ (w : World) (h : Heap), YP w h → (K w.params).In h)
    (F : ∀ (w : World) (mg : Str → Option Value) (fa : Addr) (h : Heap), (K w.params).In h → h.Ns mainGlobals mg → mg d.name = some (.ref fa) →
      ∃ fd : FuncData, (∀ (s : Shared) (u : Value), BindsTo s fd ⟨[u], []⟩ [(x, u)]) ∧
        ∀ base : Heap, (K w.params).In base → base.Ns mainGlobals mg → FnOk l.prog w (K w.params) mg base (CX w) k fa fd [x] (sp w))
    (hsp : ∀ (w : World) (H : Hp) (a : Addr) (ns : List Int), ns.length ≤ n → Only H → SqL (K w.params) H a (ns.map V.int) → sp w [.ref a] H (fun v _ => v = .bl true) fun _ _ _ => False)
    (hCX : ∀ (w : World) (H : Hp) (s : Shared) (e : Value) (s' : Shared), CX w [] H s (fun _ _ _ => False) e s' → False) :
    PySem.W.WalkO q loose XP YP l.row.toRowW d [] (fun f vs => PySem.call f vs) := by
  refine Att.attach_call hn hdf fun w s₀ s₁ mg mb fa o pm cd doc a vs ns G Y ho hd hcd hmg hobj hints hlen hg => ?_
  have KX := hY w _ Y
  obtain ⟨fd, hb, hF⟩ := F w mg fa _ KX G.T.g hmg
  exact law_call KX G.T.g G.T.b G.T.builtins G.T.nolimit hg hobj hints (Nat.le_trans hlen hn2) hr hF hb (fun H hO hS => hsp w H a ns hlen hO hS) fun H e s' => hCX w H s₁ e s'
end L2

/- THE LAST THEOREM (shape; LID, My.* are yours):
   My.Adr: a structure of the addresses that your layer names (classes, functions); My.Txt K t: a structure (Prop) of the equations over K;
   My.txt_mk : {K} {implicit addresses ..} (e1 : nsIn K mainGlobals "law" = some (some (.ref f))) (e2 : K.lookup f = some ⟨oc, od, .func (fnOf "law" "law" params body scope dV kV doc pm an cdv ct), sl⟩) (e3 : codeIn K cdv "law" = true) .. : ∃ t, My.Txt K t

set_option maxRecDepth 100000 in
set_option maxHeartbeats 0 in
theorem PySem.Challenge.cw_LID_holds : PySem.Challenge.rw_LID.Holds := by
  w_on; o_law; k_head; (case hw => w_witness2)
  k_fill
  refine L2.walk_of (l := PySem.Challenge.rw_LID) (n := 63) (k := 40) (x := "script") (CX := fun w => ..) (sp := fun _ => My.sp_law) rfl (by decide) rfl ⟨rfl, by decide, by decide⟩ (fun w h Y => PySem.W.kIn_of Y) ?F ?S ?C
  case F =>
    intro w mg fa h KX G hmg
    have T : ∃ t, My.Txt (L2.KOf KX) t := by
      dsimp only [L2.KOf]                          -- K must stand as «<heap const> w.params» for k_is
      refine' My.txt_mk ?e1 ?e2 ?e3 ..
      (case e1 => PySem.W.k_is)                    -- in the order: a name -> its address -> its object -> its parts
      (case e2 => PySem.W.k_is)
      ..
    obtain ⟨t, T⟩ := T
    have e0 := hmg.symm.trans (PySem.W.mg_of KX G T.law)
    cases e0                                       -- fa is the law's own address
    exact ⟨_, fun s u => .of_eq rfl, fun base kb nb => My.law_fn T kb nb⟩     -- if «.of_eq rfl» comes too early: refine' ⟨_, ?b, fun base kb nb => My.law_fn T kb nb⟩; exact fun s u => .of_eq rfl
  case S => exact fun w H a ns hl hO hS => ..
  case C => exact ..
(the tactic k_is has no namespace: write k_is) -/

/-! SHORT WORDS over the layer: a def of the text, its body, what a loop and a test want. -/
namespace L2
open PySem PySem.Spec PyProof.Rows

/-! ### the text by places -/
def defArgs (s : Stmt) : Arguments := match s with
  | .FunctionDef _ a _ _ _ _ _ _ _ _ => a
  | _ => { posonlyargs := [], args := [], vararg := none, kwonlyargs := [], kw_defaults := [], kwarg := none, defaults := [] }
def defBody (s : Stmt) : List Stmt := match s with
  | .FunctionDef _ _ b _ _ _ _ _ _ _ => b
  | _ => []
def defScope (s : Stmt) : Scope := match s with
  | .FunctionDef _ _ _ _ _ _ sc _ _ _ => sc
  | _ => { kind := .function, names := [], isGenerator := false, isCoroutine := false }

/-! ### no exception leaves a def -/
abbrev CX0 : CXT := fun _ _ _ _ _ _ => False
abbrev E0 : XK := fun _ _ _ => False
theorem pass0 {X : Cx} : Passes CX0 X E0 := fun _ _ _ _ _ _ _ h => h.elim

/-! ### a def (or method) of the text as it stands behind the top -/
structure Fun (K : PySem.W.Frag) (x qual : Str) (st : Stmt) (f : Addr) (fd : FuncData) : Prop where
  ex : ∃ (oc : Value) (od : Option Addr) (kV doc pm : Value) (an : Option Addr) (cdv ct : Value) (osl : Array (Option Value)),
    fd = PySem.W.fnOf x qual (defArgs st) (defBody st) (defScope st) .none kV doc pm an cdv ct ∧ K.lookup f = some ⟨oc, od, .func fd, osl⟩ ∧ PySem.W.codeIn K cdv qual = true
  kp : PySem.W.keepIn K (.ref f) = true
section
variable {P : Program} {w : World} {K : PySem.W.Frag} {mg : Str → Option Value} {base : Heap}
/-- THE RULE for a def: its body as a term of rules, and the reading of that term -/
theorem Fun.ok {x qual : Str} {st : Stmt} {f : Addr} {fd : FuncData} {N ps : List Str} {k : Nat} {sp : Sp} (F : Fun K x qual st f fd) (S : FnScope N ps (defScope st)) (len : ∀ vs H Q E, sp vs H Q E → vs.length = ps.length)
    (hbody : ∀ (cdv : Value) (A : Around) (outer : List Env) (s : Shared) (H : Hp) (vs : List V) (Q : VK) (E : XK), Room k (A.deeper (envOfC qual (defScope st) s.heap.objs.size f cdv)) → sp vs H Q E →
      ∃ t, PSs (cxOf CX0 P w K mg base N qual (defScope st) f cdv A outer s H E).nox (defBody st) t ∧ t { nx := fun _ H' => Q .non H', rt := Q } (start N vs) H) : FnOk P w K mg base CX0 (k + 1) f fd ps sp := by
  obtain ⟨oc, od, kV, doc, pm, an, cdv, ct, osl, rfl, lk, hcd⟩ := F.ex
  refine fn_of lk hcd S len fun A outer s H vs Q E hr hsp => ?_
  obtain ⟨t, h, q⟩ := hbody cdv A outer s H vs Q E hr hsp
  exact ⟨t, h.nox, q⟩
/-- how its arguments bind (no defaults): h is «fun _ _ _ _ _ _ us hl => match us, hl with | [_, _], _ => rfl», one _ a parameter -/
theorem Fun.binds {x qual : Str} {st : Stmt} {f : Addr} {fd : FuncData} {ps : List Str} (F : Fun K x qual st f fd)
    (h : ∀ (kV doc pm : Value) (an : Option Addr) (cdv ct : Value) (us : List Value), us.length = ps.length → bindArgs (PySem.W.fnOf x qual (defArgs st) (defBody st) (defScope st) .none kV doc pm an cdv ct) ⟨us, []⟩ = pure (ps.zip us)) : Binds K fd ps [] := by
  obtain ⟨oc, od, kV, doc, pm, an, cdv, ct, osl, rfl, lk, hcd⟩ := F.ex
  exact .all (h kV doc pm an cdv ct)
theorem fun_mk {x qual : Str} {st : Stmt} {f : Addr} {oc : Value} {od an : Option Addr} {osl : Array (Option Value)} {kV doc pm cdv ct : Value} (l : K.lookup f = some ⟨oc, od, .func (PySem.W.fnOf x qual (defArgs st) (defBody st) (defScope st) .none kV doc pm an cdv ct), osl⟩)
    (c : PySem.W.codeIn K cdv qual = true) (k : PySem.W.keepIn K (.ref f) = true) : Fun K x qual st f (PySem.W.fnOf x qual (defArgs st) (defBody st) (defScope st) .none kV doc pm an cdv ct) := ⟨⟨oc, od, kV, doc, pm, an, cdv, ct, osl, rfl, l, c⟩, k⟩
end
theorem small1000 {n : Nat} (h : n ≤ 1000) : n < sizeLine := Nat.lt_of_le_of_lt h (by decide)

/-! ### expressions in short: the name that stands in the i-th slot -/
section
variable {X : Cx}
theorem pv (i : Nat) {x : Str} {pos : Pos} (hN : X.N[i]? = some x := by rfl) (hv : Vis X.env.scope x := by first | exact Or.inl rfl | exact Or.inr (Or.inl rfl) | exact Or.inr (Or.inr rfl)) (hd : (x == ("__debug__" : Str)) = false := by decide)
    (hcd : (x == ("__classdict__" : Str)) = false := by decide) : PE X (.Name x pos) (tVar i) := pe_var hN hv hd hcd
end

/-! ### tests -/
theorem iteF {A B : Prop} (h : B) : if false = true then A else B := by
  rw [if_neg Bool.false_ne_true]
  exact h
theorem ite2 {c A B : Prop} [Decidable c] (h1 : c → A) (h2 : ¬ c → B) : if c then A else B := by
  by_cases h : c
  · rw [if_pos h]
    exact h1 h
  · rw [if_neg h]
    exact h2 h
/-! ### heaps -/
/-- all that was tracked is as it was -/
def Same (H H' : Hp) : Prop := ∀ b o, H b = some o → H' b = some o
theorem Same.refl (H : Hp) : Same H H := fun _ _ h => h
theorem Same.trans {H H1 H2 : Hp} (a : Same H H1) (b : Same H1 H2) : Same H H2 := fun c o h => b c o (a c o h)
theorem Same.free {H H' : Hp} (e : Same H H') {l : Addr} (h : H' l = Option.none) : H l = Option.none := by
  cases q : H l with
  | none => rfl
  | some o =>
    rw [e l o q] at h
    cases h
theorem Same.seq {K : PySem.W.Frag} {H H' : Hp} {a : Addr} {xs : List V} (e : Same H H') (h : SqL K H a xs) : SqL K H' a xs := by
  rcases h with (h | ⟨o, h⟩) | h
  · exact .inl (.inl (e _ _ h))
  · exact .inl (.inr ⟨o, e _ _ h⟩)
  · exact .inr h

/-! ### a dict's pairs: keys that differ -/
section
variable {κ : Type} [DecidableEq κ]
end
/-! ### lists -/
/-- a new instance and its __init__ leave all that was tracked as it was -/
theorem Same.made {H H1 : Hp} {x dx C : Addr} (nx : H x = Option.none) (nd : H dx = Option.none) (k : ∀ b o, (upd (upd H dx (.own x)) x (.ins C dx [])) b = some o → b ≠ x → H1 b = some o) : Same H H1 := fun b o e =>
  k b o (by rw [upd_ne (ne_of_none e nx), upd_ne (ne_of_none e nd)]; exact e) (ne_of_none e nx)
end L2

set_option Elab.async false
set_option linter.all false
set_option maxRecDepth 100000
set_option maxHeartbeats 4000000
/-! sets of texts: made of a list, looked into, walked -/
namespace LS
open PySem PySem.Spec PyProof.Rows
def byT (w : World) : Bool := w.params.followText "set-order"
section
variable {prog : Program} {w : World} {A : Around} {E : Value → Shared → Prop} {s : Shared}
def SetX (prog : Program) (w : World) (h : Heap) (a : Addr) (ks : List Str) : Prop := ∃ es ep t, h.get? a = some { cls := .type "set", dict := none, data := .set es ep t } ∧ ElemsOf (PySem.strKind prog w) es.toList ∧
  (∀ k, k ∈ ks ↔ ∃ e ∈ es.toList, (PySem.strKind prog w).is k e.2 = true) ∧ es.size < scanBound ∧ t.fits es.size = true ∧ es.size = ks.length ∧ t.led = !byT w ∧ (es.size ≠ 0 → t.plain = false)
theorem orS_led (t : SetTable) (n : Nat) : (t.orStandIn n).led = t.led ∧ ((t.orStandIn n).plain = true → t.plain = true) := by
  unfold SetTable.orStandIn
  split
  · exact ⟨rfl, fun z => z⟩
  · exact ⟨rfl, fun z => by cases z⟩
theorem layNew_led (t : SetTable) (es : Array (Int × Value)) (h : Int) (x : Value) : (layNew t es h x).2.1.led = t.led ∧ ((layNew t es h x).2.1.plain = true → t.plain = true) := by
  unfold layNew
  split
  · exact orS_led _ _
  · exact ⟨rfl, fun z => by cases z⟩
theorem relay_led (t : SetTable) (es : Array (Int × Value)) (n : Nat) : (relayAll t es n).2.1.led = t.led ∧ ((relayAll t es n).2.1.plain = true → t.plain = true) := by
  unfold relayAll
  split
  · rename_i t' order e
    have : t'.led = t.led ∧ t'.plain = t.plain := by
      unfold SetTable.relaid SetTable.laid at e
      simp only [Option.bind_eq_bind, Option.bind_eq_some_iff] at e
      obtain ⟨o, _, e⟩ := e
      cases e
      exact ⟨rfl, rfl⟩
    dsimp only
    split
    · exact ⟨this.1, fun z => by rw [← this.2]; exact z⟩
    · exact ⟨rfl, fun z => by cases z⟩
  · exact ⟨rfl, fun z => by cases z⟩
theorem SetX.of {h : Heap} {a : Addr} {ks : List Str} (x : SetX prog w h a ks) : h.SetOf (PySem.strKind prog w) a (fun k => decide (k ∈ ks)) ks.length := by
  obtain ⟨es, ep, t, ho, hel, hm, hb, hf, hn, _, _⟩ := x
  exact ⟨_, es, ep, t, ho, ⟨rfl, rfl, rfl⟩, rfl, hel, fun k => by rw [decide_eq_true_eq]; exact hm k, hb, hf, hn⟩
theorem SetX.at {h h' : Heap} {a : Addr} {ks : List Str} (x : SetX prog w h a ks) (k : ∀ o, h.get? a = some o → h'.get? a = some o) : SetX prog w h' a ks := by
  obtain ⟨es, ep, t, ho, r⟩ := x
  exact ⟨es, ep, t, k _ ho, r⟩
theorem SetX.typeIs {a : Addr} {ks : List Str} (x : SetX prog w s.heap a ks) : s.TypeIs (.ref a) "set" := x.of.typeIs
def add1 (ks : List Str) (k : Str) : List Str := if k ∈ ks then ks else ks ++ [k]
theorem mem_add1 {ks : List Str} {k j : Str} : j ∈ add1 ks k ↔ j ∈ ks ∨ j = k := by
  unfold add1
  split
  · rename_i h; exact ⟨.inl, fun z => z.elim id fun e => e ▸ h⟩
  · simp
theorem nodup_add1 {ks : List Str} {k : Str} (h : ks.Nodup) : (add1 ks k).Nodup := by
  unfold add1
  split
  · exact h
  · rename_i n
    rw [List.nodup_append]
    exact ⟨h, by simp, fun a ha b hb e => n (by rw [List.mem_singleton] at hb; subst hb; subst e; exact ha)⟩
theorem len_add1 {ks : List Str} {k : Str} : (add1 ks k).length ≤ ks.length + 1 := by
  unfold add1
  split <;> simp
theorem wp_add {a : Addr} {ks : List Str} {k : Str} {t0 : Tok} {Q : Bool → Shared → Prop} (hS : SetX prog w s.heap a ks) (hroom : ks.length + 1 < scanBound)
    (h : ∀ h', Heap.SameBut a s.heap h' → SetX prog w h' a (add1 ks k) → Q (!decide (k ∈ ks)) { s with heap := h' }) :
    wpAny (model prog w) A (setAddHashed a (.str k t0) ((PySem.strKind prog w).hash k)) Q E s := by
  have hkey : (PySem.strKind prog w).is k (.str k t0) = true := by show Value.isStrOf k (.str k t0) = true; simp [Value.isStrOf]
  have hsc : (Value.str k t0).scannable = true := rfl
  obtain ⟨es, ep, t, ho, hel, hmem, hb, hf, hn, hled, hpl⟩ := hS
  have hb1 : es.size + 1 < scanBound := by rw [hn]; exact hroom
  have hex : Obj.ExactSet { cls := .type "set", dict := none, data := .set es ep t } := ⟨rfl, rfl, rfl⟩
  have hd : ({ cls := .type "set", dict := none, data := .set es ep t } : Obj).data = .set es ep t := rfl
  unfold setAddHashed setAddHashedIn
  refine wpAny_holding (wpAny_bind (wpAny_setState_of ho hd hf ?_))
  dsimp only
  rw [byScan_of hsc hb hel]
  simp only [↓reduceIte]
  unfold setAddByScan
  refine wpAny_bind ?_
  refine wpAny_bind (wpAny_rule ?_)
  refine wpAny_bind (wpAny_setScan_of hkey ho hd hf hel ?_)
  cases hr : List.findIdx? (fun e => (PySem.strKind prog w).is k e.2) es.toList with
  | some j =>
    dsimp only
    obtain ⟨hj, hpj, _⟩ := List.findIdx?_eq_some_iff_getElem.mp hr
    have hSk : k ∈ ks := (hmem k).mpr ⟨es.toList[j], List.getElem_mem hj, hpj⟩
    refine wpAny_pure (wpAny_pure ?_)
    have e : s = { s with heap := s.heap } := by cases s; rfl
    have := h s.heap (Heap.SameBut.refl a s.heap) ⟨es, ep, t, ho, hel, fun k' => by
      rw [mem_add1, ← hmem k']; exact ⟨fun hk => hk.elim id (fun e => e ▸ hSk), .inl⟩, hb, hf, by unfold add1; rw [if_pos hSk]; exact hn, hled, hpl⟩
    rw [decide_eq_true hSk] at this; rw [e]; exact this
  | none =>
    dsimp only
    have hSk : ¬ k ∈ ks := fun hk => by
      obtain ⟨e, he, hp⟩ := (hmem k).mp hk; have := List.findIdx?_eq_none_iff.mp hr e he; rw [hp] at this; exact Bool.noConfusion this
    have hgw : ∀ (b : Bool) {s₁ : Shared} {Q' : Unit → Shared → Prop}, Q' () s₁ → wpAny (model prog w) A (match b with | true => rule "set.scan.the-table-gave-way" | false => pure ()) Q' E s₁ :=
      fun b s₁ Q' hq => by cases b <;> first | exact wpAny_pure hq | exact wpAny_rule hq
    have hperm := layNew_perm t es ((PySem.strKind prog w).hash k) (.str k t0)
    have hfits := layNew_fits t es ((PySem.strKind prog w).hash k) (.str k t0)
    have hl1 := layNew_led t es ((PySem.strKind prog w).hash k) (.str k t0)
    generalize hL : layNew t es ((PySem.strKind prog w).hash k) (.str k t0) = L at hperm hfits hl1 ⊢
    obtain ⟨es1, t1, wasDummy, gave⟩ := L
    dsimp only at hperm hfits hl1 ⊢
    rw [Array.toList_push] at hperm
    have hel1 : ElemsOf (PySem.strKind prog w) es1.toList := (hel.push hkey hsc).perm hperm
    have hmem1 : ∀ k', k' ∈ add1 ks k ↔ ∃ e ∈ es1.toList, (PySem.strKind prog w).is k' e.2 = true := fun k' => by
      have := mem_push_iff (S := fun k => decide (k ∈ ks)) hkey (fun k' => by rw [decide_eq_true_eq]; exact hmem k') hperm k'
      rw [← this, mem_add1, Bool.or_eq_true, decide_eq_true_eq, decide_eq_true_eq]
    have hb1' : es1.size < scanBound := by rw [← Array.length_toList, hperm.length_eq, List.length_append, Array.length_toList]; simpa using hb1
    have hsz1 : es1.size = (add1 ks k).length := by
      unfold add1; rw [if_neg hSk, List.length_append, ← Array.length_toList, hperm.length_eq, List.length_append, Array.length_toList, hn]; rfl
    refine wpAny_bind (hgw _ ?_)
    have tail : ∀ t2 : SetTable, t2.fits es1.size = true → t2.led = t.led → t2.plain = false → wpAny (model prog w) A (do
        storeSet a es1 t2
        if (!wasDummy && t2.tooFull) = true then do
            (match (relayAll t2 es1 (SetTable.grown es1.size)).2.2 with | true => rule "set.scan.the-table-gave-way" | false => pure ())
            storeSet a (relayAll t2 es1 (SetTable.grown es1.size)).1 (relayAll t2 es1 (SetTable.grown es1.size)).2.1
            pure (some true)
          else pure (some true)) (fun r s' => ∃ h', r = some true ∧ s' = { s with heap := h' } ∧ Heap.SameBut a s.heap h' ∧ SetX prog w h' a (add1 ks k)) E s := by
      intro t2 hf2 hl2 hp2
      refine wpAny_bind (wpAny_storeSet_of ho hd ?_ (fits_of_scanBound hb1'))
      have hg : (s.heap.update a (Obj.putSet es1 t2)).get? a = some { cls := .type "set", dict := none, data := .set es1 (ep + 1) t2 } := by
        have := Heap.get?_update_self (Obj.putSet es1 t2) ho (by rw [putSet_of es1 t2 hd]; rfl)
        rw [putSet_of es1 t2 hd] at this; exact this
      have hsb1 := Heap.SameBut.update s.heap a (Obj.putSet es1 t2)
      split
      · have hp := relayAll_perm t2 es1 (SetTable.grown es1.size)
        have hfr := relayAll_fits t2 es1 (SetTable.grown es1.size)
        have hl3 := relay_led t2 es1 (SetTable.grown es1.size)
        generalize hRl : relayAll t2 es1 (SetTable.grown es1.size) = Rl at hp hfr hl3 ⊢
        obtain ⟨es2, t3, gave2⟩ := Rl
        dsimp only at hp hfr hl3 ⊢
        have hsz : es2.size = es1.size := by rw [← Array.length_toList, hp.length_eq, Array.length_toList]
        refine wpAny_bind (hgw _ ?_)
        refine wpAny_bind (wpAny_storeSet_of hg rfl ?_ (fits_of_scanBound (by rw [hsz]; exact hb1')))
        have hg2 : ((s.heap.update a (Obj.putSet es1 t2)).update a (Obj.putSet es2 t3)).get? a = some { cls := .type "set", dict := none, data := .set es2 (ep + 1 + 1) t3 } := by
          have := Heap.get?_update_self (Obj.putSet es2 t3) hg (by rw [putSet_of es2 t3 rfl]; rfl)
          rw [putSet_of es2 t3 rfl] at this; exact this
        refine wpAny_pure ⟨_, rfl, rfl, hsb1.trans (Heap.SameBut.update _ a _), es2, _, t3, hg2, hel1.perm hp, fun k' => (hmem1 k').trans ⟨fun ⟨e, he, q⟩ => ⟨e, hp.mem_iff.mpr he, q⟩, fun ⟨e, he, q⟩ => ⟨e, hp.mem_iff.mp he, q⟩⟩, by rw [hsz]; exact hb1', hfr, by rw [hsz]; exact hsz1, hl3.1.trans (hl2.trans hled), fun _ => ?_⟩
        cases hz : t3.plain with
        | false => rfl
        | true => rw [hl3.2 hz] at hp2; cases hp2
      · exact wpAny_pure ⟨_, rfl, rfl, hsb1, es1, _, t2, hg, hel1, hmem1, hb1', hf2, hsz1, hl2.trans hled, fun _ => hp2⟩
    have fin : ∀ (r : Option Bool) (s' : Shared), (∃ h', r = some true ∧ s' = { s with heap := h' } ∧ Heap.SameBut a s.heap h' ∧ SetX prog w h' a (add1 ks k)) → wpAny (model prog w) A (match r with | some added => pure added | none => setAddHashedIn a (.str k t0) ((PySem.strKind prog w).hash k) 99999) Q E s' := by
      rintro r s' ⟨h', rfl, rfl, hsb, hX⟩
      have := h h' hsb hX
      rw [decide_eq_false hSk] at this
      exact wpAny_pure this
    by_cases hp1 : t1.plain = true
    · rw [if_pos hp1]
      refine wpAny_bind ?_
      rw [hashByValue_scannable 8 hsc]
      refine wpAny_pure ?_
      have pk : plainKind (.str k t0) = false := rfl
      rw [pk]
      simp only [Bool.false_eq_true, if_false]
      exact wpAny_mono (tail { t1 with plain := false } (SetTable.fits_plain_off hfits) hl1.1 rfl) (fun r s' x => fin r s' x) fun _ _ x => x
    · rw [if_neg hp1]
      refine wpAny_bind (wpAny_pure ?_)
      simp only [↓reduceIte]
      exact wpAny_mono (tail t1 hfits hl1.1 (by simpa using hp1)) (fun r s' x => fin r s' x) fun _ _ x => x
end
end LS

set_option Elab.async false
set_option linter.all false
set_option maxRecDepth 100000
set_option maxHeartbeats 4000000
namespace LS
open PySem PySem.Spec PyProof.Rows
def dedN (ss : List Str) (i : Nat) : List Str := (ss.take i).foldl add1 []
def ded (ss : List Str) : List Str := ss.foldl add1 []
theorem dedN_succ {ss : List Str} {i : Nat} {x : Str} (h : ss[i]? = some x) : dedN ss (i + 1) = add1 (dedN ss i) x := by
  unfold dedN; rw [List.take_add_one, h, List.foldl_append]; rfl
theorem ded_nodup_aux : ∀ (ss : List Str) (acc : List Str), acc.Nodup → (ss.foldl add1 acc).Nodup
  | [], _, h => h
  | x :: ss, acc, h => ded_nodup_aux ss _ (nodup_add1 h)
theorem ded_nodup (ss : List Str) : (ded ss).Nodup := ded_nodup_aux ss [] (by simp)
theorem ded_len_aux : ∀ (ss : List Str) (acc : List Str), (ss.foldl add1 acc).length ≤ acc.length + ss.length
  | [], _ => by simp
  | x :: ss, acc => by
    have := ded_len_aux ss (add1 acc x)
    have := @len_add1 acc x
    simp only [List.foldl_cons, List.length_cons]; omega
theorem dedN_len (ss : List Str) (i : Nat) : (dedN ss i).length ≤ i := by
  have := ded_len_aux (ss.take i) []
  have h2 := List.length_take_le i ss
  unfold dedN; simp at this; omega
theorem mem_ded_aux {j : Str} : ∀ (ss : List Str) (acc : List Str), j ∈ ss.foldl add1 acc ↔ j ∈ acc ∨ j ∈ ss
  | [], acc => by simp
  | x :: ss, acc => by
    rw [List.foldl_cons, mem_ded_aux ss, mem_add1, List.mem_cons]
    exact ⟨fun h => h.elim (fun h => h.elim .inl fun e => .inr (.inl e)) fun h => .inr (.inr h), fun h => h.elim (fun h => .inl (.inl h)) fun h => h.elim (fun e => .inl (.inr e)) .inr⟩
theorem mem_ded {ss : List Str} {j : Str} : j ∈ ded ss ↔ j ∈ ss := by unfold ded; rw [mem_ded_aux]; simp
section
variable {prog : Program} {w : World} {A : Around} {R : Result → Shared → Prop} {I : Addr} {fp wr : List Addr} {G : Array GenState → Array GenState → Prop} {n : Nat} {P : Nat → Value → Prop} {St : Nat → Shared → Prop}
theorem update_loopS (W : WalksS prog w A.in1 I fp wr G n P St) (S : Addr) (hSf : S ∉ fp) (ss : List Str) (hss : ss.length = n)
    (hval : ∀ i v, P i v → ∃ x t, ss[i]? = some x ∧ v = .str x t) (hb : n + 1 < scanBound) :
    ∀ (k i : Nat) (s : Shared), n - i = k → i ≤ n → St i s → SetX prog w s.heap S (dedN ss i) →
      (∀ s', Moved (S :: wr) G s s' → SetX prog w s'.heap S (dedN ss n) → R (.ok (.ret .none)) s') →
      codeAny (model prog w) A (.builtin "set.update.loop" ⟨[.ref S, .ref I], []⟩) R s := by
  have hSw : S ∉ wr := fun h => hSf (W.sub _ h)
  have hsub : ∀ b ∈ wr, b ∈ S :: wr := fun b hb => List.mem_cons_of_mem _ hb
  intro k
  induction k with
  | zero =>
    intro i s hk hi hst hS hR
    have hin : i = n := by omega
    subst hin
    refine codeAny_builtin PyProof.Rows.F.entry_set_update_loop ?_
    rw [Around.under_plainId PyProof.Rows.F.plain_set_update_loop _]
    show wpAny _ A.in1 (pyNext (.ref I) >>= _) _ _ s
    refine wpAny_bind (W.done s _ _ hst fun s' hm => ?_)
    show wpAny _ A.in1 (ret Value.none) _ _ s'
    exact wpAny_pure (hR s' (hm.mono hsub) (hS.at fun o e => hm.heap S _ hSw e))
  | succ k ih =>
    intro i s hk hi hst hS hR
    have hlt : i < n := by omega
    refine codeAny_builtin PyProof.Rows.F.entry_set_update_loop ?_
    rw [Around.under_plainId PyProof.Rows.F.plain_set_update_loop _]
    show wpAny _ A.in1 (pyNext (.ref I) >>= _) _ _ s
    refine wpAny_bind (W.item i s _ _ hlt hst fun v s' hP hst' hm => ?_)
    obtain ⟨x, t, hx, rfl⟩ := hval i v hP
    have hS' : SetX prog w s'.heap S (dedN ss i) := hS.at fun o e => hm.heap S _ hSw e
    show wpAny _ A.in1 (holding [Value.str x t] (setAdd S (.str x t)) >>= _) _ _ s'
    refine wpAny_bind (wpAny_holding ?_)
    unfold setAdd
    refine wpAny_holding ?_
    refine wpAny_bind ((PySem.strKind prog w).pyHash (k := x) (by show Value.isStrOf x (.str x t) = true; simp [Value.isStrOf]) ?_)
    have hroom : (dedN ss i).length + 1 < scanBound := by have := dedN_len ss i; omega
    refine wp_add (s := { s' with toks := s'.toks + 1 }) hS' hroom fun h' hsb hS2 => ?_
    have hSi : SetX prog w h' S (dedN ss (i + 1)) := by rw [dedN_succ hx]; exact hS2
    refine wpAny_pure ⟨plainId_quiet PyProof.Rows.F.plain_set_update_loop _, ih (i + 1) _ (by omega) hlt (W.frame _ s' _ _ hst' (Nat.le_succ _) fun b hb o e => ?_) hSi fun s'' hm'' hS'' => ?_⟩
    · rw [hsb.2 b (fun h : b = S => hSf (by rw [← h]; exact hb))]; exact e
    · refine hR s'' (Moved.trans W.gtrans ((hm.mono hsub).then_heap (Nat.le_succ _) fun b o hb e => ?_) hm'') hS''
      rw [hsb.2 b (fun h : b = S => hb (by rw [h]; exact List.mem_cons_self))]; exact e
end
section
variable {prog : Program} {w : World} {A : Around} {E : Value → Shared → Prop} {s : Shared}
theorem strs_at : ∀ {vs : List Value} {ss : List Str}, StrsAre vs ss → ∀ (i : Nat) (v : Value), vs[i]? = some v → ∃ x t, ss[i]? = some x ∧ v = .str x t
  | _, _, .nil, i, v, h => by simp at h
  | _, _, .cons y t r, 0, v, h => by simp at h; exact ⟨y, t, rfl, h.symm⟩
  | _, _, .cons y t r, i + 1, v, h => by simp only [List.getElem?_cons_succ] at h ⊢; exact strs_at r i v h
theorem fresh_X {h : Heap} {a : Addr} (ho : h.get? a = some { cls := .type "set", dict := none, data := .set #[] 0 (.fresh 0 0 (!byT w)) }) : SetX prog w h a [] :=
  ⟨#[], 0, _, ho, fun e he => by simp at he, fun k => by simp, by unfold scanBound; simp, rfl, rfl, rfl, fun z => absurd rfl z⟩
theorem code_set_new (a : Value) {Q₁ : Value → Shared → Prop}
    (h : Q₁ (.ref s.heap.objs.size) { s with heap := s.heap.push { cls := .type "set", dict := none, data := .set #[] 0 (.fresh 0 0 (!byT w)) } }) :
    codeAny (model prog w) A (.call (.builtin "set.__new__") ⟨[.type "set", a], []⟩) (wants Q₁ E) s := by
  refine codeAny_of_tree ?_
  show wpAny _ A.in1 (do checkBuiltinCall "set.__new__" ⟨[.type "set", a], []⟩; again (.builtin "set.__new__" ⟨[.type "set", a], []⟩)) _ _ s
  refine wpAny_bind (wpAny_of_eq (PySem.F.newCall_set_1 a) (wpAny_pure ⟨plainId_quiet PySem.F.plain_set_new _, codeAny_builtin PySem.F.entry_set_new ?_⟩))
  rw [Around.under_plainId PySem.F.plain_set_new _]
  unfold Builtin.«set.__new__» Builtin.Frozenset.newClass
  have hsub := PySem.sub_set_self
  obtain ⟨hp, g, d, tk, os⟩ := s
  dsimp only
  wp_walk
  refine wpAny_askSetting (wpAny_pure ?_)
  dsimp only
  simp only [newObj]
  refine wpAny_bind (wpAny_alloc (wpAny_pure ?_))
  exact wpAny_pure h
set_option maxRecDepth 100000 in
set_option maxHeartbeats 3200000 in
theorem call_set {l : Addr} {items : Array Value} {ss : List Str} {Q : Value → Shared → Prop}
    (hh : A.handled = none) (hl : s.heap.IsList l items) (hi : StrsAre items.toList ss) (hb : items.size + 1 < scanBound)
    (h : ∀ (h' : Heap) (tk : Nat), SetX prog w h' s.heap.objs.size (ded ss) →
      (∀ b o, b < s.heap.objs.size → s.heap.get? b = some o → h'.get? b = some o) → Q (.ref s.heap.objs.size) { s with heap := h', toks := tk }) :
    wpAny (model prog w) A (call (.type "set") [.ref l]) Q E s := by
  obtain ⟨c, tl, hmro⟩ := PySem.F.called_set.mro
  have hmade := PySem.F.called_set.made
  have hsub := PySem.F.called_set.sub
  refine wpAny_call (codeAny_of_tree ?_)
  show wpAny _ _ (callAny (.type "set") _) _ _ _
  refine wpAny_pure ⟨Code.quiet_builtin _ (by decide +kernel), codeAny_builtin PySem.F.entry_type_call ?_⟩
  rw [Around.under_plain (weight_type_call_type "set" [.ref l] []) rfl]
  have h1 := PySem.F.called_set.notType
  have h2 := PySem.F.called_set.canCreate
  have hct := PySem.F.typeCall_set_1 (.ref l)
  repeat (any_goals (first | assumption | wp_step))
  refine codeAny_mono (code_set_new (.ref l) (E := E) (Q₁ := fun obj s₁ => obj = .ref s.heap.objs.size ∧ s₁ = { s with heap := s.heap.push { cls := .type "set", dict := none, data := .set #[] 0 (.fresh 0 0 (!byT w)) } }) ⟨rfl, rfl⟩) fun r s₁ hr => ?_
  cases r with
  | error e => exact hr
  | ok fl =>
    cases fl with
    | ret obj =>
      obtain ⟨rfl, rfl⟩ := hr
      generalize hled : (!byT w) = led
      have hS : (s.heap.push { cls := .type "set", dict := none, data := .set #[] 0 (.fresh 0 0 led) }).get? s.heap.objs.size = some { cls := .type "set", dict := none, data := .set #[] 0 (.fresh 0 0 led) } := Heap.get?_push_size _ rfl
      have hT : Shared.TypeIs { s with heap := s.heap.push { cls := .type "set", dict := none, data := .set #[] 0 (.fresh 0 0 led) } } (.ref s.heap.objs.size) "set" := ⟨_, hS, rfl⟩
      have hli := PySem.F.called_set.init.lookup
      have hbi := PySem.F.called_set.init.bind (.ref s.heap.objs.size)
      repeat (any_goals (first | assumption | wp_step))
      refine codeAny_mono (codeAny_call_builtin (R := wants (fun r s₂ => r = .none ∧ ∃ h' tk, s₂ = { s with heap := h', toks := tk } ∧
          SetX prog w h' s.heap.objs.size (ded ss) ∧
          (∀ b o, b < s.heap.objs.size → s.heap.get? b = some o → h'.get? b = some o)) E) PySem.F.called_set.init.plain PySem.F.entry_set_init (PySem.check_set_init_1 hT ?_)) fun r₂ s₂ hr₂ => ?_
      · obtain ⟨ol, hol, hcl, nl, hdl⟩ := hl
        obtain ⟨ocls, odict, odata, oslots⟩ := ol
        simp only at hcl hdl
        subst hcl; subst hdl
        have hol' : (s.heap.push { cls := .type "set", dict := none, data := .set #[] 0 (.fresh 0 0 led) }).get? l = some { cls := .type "list", dict := odict, data := .seq items nl, slots := oslots } := Heap.get?_push_of_some _ hol
        have hsls := PySem.F.sub_list_set
        have hslf := PySem.F.sub_list_frozenset
        have hne : (Value.type "list" == Value.type "dict") = false := by decide
        have hl1 : (s.heap.push { cls := .type "set", dict := none, data := .set #[] 0 (.fresh 0 0 led) }).IsList l items := ⟨_, hol', rfl, nl, rfl⟩
        unfold Builtin.«set.__init__» noKeywords Builtin.Frozenset.updateFrom
        generalize hPI : pyIter = PI
        wp_walk
        subst hPI
        refine wpAny_pyIter_list hl1 ?_
        refine wpAny_bind (wpAny_runValue ?_)
        have hlS : l < s.heap.objs.size := Heap.lt_size hol
        have hh3 : A.in1.in1.in1.handled = none := by simp [hh]
        have hneI : l ≠ (s.heap.push { cls := .type "set", dict := none, data := .set #[] 0 (.fresh 0 0 led) }).objs.size := by
          rw [Heap.size_push]; exact Nat.ne_of_lt (Nat.lt_succ_of_lt hlS)
        have hSf : s.heap.objs.size ∉ [(s.heap.push { cls := .type "set", dict := none, data := .set #[] 0 (.fresh 0 0 led) }).objs.size, l] := by
          rw [Heap.size_push]; simp only [List.mem_cons, List.mem_singleton, List.not_mem_nil, or_false, not_or]
          exact ⟨Nat.ne_of_lt (Nat.lt_succ_self _), Nat.ne_of_gt hlS⟩
        have hlen : ss.length = items.size := by rw [← hi.length, Array.length_toList]
        have hval : ∀ (i : Nat) (v : Value), items[i]? = some v → ∃ x t, ss[i]? = some x ∧ v = .str x t := fun i v hv => strs_at hi i v (by rw [Array.getElem?_toList]; exact hv)
        refine update_loopS ((Walks.list hh3 _ l hneI items).toS) s.heap.objs.size
          hSf ss hlen hval hb (items.size - 0) 0 _ (by omega) (Nat.zero_le _)
          ⟨⟨_, Heap.get?_push_size _ rfl, rfl, rfl⟩, (hl1.push _)⟩ ?hS0 ?hR
        case hS0 =>
          have hget : ((s.heap.push { cls := .type "set", dict := none, data := .set #[] 0 (.fresh 0 0 led) }).push { cls := .type "list_iterator", data := .fields #[.ref l, .int 0 0] }).get? s.heap.objs.size
              = some { cls := .type "set", dict := none, data := .set #[] 0 (.fresh 0 0 led) } := Heap.get?_push_of_some _ hS
          exact fresh_X (by rw [hled]; exact hget)
        case hR =>
          intro s' hm hS'
          obtain ⟨h', g', d', tk', os'⟩ := s'
          have eg : g' = s.gens := hm.gens
          have ed : d' = s.drawn := hm.drawn
          have eo : os' = s.os := hm.os
          subst eg; subst ed; subst eo
          show wpAny _ _ _ _ _ _
          refine wpAny_pure ?_
          show wpAny _ _ (ret Value.none) _ _ _
          refine wpAny_pure ⟨rfl, h', tk', rfl, ?_, fun b o hb e => ?_⟩
          · have e : dedN ss items.size = ded ss := by unfold dedN ded; rw [List.take_of_length_le (by omega)]
            rw [← e]; exact hS'
          have hb1 : b ≠ s.heap.objs.size := Nat.ne_of_lt hb
          have hb2 : b ≠ (s.heap.push { cls := .type "set", dict := none, data := .set #[] 0 (.fresh 0 0 led) }).objs.size := by
            rw [Heap.size_push]; exact Nat.ne_of_lt (Nat.lt_succ_of_lt hb)
          exact hm.heap b o (by simp only [List.mem_cons, List.mem_singleton, List.not_mem_nil, or_false, not_or]; exact ⟨hb1, hb2⟩) (Heap.get?_push_of_some _ (Heap.get?_push_of_some _ e))
      · cases r₂ with
        | error e => exact hr₂
        | ok fl₂ =>
          cases fl₂ with
          | ret r =>
            obtain ⟨rfl, h', tk, rfl, hS', hk'⟩ := hr₂
            repeat (any_goals (first | assumption | wp_step))
            exact h _ _ hS' hk'
          | _ => exact hr₂.elim
    | _ => exact hr.elim
end
end LS

set_option Elab.async false
set_option linter.all false
set_option maxRecDepth 100000
set_option maxHeartbeats 4000000
namespace LS
open PySem PySem.Spec PyProof.Rows
theorem slot_set_iter : Slot "set" "__iter__" "set.__iter__" :=
  .of (owner := "set") (n := "__iter__") (by rw [typeLookup_type, builtinLookup_eq_fast]; kernel_rfl) (by decide +kernel) (by decide +kernel) (by decide +kernel)
    (by first | exact .inl (by decide +kernel) | exact .inr (by decide +kernel)) (by rw [isSubtype_type]; kernel_rfl)
theorem entry_set_iter : entryFor table "set.__iter__" = some Builtin.«frozenset.__iter__» :=
  entryFor_alias (id' := "frozenset.__iter__") (by kernel_rfl) rfl (by decide +kernel) (by kernel_rfl)
theorem args_set_iter (a : Value) : argsOk "set.__iter__" ⟨[a], []⟩ := by unfold argsOk; kernel_rfl
theorem slot_si_next : Slot "set_iterator" "__next__" "set_iterator.__next__" :=
  .of (owner := "set_iterator") (n := "__next__") (by rw [typeLookup_type, builtinLookup_eq_fast]; kernel_rfl) (by decide +kernel) (by decide +kernel) (by decide +kernel)
    (by first | exact .inl (by decide +kernel) | exact .inr (by decide +kernel)) (by rw [isSubtype_type]; kernel_rfl)
theorem entry_si_next : entryFor table "set_iterator.__next__" = some Builtin.«set_iterator.__next__» := entryFor_of_tree (by kernel_rfl)
theorem args_si_next (a : Value) : argsOk "set_iterator.__next__" ⟨[a], []⟩ := by unfold argsOk; kernel_rfl
theorem slot_si_iter : Slot "set_iterator" "__iter__" "set_iterator.__iter__" :=
  .of (owner := "set_iterator") (n := "__iter__") (by rw [typeLookup_type, builtinLookup_eq_fast]; kernel_rfl) (by decide +kernel) (by decide +kernel) (by decide +kernel)
    (by first | exact .inl (by decide +kernel) | exact .inr (by decide +kernel)) (by rw [isSubtype_type]; kernel_rfl)
theorem cons_erase_perm {α : Type} : ∀ (l : List α) (i : Nat) (h : i < l.length), (l[i] :: l.eraseIdx i).Perm l
  | x :: l, 0, h => .refl _
  | x :: l, i + 1, h => by
    have h' : i < l.length := by simpa using h
    show (l[i] :: x :: l.eraseIdx i).Perm (x :: l)
    exact (List.Perm.swap _ _ _).trans (.cons _ (cons_erase_perm l i h'))
section
variable {M : Model} {A : Around} {E : Value → Shared → Prop} {s : Shared}
theorem wp_choose {src : Source} {n : Nat} {Q : Nat → Shared → Prop} (hn : n ≠ 0) (h : ∀ i d', i < n → Q i { s with drawn := d' }) : wpAny M A (choose src n) Q E s := fun Γ p hΓ =>
  ⟨hn, h _ _ (Nat.mod_lt _ (Nat.pos_of_ne_zero hn))⟩
theorem wp_drawOrder {α : Type} : ∀ (n : Nat) (xs : List α) (s : Shared) {Q : List α → Shared → Prop}, xs.length = n → (∀ ys d', ys.Perm xs → Q ys { s with drawn := d' }) → wpAny M A (drawOrder n xs) Q E s
  | 0, xs, s, Q, hl, h => by
    have : xs = [] := List.length_eq_zero_iff.mp hl
    subst this
    exact wpAny_pure (h [] s.drawn .nil)
  | n + 1, [], s, Q, hl, h => by simp at hl
  | n + 1, x :: xs, s, Q, hl, h => by
    unfold drawOrder
    refine wpAny_bind (wp_choose (by simp) fun i d' hi => ?_)
    rw [List.getElem?_eq_getElem hi]
    dsimp only
    have e1 : ((x :: xs).eraseIdx i).length = n := by rw [List.length_eraseIdx_of_lt hi, hl]; rfl
    refine wpAny_bind (wp_drawOrder n _ _ e1 fun ys d2 hp => wpAny_pure (h _ d2 ?_))
    refine (List.Perm.cons _ hp).trans ?_
    exact cons_erase_perm _ i hi
end
theorem pick_perm_go {α : Type} (next : Nat → Nat) : ∀ (fuel k : Nat) (left : List α) (out : Array α), left.length = fuel → (pickOrder.go next fuel k left out).toList.Perm (out.toList ++ left)
  | 0, k, left, out, h => by
    have : left = [] := List.length_eq_zero_iff.mp h
    subst this
    simp [pickOrder.go]
  | fuel + 1, k, left, out, h => by
    have hlt : next k % left.length < left.length := Nat.mod_lt _ (by omega)
    unfold pickOrder.go
    rw [List.getElem?_eq_getElem hlt]
    dsimp only
    refine (pick_perm_go next fuel (k + 1) _ _ (by rw [List.length_eraseIdx_of_lt hlt, h]; rfl)).trans ?_
    rw [Array.toList_push, List.append_assoc]
    refine List.Perm.append_left _ ?_
    exact cons_erase_perm _ _ hlt
theorem pick_perm {α : Type} (next : Nat → Nat) (xs : Array α) : (pickOrder next xs).toList.Perm xs.toList := by
  have := pick_perm_go next xs.size 0 xs.toList #[] (Array.length_toList)
  simpa [pickOrder] using this
end LS

set_option Elab.async false
set_option linter.all false
set_option maxRecDepth 100000
set_option maxHeartbeats 4000000
namespace LS
open PySem PySem.Spec PyProof.Rows
def itObj (first : Value) (i : Nat) (a : Addr) (n ep : Nat) : Obj := { cls := .type "set_iterator", data := .fields #[first, .int i 0, .ref a, .int n 0, .int ep 0] }
def setObj (es : Array (Int × Value)) (ep : Nat) (t : SetTable) : Obj := { cls := .type "set", dict := none, data := .set es ep t }
section
variable {prog : Program} {w : World} {A : Around} {E : Value → Shared → Prop} {s : Shared}
theorem it_type {I a : Addr} {first : Value} {i n ep : Nat} (h : s.heap.get? I = some (itObj first i a n ep)) : s.TypeIs (.ref I) "set_iterator" := ⟨_, h, rfl⟩
theorem wp_stop {Q : Option Value → Shared → Prop} (hh : A.handled = none) (hQ : ∀ h', (∀ b o, s.heap.get? b = some o → h'.get? b = some o) → Q none { s with heap := h' }) :
    wpAny (model prog w) A.in1 (do raiseNew (← newExc (.type "StopIteration") []) : Sem Fin) (fun _ _ => False) (fun e s' => wpAny (model prog w) A (do if ← isInstance e (.type "StopIteration") then pure none else throw e) Q E s') s := by
  refine wpAny_bind ?_
  simp only [newExc, newTuple]
  refine wpAny_bind (wpAny_newObj_type ?_ (by size_fits))
  refine wpAny_bind (m := firstArgMember _ _) (wpAny_of_eq (a := Value.none) (by first | rfl | (simp only [firstArgMember]; rfl)) ?_)
  refine wpAny_newObj_type ?_ (by size_fits)
  simp only [raiseNew]
  refine wpAny_bind (wpAny_handled ?_)
  rw [show A.in1.handled = none from hh]
  refine wpAny_bind (wpAny_pure (wpAny_throw ?_))
  refine wpAny_bind (wpAny_isInstance (T := "StopIteration") (b := true) ⟨_, Heap.get?_push_size _ rfl, rfl⟩ isSubtype_stop ?_)
  exact wpAny_pure (hQ _ fun b o e => Heap.get?_push_of_some _ (Heap.get?_push_of_some _ e))
theorem entry_si_iter : entryFor table "set_iterator.__iter__" = some Builtin.«dict_keyiterator.__iter__» :=
  entryFor_alias (id' := "dict_keyiterator.__iter__") (by kernel_rfl) rfl (by decide +kernel) (by kernel_rfl)
theorem args_si_iter (a : Value) : argsOk "set_iterator.__iter__" ⟨[a], []⟩ := by unfold argsOk; kernel_rfl
theorem it_self {I a : Addr} {first : Value} {i n ep : Nat} {Q : Value → Shared → Prop} (hI : s.heap.get? I = some (itObj first i a n ep)) (h : Q (.ref I) s) : wpAny (model prog w) A (pyIter (.ref I)) Q E s := by
  refine wpAny_pyIter_slot (it_type hI) slot_si_iter (wpAny_call_entry slot_si_iter (it_type hI) entry_si_iter ?_ (args_si_iter _))
  show wpAny _ _ (ret (.ref I)) _ _ s
  exact wpAny_pure ⟨_, rfl, "set_iterator", _, it_type hI, slot_si_next.lookup, h⟩
def siBody (first : Value) (I a : Addr) (i ep : Nat) : Sem Fin :=
  if let .int slot _ := first then (do
          match ← setNext a slot.toNat (i : Int).toNat (ep : Int).toNat with
          | some (x, next) =>
            setField (.ref I) 0 (rawInt next)
            setField (.ref I) 1 (rawInt ((i : Int) + 1))
            ret x
          | none => setField (.ref I) 2 .none; raiseNew (← newExc (.type "StopIteration") []))
        else (do
          let some places ← seqItems? first | unsupported "internal:set_iterator"
          match places[(i : Int).toNat]? with
          | some (.int place _) =>
            let x ← setNextDrawn a place.toNat (ep : Int).toNat
            setField (.ref I) 1 (rawInt ((i : Int) + 1))
            ret x
          | some _ => unsupported "internal:set_iterator"
          | none => setField (.ref I) 0 (rawInt 0); setField (.ref I) 2 .none; raiseNew (← newExc (.type "StopIteration") []))
theorem next_go {I a : Addr} {first : Value} {i n ep : Nat} {es : Array (Int × Value)} {t : SetTable} {Q : Option Value → Shared → Prop}
    (hI : s.heap.get? I = some (itObj first i a n ep)) (ha : s.heap.get? a = some (setObj es ep t)) (hf : t.fits es.size = true) (hn : es.size = n)
    (hb : wpAny (model prog w) A.in1 (siBody first I a i ep) (fun fin s' => ∃ v, fin = .done (.ret v) ∧ Q (some v) s') (fun e s' => wpAny (model prog w) A (do if ← isInstance e (.type "StopIteration") then pure none else throw e) Q E s') s) :
    wpAny (model prog w) A (pyNext (.ref I)) Q E s := by
  unfold pyNext
  refine wpAny_bind (wpAny_attempt (wpAny_callSpecial?_slot (name := Str.ofString "__next__") (it_type hI) slot_si_next
    (wpAny_call_entry slot_si_next (it_type hI) entry_si_next ?_ (args_si_next _))))
  show wpAny _ _ (fieldsOf (.ref I) >>= _) _ _ s
  refine wpAny_bind (wpAny_fieldsOf hI rfl ?_)
  show wpAny _ _ (setEntries a >>= _) _ _ s
  unfold setEntries
  refine wpAny_bind (wpAny_bind (wpAny_setState_of ha rfl hf (wpAny_pure ?_)))
  dsimp only
  rw [if_neg (by rw [hn]; simp)]
  refine wpAny_mono hb (fun fin s' x => ?_) fun e s' x => x
  obtain ⟨v, rfl, q⟩ := x
  exact ⟨v, rfl, wpAny_pure q⟩
theorem upd_it {h : Heap} {I a : Addr} {first : Value} {i n ep : Nat} (hI : h.get? I = some (itObj first i a n ep)) :
    (h.update I (Obj.mapFields (·.setIfInBounds 1 (rawInt ((i : Int) + 1))))).get? I = some (itObj first (i + 1) a n ep) := by
  have := Heap.get?_update_self (Obj.mapFields (·.setIfInBounds 1 (rawInt ((i : Int) + 1)))) hI (Obj.isFreed_of_fields (Obj.data_mapFields rfl _))
  rw [this]; rfl
theorem upd_it0 {h : Heap} {I a : Addr} {first first' : Value} {i n ep : Nat} (hI : h.get? I = some (itObj first i a n ep)) :
    (h.update I (Obj.mapFields (·.setIfInBounds 0 first'))).get? I = some (itObj first' i a n ep) := by
  have := Heap.get?_update_self (Obj.mapFields (·.setIfInBounds 0 first')) hI (Obj.isFreed_of_fields (Obj.data_mapFields rfl _))
  rw [this]; rfl
/-- drawn places -/
theorem walkB {I a T : Addr} (hne : I ≠ a ∧ I ≠ T) {es : Array (Int × Value)} {ep n : Nat} {t : SetTable} {ps : List Nat} (hf : t.fits es.size = true) (hn : es.size = n) (hps : ps.length = n) (hlt : ∀ p ∈ ps, p < n) (hh : A.handled = none) :
    Walks prog w A I [I, a, T] [I] n (fun i v => ∃ p e, ps[i]? = some p ∧ es[p]? = some e ∧ v = e.2)
      (fun i h => h.get? I = some (itObj (.ref T) i a n ep) ∧ h.get? a = some (setObj es ep t) ∧ ∃ o m, h.get? T = some o ∧ o.data = .seq ((ps.map fun (p : Nat) => rawInt p).toArray) m) where
  sub := fun b hb => by simp at hb; simp [hb]
  frame := fun _ _ _ ⟨x, y, o, m, z, u⟩ hk => ⟨hk _ (by simp) _ x, hk _ (by simp) _ y, o, m, hk _ (by simp) _ z, u⟩
  item := fun i s Q E hi ⟨x, y, o, m, z, u⟩ hQ => by
    have hi' : i < ps.length := by omega
    have hp : ps[i]? = some ps[i] := List.getElem?_eq_getElem hi'
    have hpl := hlt _ (List.getElem_mem hi')
    have he : es[ps[i]]? = some es[ps[i]] := Array.getElem?_eq_getElem (by omega)
    refine next_go x y hf hn ?_
    show wpAny _ _ (seqItems? (.ref T) >>= _) _ _ s
    refine wpAny_bind (wpAny_seqItems z u ?_)
    have e2 : (ps.map fun (p : Nat) => rawInt p).toArray[(i : Int).toNat]? = some (rawInt ps[i]) := by
      simp [hp]
    dsimp only
    rw [e2]
    show wpAny _ _ (setNextDrawn a (ps[i] : Int).toNat (ep : Int).toNat >>= _) _ _ s
    unfold setNextDrawn
    refine wpAny_bind (wpAny_bind (wpAny_setState_of y rfl hf ?_))
    dsimp only
    rw [if_neg (by simp), Int.toNat_natCast, he]
    refine wpAny_pure ?_
    refine wpAny_bind (wpAny_setField x rfl (by simp) ?_)
    refine wpAny_pure ⟨_, rfl, hQ _ _ s.toks ⟨ps[i], es[ps[i]], hp, he, rfl⟩ ⟨upd_it x, ?_, o, m, ?_, u⟩ fun b ob hb e => ?_⟩
    · rw [Heap.get?_update_other _ _ hne.1]; exact y
    · rw [Heap.get?_update_other _ _ hne.2]; exact z
    · rw [Heap.get?_update_other _ _ (fun h => hb (by simp [h]))]; exact e
  done := fun s Q E ⟨x, y, o, m, z, u⟩ hQ => by
    refine next_go x y hf hn ?_
    show wpAny _ _ (seqItems? (.ref T) >>= _) _ _ s
    refine wpAny_bind (wpAny_seqItems z u ?_)
    have e2 : (ps.map fun (p : Nat) => rawInt p).toArray[(n : Int).toNat]? = none := by
      simp [hps]
    dsimp only
    rw [e2]
    show wpAny _ _ (setField (.ref I) 0 (rawInt 0) >>= _) _ _ s
    refine wpAny_bind (wpAny_setField x rfl (by simp) ?_)
    refine wpAny_bind (wpAny_setField (upd_it0 x) rfl (by simp) ?_)
    refine wpAny_mono (wp_stop hh fun h' k => hQ h' _ fun b ob hb e => k b ob ?_) (fun _ _ x => x.elim) fun _ _ x => x
    rw [Heap.get?_update_other _ _ (fun h => hb (by simp [h])), Heap.get?_update_other _ _ (fun h => hb (by simp [h]))]; exact e
  self := fun i s Q E ⟨x, y, o, m, z, u⟩ hQ => by
    exact it_self x hQ
/-- by the text's order -/
theorem walkA {I a : Addr} (hne : I ≠ a) (hby : byT w = true) {es : Array (Int × Value)} {ep n : Nat} {t : SetTable} (hf : t.fits es.size = true) (hn : es.size = n) (hh : A.handled = none) :
    Walks prog w A I [I, a] [I] n (fun i v => ∃ e, (pickOrder (w.params.setOrder a ep) es)[i]? = some e ∧ v = e.2)
      (fun i h => h.get? I = some (itObj (rawInt 0) i a n ep) ∧ h.get? a = some (setObj es ep t)) where
  sub := fun b hb => by simp at hb; simp [hb]
  frame := fun _ _ _ ⟨x, y⟩ hk => ⟨hk _ (by simp) _ x, hk _ (by simp) _ y⟩
  item := fun i s Q E hi ⟨x, y⟩ hQ => by
    have hsz : (pickOrder (w.params.setOrder a ep) es).size = n := by rw [← Array.length_toList, (pick_perm _ _).length_eq, Array.length_toList, hn]
    have he : (pickOrder (w.params.setOrder a ep) es)[i]? = some ((pickOrder (w.params.setOrder a ep) es)[i]'(by omega)) := Array.getElem?_eq_getElem (by omega)
    refine next_go x y hf hn ?_
    show wpAny _ _ (setNext a 0 (i : Int).toNat (ep : Int).toNat >>= _) _ _ s
    unfold setNext setsByText
    refine wpAny_bind (wpAny_bind (wpAny_setState_of y rfl hf ?_))
    dsimp only
    refine wpAny_bind (wpAny_bind (wpAny_askSetting (wpAny_pure ?_)))
    dsimp only [model]
    rw [if_pos (show w.params.followText "set-order" = true from hby), if_neg (by simp)]
    unfold setWalk setsByText
    refine wpAny_bind (wpAny_bind (wpAny_setState_of y rfl hf ?_))
    dsimp only
    refine wpAny_bind (wpAny_bind (wpAny_askSetting (wpAny_pure ?_)))
    dsimp only [model]
    rw [if_pos (show w.params.followText "set-order" = true from hby)]
    refine wpAny_bind (wpAny_askSetting (wpAny_pure ?_))
    dsimp only [model]
    refine wpAny_pure ?_
    rw [Int.toNat_natCast, he]
    show wpAny _ _ (setField (.ref I) 0 (rawInt 0) >>= _) _ _ s
    refine wpAny_bind (wpAny_setField x rfl (by simp) ?_)
    refine wpAny_bind (wpAny_setField (upd_it0 x) rfl (by simp) ?_)
    refine wpAny_pure ⟨_, rfl, hQ _ _ s.toks ⟨_, he, rfl⟩ ⟨upd_it (upd_it0 x), ?_⟩ fun b ob hb e => ?_⟩
    · rw [Heap.get?_update_other _ _ hne, Heap.get?_update_other _ _ hne]; exact y
    · rw [Heap.get?_update_other _ _ (fun h => hb (by simp [h])), Heap.get?_update_other _ _ (fun h => hb (by simp [h]))]; exact e
  done := fun s Q E ⟨x, y⟩ hQ => by
    have hsz : (pickOrder (w.params.setOrder a ep) es).size = n := by rw [← Array.length_toList, (pick_perm _ _).length_eq, Array.length_toList, hn]
    have he : (pickOrder (w.params.setOrder a ep) es)[n]? = none := Array.getElem?_eq_none (by omega)
    refine next_go x y hf hn ?_
    show wpAny _ _ (setNext a 0 (n : Int).toNat (ep : Int).toNat >>= _) _ _ s
    unfold setNext setsByText
    refine wpAny_bind (wpAny_bind (wpAny_setState_of y rfl hf ?_))
    dsimp only
    refine wpAny_bind (wpAny_bind (wpAny_askSetting (wpAny_pure ?_)))
    dsimp only [model]
    rw [if_pos (show w.params.followText "set-order" = true from hby), if_neg (by simp)]
    unfold setWalk setsByText
    refine wpAny_bind (wpAny_bind (wpAny_setState_of y rfl hf ?_))
    dsimp only
    refine wpAny_bind (wpAny_bind (wpAny_askSetting (wpAny_pure ?_)))
    dsimp only [model]
    rw [if_pos (show w.params.followText "set-order" = true from hby)]
    refine wpAny_bind (wpAny_askSetting (wpAny_pure ?_))
    dsimp only [model]
    refine wpAny_pure ?_
    rw [Int.toNat_natCast, he]
    show wpAny _ _ (setField (.ref I) 2 .none >>= _) _ _ s
    refine wpAny_bind (wpAny_setField x rfl (by simp) ?_)
    refine wpAny_mono (wp_stop hh fun h' k => hQ h' _ fun b ob hb e => k b ob ?_) (fun _ _ x => x.elim) fun _ _ x => x
    rw [Heap.get?_update_other _ _ (fun h => hb (by simp [h]))]; exact e
  self := fun i s Q E ⟨x, y⟩ hQ => by
    exact it_self x hQ
/-- none or one element, by its place -/
theorem walkC {I a : Addr} (hne : I ≠ a) (hby : byT w = false) {es : Array (Int × Value)} {ep n : Nat} {t : SetTable} (hf : t.fits es.size = true) (hn : es.size = n) (h1 : n ≤ 1) (hled : t.led = true) (hh : A.handled = none) :
    Walks prog w A I [I, a] [I] n (fun i v => ∃ e, es[i]? = some e ∧ v = e.2)
      (fun i h => h.get? I = some (itObj (rawInt (if i = 0 then 0 else (t.place.getD 0 0 + 1 : Nat))) i a n ep) ∧ h.get? a = some (setObj es ep t)) where
  sub := fun b hb => by simp at hb; simp [hb]
  frame := fun _ _ _ ⟨x, y⟩ hk => ⟨hk _ (by simp) _ x, hk _ (by simp) _ y⟩
  item := fun i s Q E hi ⟨x, y⟩ hQ => by
    have hi0 : i = 0 := by omega
    subst hi0
    have hn1 : n = 1 := by omega
    subst hn1
    have hps : t.place.size = 1 := by
      simp only [SetTable.fits, Bool.and_eq_true, beq_iff_eq] at hf; rw [hf.1, hn]
    have he : es[0]? = some (es[0]'(by omega)) := Array.getElem?_eq_getElem (by omega)
    have hp : t.place[0]? = some (t.place[0]'(by omega)) := Array.getElem?_eq_getElem (by omega)
    have hd : t.place.getD 0 0 = t.place[0]'(by omega) := by simp [Array.getD, hps]
    have hbl : SetTable.below t.place 0 = 0 := by
      unfold SetTable.below; rw [hps]; unfold SetTable.below.go; simp [SetTable.below.go]
    refine next_go x y hf hn ?_
    show wpAny _ _ (setNext a 0 0 (ep : Int).toNat >>= _) _ _ s
    unfold setNext setsByText
    refine wpAny_bind (wpAny_bind (wpAny_setState_of y rfl hf ?_))
    dsimp only
    refine wpAny_bind (wpAny_bind (wpAny_askSetting (wpAny_pure ?_)))
    dsimp only [model]
    rw [if_neg (show ¬ w.params.followText "set-order" = true by rw [show w.params.followText "set-order" = false from hby]; simp)]
    refine wpAny_ite_split (fun c => absurd (show (!t.plain && decide (es.size > 1)) = true from c) (by rw [hn]; simp)) (fun _ => ?_)
    refine wpAny_bind ?_
    show wpAny _ _ (if (!t.led && !es.isEmpty) = true then unsupported "set:maker-not-led" else pure ()) _ _ _
    rw [if_neg (by rw [hled]; simp)]
    refine wpAny_pure ?_
    rw [hbl]
    refine wpAny_pure ?_
    rw [he, hp]
    show wpAny _ _ (setField (.ref I) 0 (rawInt ((t.place[0]'(by omega) + 1 : Nat) : Int)) >>= _) _ _ s
    refine wpAny_bind (wpAny_setField x rfl (by simp) ?_)
    refine wpAny_bind (wpAny_setField (upd_it0 x) rfl (by simp) ?_)
    refine wpAny_pure ⟨_, rfl, hQ _ _ s.toks ⟨_, he, rfl⟩ ⟨?_, ?_⟩ fun b ob hb e => ?_⟩
    · rw [if_neg (by decide), hd]; exact upd_it (upd_it0 x)
    · rw [Heap.get?_update_other _ _ hne, Heap.get?_update_other _ _ hne]; exact y
    · rw [Heap.get?_update_other _ _ (fun h => hb (by simp [h])), Heap.get?_update_other _ _ (fun h => hb (by simp [h]))]; exact e
  done := fun s Q E ⟨x, y⟩ hQ => by
    have hps : t.place.size = n := by
      simp only [SetTable.fits, Bool.and_eq_true, beq_iff_eq] at hf; rw [hf.1, hn]
    have hbl : es[SetTable.below t.place (if n = 0 then 0 else (t.place.getD 0 0 + 1))]? = none := by
      rcases (show n = 0 ∨ n = 1 by omega) with z | z
      · exact Array.getElem?_eq_none (by omega)
      · rw [if_neg (by omega)]
        have : SetTable.below t.place (t.place.getD 0 0 + 1) = 1 := by
          unfold SetTable.below; rw [hps, z]; unfold SetTable.below.go; simp [SetTable.below.go, Array.getD, hps, z]
        rw [this]; exact Array.getElem?_eq_none (by omega)
    refine next_go x y hf hn ?_
    have e0 : (if n = 0 then (0 : Int) else (t.place.getD 0 0 + 1 : Nat)) = ((if n = 0 then 0 else (t.place.getD 0 0 + 1) : Nat) : Int) := by split <;> rfl
    rw [e0]
    show wpAny _ _ (setNext a (((if n = 0 then 0 else (t.place.getD 0 0 + 1) : Nat) : Int)).toNat (n : Int).toNat (ep : Int).toNat >>= _) _ _ s
    rw [Int.toNat_natCast]
    unfold setNext setsByText
    refine wpAny_bind (wpAny_bind (wpAny_setState_of y rfl hf ?_))
    dsimp only
    refine wpAny_bind (wpAny_bind (wpAny_askSetting (wpAny_pure ?_)))
    dsimp only [model]
    rw [if_neg (show ¬ w.params.followText "set-order" = true by rw [show w.params.followText "set-order" = false from hby]; simp)]
    refine wpAny_ite_split (fun c => absurd (show (!t.plain && decide (es.size > 1)) = true from c) (by rw [hn]; simp; omega)) (fun _ => ?_)
    refine wpAny_bind ?_
    show wpAny _ _ (if (!t.led && !es.isEmpty) = true then unsupported "set:maker-not-led" else pure ()) _ _ _
    rw [if_neg (by rw [hled]; simp)]
    refine wpAny_pure ?_
    refine wpAny_pure ?_
    rw [hbl]
    show wpAny _ _ (setField (.ref I) 2 .none >>= _) _ _ s
    refine wpAny_bind (wpAny_setField x rfl (by simp) ?_)
    refine wpAny_mono (wp_stop hh fun h' k => hQ h' _ fun b ob hb e => k b ob ?_) (fun _ _ x => x.elim) fun _ _ x => x
    rw [Heap.get?_update_other _ _ (fun h => hb (by simp [h]))]; exact e
  self := fun i s Q E ⟨x, y⟩ hQ => by
    exact it_self x hQ
end
end LS

set_option Elab.async false
set_option linter.all false
set_option maxRecDepth 100000
set_option maxHeartbeats 4000000
namespace LS
open PySem PySem.Spec PyProof.Rows
theorem perm_of : ∀ (ks ys : List Str), ks.Nodup → ys.length = ks.length → (∀ k ∈ ks, k ∈ ys) → ys.Perm ks
  | [], ys, _, hl, _ => by rw [List.length_eq_zero_iff.mp hl]
  | k :: ks, ys, hn, hl, hs => by
    have hk : k ∈ ys := hs k (by simp)
    have p := List.perm_cons_erase hk
    rw [List.nodup_cons] at hn
    refine p.trans (.cons k (perm_of ks (ys.erase k) hn.2 (by rw [List.length_erase_of_mem hk, hl]; rfl) fun j hj => ?_))
    have hne : j ≠ k := fun e => hn.1 (e ▸ hj)
    exact (List.mem_erase_of_ne hne).mpr (hs j (List.mem_cons_of_mem _ hj))
theorem strs_of {prog : Program} {w : World} : ∀ (vs : List Value), (∀ v ∈ vs, ∃ k, (PySem.strKind prog w).is k v = true) → ∃ ys, StrsAre vs ys
  | [], _ => ⟨[], .nil⟩
  | v :: vs, h => by
    obtain ⟨k, hk⟩ := h v (by simp)
    obtain ⟨t, rfl⟩ := Value.isStrOf_shape hk
    obtain ⟨ys, hy⟩ := strs_of (prog := prog) (w := w) vs fun u hu => h u (List.mem_cons_of_mem _ hu)
    exact ⟨k :: ys, .cons k t hy⟩
theorem mem_strs : ∀ {vs : List Value} {ys : List Str}, StrsAre vs ys → ∀ {k : Str} {t : Tok}, Value.str k t ∈ vs → k ∈ ys
  | _, _, .cons y t r, k, u, h => by
    rcases List.mem_cons.mp h with e | e
    · cases e; simp
    · exact List.mem_cons_of_mem _ (mem_strs r e)
section
variable {prog : Program} {w : World} {A : Around} {E : Value → Shared → Prop} {s : Shared}
theorem vals_perm {ks : List Str} {es : Array (Int × Value)} (hel : ElemsOf (PySem.strKind prog w) es.toList) (hm : ∀ k, k ∈ ks ↔ ∃ e ∈ es.toList, (PySem.strKind prog w).is k e.2 = true) (hn : es.size = ks.length) (nd : ks.Nodup)
    {vs : List Value} (hp : vs.Perm (es.toList.map (·.2))) : ∃ ys, StrsAre vs ys ∧ ys.Perm ks := by
  obtain ⟨ys, hy⟩ := strs_of (prog := prog) (w := w) vs fun v hv => by
    obtain ⟨e, he, rfl⟩ := List.mem_map.mp (hp.mem_iff.mp hv)
    obtain ⟨k, h1, _⟩ := (hel e he).1
    exact ⟨k, h1⟩
  refine ⟨ys, hy, perm_of ks ys nd ?_ fun k hk => ?_⟩
  · rw [← hy.length, hp.length_eq, List.length_map, Array.length_toList, hn]
  · obtain ⟨e, he, hke⟩ := (hm k).mp hk
    obtain ⟨t, ht⟩ := Value.isStrOf_shape hke
    exact mem_strs hy (t := t) (hp.mem_iff.mpr (List.mem_map.mpr ⟨e, he, ht⟩))
theorem list_of_at {α : Type} {vs : List α} {n : Nat} {f : Nat → Option α} (hl : vs.length = n) (h : ∀ j v, vs[j]? = some v → f j = some v) (g : List α) (hg : g.length = n) (h2 : ∀ j, j < n → g[j]? = f j) : vs = g := by
  refine List.ext_getElem? fun j => ?_
  by_cases hj : j < n
  · have : vs[j]? = some (vs[j]'(by omega)) := List.getElem?_eq_getElem (by omega)
    rw [h2 j hj, h j _ this, this]
  · rw [List.getElem?_eq_none (by omega), List.getElem?_eq_none (by omega)]
theorem map_range_get (es : Array (Int × Value)) : (List.range es.size).map (fun p => ((es[p]?).map (·.2)).getD .none) = es.toList.map (·.2) := by
  refine List.ext_getElem (by simp) fun i h1 h2 => ?_
  simp at h1
  simp [h1]
theorem iter_set {a : Addr} {ks : List Str} (X : SetX prog w s.heap a ks) (nd : ks.Nodup) {Q : Value → Shared → Prop}
    (hQ : ∀ (I : Addr) (fp : List Addr) (Pv : Nat → Value → Prop) (St : Nat → Heap → Prop) (h' : Heap) (d' : Drawn), (∀ b o, s.heap.get? b = some o → h'.get? b = some o) → s.heap.objs.size ≤ I → (∀ b ∈ fp, b = a ∨ s.heap.objs.size ≤ b ∧ b < h'.objs.size) →
      (∀ A : Around, A.handled = none → Walks prog w A I fp [I] ks.length Pv St) → St 0 h' →
      (∀ vs : List Value, vs.length = ks.length → (∀ j v, vs[j]? = some v → Pv j v) → ∃ ys, StrsAre vs ys ∧ ys.Perm ks) → Q (.ref I) { s with heap := h', drawn := d' }) :
    wpAny (model prog w) A (pyIter (.ref a)) Q E s := by
  have hX := X
  obtain ⟨es, ep, t, ho, hel, hm, hb, hf, hn, hled, hpl⟩ := X
  have halt : a < s.heap.objs.size := Heap.lt_size ho
  refine wpAny_pyIter_slot hX.typeIs slot_set_iter (wpAny_call_entry slot_set_iter hX.typeIs entry_set_iter ?_ (args_set_iter _))
  show wpAny _ _ (Builtin.Frozenset.sizeOf a >>= _) _ _ s
  unfold Builtin.Frozenset.sizeOf setEntries
  refine wpAny_bind (wpAny_bind (wpAny_bind (wpAny_setState_of ho rfl hf (wpAny_pure (wpAny_pure ?_)))))
  dsimp only
  unfold setDrawn setsByText
  refine wpAny_bind (wpAny_bind (wpAny_setState_of ho rfl hf ?_))
  dsimp only
  refine wpAny_bind (wpAny_bind (wpAny_askSetting (wpAny_pure ?_)))
  dsimp only [model]
  refine wpAny_pure ?_
  show wpAny _ _ (if (!byT w && (!t.plain && decide (es.size > 1))) = true then _ else _) _ _ s
  have last : ∀ (first : Value) (s1 : Shared) (R : Value → Shared → Prop), s1.heap.get? a = some (setObj es ep t) → R (.ref s1.heap.objs.size) { s1 with heap := s1.heap.push (itObj first 0 a es.size ep) } →
      wpAny (model prog w) A.in1 (do ret (← newFields "set_iterator" [first, rawInt 0, .ref a, rawInt es.size, rawInt (← setEpoch a)])) (fun fin s' => ∃ v, fin = .done (.ret v) ∧ R v s') E s1 := by
    intro first s1 R h1 h2
    unfold setEpoch
    refine wpAny_bind (wpAny_bind (wpAny_setState_of h1 rfl hf (wpAny_pure ?_)))
    refine wpAny_bind (wpAny_newObj_type ?_)
    exact wpAny_pure ⟨_, rfl, h2⟩
  by_cases hd : (!byT w && (!t.plain && decide (es.size > 1))) = true
  · rw [if_pos hd]
    refine wpAny_bind (wp_drawOrder es.size (List.range es.size) s (by simp) fun ps d' hp => ?_)
    have hpl : ps.length = es.size := by rw [hp.length_eq]; simp
    refine wpAny_bind (wpAny_newTuple ?_ (by rw [List.length_map, hpl]; exact Nat.le_of_lt (Nat.lt_of_lt_of_le hb (by unfold scanBound; rw [sizeLine_eq]; decide))))
    have hp2 : ∀ p ∈ ps, p < es.size := fun p h => by simpa using hp.mem_iff.mp h
    refine wpAny_mono (last (.ref s.heap.objs.size) { s with heap := s.heap.push { cls := .type "tuple", data := .seq (ps.map fun (i : Nat) => rawInt i).toArray }, drawn := d' } (fun v s' => v = .ref (s.heap.objs.size + 1) ∧ s' = { s with heap := (s.heap.push { cls := .type "tuple", data := .seq (ps.map fun (i : Nat) => rawInt i).toArray }).push (itObj (.ref s.heap.objs.size) 0 a es.size ep), drawn := d' })
      (Heap.get?_push_of_some _ ho) ⟨by simp [Heap.size_push], rfl⟩) (fun fin s' x => ?_) fun _ _ x => x
    obtain ⟨v, rfl, rfl, rfl⟩ := x
    have hsz1 : (s.heap.push { cls := .type "tuple", data := .seq (ps.map fun (i : Nat) => rawInt i).toArray }).objs.size = s.heap.objs.size + 1 := Heap.size_push _ _
    have hI : ((s.heap.push { cls := .type "tuple", data := .seq (ps.map fun (i : Nat) => rawInt i).toArray }).push (itObj (.ref s.heap.objs.size) 0 a es.size ep)).get? (s.heap.objs.size + 1) = some (itObj (.ref s.heap.objs.size) 0 a es.size ep) := by
      rw [← hsz1]; exact Heap.get?_push_size _ rfl
    refine ⟨_, rfl, "set_iterator", _, ⟨_, hI, rfl⟩, slot_si_next.lookup, ?_⟩
    have hT : ((s.heap.push { cls := .type "tuple", data := .seq (ps.map fun (i : Nat) => rawInt i).toArray }).push (itObj (.ref s.heap.objs.size) 0 a es.size ep)).get? s.heap.objs.size = some { cls := .type "tuple", data := .seq (ps.map fun (i : Nat) => rawInt i).toArray } := Heap.get?_push_of_some _ (Heap.get?_push_size _ rfl)
    have W : ∀ A : Around, A.handled = none → Walks prog w A (s.heap.objs.size + 1) _ _ _ _ _ := fun A hh => walkB (I := s.heap.objs.size + 1) (a := a) (T := s.heap.objs.size) (ep := ep) ⟨Nat.ne_of_gt (Nat.lt_succ_of_lt halt), Nat.succ_ne_self _⟩ hf hn (hpl.trans hn) (fun p h => hn ▸ hp2 p h) hh
    rw [hn] at hI hT ⊢
    refine hQ (s.heap.objs.size + 1) [s.heap.objs.size + 1, a, s.heap.objs.size] _ _ _ d' (fun b o e => Heap.get?_push_of_some _ (Heap.get?_push_of_some _ e)) (Nat.le_succ _) (fun b hb => ?_) W ⟨hI, Heap.get?_push_of_some _ (Heap.get?_push_of_some _ ho), _, _, hT, rfl⟩ fun vs hvl hv => ?_
    · simp only [List.mem_cons, List.not_mem_nil, or_false] at hb
      rw [Heap.size_push, Heap.size_push]
      rcases hb with rfl | rfl | rfl
      · exact .inr ⟨Nat.le_succ _, Nat.lt_succ_self _⟩
      · exact .inl rfl
      · exact .inr ⟨Nat.le_refl _, Nat.lt_succ_of_lt (Nat.lt_succ_self _)⟩
    · have e : vs = ps.map (fun p => ((es[p]?).map (·.2)).getD .none) := by
        refine list_of_at (f := fun j => (ps[j]?).map fun p => ((es[p]?).map (·.2)).getD .none) hvl (fun j v hj => ?_) _ (by rw [List.length_map, hpl, hn]) (fun j hj => by simp)
        obtain ⟨p, e, h1, h2, rfl⟩ := hv j v hj
        simp [h1, h2]
      refine vals_perm hel hm hn nd ?_
      rw [e, ← map_range_get]
      exact hp.map _
  · rw [if_neg hd]
    refine wpAny_bind (wpAny_pure ?_)
    refine wpAny_mono (last (rawInt 0) s (fun v s' => v = .ref s.heap.objs.size ∧ s' = { s with heap := s.heap.push (itObj (rawInt 0) 0 a es.size ep) }) ho ⟨rfl, rfl⟩) (fun fin s' x => ?_) fun _ _ x => x
    obtain ⟨v, rfl, rfl, rfl⟩ := x
    have hI : (s.heap.push (itObj (rawInt 0) 0 a es.size ep)).get? s.heap.objs.size = some (itObj (rawInt 0) 0 a es.size ep) := Heap.get?_push_size _ rfl
    refine ⟨_, rfl, "set_iterator", _, ⟨_, hI, rfl⟩, slot_si_next.lookup, ?_⟩
    have hfp : ∀ b ∈ [s.heap.objs.size, a], b = a ∨ s.heap.objs.size ≤ b ∧ b < (s.heap.push (itObj (rawInt 0) 0 a es.size ep)).objs.size := fun b hb => by
      simp only [List.mem_cons, List.not_mem_nil, or_false] at hb
      rw [Heap.size_push]
      rcases hb with rfl | rfl
      · exact .inr ⟨by omega, by omega⟩
      · exact .inl rfl
    cases hby : byT w with
    | true =>
      have W : ∀ A : Around, A.handled = none → Walks prog w A s.heap.objs.size _ _ _ _ _ := fun A hh => walkA (I := s.heap.objs.size) (a := a) (ep := ep) (Nat.ne_of_gt halt) hby hf hn hh
      rw [hn] at hI hfp ⊢
      refine hQ s.heap.objs.size [s.heap.objs.size, a] _ _ _ s.drawn (fun b o e => Heap.get?_push_of_some _ e) (Nat.le_refl _) hfp W ⟨hI, Heap.get?_push_of_some _ ho⟩ fun vs hvl hv => ?_
      have hsz : (pickOrder (w.params.setOrder a ep) es).size = es.size := by rw [← Array.length_toList, (pick_perm _ _).length_eq, Array.length_toList]
      have e : vs = (pickOrder (w.params.setOrder a ep) es).toList.map (·.2) := by
        refine list_of_at (f := fun j => ((pickOrder (w.params.setOrder a ep) es)[j]?).map (·.2)) hvl (fun j v hj => ?_) _ (by rw [List.length_map, Array.length_toList, hsz, hn]) (fun j hj => by simp)
        obtain ⟨e, h1, rfl⟩ := hv j v hj
        simp [h1]
      refine vals_perm hel hm hn nd ?_
      rw [e]
      exact (pick_perm _ _).map _
    | false =>
      have h1 : es.size ≤ 1 := by
        rw [hby] at hd
        simp only [Bool.not_false, Bool.true_and, Bool.and_eq_true, Bool.not_eq_true', decide_eq_true_eq, not_and] at hd
        by_cases z : es.size = 0
        · omega
        · have := hd (hpl z); omega
      have W : ∀ A : Around, A.handled = none → Walks prog w A s.heap.objs.size _ _ _ _ _ := fun A hh => walkC (I := s.heap.objs.size) (a := a) (ep := ep) (Nat.ne_of_gt halt) hby hf hn (hn ▸ h1) (by rw [hled, hby]; rfl) hh
      rw [hn] at hI hfp ⊢
      refine hQ s.heap.objs.size [s.heap.objs.size, a] _ _ _ s.drawn (fun b o e => Heap.get?_push_of_some _ e) (Nat.le_refl _) hfp W ⟨hI, Heap.get?_push_of_some _ ho⟩ fun vs hvl hv => ?_
      have e : vs = es.toList.map (·.2) := by
        refine list_of_at (f := fun j => (es[j]?).map (·.2)) hvl (fun j v hj => ?_) _ (by rw [List.length_map, Array.length_toList, hn]) (fun j hj => by simp)
        obtain ⟨e, h1, rfl⟩ := hv j v hj
        simp [h1]
      refine vals_perm hel hm hn nd ?_
      rw [e]
end
end LS

set_option Elab.async false
set_option linter.all false
set_option maxRecDepth 100000
set_option maxHeartbeats 4000000
namespace LS
open PySem PySem.Spec PyProof.Rows
section
variable {prog : Program} {w : World} {A : Around} {E : Value → Shared → Prop} {s : Shared}
theorem hint_set {r : Addr} {Q : Bool → Shared → Prop} (hT : s.TypeIs (.ref r) "set") (h : Q false s) : wpAny (model prog w) A (Builtin.List.listLengthHint (.ref r)) Q E s := by
  unfold Builtin.List.listLengthHint
  refine wpAny_bind (wpAny_specialOf hT PySem.F.slot_set_len.lookup ?_)
  generalize hid : ("set.__len__" : String) = id0
  wp_delta
  rw [show splitId id0 = some ("set", "__len__") from by subst hid; decide +kernel]
  subst hid
  refine wpAny_bind (wpAny_isInstance (T := "set") (b := true) hT (by rw [isSubtype_type]; kernel_rfl) ?_)
  refine wpAny_ite_split (fun hab => absurd hab (by decide)) (fun _ => ?_)
  refine wpAny_ite_split (fun _ => ?_) (fun hab => absurd (by decide +kernel) hab)
  refine wpAny_bind (wpAny_typeOf hT ?_)
  exact wpAny_pure h
def GG (s : Shared) (n : Nat) (Pv : Nat → Value → Prop) (d' : Drawn) (S : Addr) (q : Result) (s' : Shared) : Prop := ∃ (h3 : Heap) (tk : Nat) (acc' : Array Value) (c' : Nat), q = .ok (.ret (.ref S)) ∧ s' = { s with heap := h3, toks := tk, drawn := d' } ∧
      (∀ b o, s.heap.get? b = some o → h3.get? b = some o) ∧ h3.get? S = some { cls := .type "list", dict := none, data := .seq acc' c', slots := #[] } ∧ ItemsOf Pv acc' n
theorem extend_set {r S : Addr} {ks : List Str} {h0 : Heap} (hS : s.heap.objs.size = S) (hr : r < S) (hh : A.handled = none) (hn : ks.length ≤ sizeLine) (nd : ks.Nodup) (hk0 : ∀ b o, s.heap.get? b = some o → h0.get? b = some o)
    (hS₁ : h0.get? S = some { cls := .type "list", data := .seq #[] }) (hsz : h0.objs.size = S + 1) (X1 : SetX prog w h0 r ks) :
    wpAny (model prog w) A.in1 (Builtin.List.listExtendWith (.ref S) (.ref r) (.ref S))
      (fun fin s' => ∃ Pv d', (∀ vs : List Value, vs.length = ks.length → (∀ j v, vs[j]? = some v → Pv j v) → ∃ ys, StrsAre vs ys ∧ ys.Perm ks) ∧ match fin with | .done f => GG s ks.length Pv d' S (.ok f) s' | .again c' => c'.quiet = true ∧ codeAny (model prog w) A c' (GG s ks.length Pv d' S) s') (fun _ _ => False) { s with heap := h0 } := by
  have hSr : S ≠ r := Nat.ne_of_gt hr
  unfold Builtin.List.listExtendWith
  refine wpAny_bind (wpAny_typeOf (T := "set") (SetX.typeIs (s := { s with heap := h0 }) X1) ?_)
  have h1 : Builtin.List.listSameRef (.ref S) (.ref r) = false := by simp [Builtin.List.listSameRef, hSr]
  have h2 : (Value.type "set" == Value.type "list") = false := by decide
  have h3 : (Value.type "set" == Value.type "tuple") = false := by decide
  simp only [h1, h2, h3, Bool.or_false, Bool.false_eq_true, if_false]
  refine wpAny_bind (iter_set (s := { s with heap := h0 }) X1 nd fun I fp Pv St h' d' hk hI hfp W st hvs => ?_)
  have hI' : S + 1 ≤ I := by rw [← hsz]; exact hI
  have hSf : S ∉ fp := fun hm => by
    rcases hfp S hm with e | ⟨e, _⟩
    · exact hSr e
    · have e' : S + 1 ≤ S := by rw [← hsz]; exact e
      exact absurd e' (Nat.not_succ_le_self _)
  have hS₂ := hk S _ hS₁
  have key : ∀ (h2 : Heap) (c₁ tk : Nat), St 0 h2 → (∀ b o, b ≠ S → h'.get? b = some o → h2.get? b = some o) →
      h2.get? S = some { cls := .type "list", data := .seq #[] c₁ } → codeAny (model prog w) A (.builtin "list.extend.loop" ⟨[.ref S, .ref I, .ref S], []⟩) (GG s ks.length Pv d' S) { s with heap := h2, toks := tk, drawn := d' } := by
    intro h2 c₁ tk hst hk2 hS₁
    refine codeAny_extend_loopS (W A.in1 hh).toS hn S hSf _ ks.length 0 _ #[] c₁ rfl (Nat.zero_le _) hst hS₁ (ItemsOf.nil _) fun s' acc' c' hm hS' hacc => ?_
    refine ⟨s'.heap, s'.toks, acc', c', rfl, ?_, fun b o e => ?_, hS', hacc⟩
    · rw [Moved.eq_with hm]
    · have hlt : b < S := by rw [← hS]; exact Heap.lt_size e
      refine hm.heap b o (fun hmem => ?_) (hk2 b o (Nat.ne_of_lt hlt) (hk b o (hk0 b o e)))
      rcases List.mem_cons.mp hmem with e' | hmem
      · exact absurd e' (Nat.ne_of_lt hlt)
      · have := List.mem_singleton.mp hmem
        exact absurd this (Nat.ne_of_lt (Nat.lt_of_lt_of_le (Nat.lt_succ_of_lt hlt) hI'))
  refine wpAny_bind (wpAny_holding (hint_set (SetX.typeIs (s := { s with heap := h', drawn := d' }) (X1.at fun o e => hk _ _ e)) ?_))
  refine wpAny_ite_split (fun _ => ?_) (fun _ => wpAny_pure ⟨Pv, d', hvs, plainId_quiet PySem.F.plain_extend_loop _, key h' 0 s.toks st (fun b o _ e => e) hS₂⟩)
  refine wpAny_bind (wpAny_rule ?_)
  refine wpAny_bind ?_
  show wpAny _ _ (updateSeq S (·.push .none) >>= fun _ => updateSeq S (·.pop)) _ _ _
  refine wpAny_bind (wpAny_updateSeq hS₂ rfl ?_)
  have hS₃ := Heap.get?_update_self (Obj.mapSeq (·.push Value.none)) hS₂ rfl
  refine wpAny_updateSeq (hz := by seq_fits) hS₃ rfl ?_
  have hS₄ := Heap.get?_update_self (Obj.mapSeq (·.pop)) hS₃ rfl
  refine wpAny_pure ⟨Pv, d', hvs, plainId_quiet PySem.F.plain_extend_loop _, key _ _ s.toks ?_ (fun b o hb e => ?_) hS₄⟩
  · refine (W A hh).frame 0 _ _ st fun b hb o e => ?_
    have hbS : b ≠ S := fun h => hSf (h ▸ hb)
    exact (Heap.get?_update_other _ _ (Ne.symm hbS)).trans ((Heap.get?_update_other _ _ (Ne.symm hbS)).trans e)
  · exact (Heap.get?_update_other _ _ (Ne.symm hb)).trans ((Heap.get?_update_other _ _ (Ne.symm hb)).trans e)
theorem collect_set {r : Addr} {ks : List Str} (X : SetX prog w s.heap r ks) (nd : ks.Nodup) (hh : A.handled = none) {R : List Value → Shared → Prop}
    (h : ∀ (h' : Heap) (tk : Nat) (d' : Drawn) (vs : List Value) (ys : List Str), (∀ b o, s.heap.get? b = some o → h'.get? b = some o) → s.heap.objs.size ≤ h'.objs.size → StrsAre vs ys → ys.Perm ks → R vs { s with heap := h', toks := tk, drawn := d' }) :
    wpAny (model prog w) A (collect (.ref r)) R E s := by
  have hr : r < s.heap.objs.size := by obtain ⟨_, _, _, e, _⟩ := X; exact Heap.lt_size e
  have hn : ks.length ≤ sizeLine := by
    obtain ⟨es, _, _, _, _, _, hb, _, e, _⟩ := X
    rw [← e, sizeLine_eq]; unfold scanBound at hb; omega
  unfold collect
  refine wpAny_bind (wpAny_runValue (codeAny_builtin entry_proto_collect' ?_))
  rw [Around.under_plainId PySem.F.plain_proto_collect _]
  show wpAny _ A.in1 (newList [] >>= fun l => again (.builtin "list.__iadd__" ⟨[l, .ref r], []⟩)) _ _ s
  refine wpAny_bind (wpAny_newObj_type ?_)
  refine wpAny_pure ⟨plainId_quiet PySem.F.plain_list_iadd _, codeAny_builtin entry_list_iadd' ?_⟩
  rw [Around.under_plainId PySem.F.plain_list_iadd _]
  have hS₁ : (s.heap.push { cls := .type "list", data := .seq ([] : List Value).toArray }).get? s.heap.objs.size = some { cls := .type "list", data := .seq #[] } := Heap.get?_push_size _ rfl
  show wpAny _ A.in1 (Builtin.List.listExtendWith (.ref s.heap.objs.size) (.ref r) (.ref s.heap.objs.size)) _ _ _
  refine wpAny_mono (extend_set (A := A) (s := s) (h0 := s.heap.push { cls := .type "list", data := .seq ([] : List Value).toArray }) rfl hr hh hn nd (fun b o e => Heap.get?_push_of_some _ e) hS₁ (Heap.size_push _ _) (X.at fun o e => Heap.get?_push_of_some _ e)) (fun fin s' x => ?_) fun e s' x => x.elim
  obtain ⟨Pv, d', hvs, x⟩ := x
  cases fin with
  | done f =>
    obtain ⟨h3, tk, acc', c', e, rfl, hk3, hS3, hacc⟩ := x
    cases e
    show wpAny _ A (load s.heap.objs.size >>= _) _ _ _
    refine wpAny_bind (wpAny_load hS3 ?_)
    obtain ⟨ys, y1, y2⟩ := hvs acc'.toList (by rw [Array.length_toList]; exact hacc.1) fun j v e => hacc.2 j v (by rw [← Array.getElem?_toList]; exact e)
    exact wpAny_pure (h h3 tk d' _ ys hk3 (Nat.le_of_lt (Heap.lt_size hS3)) y1 y2)
  | again c₁ =>
    refine ⟨x.1, codeAny_mono x.2 fun q s₂ y => ?_⟩
    obtain ⟨h3, tk, acc', c', rfl, rfl, hk3, hS3, hacc⟩ := y
    show wpAny _ A (load s.heap.objs.size >>= _) _ _ _
    refine wpAny_bind (wpAny_load hS3 ?_)
    obtain ⟨ys, y1, y2⟩ := hvs acc'.toList (by rw [Array.length_toList]; exact hacc.1) fun j v e => hacc.2 j v (by rw [← Array.getElem?_toList]; exact e)
    exact wpAny_pure (h h3 tk d' _ ys hk3 (Nat.le_of_lt (Heap.lt_size hS3)) y1 y2)
end
end LS

set_option Elab.async false
set_option linter.all false
set_option maxRecDepth 100000
set_option maxHeartbeats 4000000
namespace LS
open PySem PySem.Spec PyProof.Rows
section
variable {prog : Program} {w : World} {A : Around} {E : Value → Shared → Prop} {s : Shared}
theorem sorted_shell {r : Addr} {Good : List Value → Prop} {Out : List Value → Prop} {Q : Value → Shared → Prop}
    (hc : ∀ (A : Around) (E : Value → Shared → Prop) (R : List Value → Shared → Prop), A.handled = none → (∀ h' tk d' vs, (∀ b o, s.heap.get? b = some o → h'.get? b = some o) → s.heap.objs.size ≤ h'.objs.size → Good vs → vs.length ≤ sizeLine → R vs { s with heap := h', toks := tk, drawn := d' }) → wpAny (model prog w) A (collect (.ref r)) R E s)
    (hs : ∀ (A : Around) (E : Value → Shared → Prop) (s2 : Shared) (vs : List Value) (a : Addr) (P : Fin → Shared → Prop), Good vs → (∀ b o, s.heap.get? b = some o → s2.heap.get? b = some o) → s.heap.objs.size ≤ a → s2.heap.get? a = some (seqObj "list" vs.toArray 0) →
      (∀ out : Array Value, Out out.toList → P (.done (.ret .none)) { s2 with heap := sortedHeap s2.heap a vs out }) → wpAny (model prog w) A (Builtin.«list.sort» ⟨[.ref a], []⟩) P E s2)
    (hh : A.handled = none)
    (hQ : ∀ h2 tk d' a (out : Array Value) e, (∀ b o, s.heap.get? b = some o → h2.get? b = some o) → s.heap.objs.size ≤ a → h2.get? a = some (seqObj "list" out e) → Out out.toList → Q (.ref a) { s with heap := h2, toks := tk, drawn := d' }) :
    wpAny (model prog w) A (call (.builtin "sorted") [.ref r]) Q E s := by
  refine Calls.call_function_entry kind_sorted plain_sorted entry_sorted (args_sorted1 _) ?_
  unfold Builtin.«sorted»
  refine wpAny_bind (m := checkCount "sorted" 1 1 _) (wpAny_pure ?_)
  refine wpAny_bind (hc A.in1 _ _ hh fun h' tk d' vs hk hle hg hL => ?_)
  refine wpAny_bind (wpAny_newList ?_ hL)
  have hoL : (h'.push (seqObj "list" vs.toArray 0)).get? h'.objs.size = some (seqObj "list" vs.toArray 0) := Heap.get?_push_size _ rfl
  show wpAny _ _ _ _ _ { s with heap := h'.push (seqObj "list" vs.toArray 0), toks := tk, drawn := d' }
  refine wpAny_bind (wpAny_holding (wpAny_call_entry slot_list_sort ⟨_, hoL, rfl⟩ entry_list_sort (hs _ _ { s with heap := h'.push (seqObj "list" vs.toArray 0), toks := tk, drawn := d' } vs _ _ hg (fun b o e => Heap.get?_push_of_some _ (hk b o e)) hle hoL fun out ho => ⟨_, rfl, ?_⟩) (args_list_sort _)))
  obtain ⟨e, he⟩ := sortedHeap_at (vs := vs) (out := out) hoL
  refine wpAny_pure ⟨_, rfl, hQ _ tk d' _ out e (fun b o q => ?_) hle he ho⟩
  have hlt : b < (h'.push (seqObj "list" vs.toArray 0)).objs.size := Heap.lt_size (Heap.get?_push_of_some (seqObj "list" vs.toArray 0) (hk b o q))
  rw [sortedHeap_old (Nat.ne_of_lt (Heap.lt_size (hk b o q))) hlt]
  exact Heap.get?_push_of_some _ (hk b o q)
/-- a list or a tuple -/
theorem collect_seq {l : Addr} {o : Obj} {T : String} {vs : List Value} {n : Nat} {Q : List Value → Shared → Prop} (ho : s.heap.get? l = some o) (hc : o.cls = .type T) (hT : T = "list" ∨ T = "tuple") (hd : o.data = .seq vs.toArray n)
    (h : ∀ h', (∀ b o, s.heap.get? b = some o → h'.get? b = some o) → s.heap.objs.size ≤ h'.objs.size → Q vs { s with heap := h' }) (hsz : vs.length ≤ sizeLine) :
    wpAny (model prog w) A (collect (.ref l)) Q E s := by
  unfold collect
  refine wpAny_bind (wpAny_runValue (codeAny_builtin entry_proto_collect' ?_))
  show wpAny _ _ (do again (.builtin "list.__iadd__" ⟨[← newList [], .ref l], []⟩)) _ _ s
  refine wpAny_bind (wpAny_newList (wpAny_pure ⟨Code.quiet_builtin _ (by decide +kernel), codeAny_builtin entry_list_iadd' ?_⟩))
  show wpAny _ _ (Builtin.List.listExtendWith (.ref s.heap.objs.size) (.ref l) (.ref s.heap.objs.size)) _ _ { s with heap := s.heap.push (seqObj "list" #[] 0) }
  unfold Builtin.List.listExtendWith
  have ho' : (s.heap.push (seqObj "list" #[] 0)).get? l = some o := Heap.get?_push_of_some _ ho
  refine wpAny_bind (wpAny_typeOf (T := T) ⟨o, ho', hc⟩ ?_)
  rw [if_pos (by rcases hT with rfl | rfl <;> simp)]
  refine wpAny_bind (listItems_at ho' hd ?_)
  refine wpAny_bind (listItems_at (xs := #[]) (n := 0) (Heap.get?_push_size _ rfl) rfl ?_)
  rw [if_neg (by simp)]
  refine wpAny_bind (listUpdate_at (xs := #[]) (n := 0) (Heap.get?_push_size _ rfl) rfl ?_ (Nat.zero_le _) (by show (#[] ++ vs.toArray).size ≤ sizeLine + 1; simp only [Array.size_append, List.size_toArray, List.length_nil]; omega))
  refine wpAny_pure ?_
  show wpAny (model prog w) A (do
      let o ← load s.heap.objs.size
      match o.data with
      | .seq xs _ => pure xs.toList
      | _ => unsupported "internal:collect") Q E { s with heap := (s.heap.push (seqObj "list" #[] 0)).update s.heap.objs.size (Obj.mapSeq (· ++ vs.toArray)) }
  refine wpAny_bind (wpAny_load (get?_update_seq (Heap.get?_push_size _ rfl) _) ?_)
  show wpAny _ _ (pure ((#[] : Array Value) ++ vs.toArray).toList) Q E _
  rw [show ((#[] : Array Value) ++ vs.toArray).toList = vs by simp]
  refine wpAny_pure (h _ (fun b ob e => ?_) ?_)
  · rw [Heap.get?_update_ne _ _ _ _ (Nat.ne_of_lt (Heap.lt_size e))]; exact Heap.get?_push_of_some _ e
  · rw [Heap.size_update, Heap.size_push]; exact Nat.le_succ _
end
end LS

set_option Elab.async false
set_option linter.all false
set_option maxRecDepth 100000
set_option maxHeartbeats 4000000
/-! sorted(..) of tuples that begin with texts, told apart by these -/
namespace LS
open PySem PySem.W PySem.Spec PyProof.Rows
abbrev IK := Int ⊕ List Nat
def kkey (ks : List Str) : List IK := ks.map fun k => Sum.inr k.cps.toList
def slt (a b : List Str) : Bool := lexLt itemOrd (kkey a) (kkey b)
abbrev Row := List Str × Addr
def Lead (h : Heap) (p : Row) : Prop := ∃ o its n ss r, h.get? p.2 = some o ∧ o.cls = .type "tuple" ∧ o.data = .seq its n ∧ its.toList = ss ++ r ∧ StrsAre ss p.1
theorem Lead.keep {h h' : Heap} {p : Row} (k : ∀ b o, h.get? b = some o → o.cls = .type "tuple" → h'.get? b = some o) (x : Lead h p) : Lead h' p := by
  obtain ⟨o, its, n, ss, r, e, c, z⟩ := x
  exact ⟨o, its, n, ss, r, k _ _ e c, c, z⟩
theorem strs_uniq : ∀ {vs : List Value} {a b : List Str}, StrsAre vs a → StrsAre vs b → a = b
  | _, _, _, .nil, .nil => rfl
  | _, _, _, .cons y t r, .cons _ _ q => by rw [strs_uniq r q]
theorem Lead.uniq {h : Heap} {p q : Row} (x : Lead h p) (y : Lead h q) (e : p.2 = q.2) (l : p.1.length = q.1.length) : p.1 = q.1 := by
  obtain ⟨o, its, n, ss, r, e1, c, d, z, s1⟩ := x
  obtain ⟨o', its', n', ss', r', e1', c', d', z', s1'⟩ := y
  rw [e, e1'] at e1
  cases e1
  rw [d'] at d
  cases d
  have hl : ss.length = ss'.length := by rw [s1.length, s1'.length, l]
  have := List.append_inj_left (z.symm.trans z') hl
  subst this
  exact strs_uniq s1 s1'
section
variable {prog : Program} {w : World} {A : Around} {E : Value → Shared → Prop} {s : Shared} {Q : Bool → Shared → Prop} {b : Bool}
end
section
variable {prog : Program} {w : World} {A : Around} {E : Value → Shared → Prop} {s : Shared}
end
theorem map_perm_inv {α β : Type} (f : α → β) : ∀ {l m : List β}, l.Perm m → ∀ ps : List α, m = ps.map f → ∃ qs : List α, qs.Perm ps ∧ l = qs.map f := by
  intro l m h
  induction h with
  | nil => intro ps e; exact ⟨[], by rw [List.map_eq_nil_iff.mp e.symm], rfl⟩
  | cons x _ ih =>
    intro ps e
    match ps, e with
    | p :: ps, e =>
      simp only [List.map_cons, List.cons.injEq] at e
      obtain ⟨qs, h1, h2⟩ := ih ps e.2
      exact ⟨p :: qs, .cons p h1, by rw [List.map_cons, ← e.1, h2]⟩
  | swap x y l =>
    intro ps e
    match ps, e with
    | p :: q :: ps, e =>
      simp only [List.map_cons, List.cons.injEq] at e
      exact ⟨q :: p :: ps, .swap _ _ _, by rw [List.map_cons, List.map_cons, ← e.1, ← e.2.1, ← e.2.2]⟩
  | trans _ _ ih1 ih2 =>
    intro ps e
    obtain ⟨qs, h1, h2⟩ := ih2 ps e
    obtain ⟨rs, h3, h4⟩ := ih1 qs h2
    exact ⟨rs, h3.trans h1, h4⟩
abbrev Rise (qs : List (List Str)) : Prop := qs.Pairwise fun a b => slt b a = false
section
variable {prog : Program} {w : World} {A : Around} {E : Value → Shared → Prop} {s : Shared}
end
end LS

set_option Elab.async false
set_option linter.all false
set_option maxRecDepth 100000
set_option maxHeartbeats 4000000
/-! zip(tuple, tuple): the rules for lists, turned to tuples -/
namespace ZT
open PySem PyProof.Rows
section
variable {prog : Program} {w : World} {A : Around} {E : Value → Shared → Prop} {s : Shared}
theorem nextT_item {it l : Addr} {i : Nat} {items} {x : Value} {Q : Value → Shared → Prop} (hit : s.heap.IsTupleIter it l i)
    (hl : s.heap.IsTuple l items) (hx : items[i]? = some x)
    (hQ : ∀ h', h'.IsTupleIter it l (i + 1) → Heap.SameBut it s.heap h' → Q x { s with heap := h' }) :
    wpAny (model prog w) A (Builtin.SmallTypes.nextOf (.ref it)) Q E s := by
  obtain ⟨o, ho, hc, hd⟩ := id hit
  obtain ⟨ol, hol, _, nl, hdl⟩ := hl
  unfold Builtin.SmallTypes.nextOf
  refine wpAny_bind (wpAny_callSpecial?_slot (name := Str.ofString "__next__") hit.typeIs F.slot_tuple_iterator_next
    (wpAny_call_entry F.slot_tuple_iterator_next hit.typeIs F.entry_tuple_iterator_next ?_ (F.args_tuple_iterator_next_1 _)))
  show wpAny _ _ (field (.ref it) 0 >>= _) _ _ s
  refine wpAny_bind (wpAny_field ho hd (x := .ref l) rfl ?_)
  show wpAny _ _ (if (Value.ref l == Value.none) = true then _ else _) _ _ s
  rw [if_neg (show ¬ ((Value.ref l == Value.none) = true) from Bool.false_ne_true)]
  show wpAny _ _ (field (.ref it) 1 >>= _) _ _ s
  refine wpAny_bind (wpAny_field ho hd (x := .int i 0) rfl ?_)
  show wpAny _ _ (seqItems? (.ref l) >>= _) _ _ s
  refine wpAny_bind (wpAny_seqItems hol hdl ?_)
  simp only [Int.toNat_natCast, hx]
  refine wpAny_bind (wpAny_setField ho hd (by simp) (wpAny_pure ⟨x, rfl, wpAny_pure (hQ _ ?_ (Heap.SameBut.update ..))⟩))
  exact ⟨_, Heap.get?_update_self _ ho (Obj.isFreed_of_fields (Obj.data_mapFields hd _)), (Obj.cls_mapFields ..).trans hc, by
    rw [Obj.data_mapFields hd]; simp [rawInt]⟩
theorem nextT_end {it l : Addr} {i : Nat} {items} {Q : Value → Shared → Prop} (hh : A.handled = none)
    (hit : s.heap.IsTupleIter it l i) (hl : s.heap.IsTuple l items) (hx : items[i]? = none)
    (hE : ∀ h' e, Heap.ExtBut it s.heap h' → (∃ o, h'.get? e = some o ∧ o.cls = .type "StopIteration") → E (.ref e) { s with heap := h' }) :
    wpAny (model prog w) A (Builtin.SmallTypes.nextOf (.ref it)) Q E s := by
  obtain ⟨o, ho, hc, hd⟩ := id hit
  obtain ⟨ol, hol, _, nl, hdl⟩ := hl
  unfold Builtin.SmallTypes.nextOf
  refine wpAny_bind (wpAny_callSpecial?_slot (name := Str.ofString "__next__") hit.typeIs F.slot_tuple_iterator_next
    (wpAny_call_entry F.slot_tuple_iterator_next hit.typeIs F.entry_tuple_iterator_next ?_ (F.args_tuple_iterator_next_1 _)))
  show wpAny _ _ (field (.ref it) 0 >>= _) _ _ s
  refine wpAny_bind (wpAny_field ho hd (x := .ref l) rfl ?_)
  show wpAny _ _ (if (Value.ref l == Value.none) = true then _ else _) _ _ s
  rw [if_neg (show ¬ ((Value.ref l == Value.none) = true) from Bool.false_ne_true)]
  show wpAny _ _ (field (.ref it) 1 >>= _) _ _ s
  refine wpAny_bind (wpAny_field ho hd (x := .int i 0) rfl ?_)
  show wpAny _ _ (seqItems? (.ref l) >>= _) _ _ s
  refine wpAny_bind (wpAny_seqItems hol hdl ?_)
  simp only [Int.toNat_natCast, hx]
  refine wpAny_bind (wpAny_rule (wpAny_bind (wpAny_setField ho hd (by simp) ?_)))
  show wpAny _ _ (newExc (.type "StopIteration") [] >>= _) _ _ _
  refine wpAny_bind ?_
  simp only [newExc, newTuple]
  refine wpAny_bind (wpAny_newObj_type ?_ (by size_fits))
  refine wpAny_bind (m := firstArgMember _ _) (wpAny_of_eq (a := Value.none) (by first | rfl | (simp only [firstArgMember]; rfl)) ?_)
  refine wpAny_newObj_type ?_ (by size_fits)
  simp only [raiseNew]
  refine wpAny_bind (wpAny_handled ?_)
  first | rw [show A.in1.handled = none from hh] | rw [hh]
  refine wpAny_bind (wpAny_pure (wpAny_throw ?_))
  exact hE _ _ (((Heap.SameBut.update ..).extBut.push _).push _) ⟨_, Heap.get?_push_size _ rfl, rfl⟩
end
section
variable {prog : Program} {w : World} {A : Around} {E : Value → Shared → Prop} {s : Shared}
end
end ZT
namespace L2
open PySem PySem.Spec PyProof.Rows ZT
end L2

/-! rules beside the layer: enumerate over a tuple, isinstance with a tuple of classes, xs[::-1] of lists and tuples -/
namespace ZT
open PySem PyProof.Rows
open AutoSeq1 (wpAny_loadPart')
section
variable {prog : Program} {w : World} {A : Around} {E : Value → Shared → Prop} {s : Shared}
theorem enumT_next_item {e it l : Addr} {i : Nat} {items : Array Value} {x old : Value} {Q : Value → Shared → Prop}
    (he : IsEnum s.heap e it i old) (hit : s.heap.IsTupleIter it l i) (hl : s.heap.IsTuple l items) (hx : items[i]? = some x) (hne : e ≠ it)
    (hQ : ∀ h', IsEnumOut h' e it ((i : Int) + 1) x s.heap.objs.size → h'.IsTupleIter it l (i + 1) →
      h'.get? s.heap.objs.size = some { cls := .type "tuple", data := .seq #[.int i s.toks, x] } → h'.objs.size = s.heap.objs.size + 1 →
      (∀ b o, b ≠ e → b ≠ it → s.heap.get? b = some o → h'.get? b = some o) → Q (.ref s.heap.objs.size) { s with heap := h', toks := s.toks + 1 }) :
    wpAny (model prog w) A (Builtin.«enumerate.__next__» ⟨[.ref e], []⟩) (fun fin s' => ∃ v, fin = .done (.ret v) ∧ Q v s') E s := by
  obtain ⟨hp, g, d, tk, os⟩ := s
  show wpAny _ _ (field (.ref e) 2 >>= _) _ _ _
  refine wpAny_bind (wpAny_field he rfl (x := .ref it) rfl ?_)
  refine wpAny_bind (nextT_item hit hl hx fun h₁ hit₁ hs₁ => ?_)
  replace hs₁ : Heap.SameBut it hp h₁ := hs₁
  have he₁ : IsEnum h₁ e it i old := (hs₁.2 e hne).trans he
  show wpAny _ _ (field (.ref e) 3 >>= _) _ _ ⟨h₁, g, d, tk, os⟩
  refine wpAny_bind (wpAny_field he₁ rfl (x := rawInt i) rfl ?_)
  show wpAny _ _ (field (.ref e) 4 >>= _) _ _ ⟨h₁, g, d, tk, os⟩
  refine wpAny_bind (wpAny_field he₁ rfl (x := .none) rfl ?_)
  show wpAny _ _ (mkInt i >>= _) _ _ ⟨h₁, g, d, tk, os⟩
  refine wpAny_bind (wpAny_mkInt ?_)
  show wpAny _ _ (setField (.ref e) 3 (rawInt ((i : Int) + 1)) >>= _) _ _ ⟨h₁, g, d, tk + 1, os⟩
  refine wpAny_bind (wpAny_setField_rec he₁ (by simp) fun h₂ he₂ hs₂ => ?_)
  replace hs₂ : Heap.SameBut e h₁ h₂ := hs₂
  replace he₂ : IsEnum h₂ e it ((i : Int) + 1) old := he₂
  show wpAny _ _ (setField (.ref e) 4 .none >>= _) _ _ ⟨h₂, g, d, tk + 1, os⟩
  refine wpAny_bind (wpAny_setField_rec he₂ (by simp) fun h₃ he₃ hs₃ => ?_)
  replace hs₃ : Heap.SameBut e h₂ h₃ := hs₃
  replace he₃ : IsEnum h₃ e it ((i : Int) + 1) old := he₃
  show wpAny _ _ (newTuple [.int i tk, x] >>= _) _ _ ⟨h₃, g, d, tk + 1, os⟩
  refine wpAny_bind (wpAny_newTuple ?_)
  have he₄ : IsEnum (h₃.push { cls := .type "tuple", data := .seq #[.int i tk, x] }) e it ((i : Int) + 1) old := Heap.get?_push_of_some _ he₃
  generalize hh₄ : h₃.push { cls := .type "tuple", data := .seq #[.int i tk, x] } = h₄ at he₄
  have hsz : h₃.objs.size = hp.objs.size := by rw [hs₃.1, hs₂.1, hs₁.1]
  have hel : e < hp.objs.size := Heap.lt_size he
  have ht₄ : h₄.get? hp.objs.size = some { cls := .type "tuple", data := .seq #[.int i tk, x] } := by rw [← hh₄, ← hsz]; exact Heap.get?_push_size _ rfl
  have hz₄ : h₄.objs.size = hp.objs.size + 1 := by rw [← hh₄, Heap.size_push, hsz]
  have hk₄ : ∀ b o, b ≠ e → b ≠ it → hp.get? b = some o → h₄.get? b = some o := fun b o hbe hbi hb => by
    rw [← hh₄]; exact Heap.get?_push_of_some _ (hs₃.extBut b o hbe (hs₂.extBut b o hbe (hs₁.extBut b o hbi hb)))
  have hit₄ : h₄.IsTupleIter it l (i + 1) := by
    rw [← hh₄]; obtain ⟨o, ho, r⟩ := (hit₁.extBut hs₂.extBut (Ne.symm hne)).extBut hs₃.extBut (Ne.symm hne); exact ⟨o, Heap.get?_push_of_some _ ho, r⟩
  show wpAny _ _ (Builtin.SmallTypes.ownedTupleIsFree (.ref e) >>= _) _ _ ⟨h₄, g, d, tk + 1, os⟩
  rw [hsz]
  clear hh₄ he₃ hs₃ he₂ hs₂ he₁ hs₁ hit₁ hsz h₃ h₂ h₁
  refine wpAny_bind ?_
  · unfold Builtin.SmallTypes.ownedTupleIsFree
    refine wpAny_bind (wpAny_field he₄ rfl (x := .none) rfl (wpAny_pure ?_))
    simp only [if_true]
    refine wpAny_bind (wpAny_rule ?_)
    refine wpAny_bind (wpAny_field he₄ rfl (x := old) rfl ?_)
    refine wpAny_bind (wpAny_setField_rec he₄ (by simp) fun h₅ he₅ hs₅ => ?_)
    replace hs₅ : Heap.SameBut e h₄ h₅ := hs₅
    replace he₅ : IsEnum h₅ e it ((i : Int) + 1) x := he₅
    show wpAny _ _ (Builtin.SmallTypes.ownedTupleHandOut (.ref e) (.ref hp.objs.size) >>= _) _ _ ⟨h₅, g, d, tk + 1, os⟩
    refine wpAny_bind ?_
    · unfold Builtin.SmallTypes.ownedTupleHandOut
      refine wpAny_bind (wpAny_setField_rec he₅ (by simp) fun h₆ he₆ hs₆ => ?_)
      replace hs₆ : Heap.SameBut e h₅ h₆ := hs₆
      replace he₆ : IsEnumOut h₆ e it ((i : Int) + 1) x hp.objs.size := he₆
      refine wpAny_setField_rec he₆ (by simp) fun h₇ he₇ hs₇ => ?_
      replace hs₇ : Heap.SameBut e h₆ h₇ := hs₇
      replace he₇ : IsEnumOut h₇ e it ((i : Int) + 1) x hp.objs.size := he₇
      refine wpAny_bind (wpAny_letGo (wpAny_pure ⟨_, rfl, hQ h₇ he₇ ?_ ?_ ?_ ?_⟩))
      · exact ((hit₄.extBut hs₅.extBut (Ne.symm hne)).extBut hs₆.extBut (Ne.symm hne)).extBut hs₇.extBut (Ne.symm hne)
      · exact hs₇.extBut _ _ (Nat.ne_of_gt hel) (hs₆.extBut _ _ (Nat.ne_of_gt hel) (hs₅.extBut _ _ (Nat.ne_of_gt hel) ht₄))
      · rw [hs₇.1, hs₆.1, hs₅.1, hz₄]
      · exact fun b o hbe hbi hb => hs₇.extBut b o hbe (hs₆.extBut b o hbe (hs₅.extBut b o hbe (hk₄ b o hbe hbi hb)))
theorem pyNext_enumT_item {e it l : Addr} {i : Nat} {items : Array Value} {x old : Value} {Q : Option Value → Shared → Prop}
    (he : IsEnum s.heap e it i old) (hit : s.heap.IsTupleIter it l i) (hl : s.heap.IsTuple l items) (hx : items[i]? = some x) (hne : e ≠ it)
    (hQ : ∀ h', IsEnumOut h' e it ((i : Int) + 1) x s.heap.objs.size → h'.IsTupleIter it l (i + 1) →
      h'.get? s.heap.objs.size = some { cls := .type "tuple", data := .seq #[.int i s.toks, x] } → h'.objs.size = s.heap.objs.size + 1 →
      (∀ b o, b ≠ e → b ≠ it → s.heap.get? b = some o → h'.get? b = some o) → Q (some (.ref s.heap.objs.size)) { s with heap := h', toks := s.toks + 1 }) :
    wpAny (model prog w) A (pyNext (.ref e)) Q E s := by
  have hT : s.TypeIs (.ref e) "enumerate" := ⟨_, he, rfl⟩
  unfold pyNext
  exact wpAny_bind (wpAny_attempt (wpAny_callSpecial?_slot (name := Str.ofString "__next__") hT F.slot_enumerate_next
    (wpAny_call_entry F.slot_enumerate_next hT F.entry_enumerate_next
      (enumT_next_item he hit hl hx hne fun h' a b c d k => wpAny_pure (hQ h' a b c d k)) (F.args_enumerate_next_1 _))))
theorem pyNext_enumT_end {e it l : Addr} {i : Nat} {items : Array Value} {old : Value} {Q : Option Value → Shared → Prop} (hh : A.handled = none)
    (he : IsEnum s.heap e it i old) (hit : s.heap.IsTupleIter it l i) (hl : s.heap.IsTuple l items) (hx : items[i]? = none)
    (hQ : ∀ h', Heap.ExtBut it s.heap h' → Q none { s with heap := h' }) : wpAny (model prog w) A (pyNext (.ref e)) Q E s := by
  have hT : s.TypeIs (.ref e) "enumerate" := ⟨_, he, rfl⟩
  unfold pyNext
  refine wpAny_bind (wpAny_attempt (wpAny_callSpecial?_slot (name := Str.ofString "__next__") hT F.slot_enumerate_next
    (wpAny_call_entry F.slot_enumerate_next hT F.entry_enumerate_next ?_ (F.args_enumerate_next_1 _))))
  show wpAny _ _ (field (.ref e) 2 >>= _) _ _ _
  refine wpAny_bind (wpAny_field he rfl (x := .ref it) rfl ?_)
  refine wpAny_bind (nextT_end hh hit hl hx fun h' x he' hx' => ?_)
  obtain ⟨o, ho, hc⟩ := hx'
  refine wpAny_bind (wpAny_isInstance (T := "StopIteration") (b := true) ⟨o, ho, hc⟩ isSubtype_stop ?_)
  exact wpAny_pure (hQ _ he')
end
theorem meets_enumerateT_new (l : Addr) (items : Array Value) (n : Nat) (dct : Option Addr) (sl : Array (Option Value)) :
    Meets (Builtin.«enumerate.__new__» ⟨[.type "enumerate", .ref l], []⟩) (fun _ R s => s.heap.get? l = some { cls := .type "tuple", dict := dct, data := .seq items n, slots := sl } ∧
      R (.ok (.ret (.ref (s.heap.push { cls := .type "tuple_iterator", data := .fields #[.ref l, .int 0 0] }).objs.size)))
        { s with heap := (s.heap.push { cls := .type "tuple_iterator", data := .fields #[.ref l, .int 0 0] }).push { cls := .type "enumerate", data := .fields #[.none, .bool false, .ref s.heap.objs.size, rawInt 0, .none, .none] } }) :=
  .of_wp fun prog w A R s h => by
    obtain ⟨hp, g, d, tk, os⟩ := s; obtain ⟨hl, h⟩ := h
    have hsub := sub_enumerate
    have hL : Heap.IsTuple (Shared.heap ⟨hp, g, d, tk, os⟩) l items := ⟨_, hl, rfl, n, rfl⟩
    wp_walk using wpAny_loadPart' hl
    refine wpAny_stack_any fun st => wpAny_pure ?_
    split
    · rename_i c _ _ _ _ _
      cases (c == Value.type "enumerate")
      · wp_walk using wpAny_loadPart' hl, wpAny_pyIter_tuple hL
        exact ⟨_, rfl, h⟩
      · wp_walk using wpAny_loadPart' hl, wpAny_pyIter_tuple hL
        exact ⟨_, rfl, h⟩
    · wp_walk using wpAny_loadPart' hl, wpAny_pyIter_tuple hL
      exact ⟨_, rfl, h⟩
section
variable {prog : Program} {w : World} {A : Around} {E : Value → Shared → Prop} {s : Shared}
theorem call_enumerateT {l : Addr} {items : Array Value} {Q : Value → Shared → Prop} (hL : s.heap.IsTuple l items)
    (h : ∀ h', IsEnum h' (s.heap.objs.size + 1) s.heap.objs.size 0 .none → h'.IsTupleIter s.heap.objs.size l 0 → h'.objs.size = s.heap.objs.size + 2 →
      (∀ b o, s.heap.get? b = some o → h'.get? b = some o) → Q (.ref (s.heap.objs.size + 1)) { s with heap := h' }) :
    wpAny (model prog w) A (call (.type "enumerate") [.ref l]) Q E s := by
  obtain ⟨⟨c, dct, dt, sl⟩, hl, hc, n, hd⟩ := hL
  replace hc : c = .type "tuple" := hc
  replace hd : dt = .seq items n := hd
  subst hc hd
  refine callType_new F.called_enumerate (by decide) (F.typeCall_enumerate_1 _) (F.newCall_enumerate_1 _) (fun obj => F.args_object_init_2 obj _) F.entry_enumerate_new
    (meets_enumerateT_new l items n dct sl) ⟨hl, ?_⟩
  have hz : (s.heap.push { cls := .type "tuple_iterator", data := .fields #[.ref l, .int 0 0] }).objs.size = s.heap.objs.size + 1 := Heap.size_push ..
  show _ ∧ _
  rw [hz]
  have he : IsEnum ((s.heap.push { cls := .type "tuple_iterator", data := .fields #[.ref l, .int 0 0] }).push
      { cls := .type "enumerate", data := .fields #[.none, .bool false, .ref s.heap.objs.size, rawInt 0, .none, .none] }) (s.heap.objs.size + 1) s.heap.objs.size 0 .none := by
    have := Heap.get?_push_size (s.heap.push { cls := .type "tuple_iterator", data := .fields #[.ref l, .int 0 0] })
      (o := { cls := .type "enumerate", data := .fields #[.none, .bool false, .ref s.heap.objs.size, rawInt 0, .none, .none] }) rfl
    rw [hz] at this; exact this
  refine ⟨⟨_, he, rfl⟩, h _ he ⟨_, Heap.get?_push_of_some _ (Heap.get?_push_size _ rfl), rfl, rfl⟩ (by rw [Heap.size_push, hz]) fun b o x => Heap.get?_push_of_some _ (Heap.get?_push_of_some _ x)⟩
end
end ZT
namespace L2
open PySem PySem.Spec PyProof.Rows ZT
def Itet (K : PySem.W.Frag) (a : Addr) : It :=
  ⟨fun i H => ∃ (xs : List V) (x : V), SqT K H a xs ∧ xs[i]? = some x, fun i H v H' => ∃ T x, v = .ref T ∧ H T = none ∧ H' = upd H T (.tup [.int (i : Nat), x]) ∧ ∀ xs, SqT K H a xs → xs[i]? = some x, fun i H => ∃ xs : List V, SqT K H a xs ∧ xs.length ≤ i⟩
theorem turn_enumT {P : Program} {w : World} {K : PySem.W.Frag} {elts : List Expr} {kk : Nat} {tpos : Pos} (a e it : Addr) :
    Turn P w K (.Tuple elts kk tpos) (Itet K a) [e, it] e (fun i h => (∃ old, IsEnum h e it ((i : Nat) : Int) old) ∧ h.IsTupleIter it a i ∧ e ≠ it) where
  mem := by simp
  obj := fun i h st b hb => by
    obtain ⟨⟨old, he⟩, ⟨o, ho, hc, hd⟩, _⟩ := st
    have e' : b = e ∨ b = it := by simpa using hb
    rcases e' with z | z
    · rw [z]; exact ⟨_, he, fun v q => nomatch q⟩
    · rw [z]; exact ⟨o, ho, fun v q => by rw [hd] at q; cases q⟩
  keep := fun i h h' st k => let ⟨⟨old, he⟩, hi, hne⟩ := st; ⟨⟨old, k e (by simp) _ he⟩, hi.at fun o q => k it (by simp) o q, hne⟩
  item := by
    intro X hP hw hK hc i pins s σ H E I hf st hg
    subst hP hw hK
    obtain ⟨⟨old, he⟩, hit, hne⟩ := st
    obtain ⟨xs, x, hq, hx⟩ := hg
    obtain ⟨its, rv, p, hz⟩ := I.tuple hq
    obtain ⟨u, hu, ru⟩ := rv.get hx
    have hel : e < s.heap.objs.size := Heap.lt_size he
    have hil : it < s.heap.objs.size := by obtain ⟨_, q, _⟩ := hit; exact Heap.lt_size q
    refine pyNext_enumT_item he hit (show s.heap.IsTuple a its.toArray from p) (x := u) (by simpa using hu) hne fun h' ho hit' hT hsz hk => ?_
    refine ⟨_, rfl, wpAny_letOwnedTupleGo_enum (s := { s with heap := h', toks := s.toks + 1 }) ho fun h'' he' sb => ?_⟩
    have hT2 : h''.get? s.heap.objs.size = some { cls := .type "tuple", data := .seq #[.int i s.toks, u] } := (sb.2 _ (Nat.ne_of_gt hel)).trans hT
    have new : ObjOk X.prog X.w (upd H s.heap.objs.size (.tup [.int (i : Nat), x])) h'' s.heap.objs.size (.tup [.int (i : Nat), x]) :=
      ⟨by show 2 ≤ sizeLine; decide, [.int i s.toks, u], .cons ⟨_, rfl⟩ (.cons ru .nil), ⟨_, hT2, rfl, _, rfl⟩⟩
    have I1 : Inv X pins σ (upd H s.heap.objs.size (.tup [.int (i : Nat), x])) { s with heap := h'', toks := s.toks + 1 } :=
      I.turnedNew (ch := [e, it]) (fun b ob hb q => (sb.2 b (fun z => hb (by simp [z]))).trans (hk b ob (fun z => hb (by simp [z])) (fun z => hb (by simp [z])) q)) hf (Nat.le_refl _) new
    refine ⟨.ref s.heap.objs.size, _, I1, rfl, ⟨_, x, rfl, I.hok.fresh (Nat.le_refl _), rfl, fun ys hy => by rw [I.tuple_inj hy hq]; exact hx⟩, ⟨⟨u, ?_⟩, hit'.at fun o q => (sb.2 it (Ne.symm hne)).trans q, hne⟩, fun b hb => ?_⟩
    · have e1 : ((i + 1 : Nat) : Int) = (i : Int) + 1 := by omega
      rw [e1]; exact he'
    · have hb' : b < s.heap.objs.size := by
        have e' : b = e ∨ b = it := by simpa using hb
        rcases e' with z | z
        · rw [z]; exact hel
        · rw [z]; exact hil
      rw [upd_ne (Nat.ne_of_lt hb')]
      exact (hf b hb).1
  done := by
    intro X hP hw hK hc i pins s σ H E I hf st hg
    subst hP hw hK
    obtain ⟨⟨old, he⟩, hit, hne⟩ := st
    obtain ⟨xs, hq, hx⟩ := hg
    obtain ⟨its, rv, p, hz⟩ := I.tuple hq
    obtain ⟨f0, f1, f2, f3, f4, f5⟩ := hf it (by simp)
    have hl := rv.length
    exact pyNext_enumT_end (I.ok.hd hc) he hit (show s.heap.IsTuple a its.toArray from p) (by simp; omega) fun h' eb => ⟨rfl, I.turned (t' := s.toks) (fun b o hb q => eb b o hb q) f0 f1 f3 f4 f5⟩
  self := fun A i s Q E st h => let ⟨⟨_, he⟩, _⟩ := st; wpAny_pyIter_enum he h
def iEnumT (K : PySem.W.Frag) (ta : TA) : TI := fun σ H R => ta σ H fun vs H1 => ∃ a xs, vs = [.ref a] ∧ SqT K H1 a xs ∧ R (Itet K a) H1
theorem pi_enumT {X : Cx} {e : Expr} {ta : TA} {p pos tpos : Pos} {elts : List Expr} {kk : Nat} (hg : Gl X "enumerate") (hm : X.mg "enumerate" = none) (ha : PA X [e] ta) (hs : starEach [e] X.env = [(false, eval e X.env)] := by rfl) :
    PI X (.Tuple elts kk tpos) (.Call (.Name "enumerate" p) [e] [] pos) (iEnumT X.K ta) := by
  intro pins s σ H R I h
  refine Call_ (ld_blt I hg hm boot_enumerate (PyProof.Rows.callWith_type1 (thn (ha pos pins s σ H _ I h) fun us s1 ⟨vs, H1, I1, r1, q1⟩ => ?_) hs rfl))
  obtain ⟨a, xs, ex, hq, q⟩ := q1
  subst ex
  cases r1 with
  | cons r rr =>
    cases rr
    cases r
    obtain ⟨its, rv, p', hz⟩ := I1.tuple hq
    refine call_enumerateT (show s1.heap.IsTuple a its.toArray from p') fun h' he hit hsz hk => wpAny_pyIter_enum he ?_
    have I2 : Inv X pins σ H1 { s1 with heap := h' } := I1.kept (t' := s1.toks) hk
    refine ⟨s1.heap.objs.size + 1, [s1.heap.objs.size + 1, s1.heap.objs.size], _, _, H1, rfl, I2, turn_enumT a (s1.heap.objs.size + 1) s1.heap.objs.size, ⟨⟨.none, he⟩, hit, Nat.succ_ne_self _⟩, fun b hb => ?_, q⟩
    have e' : b = s1.heap.objs.size + 1 ∨ b = s1.heap.objs.size := by simpa using hb
    have hle : s1.heap.objs.size ≤ b := by
      rcases e' with z | z
      · rw [z]; exact Nat.le_add_right _ _
      · rw [z]; exact Nat.le_refl _
    exact I1.fpOk hle (I1.hok.fresh hle)
/-! ### isinstance(x, (A, B, ..)), built-in classes -/
section
variable {X : Cx}
end
end L2
namespace HT
open PySem PySem.Spec PyProof.Rows
section
variable {prog : Program} {w : World} {A : Around} {E : Value → Shared → Prop} {s : Shared}
theorem fm_congr {α β : Type} {f g : α → Option β} : ∀ {l : List α}, (∀ x ∈ l, f x = g x) → l.filterMap f = l.filterMap g
  | [], _ => rfl
  | a :: l, h => by
    rw [List.filterMap_cons, List.filterMap_cons, h a (List.mem_cons_self ..), fm_congr fun x hx => h x (List.mem_cons_of_mem _ hx)]
theorem rev_pick (xs : Array Value) : ((List.range xs.size).filterMap fun (m : Nat) => xs[((((xs.size : Nat) : Int) - 1) + (m : Int) * (-1)).toNat]?).toArray = xs.toList.reverse.toArray := by
  have e : ((List.range xs.size).filterMap fun (m : Nat) => xs[((((xs.size : Nat) : Int) - 1) + (m : Int) * (-1)).toNat]?) = ((List.range xs.size).map (fun k => xs.size - 1 - k)).filterMap (xs[·]?) := by
    rw [List.filterMap_map]
    refine fm_congr fun m hm => ?_
    have := List.mem_range.mp hm
    have e2 : ((((xs.size : Nat) : Int) - 1) + (m : Int) * (-1)).toNat = xs.size - 1 - m := by omega
    rw [e2]
    rfl
  rw [e, PySem.W.krv_range, List.filterMap_reverse, PySem.W.krv_all]
theorem sliceApplied_rev {sl : Addr} {n : Nat} {t : Tok} {Q : Int × Int × Nat → Shared → Prop} (hs : s.heap.IsSliceOf sl .none .none (.int (-1) t)) (h : Q ((n : Int) - 1, -1, n) s) : wpAny (model prog w) A (Builtin.Slice.sliceApplied (.ref sl) (pure (n : Int))) Q E s := by
  obtain ⟨os, hos, hcs, hds⟩ := id hs
  unfold Builtin.Slice.sliceApplied Builtin.Slice.sliceFields
  refine wpAny_bind (wpAny_bind (wpAny_field hos hds (x := .none) rfl (wpAny_bind (wpAny_field hos hds (x := .none) rfl (wpAny_bind (wpAny_field hos hds (x := .int (-1) t) rfl (wpAny_pure ?_)))))))
  refine wpAny_bind (slicePart_int ?_)
  show wpAny _ _ (if ((-1 : Int) == 0) = true then _ else _) _ _ s
  rw [if_neg (by decide)]
  refine wpAny_bind (slicePart_none (wpAny_bind (slicePart_none (wpAny_bind (wpAny_pure ?_)))))
  have e1 : Builtin.Slice.sliceAdjust none none (-1) (n : Int) = ((n : Int) - 1, -1) := by
    unfold Builtin.Slice.sliceAdjust
    simp
  have e2 : Builtin.Slice.slicePlaces ((n : Int) - 1) (-1) (-1) = n := by
    unfold Builtin.Slice.slicePlaces
    have h1 : ¬ ((-1 : Int) > 0) := by decide
    simp only [h1, if_false]
    split <;> simp <;> omega
  show wpAny _ _ (match Builtin.Slice.sliceAdjust none none (-1) (n : Int) with | (lo, hi) => pure (lo, (-1 : Int), Builtin.Slice.slicePlaces lo hi (-1))) _ _ s
  rw [e1]
  show wpAny _ _ (pure ((n : Int) - 1, (-1 : Int), Builtin.Slice.slicePlaces ((n : Int) - 1) (-1) (-1))) _ _ s
  rw [e2]
  exact wpAny_pure h
theorem getItem_tuple_rev {t sl : Addr} {items : Array Value} {u : Tok} {Q : Value → Shared → Prop} (ht : IsTup s.heap t items) (hs : s.heap.IsSliceOf sl .none .none (.int (-1) u))
    (h : Q (.ref s.heap.objs.size) { s with heap := s.heap.push { cls := .type "tuple", data := .seq items.toList.reverse.toArray } }) (hz : items.size ≤ sizeLine) : wpAny (model prog w) A (getItem (.ref t) (.ref sl)) Q E s := by
  have hTs : s.TypeIs (.ref sl) "slice" := let ⟨o, ho, hc, _⟩ := hs; ⟨o, ho, hc⟩
  unfold getItem
  try with_reducible refine wpAny_holding ?_
  first | refine wpAny_bind (wpAny_pure ?_) | skip
  refine wpAny_bind (wpAny_sequenceKey ht.typeIs (by decide) ?_)
  refine wpAny_bind (wpAny_callSpecial?_slot (name := Str.ofString "__getitem__") ht.typeIs PyProof.Rows.slot_tuple_getitem
    (wpAny_call_entry PyProof.Rows.slot_tuple_getitem ht.typeIs entry_tuple_getitem ?_ (args_tuple_getitem _ _)))
  show wpAny _ _ (Builtin.Tuple.tupleItemsOf (.ref t) >>= _) _ _ s
  refine wpAny_bind (tupleItemsOf_ ht ?_)
  refine wpAny_bind (wpAny_typeOf hTs ?_)
  rw [if_pos (by decide)]
  refine wpAny_bind (sliceApplied_rev hs ?_)
  have hno : ¬ (((((items.size : Nat) : Int) - 1) == 0 && (-1 : Int) == 1 && items.size == items.size) = true) := by
    intro q
    rw [Bool.and_eq_true, Bool.and_eq_true] at q
    exact absurd q.1.2 (by decide)
  show wpAny _ _ (if ((((items.size : Nat) : Int) - 1) == 0 && (-1 : Int) == 1 && items.size == items.size) = true then _ else _) _ _ s
  rw [if_neg hno, rev_pick]
  have htake : items.toList.reverse.toArray.size ≤ sizeLine := by rw [List.size_toArray, List.length_reverse, Array.length_toList]; exact hz
  first
    | exact wpAny_bind (m := Builtin.Tuple.tupleExact _) (wpAny_newObj_type (wpAny_pure ⟨_, rfl, wpAny_pure h⟩) htake)
    | exact wpAny_bind (m := Builtin.Tuple.tupleExact _) (wpAny_newObj_type (wpAny_bind (wpAny_pure (wpAny_pure ⟨_, rfl, wpAny_pure h⟩))) htake)
    | exact wpAny_bind (wpAny_bind (m := Builtin.Tuple.tupleExact _) (wpAny_newObj_type (wpAny_pure (wpAny_pure ⟨_, rfl, wpAny_pure h⟩)) htake))
    | exact wpAny_bind (wpAny_bind (m := Builtin.Tuple.tupleExact _) (wpAny_newObj_type (wpAny_pure ⟨_, rfl, wpAny_pure h⟩) htake))
end
end HT
namespace L2
open PySem PySem.Spec PyProof.Rows
/-- x[::-1], a list or a tuple -/
def rRev (K : PySem.W.Frag) : V → Hp → VK → Prop := fun x H Q => ∃ a xs, x = .ref a ∧ ((SqL K H a xs ∧ ∀ p, H p = none → Q (.ref p) (upd H p (.lst xs.reverse))) ∨ (SqT K H a xs ∧ ∀ p, H p = none → Q (.ref p) (upd H p (.tup xs.reverse))))
def tRev (K : PySem.W.Frag) (te ts : TE) : TE := fun σ H Q => te σ H fun x H1 => ts σ H1 fun y H2 => y = .int (-1) ∧ rRev K x H2 Q
theorem pe_rev {X : Cx} {e st : Expr} {te ts : TE} {pos p2 : Pos} (he : PE X e te) (hst : PE X st ts) : PE X (.Subscript e (.Slice none none (some st) p2) pos) (tRev X.K te ts) := by
  intro pins s σ H Q I h
  refine Subscript_ (thn (he pins s σ H _ I h) fun v s1 ⟨x, H1, I1, r1, q1⟩ => ?_)
  refine wpAny_Slice ?_
  rw [evalPart_none]
  refine wpAny_pure (wpAny_pure ?_)
  rw [evalPart_some]
  refine thn (hst pins s1 σ H1 _ I1 q1) fun u s2 ⟨y, H2, I2, r2, q2⟩ => ?_
  obtain ⟨rfl, q⟩ := q2
  obtain ⟨t, rfl⟩ := r2
  have I3 : Inv X pins σ H2 { s2 with heap := s2.heap.push { cls := .type "slice", data := .fields #[.none, .none, .int (-1) t] } } := I2.kept (t' := s2.toks) fun b ob q => Heap.get?_push_of_some _ q
  have hs : (s2.heap.push { cls := .type "slice", data := .fields #[.none, .none, .int (-1) t] }).IsSliceOf s2.heap.objs.size .none .none (.int (-1) t) := Heap.IsSliceOf.new ..
  obtain ⟨a, xs, rfl, q⟩ := q
  cases r1
  show wpAny (model X.prog X.w) X.A (subscriptTail e (.Slice none none (some st) p2) (.ref a) (.ref s2.heap.objs.size)) (EP X pins σ Q) X.xe { s2 with heap := s2.heap.push { cls := .type "slice", data := .fields #[.none, .none, .int (-1) t] } }
  generalize hS : ({ s2 with heap := s2.heap.push { cls := .type "slice", data := .fields #[.none, .none, .int (-1) t] } } : Shared) = s3 at I3 ⊢
  have hs3 : s3.heap.IsSliceOf s2.heap.objs.size .none .none (.int (-1) t) := by rw [← hS]; exact hs
  rcases q with ⟨hq, q⟩ | ⟨hq, q⟩
  · obtain ⟨its, r, ht, hz⟩ := I3.list hq
    have hlen := r.length
    refine tail_any (ops := [.ref a, .ref s2.heap.objs.size]) ht.isList.typeIs slot_list_getitem.lookup (wpAny_getItem_list_slice ht.isList hs3 .none .none (.int (-1) t) (by simp) ?_ (by rw [List.size_toArray] <;> omega)) (by with_unfolding_all rfl)
    rw [PySem.W.krv_pick]
    refine ⟨.ref s3.heap.objs.size, _, I3.laid (t' := s3.toks) (o := .lst xs.reverse) (fun b ob q => Heap.get?_push_of_some _ q) (Nat.le_refl _) ?_, rfl, q _ (I3.hok.fresh (Nat.le_refl _))⟩
    exact ⟨by rw [List.length_reverse]; exact hz, its.reverse, 0, r.reverse, Heap.get?_push_size _ rfl⟩
  · obtain ⟨its, r, ht, hz⟩ := I3.tuple hq
    have hlen := r.length
    refine tail_any (ops := [.ref a, .ref s2.heap.objs.size]) ht.typeIs PyProof.Rows.slot_tuple_getitem.lookup (HT.getItem_tuple_rev ht hs3 ?_ (by rw [List.size_toArray] <;> omega)) (by with_unfolding_all rfl)
    refine ⟨.ref s3.heap.objs.size, _, I3.laid (t' := s3.toks) (o := .tup xs.reverse) (fun b ob q => Heap.get?_push_of_some _ q) (Nat.le_refl _) ?_, rfl, q _ (I3.hok.fresh (Nat.le_refl _))⟩
    exact ⟨by rw [List.length_reverse]; exact hz, its.reverse, r.reverse, ⟨_, Heap.get?_push_size _ rfl, rfl, _, rfl⟩⟩
end L2

/-! things of all kinds: None, truths, ints, texts, lists, tuples within one another -/
namespace TH
open PySem L2
def tyD : PyData → String
  | .none => "NoneType"
  | .bool _ => "bool"
  | .int _ => "int"
  | .str _ => "str"
  | .list _ => "list"
  | .tuple _ => "tuple"
  | .dict _ => "dict"
section
variable {K : PySem.W.Frag}
end
mutual
inductive Tg (H : Hp) : V → PyData → Prop
  | non : Tg H .non .none
  | bl (b : Bool) : Tg H (.bl b) (.bool b)
  | int (i : Int) : Tg H (.int i) (.int i)
  | str (x : Str) : Tg H (.str x) (.str x)
  | lst {a : Addr} {xs : List V} {ds : List PyData} : H a = some (.lst xs) → TgA H xs ds → Tg H (.ref a) (.list ds)
  | tup {a : Addr} {xs : List V} {ds : List PyData} : H a = some (.tup xs) → TgA H xs ds → Tg H (.ref a) (.tuple ds)
inductive TgA (H : Hp) : List V → List PyData → Prop
  | nil : TgA H [] []
  | cons {v : V} {vs : List V} {d : PyData} {ds : List PyData} : Tg H v d → TgA H vs ds → TgA H (v :: vs) (d :: ds)
end
mutual
theorem Tg.mono {H H' : Hp} (e : Same H H') : ∀ {v : V} {d : PyData}, Tg H v d → Tg H' v d
  | _, _, .non => .non
  | _, _, .bl b => .bl b
  | _, _, .int i => .int i
  | _, _, .str x => .str x
  | _, _, .lst h t => .lst (e _ _ h) (TgA.mono e t)
  | _, _, .tup h t => .tup (e _ _ h) (TgA.mono e t)
theorem TgA.mono {H H' : Hp} (e : Same H H') : ∀ {vs : List V} {ds : List PyData}, TgA H vs ds → TgA H' vs ds
  | _, _, .nil => .nil
  | _, _, .cons h t => .cons (Tg.mono e h) (TgA.mono e t)
end
theorem Tg.ty {K : PySem.W.Frag} {H : Hp} {v : V} {d : PyData} (h : Tg H v d) : TyOf K H v (.type (tyD d)) := by
  cases h with
  | non => exact .non
  | bl b => exact .bl b
  | int i => exact .int i
  | str x => exact .str x
  | lst h _ => exact .lst h
  | tup h _ => exact .tup h
theorem TgA.length {H : Hp} : ∀ {vs : List V} {ds : List PyData}, TgA H vs ds → vs.length = ds.length
  | _, _, .nil => rfl
  | _, _, .cons _ t => congrArg (· + 1) (TgA.length t)
theorem TgA.get {H : Hp} : ∀ {vs : List V} {ds : List PyData} {i : Nat} {x : V}, TgA H vs ds → vs[i]? = some x → ∃ d, ds[i]? = some d ∧ Tg H x d
  | _, _, 0, _, .cons h _, e => by cases e; exact ⟨_, rfl, h⟩
  | _, _, i + 1, _, .cons _ t, e => TgA.get (i := i) t e
theorem TgA.append {H : Hp} : ∀ {vs ws : List V} {ds es : List PyData}, TgA H vs ds → TgA H ws es → TgA H (vs ++ ws) (ds ++ es)
  | _, _, _, _, .nil, h => h
  | _, _, _, _, .cons a t, h => .cons a (TgA.append t h)
theorem TgA.take {H : Hp} : ∀ {vs : List V} {ds : List PyData} (n : Nat), TgA H vs ds → TgA H (vs.take n) (ds.take n)
  | _, _, 0, _ => by simp; exact .nil
  | _, _, _ + 1, .nil => .nil
  | _, _, n + 1, .cons h t => .cons h (TgA.take n t)
theorem TgA.drop {H : Hp} : ∀ {vs : List V} {ds : List PyData} (n : Nat), TgA H vs ds → TgA H (vs.drop n) (ds.drop n)
  | _, _, 0, h => h
  | _, _, _ + 1, .nil => .nil
  | _, _, n + 1, .cons _ t => TgA.drop n t
theorem TgA.set {H : Hp} {v : V} {d : PyData} (hv : Tg H v d) : ∀ {vs : List V} {ds : List PyData} (n : Nat), TgA H vs ds → TgA H (vs.set n v) (ds.set n d)
  | _, _, _, .nil => .nil
  | _, _, 0, .cons _ t => .cons hv t
  | _, _, n + 1, .cons h t => .cons h (TgA.set hv n t)
theorem TgA.rev {H : Hp} : ∀ {vs : List V} {ds : List PyData}, TgA H vs ds → TgA H vs.reverse ds.reverse
  | _, _, .nil => .nil
  | _, _, .cons h t => by
    rw [List.reverse_cons, List.reverse_cons]
    exact (TgA.rev t).append (.cons h .nil)
theorem TgA.all {H : Hp} : ∀ {vs : List V} {ds : List PyData}, TgA H vs ds → ∀ x ∈ vs, ∃ d, Tg H x d
  | _, _, .cons h t, x, hx => by
    rcases List.mem_cons.mp hx with rfl | hx
    · exact ⟨_, h⟩
    · exact TgA.all t x hx
/-! ### how many things there are within -/
mutual
def cnt : PyData → Nat
  | .list ds => 1 + cntA ds
  | .tuple ds => 1 + cntA ds
  | _ => 1
def cntA : List PyData → Nat
  | [] => 0
  | d :: ds => cnt d + cntA ds
end
/-! ### places -/
def Val : PyData → List Nat → Prop
  | _, [] => True
  | d, n :: p => ∃ ds x, (d = .list ds ∨ d = .tuple ds) ∧ ds[n]? = some x ∧ Val x p
def PathAt (H : Hp) (v : V) (p : List Nat) : Prop := ∃ a, v = .ref a ∧ H a = some (.tup (p.map fun n => .int (n : Nat)))
theorem PathAt.mono {H H' : Hp} {v : V} {p : List Nat} (e : Same H H') : PathAt H v p → PathAt H' v p := fun ⟨a, h, s⟩ => ⟨a, h, e _ _ s⟩
/-! ### a heap without some addresses -/
noncomputable def blk (B : Addr → Prop) (H : Hp) : Hp := fun a => @ite _ (B a) (Classical.propDecidable _) none (H a)
theorem blk_of {B : Addr → Prop} {H : Hp} {a : Addr} {o : HO} (h : blk B H a = some o) : ¬ B a ∧ H a = some o := by
  unfold blk at h
  by_cases b : B a
  · rw [if_pos b] at h; cases h
  · rw [if_neg b] at h; exact ⟨b, h⟩
theorem blk_mk {B : Addr → Prop} {H : Hp} {a : Addr} {o : HO} (b : ¬ B a) (h : H a = some o) : blk B H a = some o := by
  unfold blk
  rw [if_neg b]; exact h
theorem blk_sub (B : Addr → Prop) (H : Hp) : Same (blk B H) H := fun _ _ h => (blk_of h).2
theorem blk_same {B : Addr → Prop} {H H' : Hp} (e : Same H H') : Same (blk B H) (blk B H') := fun _ _ h => blk_mk (blk_of h).1 (e _ _ (blk_of h).2)
/-- blocked addresses are tracked -/
def BOk (B : Addr → Prop) (H : Hp) : Prop := ∀ a, B a → H a ≠ none
theorem BOk.mono {B : Addr → Prop} {H H' : Hp} (e : Same H H') (h : BOk B H) : BOk B H' := fun a b z => by
  cases q : H a with
  | none => exact h a b q
  | some o => rw [e a o q] at z; cases z
theorem BOk.no (H : Hp) : BOk (fun _ => False) H := fun _ b => b.elim
theorem BOk.fresh {B : Addr → Prop} {H : Hp} (h : BOk B H) {p : Addr} (hp : H p = none) : ¬ B p := fun b => h p b hp
/-! ### loops over enumerate -/
end TH

namespace Ry
/-! ### the mathematics: fractions as Rat -/
/-- the divisor that both programs take -/
def sg (l : Int) : Int := if l > 0 then 1 else -1
theorem den_le (u l : Int) (h : l ≠ 0) : (Rat.divInt u l).den ≤ l.natAbs := by
  rw [Rat.den_divInt, if_neg h]
  exact Nat.div_le_self _ _
/-! ### operations by numerator and denominator -/
theorem add_di (p q : Rat) : Rat.divInt (p.num * q.den + q.num * p.den) (p.den * q.den) = p + q := by
  have hp : (p.den : Int) ≠ 0 := by have := p.den_nz; omega
  have hq : (q.den : Int) ≠ 0 := by have := q.den_nz; omega
  rw [← Rat.divInt_add_divInt _ _ hp hq, Rat.num_divInt_den, Rat.num_divInt_den]
theorem sub_di (p q : Rat) : Rat.divInt (p.num * q.den - q.num * p.den) (p.den * q.den) = p - q := by
  have hp : (p.den : Int) ≠ 0 := by have := p.den_nz; omega
  have hq : (q.den : Int) ≠ 0 := by have := q.den_nz; omega
  rw [← Rat.divInt_sub_divInt _ _ hp hq, Rat.num_divInt_den, Rat.num_divInt_den]
theorem mul_di (p q : Rat) : Rat.divInt (p.num * q.num) (p.den * q.den) = p * q := by
  rw [← Rat.divInt_mul_divInt, Rat.num_divInt_den, Rat.num_divInt_den]
/-! ### rays over Rat -/
abbrev Pt := Rat × Rat
def crs (x y : Rat) (a b : Int) : Rat := x * (b : Rat) - y * (a : Rat)
def bnd (a b c d : Int) : Int := a * d - b * c
def meetQ (p : Pt) (a b : Int) (o : Pt) (c d : Int) : Option Pt :=
  if bnd a b c d = 0 then none
  else if crs (o.1 - p.1) (o.2 - p.2) c d * (bnd a b c d : Rat) ≤ 0 ∨ crs (o.1 - p.1) (o.2 - p.2) a b * (bnd a b c d : Rat) ≤ 0 then none
  else some (p.1 + crs (o.1 - p.1) (o.2 - p.2) c d / (bnd a b c d : Rat) * (a : Rat), p.2 + crs (o.1 - p.1) (o.2 - p.2) c d / (bnd a b c d : Rat) * (b : Rat))
theorem cast_ne {i : Int} (h : i ≠ 0) : (i : Rat) ≠ 0 := fun z => h (by exact_mod_cast z)
/-! ### as the program goes: without lowest terms -/
def xn (p o : Rat) : Int := o.num * p.den - p.num * o.den
def xd (p o : Rat) : Int := o.den * p.den
def g1 (p o : Pt) : Int := xn p.1 o.1 * xd p.2 o.2
def g2 (p o : Pt) : Int := xn p.2 o.2 * xd p.1 o.1
def gs (p o : Pt) : Int := xd p.1 o.1 * xd p.2 o.2
end Ry

namespace TH
open PySem L2
/-! ### how deep they lie within one another -/
mutual
def dep : PyData → Nat
  | .list ds => 1 + depA ds
  | .tuple ds => 1 + depA ds
  | .str x => if PyData.strOk x = true then x.length / 1000 else 1000000
  | _ => 0
def depA : List PyData → Nat
  | [] => 0
  | d :: ds => max (dep d) (depA ds)
end
end TH
namespace LB
open PySem L2
section
variable {X : Cx}
/-- an argument list, shut: nothing is unfolded while its items are put together -/
structure PAs (X : Cx) (es : List Expr) (t : TA) : Prop where
  out : PA X es t
theorem star_con {c : Const} {k : Nat} {pos : Pos} {rest : List Expr} {env : Env} : starEach (.Constant c k pos :: rest) env = (false, eval (.Constant c k pos) env) :: starEach rest env := rfl
variable {es rest : List Expr} {t t' : TA} {k : Nat} {pos : Pos}
theorem qa_nil : PAs X [] tNil := ⟨pa_nil⟩
theorem qa_con {c : Const} {te : TE} (h : PE X (.Constant c k pos) te) (r : PAs X rest t) : PAs X (.Constant c k pos :: rest) (tCons te t) := ⟨pa_cons h r.out star_con⟩
theorem qa_int {i : Int} (r : PAs X rest t) : PAs X (.Constant (.int i) k pos :: rest) (tCons (tC (.int i)) t) := qa_con pe_int r
end
end LB

namespace LB
open PySem L2 Ry TH
section
variable {P : Program} {w : World} {K : PySem.W.Frag} {mg : Str → Option Value} {base : Heap} {f : Addr} {fd : FuncData}
theorem same_tup {K : PySem.W.Frag} {H H' : Hp} {a : Addr} {xs : List V} (e : Same H H') (h : SqT K H a xs) : SqT K H' a xs := by
  rcases h with (h | ⟨o, h⟩) | h
  · exact .inl (.inl (e _ _ h))
  · exact .inl (.inr ⟨o, e _ _ h⟩)
  · exact .inr h
theorem same_new {H : Hp} {p : Addr} (h : H p = none) (o : HO) : Same H (upd H p o) := fun b u q => by rw [upd_ne (ne_of_none q h)]; exact q
def IP (K : PySem.W.Frag) (H : Hp) (v : V) (i j : Int) : Prop := ∃ a, v = .ref a ∧ SqT K H a [.int i, .int j]
def FR (K : PySem.W.Frag) (H : Hp) (v : V) (q : Rat) : Prop := IP K H v q.num (q.den : Int)
def PP (K : PySem.W.Frag) (H : Hp) (v : V) (p : Pt) : Prop := ∃ a x y, v = .ref a ∧ SqT K H a [x, y] ∧ FR K H x p.1 ∧ FR K H y p.2
theorem IP.mono {K : PySem.W.Frag} {H H' : Hp} {v : V} {i j : Int} (e : Same H H') : IP K H v i j → IP K H' v i j := fun ⟨a, h, s⟩ => ⟨a, h, same_tup e s⟩
theorem FR.mono {K : PySem.W.Frag} {H H' : Hp} {v : V} {q : Rat} (e : Same H H') : FR K H v q → FR K H' v q := IP.mono e
theorem PP.mono {K : PySem.W.Frag} {H H' : Hp} {v : V} {p : Pt} (e : Same H H') : PP K H v p → PP K H' v p := fun ⟨a, x, y, h, s, hx, hy⟩ => ⟨a, x, y, h, same_tup e s, hx.mono e, hy.mono e⟩
theorem IP.new {K : PySem.W.Frag} {H : Hp} {p : Addr} {i j : Int} : IP K (upd H p (.tup [.int i, .int j])) (.ref p) i j := ⟨p, rfl, SqT.of upd_same⟩
def Df (K : PySem.W.Frag) (mg : Str → Option Value) (x : Str) (st : Stmt) (ps : List Str) : Prop := ∃ f fd, Fun K x x st f fd ∧ Binds K fd ps [] ∧ mg x = some (.ref f)
def Cal (P : Program) (w : World) (K : PySem.W.Frag) (mg : Str → Option Value) (base : Heap) (k : Nat) (x : Str) (ps : List Str) (sp : Sp) : Prop :=
  ∃ f fd, FnOk P w K mg base CX0 k f fd ps sp ∧ Binds K fd ps [] ∧ PySem.W.keepIn K (.ref f) = true ∧ mg x = some (.ref f)
theorem Df.cal {P : Program} {w : World} {K : PySem.W.Frag} {mg : Str → Option Value} {base : Heap} {k : Nat} {x : Str} {st : Stmt} {ps : List Str} {sp : Sp} (D : Df K mg x st ps) (h : ∀ f fd, Fun K x x st f fd → FnOk P w K mg base CX0 k f fd ps sp) : Cal P w K mg base k x ps sp :=
  let ⟨f, fd, F, b, m⟩ := D
  ⟨f, fd, h f fd F, b, F.kp, m⟩
def spLow (K : PySem.W.Frag) : Sp := fun vs H Q _ => ∃ u l : Int, vs = [.int u, .int l] ∧ l ≠ 0 ∧ l.natAbs < 1073741824 ∧ ∀ v H', Same H H' → FR K H' v (Rat.divInt u l) → Q v H'
theorem two : ([V.int 0, V.int 0] : List V).length ≤ sizeLine := by show 2 ≤ sizeLine; decide
def Sm (n : Int) : Prop := -(2 ^ 64) < n ∧ n < 2 ^ 64
def spLess (K : PySem.W.Frag) : Sp := fun vs H Q _ => ∃ (x y : V) (a b c d : Int), vs = [x, y] ∧ IP K H x a b ∧ IP K H y c d ∧ Sm b ∧ Sm d ∧ ∀ v H', Same H H' → IP K H' v (a * d - c * b) (b * d) → Q v H'
def Dn (p : Pt) (n : Nat) : Prop := p.1.den ≤ n ∧ p.2.den ≤ n
def AP2 (K : PySem.W.Frag) (H : Hp) (v : V) (p o : Pt) : Prop := ∃ a t, v = .ref a ∧ SqT K H a [t, .int (gs p o)] ∧ IP K H t (g1 p o) (g2 p o)
def spApart (K : PySem.W.Frag) : Sp := fun vs H Q _ => ∃ (x y : V) (p o : Pt), vs = [x, y] ∧ PP K H x p ∧ PP K H y o ∧ Dn p (2 ^ 20) ∧ Dn o (2 ^ 20) ∧ ∀ v H', Same H H' → AP2 K H' v p o → Q v H'
def S4 (a b : Int) : Prop := -4 ≤ a ∧ a ≤ 4 ∧ -4 ≤ b ∧ b ≤ 4
theorem S4.s1 {a b : Int} (h : S4 a b) : Sm a := by obtain ⟨h1, h2, h3, h4⟩ := h; exact ⟨by omega, by omega⟩
theorem S4.s2 {a b : Int} (h : S4 a b) : Sm b := by obtain ⟨h1, h2, h3, h4⟩ := h; exact ⟨by omega, by omega⟩
theorem Dn.up {p : Pt} {m n : Nat} (h : Dn p m) (k : m ≤ n) : Dn p n := ⟨Nat.le_trans h.1 k, Nat.le_trans h.2 k⟩
def spCell (K : PySem.W.Frag) : Sp := fun vs H Q _ => ∃ (a : Addr) (ns : List Int) (k : Int), vs = [.ref a, .int k] ∧ SqL K H a (ns.map V.int) ∧ ns.length ≤ 63 ∧ 0 ≤ k ∧ k ≤ 1000 ∧ ∀ c : Int, Q (.int c) H
theorem at_ints {ns : List Int} {k : Int} (h0 : 0 ≤ k) (h : k < (ns.length : Int)) : ∃ c, atI (ns.map V.int) k = some (.int c) := by
  obtain ⟨j, rfl⟩ := Int.eq_ofNat_of_zero_le h0
  have hj : j < ns.length := by omega
  exact ⟨ns[j], atI_nat (by simp [hj])⟩
def PR : List V := [.int 2147483647, .int 2147483629, .int 2147483587, .int 2147483579, .int 2147483563, .int 2147483549, .int 2147483543, .int 2147483497]
theorem pr_at {i : Int} (h0 : 0 ≤ i) (h : i < 8) : ∃ p : Int, atI PR i = some (.int p) ∧ 0 < p ∧ p < 2 ^ 31 := by
  have c : i = 0 ∨ i = 1 ∨ i = 2 ∨ i = 3 ∨ i = 4 ∨ i = 5 ∨ i = 6 ∨ i = 7 := by omega
  rcases c with rfl | rfl | rfl | rfl | rfl | rfl | rfl | rfl
  all_goals exact ⟨_, rfl, by decide, by decide⟩
theorem mod8 (i : Int) : 0 ≤ i % 8 ∧ i % 8 < 8 := by omega
theorem mod_in {i p : Int} (h : 0 < p) (h2 : p < 2 ^ 31) : 0 ≤ i % p ∧ i % p < 2 ^ 31 := by
  have a := Int.emod_nonneg i (show p ≠ 0 by omega)
  have b := Int.emod_lt_of_pos i h
  omega
theorem sm_mod {i p : Int} (h : 0 < p) (h2 : p < 2 ^ 31) : Sm (i % p) := by
  have := mod_in (i := i) h h2
  exact ⟨by omega, by omega⟩
def Dg (ds : List Int) : Prop := ∀ x ∈ ds, 0 ≤ x ∧ x < 27720
def spDraws (K : PySem.W.Frag) : Sp := fun vs H Q _ => ∃ (a : Addr) (ns : List Int) (k : Int) (m : Nat), vs = [.ref a, .int k, .int (m : Nat), .int 27720] ∧ m ≤ 100 ∧ SqL K H a (ns.map V.int) ∧ ns.length ≤ 63 ∧ 0 ≤ k ∧ k ≤ 1000 ∧
  ∀ (l : Addr) (ds : List Int) (H' : Hp), Same H H' → H' l = some (.lst (ds.map V.int)) → ds.length = m → Dg ds → Q (.ref l) H'
abbrev N14 : List Str := ["script", "k", "many", "base", "primes", "cell", "rest", "row", "j", "mash"]
def spTwo (K : PySem.W.Frag) (g : Rat → Rat → Rat) (C : Rat → Rat → Prop) : Sp := fun vs H Q _ => ∃ (x y : V) (p q : Rat), vs = [x, y] ∧ FR K H x p ∧ FR K H y q ∧ p.den * q.den ≤ 2 ^ 20 ∧ C p q ∧ ∀ v H', Same H H' → FR K H' v (g p q) → Q v H'
theorem FR.int {H : Hp} {v : V} {i : Int} (h : IP K H v i 1) : FR K H v (i : Rat) := h
def S2 (a b : Int) : Prop := Sm a ∧ Sm b
theorem S2.s1 {a b : Int} (h : S2 a b) : Sm a := h.1
theorem S2.s2 {a b : Int} (h : S2 a b) : Sm b := h.2
def spCross (K : PySem.W.Frag) : Sp := fun vs H Q _ => ∃ (x y : V) (p : Pt) (a b : Int), vs = [x, y] ∧ PP K H x p ∧ IP K H y a b ∧ Dn p 64 ∧ S2 a b ∧ ∀ v H', Same H H' → FR K H' v (crs p.1 p.2 a b) → Q v H'
theorem iteT' {b : Bool} {A B : Prop} (hb : b = true) (h : A) : if b = true then A else B := by
  rw [if_pos hb]
  exact h
theorem iteF' {b : Bool} {A B : Prop} (hb : b = false) (h : B) : if b = true then A else B := by
  rw [if_neg (by rw [hb]; exact Bool.false_ne_true)]
  exact h
def IT (H : Hp) (v : V) (i j : Int) : Prop := ∃ a, v = .ref a ∧ H a = some (.tup [.int i, .int j])
theorem IT.mono {H H' : Hp} {v : V} {i j : Int} (e : Same H H') : IT H v i j → IT H' v i j := fun ⟨a, h, s⟩ => ⟨a, h, e _ _ s⟩
theorem IT.ip {H : Hp} {v : V} {i j : Int} : IT H v i j → IP K H v i j := fun ⟨a, h, s⟩ => ⟨a, h, SqT.of s⟩
theorem num_le (u l : Int) (h : l ≠ 0) : (Rat.divInt u l).num.natAbs ≤ u.natAbs := by
  rw [Rat.num_divInt]
  refine Nat.le_trans (Int.natAbs_ediv_le_natAbs _ _) ?_
  rw [Int.natAbs_mul, Int.natAbs_sign_of_ne_zero h]
  omega
def W4 (K : PySem.W.Frag) (H : Hp) (v : V) : Prop := ∃ a b, IT H v a b ∧ S4 a b
theorem W4.mono {H H' : Hp} {v : V} (e : Same H H') : W4 K H v → W4 K H' v := fun ⟨a, b, h, s⟩ => ⟨a, b, h.mono e, s⟩
def spLL (K : PySem.W.Frag) : Sp := fun vs H Q _ => ∃ (x : V) (a b : Int), vs = [x] ∧ IP K H x a b ∧ S4 a b ∧ (a ≠ 0 ∨ b ≠ 0) ∧ ∀ v H', Same H H' → W4 K H' v → Q v H'
theorem IP.dp {H : Hp} {v : V} {i j : Int} (h : IP K H v i j) : Dp K H v (.tuple [.int i, .int j]) := by
  obtain ⟨a, rfl, h⟩ := h
  exact .tup h (.cons (.int i) (.cons (.int j) .nil))
def ptD (p : Pt) : PyData := .tuple [.tuple [.int p.1.num, .int p.1.den], .tuple [.int p.2.num, .int p.2.den]]
theorem PP.dp {K : PySem.W.Frag} {H : Hp} {v : V} {p : Pt} (h : PP K H v p) : Dp K H v (ptD p) := by
  obtain ⟨a, x, y, rfl, s, hx, hy⟩ := h
  exact .tup s (.cons (IP.dp hx) (.cons (IP.dp hy) .nil))
theorem W4.get {K : PySem.W.Frag} {H : Hp} {v : V} (h : W4 K H v) : ∃ a b p, v = .ref p ∧ H p = some (.tup [.int a, .int b]) ∧ S4 a b := by
  obtain ⟨a, b, ⟨p, rfl, hp⟩, s⟩ := h
  exact ⟨a, b, p, rfl, hp, s⟩
def spTurn (K : PySem.W.Frag) : Sp := fun vs H Q _ => ∃ (x y : V) (a b c d : Int), vs = [x, y] ∧ IP K H x a b ∧ IP K H y c d ∧ Sm c ∧ Sm d ∧ Q (.int (a * d - b * c)) H
theorem S4.neg {a b : Int} (h : S4 a b) : S4 (-a) (-b) := by obtain ⟨h1, h2, h3, h4⟩ := h; exact ⟨by omega, by omega, by omega, by omega⟩
def spMoved (K : PySem.W.Frag) : Sp := fun vs H Q _ => ∃ (x y : V) (p : Pt) (a b t u : Int), vs = [x, y, .int t, .int u] ∧ PP K H x p ∧ IP K H y a b ∧ Dn p 8 ∧ S4 a b ∧ u ≠ 0 ∧ u.natAbs ≤ 2 ^ 20 ∧
  ∀ v H', Same H H' → PP K H' v (p.1 + (t : Rat) / (u : Rat) * (a : Rat), p.2 + (t : Rat) / (u : Rat) * (b : Rat)) → Q v H'
def OP (K : PySem.W.Frag) (H : Hp) (v : V) : Option Pt → Prop
  | none => v = .non
  | some p => PP K H v p
theorem OP.mono {K : PySem.W.Frag} {H H' : Hp} {v : V} {p : Option Pt} (e : Same H H') (h : OP K H v p) : OP K H' v p := by
  cases p with
  | none => exact h
  | some p => exact PP.mono e h
def spMeet (K : PySem.W.Frag) : Sp := fun vs H Q _ => ∃ (x y z u : V) (p o : Pt) (a b c d : Int), vs = [x, y, z, u] ∧ PP K H x p ∧ IP K H y a b ∧ PP K H z o ∧ IP K H u c d ∧ Dn p 8 ∧ Dn o 8 ∧ S4 a b ∧ S4 c d ∧
  ∀ v H', Same H H' → OP K H' v (meetQ p a b o c d) → Q v H'
def OD : Option Pt → Prop
  | none => True
  | some p => Dn p (2 ^ 20)
def opD : Option Pt → PyData
  | none => .none
  | some p => ptD p
theorem OP.dp {K : PySem.W.Frag} {H : Hp} {v : V} {p : Option Pt} (h : OP K H v p) : Dp K H v (opD p) := by
  cases p with
  | none => cases (show v = .non from h); exact .non
  | some p => exact PP.dp h
def Good (H : Hp) (d : PyData) (ps : List V) : Prop := ∀ x ∈ ps, ∃ p, PathAt H x p ∧ Val d p
theorem Good.mono {H H' : Hp} {d : PyData} {ps : List V} (e : Same H H') (h : Good H d ps) : Good H' d ps := fun x hx => let ⟨p, a, b⟩ := h x hx; ⟨p, a.mono e, b⟩
theorem small9 {n : Nat} (h : n ≤ 2000000) : n ≤ sizeLine := Nat.le_trans h (by decide)
theorem small6 {n : Nat} (h : n ≤ 2000000) : n < sizeLine := Nat.lt_of_le_of_lt h (by decide)
def Ok (B : Addr → Prop) (n : Nat × Nat) (H : Hp) (x : V) : Prop := ∃ d, Tg (blk B H) x d ∧ cnt d ≤ n.1 ∧ dep d ≤ n.2
theorem Ok.mono {B : Addr → Prop} {n : Nat × Nat} {H H' : Hp} {x : V} (e : Same H H') : Ok B n H x → Ok B n H' x := fun ⟨d, h, c⟩ => ⟨d, h.mono (blk_same e), c⟩
def AllOk (B : Addr → Prop) (n : Nat × Nat) (H : Hp) (xs : List V) : Prop := ∀ x ∈ xs, Ok B n H x
theorem AllOk.mono {B : Addr → Prop} {n : Nat × Nat} {H H' : Hp} {xs : List V} (e : Same H H') (h : AllOk B n H xs) : AllOk B n H' xs := fun x hx => (h x hx).mono e
theorem AllOk.nil {B : Addr → Prop} {n : Nat × Nat} {H : Hp} : AllOk B n H [] := fun x hx => by cases hx
theorem AllOk.cons {B : Addr → Prop} {n : Nat × Nat} {H : Hp} {x : V} {xs : List V} (a : Ok B n H x) (h : AllOk B n H xs) : AllOk B n H (x :: xs) := fun y hy => by
  rcases List.mem_cons.mp hy with rfl | hy
  · exact a
  · exact h y hy
theorem AllOk.app {B : Addr → Prop} {n : Nat × Nat} {H : Hp} {xs ys : List V} (a : AllOk B n H xs) (h : AllOk B n H ys) : AllOk B n H (xs ++ ys) := fun y hy => by
  rcases List.mem_append.mp hy with hy | hy
  · exact a y hy
  · exact h y hy
def ip (p : List Nat) : List PyData := p.map fun n => .int (n : Nat)
theorem Ok.up {B : Addr → Prop} {m n i j : Nat} {H : Hp} {x : V} (h : Ok B (m, i) H x) (k : m ≤ n) (l : i ≤ j) : Ok B (n, j) H x := let ⟨d, a, b, c⟩ := h; ⟨d, a, Nat.le_trans b k, Nat.le_trans c l⟩
theorem OP.cases {H : Hp} {v : V} {m : Option Pt} (h : OP K H v m) : (m = none ∧ v = .non) ∨ ∃ r, m = some r ∧ PP K H v r ∧ ¬ v = .non := by
  cases m with
  | none => exact .inl ⟨rfl, h⟩
  | some r =>
    refine .inr ⟨r, rfl, h, ?_⟩
    obtain ⟨a, x, y, rfl, _⟩ := (show PP K H v r from h)
    intro z
    cases z
theorem OD.of {m : Option Pt} {r : Pt} (h : OD m) (e : m = some r) : Dn r (2 ^ 20) := by subst e; exact h
end
end LB

set_option Elab.async false
set_option linter.all false
set_option maxRecDepth 100000
set_option maxHeartbeats 4000000
namespace LS
open PySem PySem.W PySem.Spec PyProof.Rows L2
section
variable {X : Cx} {pins : List (Addr × Obj)} {σ : L2.St} {H : Hp} {s : Shared}
theorem dinv (I : Inv X pins σ H s) (d : Drawn) : Inv X pins σ H { s with drawn := d } := ⟨I.ok, I.os, I.bare, I.base, I.loc, I.cell, I.free, I.freeC, I.pin, I.hok, I.len⟩
theorem strs_of_vals : ∀ (ks : List Str) (r : List V) (its : List Value), Vals (ks.map V.str ++ r) its → ∃ ss r', its = ss ++ r' ∧ StrsAre ss ks
  | [], r, its, h => ⟨[], its, rfl, .nil⟩
  | k :: ks, r, _, h => by
    cases h with
    | cons q t =>
      obtain ⟨tk, rfl⟩ := q
      obtain ⟨ss, r', rfl, h2⟩ := strs_of_vals ks r _ t
      exact ⟨_, r', rfl, .cons k tk h2⟩
end
end LS

set_option Elab.async false
set_option linter.all false
set_option maxRecDepth 100000
set_option maxHeartbeats 4000000
/-! rules for rooms: enumerate(text), x[a::b], tuples in lists, sorted pairs of ints -/
namespace L2
open PySem PySem.Spec PyProof.Rows ZT
def Ites (x : Str) : It :=
  ⟨fun i _ => i < x.cps.size, fun i H v H' => ∃ T c, v = .ref T ∧ H T = none ∧ H' = upd H T (.tup [.int (i : Nat), .str ⟨#[c]⟩]) ∧ x.cps[i]? = some c, fun i _ => x.cps.size ≤ i⟩
theorem draws_str {prog : Program} {w : World} {A : Around} (hh : A.handled = none) (it : Addr) (x : Str) (t : Tok) :
    Draws prog w A it [it] x.cps.size (fun i v => ∃ c u, x.cps[i]? = some c ∧ v = .str ⟨#[c]⟩ u) (fun i h => h.IsStrIter it (strIterType x) x t i) := by
  unfold strIterType
  split
  · exact Draws.strAscii hh it x t
  · exact Draws.strWide hh it x t
theorem turn_enumS {P : Program} {w : World} {K : PySem.W.Frag} {elts : List Expr} {kk : Nat} {tpos : Pos} (x : Str) (t : Tok) (e it : Addr) :
    Turn P w K (.Tuple elts kk tpos) (Ites x) [e, it] e (fun i h => (∃ old, IsEnum h e it ((i : Nat) : Int) old) ∧ h.IsStrIter it (strIterType x) x t i ∧ e ≠ it ∧ i ≤ x.cps.size) where
  mem := by simp
  obj := fun i h st b hb => by
    obtain ⟨⟨old, he⟩, ⟨o, ho, hc, hd⟩, _⟩ := st
    have e' : b = e ∨ b = it := by simpa using hb
    rcases e' with z | z
    · rw [z]; exact ⟨_, he, fun v q => nomatch q⟩
    · rw [z]; exact ⟨o, ho, fun v q => by rw [hd] at q; cases q⟩
  keep := fun i h h' st k => let ⟨⟨old, he⟩, ⟨o, ho, r⟩, hne⟩ := st; ⟨⟨old, k e (by simp) _ he⟩, ⟨o, k it (by simp) o ho, r⟩, hne⟩
  item := by
    intro X hP hw hK hc i pins s σ H E I hf st hg
    subst hP hw hK
    obtain ⟨⟨old, he⟩, hit, hne, hle⟩ := st
    have D := draws_str (prog := X.prog) (w := X.w) (A := X.A.in1) (I.ok.hd hc) it x t
    have hel : e < s.heap.objs.size := Heap.lt_size he
    have hil : it < s.heap.objs.size := by obtain ⟨_, q, _⟩ := hit; exact Heap.lt_size q
    refine wpAny_pyNext_enum_itemD D he hit hg hne (by simpa using hne) fun u h' tk hP ho hit' hT hsz hk => ?_
    obtain ⟨c, u', hcx, rfl⟩ := hP
    refine ⟨_, rfl, wpAny_letOwnedTupleGo_enum (s := { s with heap := h', toks := tk + 1 }) ho fun h'' he' sb => ?_⟩
    have hT2 : h''.get? s.heap.objs.size = some { cls := .type "tuple", data := .seq #[.int i tk, .str ⟨#[c]⟩ u'] } := (sb.2 _ (Nat.ne_of_gt hel)).trans hT
    have new : ObjOk X.prog X.w (upd H s.heap.objs.size (.tup [.int (i : Nat), .str ⟨#[c]⟩])) h'' s.heap.objs.size (.tup [.int (i : Nat), .str ⟨#[c]⟩]) :=
      ⟨by show 2 ≤ sizeLine; decide, [.int i tk, .str ⟨#[c]⟩ u'], .cons ⟨_, rfl⟩ (.cons ⟨_, rfl⟩ .nil), ⟨_, hT2, rfl, _, rfl⟩⟩
    have I1 : Inv X pins σ (upd H s.heap.objs.size (.tup [.int (i : Nat), .str ⟨#[c]⟩])) { s with heap := h'', toks := tk + 1 } :=
      I.turnedNew (ch := [e, it]) (fun b ob hb q => (sb.2 b (fun z => hb (by simp [z]))).trans (hk b ob (fun z => hb (by simp [z])) (fun z => hb (by simp [z])) q)) hf (Nat.le_refl _) new
    obtain ⟨oi, hoi, ri⟩ := hit'
    refine ⟨.ref s.heap.objs.size, _, I1, rfl, ⟨_, c, rfl, I.hok.fresh (Nat.le_refl _), rfl, hcx⟩, ⟨⟨.str ⟨#[c]⟩ u', ?_⟩, ⟨oi, (sb.2 it (Ne.symm hne)).trans hoi, ri⟩, hne, hg⟩, fun b hb => ?_⟩
    · have e1 : ((i + 1 : Nat) : Int) = (i : Int) + 1 := by omega
      rw [e1]; exact he'
    · have hb' : b < s.heap.objs.size := by
        have e' : b = e ∨ b = it := by simpa using hb
        rcases e' with z | z
        · rw [z]; exact hel
        · rw [z]; exact hil
      rw [upd_ne (Nat.ne_of_lt hb')]
      exact (hf b hb).1
  done := by
    intro X hP hw hK hc i pins s σ H E I hf st hg
    subst hP hw hK
    obtain ⟨⟨old, he⟩, hit, hne, hle⟩ := st
    obtain ⟨f0, f1, f2, f3, f4, f5⟩ := hf it (by simp)
    have hi : i = x.cps.size := Nat.le_antisymm hle hg
    subst hi
    have D := draws_str (prog := X.prog) (w := X.w) (A := X.A.in1) (I.ok.hd hc) it x t
    exact wpAny_pyNext_enum_endD D he hit fun h' eb => ⟨rfl, I.turned (t' := s.toks) (fun b o hb q => eb b o hb q) f0 f1 f3 f4 f5⟩
  self := fun A i s Q E st h => let ⟨⟨_, he⟩, _⟩ := st; wpAny_pyIter_enum he h
def iEnumS (ta : TA) : TI := fun σ H R => ta σ H fun vs H1 => ∃ x, vs = [.str x] ∧ R (Ites x) H1
theorem pi_enumS {X : Cx} {e : Expr} {ta : TA} {p pos tpos : Pos} {elts : List Expr} {kk : Nat} (hg : Gl X "enumerate") (hm : X.mg "enumerate" = none) (ha : PA X [e] ta) (hs : starEach [e] X.env = [(false, eval e X.env)] := by rfl) :
    PI X (.Tuple elts kk tpos) (.Call (.Name "enumerate" p) [e] [] pos) (iEnumS ta) := by
  intro pins s σ H R I h
  refine Call_ (ld_blt I hg hm boot_enumerate (PyProof.Rows.callWith_type1 (thn (ha pos pins s σ H _ I h) fun us s1 ⟨vs, H1, I1, r1, q1⟩ => ?_) hs rfl))
  obtain ⟨x, ex, q⟩ := q1
  subst ex
  cases r1 with
  | cons r rr =>
    cases rr
    obtain ⟨t, rfl⟩ := r
    refine call_enumerate_str fun h' he hit hsz hk => wpAny_pyIter_enum he ?_
    have I2 : Inv X pins σ H1 { s1 with heap := h' } := I1.kept (t' := s1.toks) hk
    refine ⟨s1.heap.objs.size + 1, [s1.heap.objs.size + 1, s1.heap.objs.size], _, _, H1, rfl, I2, turn_enumS x t (s1.heap.objs.size + 1) s1.heap.objs.size, ⟨⟨.none, he⟩, hit, Nat.succ_ne_self _, Nat.zero_le _⟩, fun b hb => ?_, q⟩
    have e' : b = s1.heap.objs.size + 1 ∨ b = s1.heap.objs.size := by simpa using hb
    have hle : s1.heap.objs.size ≤ b := by
      rcases e' with z | z
      · rw [z]; exact Nat.le_add_right _ _
      · rw [z]; exact Nat.le_refl _
    exact I1.fpOk hle (I1.hok.fresh hle)
/-- a thing among others, as data -/
noncomputable def rdEq (h : Heap) (dx : PyData) (y : Value) : Bool := @decide (∃ d as, d.canLay0 = true ∧ Reads h y d as ∧ PyData.eqv d dx = true) (Classical.propDecidable _)
theorem rdEq_of {h : Heap} {dx d : PyData} {y : Value} {as : List Addr} (r : Reads h y d as) (c : d.canLay0 = true) : rdEq h dx y = PyData.eqv d dx := by
  unfold rdEq
  cases hb : PyData.eqv d dx with
  | true => exact @decide_eq_true _ (Classical.propDecidable _) ⟨d, as, c, r, hb⟩
  | false =>
    refine @decide_eq_false _ (Classical.propDecidable _) ?_
    rintro ⟨d', as', c', r', hb'⟩
    have := (Reads.unique r d' as' r').1
    rw [this, hb'] at hb
    cases hb
theorem any_rd {h : Heap} {dx : PyData} : ∀ {ds : List PyData} {vs : List Value} {as : List Addr}, ReadsAll h vs ds as → (∀ d ∈ ds, d.canLay0 = true) → vs.any (rdEq h dx) = ds.any fun d => PyData.eqv d dx
  | [], _, _, r, _ => by cases r; rfl
  | d :: ds, _, _, r, c => by
    cases r with
    | cons r1 r2 => rw [List.any_cons, List.any_cons, rdEq_of r1 (c d (by simp)), any_rd r2 fun x hx => c x (List.mem_cons_of_mem _ hx)]
theorem mem_rd {h : Heap} : ∀ {ds : List PyData} {vs : List Value} {as : List Addr}, ReadsAll h vs ds as → ∀ y ∈ vs, ∃ d ∈ ds, ∃ as', Reads h y d as'
  | [], _, _, r => by cases r; exact fun y hy => by cases hy
  | d :: ds, _, _, r => by
    cases r with
    | cons r1 r2 =>
      intro y hy
      rcases List.mem_cons.mp hy with rfl | hy
      · exact ⟨d, by simp, _, r1⟩
      · obtain ⟨d', hd, x⟩ := mem_rd r2 y hy
        exact ⟨d', List.mem_cons_of_mem _ hd, x⟩
section
variable {X : Cx}
def rInD (K : PySem.W.Frag) (neg : Bool) : R2 := fun x y H Q => ∃ p xs d ds, y = .ref p ∧ (SqL K H p xs ∨ SqT K H p xs) ∧ Dp K H x d ∧ DpAll K H xs ds ∧ SeqAt.shaped d = true ∧ (∀ e ∈ ds, SeqAt.shaped e = true) ∧
  Q (.bl (if neg then !(ds.any fun e => PyData.eqv e d) else ds.any fun e => PyData.eqv e d)) H
theorem op_inD (hu : X.A.in1.units + 64 < cLine) : OpR X (compareOp .In) (rInD X.K false) := by
  intro pins s σ H x y v u Q I rx ry h
  obtain ⟨p, xs, d, ds, rfl, hq, hd, hds, sd, sds, q⟩ := h
  cases ry
  obtain ⟨as, rd⟩ := Dp.reads I d x v hd rx
  have key : ∀ {its : List Value}, Vals xs its → (∀ w ∈ its, SeqAt.EqAt X.A.in1 s w v (rdEq s.heap d w)) ∧ its.any (rdEq s.heap d) = ds.any fun e => PyData.eqv e d := fun {its} r => by
    obtain ⟨bs, rs⟩ := Dp.readsAll I ds xs its hds r
    refine ⟨fun w hw => ?_, any_rd rs fun e he => SeqAt.canLay_of_shaped (sds e he)⟩
    obtain ⟨e, he, as', re⟩ := mem_rd rs w hw
    rw [rdEq_of re (SeqAt.canLay_of_shaped (sds e he))]
    exact PySem.W.keq_at re rd (sds e he) sd hu
  rcases hq with hq | hq
  · obtain ⟨its, r, pl, hz⟩ := I.list hq
    obtain ⟨k1, k2⟩ := key r
    refine SeqAt.in_listAt (rdEq s.heap d) pl.isList (fun w hw => k1 w (by simpa using hw)) ⟨.bl _, H, I, rfl, ?_⟩
    rw [show its.toArray.any (rdEq s.heap d) = its.any (rdEq s.heap d) by simp, k2]
    exact q
  · obtain ⟨its, r, pl, hz⟩ := I.tuple hq
    obtain ⟨k1, k2⟩ := key r
    refine SeqAt.in_tupleAt (rdEq s.heap d) pl (fun w hw => k1 w (by simpa using hw)) ⟨.bl _, H, I, rfl, ?_⟩
    rw [show its.toArray.any (rdEq s.heap d) = its.any (rdEq s.heap d) by simp, k2]
    exact q
theorem op_notInD (hu : X.A.in1.units + 64 < cLine) : OpR X (compareOp .NotIn) (rInD X.K true) := by
  intro pins s σ H x y v u Q I rx ry h
  obtain ⟨p, xs, d, ds, rfl, hq, hd, hds, sd, sds, q⟩ := h
  cases ry
  obtain ⟨as, rd⟩ := Dp.reads I d x v hd rx
  have key : ∀ {its : List Value}, Vals xs its → (∀ w ∈ its, SeqAt.EqAt X.A.in1 s w v (rdEq s.heap d w)) ∧ its.any (rdEq s.heap d) = ds.any fun e => PyData.eqv e d := fun {its} r => by
    obtain ⟨bs, rs⟩ := Dp.readsAll I ds xs its hds r
    refine ⟨fun w hw => ?_, any_rd rs fun e he => SeqAt.canLay_of_shaped (sds e he)⟩
    obtain ⟨e, he, as', re⟩ := mem_rd rs w hw
    rw [rdEq_of re (SeqAt.canLay_of_shaped (sds e he))]
    exact PySem.W.keq_at re rd (sds e he) sd hu
  rcases hq with hq | hq
  · obtain ⟨its, r, pl, hz⟩ := I.list hq
    obtain ⟨k1, k2⟩ := key r
    refine SeqAt.notIn_listAt (rdEq s.heap d) pl.isList (fun w hw => k1 w (by simpa using hw)) ⟨.bl _, H, I, rfl, ?_⟩
    rw [show its.toArray.any (rdEq s.heap d) = its.any (rdEq s.heap d) by simp, k2]
    exact q
  · obtain ⟨its, r, pl, hz⟩ := I.tuple hq
    obtain ⟨k1, k2⟩ := key r
    refine SeqAt.notIn_tupleAt (rdEq s.heap d) pl (fun w hw => k1 w (by simpa using hw)) ⟨.bl _, H, I, rfl, ?_⟩
    rw [show its.toArray.any (rdEq s.heap d) = its.any (rdEq s.heap d) by simp, k2]
    exact q
end
end L2

set_option Elab.async false
set_option linter.all false
set_option maxRecDepth 100000
set_option maxHeartbeats 4000000
/-! sorted(..) of tuples of two ints -/
namespace LS
open PySem PySem.W PySem.Spec PyProof.Rows L2
abbrev PR := (Int × Int) × Addr
def plt (a b : Int × Int) : Prop := a.1 < b.1 ∨ (a.1 = b.1 ∧ a.2 < b.2)
abbrev PRise (l : List (Int × Int)) : Prop := l.Pairwise fun a b => ¬ plt b a
def pkey (p : Int × Int) : List IK := [Sum.inl p.1, Sum.inl p.2]
theorem pkey_lt (a b : Int × Int) : lexLt itemOrd (pkey a) (pkey b) = true ↔ plt a b := by
  unfold pkey plt
  rw [lex_true, lex_true]
  have e1 : ∀ x y : Int, itemOrd.blt (Sum.inl x) (Sum.inl y) = decide (x < y) := fun _ _ => rfl
  rw [e1, e1, e1, e1]
  have e2 : lexLt itemOrd [] [] = false := rfl
  rw [e2]
  simp only [decide_eq_true_eq, decide_eq_false_iff_not]
  constructor
  · rintro (h | ⟨h1, h2 | ⟨_, h⟩⟩)
    · exact .inl h
    · by_cases z : a.1 < b.1
      · exact .inl z
      · exact .inr ⟨by omega, h2⟩
    · cases h
  · rintro (h | ⟨h1, h2⟩)
    · exact .inl h
    · exact .inr ⟨by omega, .inl h2⟩
def PrAt (h : Heap) (p : PR) : Prop := ∃ o its n t u, h.get? p.2 = some o ∧ o.cls = .type "tuple" ∧ o.data = .seq its n ∧ its.toList = [.int p.1.1 t, .int p.1.2 u]
theorem PrAt.keep {h h' : Heap} {p : PR} (k : ∀ b o, h.get? b = some o → o.cls = .type "tuple" → h'.get? b = some o) (x : PrAt h p) : PrAt h' p := by
  obtain ⟨o, its, n, t, u, e, c, z⟩ := x
  exact ⟨o, its, n, t, u, k _ _ e c, c, z⟩
theorem PrAt.key {h : Heap} {p : PR} (x : PrAt h p) : G.tupKeyC h (fun _ => false) (.ref p.2) = some (pkey p.1) := by
  obtain ⟨o, its, n, t, u, e, c, d, z⟩ := x
  unfold G.tupKeyC
  have h1 : G.isTupObj h (.ref p.2) = true := by
    unfold G.isTupObj
    dsimp only
    rw [e]
    dsimp only
    rw [c]
    rfl
  rw [if_pos h1]
  unfold tupKey
  dsimp only
  rw [e]
  dsimp only
  rw [d]
  dsimp only
  rw [z]
  rfl
theorem pr_firsts {h : Heap} : ∀ {ps : List PR}, (∀ p ∈ ps, PrAt h p) → ∃ fs, TupsOf h (fun _ => false) (ps.map fun p => Value.ref p.2) fs
  | [], _ => ⟨[], .nil⟩
  | p :: ps, hl => by
    obtain ⟨fs, hf⟩ := pr_firsts (ps := ps) fun q hq => hl q (List.mem_cons_of_mem _ hq)
    obtain ⟨o, its, n, t, u, e1, c, d, z⟩ := hl p (by simp)
    refine ⟨.int p.1.1 t :: fs, .cons ⟨p.2, o, its, n, rfl, e1, c, d, ?_, fun _ => ⟨_, _, rfl⟩, fun z => by simp at z⟩ hf⟩
    rw [← Array.getElem?_toList, z]; rfl
section
variable {prog : Program} {w : World} {A : Around} {E : Value → Shared → Prop} {s : Shared}
theorem sort_pr {ps : List PR} {a : Addr} {P : Fin → Shared → Prop} (hl : ∀ p ∈ ps, PrAt s.heap p) (hL : ps.length ≤ sizeLine)
    (ho : s.heap.get? a = some (seqObj "list" (ps.map fun p => Value.ref p.2).toArray 0))
    (h : ∀ qs : List PR, qs.Perm ps → PRise (qs.map (·.1)) → P (.done (.ret .none)) { s with heap := sortedHeap s.heap a (ps.map fun p => Value.ref p.2) (qs.map fun p => Value.ref p.2).toArray }) :
    wpAny (model prog w) A (Builtin.«list.sort» ⟨[.ref a], []⟩) P E s := by
  obtain ⟨fs, hf⟩ := pr_firsts hl
  refine G.list_sort_tups (shape := fun _ => false) ho hf (fun v hv => ?_) (by rw [List.length_map]; exact hL) fun st' hp hs _ => ?_
  · obtain ⟨p, hp, rfl⟩ := List.mem_map.mp hv
    exact ⟨_, (hl p hp).key⟩
  · have hl1 : (arrOf st').toList.Perm ((ps.map fun p => Value.ref p.2).zip (ps.map fun p => Value.ref p.2)) := by rw [← pairsOf_toList]; exact Array.perm_iff_toList_perm.mp hp
    have hz : (ps.map fun p => Value.ref p.2).zip (ps.map fun p => Value.ref p.2) = ps.map fun p => (Value.ref p.2, Value.ref p.2) := by
      rw [List.zip_map']
    rw [hz] at hl1
    obtain ⟨qs, q1, q2⟩ := map_perm_inv _ hl1 ps rfl
    have hsz : (arrOf st').size = (pairsOf (ps.map fun p => Value.ref p.2)).size := hp.size_eq
    have h0 : PyProof.Rows.KeysOf (G.tupKindC s.heap fun _ => false) (arrOf st') := by
      intro x hx
      rw [q2] at hx
      obtain ⟨p, hp', rfl⟩ := List.mem_map.mp hx
      exact ⟨_, (hl p (q1.mem_iff.mp hp')).key⟩
    have hpw := keyLe_of_sorted (κ := G.tupKindC s.heap fun _ => false) (xs := arrOf st') h0 (by rw [hsz]; exact hs)
    rw [q2, List.pairwise_map] at hpw
    have e3 : (arrOf st').map (·.2) = (qs.map fun p => Value.ref p.2).toArray := by
      apply Array.toList_inj.mp
      rw [Array.toList_map, q2, List.map_map]
      rfl
    rw [e3]
    refine h qs q1 ?_
    show (qs.map (·.1)).Pairwise _
    rw [List.pairwise_map]
    refine hpw.imp_of_mem fun {x y} hx hy z => ?_
    obtain ⟨a1, b1, ha, hb, hk⟩ := z
    have k1 := (hl x (q1.mem_iff.mp hx)).key
    have k2 := (hl y (q1.mem_iff.mp hy)).key
    rw [show (G.tupKindC s.heap fun _ => false).keyOf (Value.ref x.2) = some (pkey x.1) from k1] at ha
    rw [show (G.tupKindC s.heap fun _ => false).keyOf (Value.ref y.2) = some (pkey y.1) from k2] at hb
    cases ha
    cases hb
    intro hlt
    have := (pkey_lt _ _).mpr hlt
    have hk' : lexLt itemOrd (pkey y.1) (pkey x.1) = false := hk
    rw [this] at hk'
    cases hk'
end
section
variable {X : Cx}
def rSortedP (K : PySem.W.Frag) : List V → Hp → VK → Prop := fun xs H Q => ∃ (a : Addr) (ps : List PR), xs = [.ref a] ∧ (SqL K H a (ps.map fun p => .ref p.2) ∨ SqT K H a (ps.map fun p => .ref p.2)) ∧ (∀ p ∈ ps, SqT K H p.2 [.int p.1.1, .int p.1.2]) ∧ ps.length ≤ 4000 ∧
  ∀ (qs : List PR) (p : Addr), qs.Perm ps → PRise (qs.map (·.1)) → H p = none → Q (.ref p) (upd H p (.lst (qs.map fun p => .ref p.2)))
theorem prs_refs : ∀ (ps : List PR) (its : List Value), Vals (ps.map fun p => V.ref p.2) its → its = ps.map fun p => Value.ref p.2
  | [], _, h => by cases h; rfl
  | p :: ps, _, h => by
    cases h with
    | cons r t => cases r; rw [prs_refs ps _ t]; rfl
theorem refs_prs : ∀ (ps : List PR), Vals (ps.map fun p => V.ref p.2) (ps.map fun p => Value.ref p.2)
  | [] => .nil
  | p :: ps => .cons rfl (refs_prs ps)
theorem cr_sortedP (hc : X.calm = true) : CallR X (.builtin "sorted") (rSortedP X.K) := by
  intro pins s σ H vs us Q I r h
  obtain ⟨a, ps, rfl, ha, hld, hl, q⟩ := h
  rw [Vals.ref1 r]
  have hlead : ∀ p ∈ ps, PrAt s.heap p := fun p hp => by
    obtain ⟨its, rv, ht, _⟩ := I.tuple (hld p hp)
    obtain ⟨o, ho, hcl, n, hd⟩ := ht
    cases rv with
    | cons r1 rv =>
      cases rv with
      | cons r2 rv =>
        cases rv
        obtain ⟨t, rfl⟩ := r1
        obtain ⟨u, rfl⟩ := r2
        exact ⟨o, _, n, t, u, ho, hcl, hd, rfl⟩
  have hcol : ∃ o T n, s.heap.get? a = some o ∧ o.cls = .type T ∧ (T = "list" ∨ T = "tuple") ∧ o.data = .seq (ps.map fun p => Value.ref p.2).toArray n := by
    rcases ha with ha | ha
    · obtain ⟨its, rv, hL, _⟩ := I.list ha
      rw [prs_refs ps its rv] at hL
      obtain ⟨o, ho, hcl, n, hd⟩ := hL.isList
      exact ⟨o, "list", n, ho, hcl, .inl rfl, hd⟩
    · obtain ⟨its, rv, hT, _⟩ := I.tuple ha
      rw [prs_refs ps its rv] at hT
      obtain ⟨o, ho, hcl, hrest⟩ := hT
      obtain ⟨n, hd⟩ := hrest
      exact ⟨o, "tuple", n, ho, hcl, .inr rfl, hd⟩
  obtain ⟨o, T, n, ho, hcl, hT, hd⟩ := hcol
  have hle4 : (ps.map fun p => Value.ref p.2).length ≤ sizeLine := by rw [List.length_map, sizeLine_eq]; omega
  refine sorted_shell (Good := fun vs => vs = ps.map fun p => Value.ref p.2) (Out := fun out => ∃ qs : List PR, qs.Perm ps ∧ PRise (qs.map (·.1)) ∧ out = qs.map fun p => Value.ref p.2) (fun A E R hh hR => ?_) (fun A E s2 vs a P hg hk hle ho hP => ?_) (I.ok.hd hc) (fun h2 tk d' p out e hk hle ho hout => ?_)
  · exact collect_seq ho hcl hT hd (fun h' hk hle => hR h' s.toks s.drawn _ hk hle rfl hle4) hle4
  · subst hg
    exact sort_pr (fun p hp => (hlead p hp).keep fun b o e _ => hk b o e) (by rw [sizeLine_eq]; omega) ho fun qs q1 q2 => hP _ ⟨qs, q1, q2, rfl⟩
  · obtain ⟨qs, q1, q2, q3⟩ := hout
    have hlen : (qs.map fun p => V.ref p.2).length ≤ sizeLine := by rw [List.length_map, q1.length_eq, sizeLine_eq]; omega
    exact ⟨.ref _, upd H p (.lst (qs.map fun p => .ref p.2)), dinv (I.laid (o := .lst (qs.map fun p => .ref p.2)) (t' := tk) hk hle ⟨hlen, out.toList, e, by rw [q3]; exact refs_prs qs, ho⟩) d', rfl, q qs _ q1 q2 (I.hok.fresh hle)⟩
end
end LS

set_option Elab.async false
set_option linter.all false
set_option maxRecDepth 100000
set_option maxHeartbeats 4000000
/-! rooms: what is seen -/
namespace RM
open PySem LS
abbrev Cell := Int × Int
def sgn (rows : List Str) (x y : Nat) : Option Nat := (rows[y]?).bind fun r => r.cps[x]?
structure Rom (wide : Nat) (rows : List Str) : Prop where
  h0 : 1 ≤ rows.length
  h6 : rows.length ≤ 6
  w0 : 1 ≤ wide
  w6 : wide ≤ 6
  len : ∀ r ∈ rows, r.cps.size = wide
  sg : ∀ r ∈ rows, ∀ c ∈ r.cps.toList, c = 46 ∨ c = 35
def col (rows : List Str) (c x : Nat) (ys : List Nat) : List Cell := ys.filterMap fun y => if sgn rows x y = some c then some ((x : Int), (y : Int)) else none
def cellsM (rows : List Str) (wide c : Nat) : List Cell := (List.range wide).flatMap fun x => col rows c x (List.range rows.length)
theorem mem_col {rows : List Str} {c x : Nat} {ys : List Nat} {p : Cell} : p ∈ col rows c x ys ↔ ∃ y ∈ ys, sgn rows x y = some c ∧ p = ((x : Int), (y : Int)) := by
  unfold col
  rw [List.mem_filterMap]
  constructor
  · rintro ⟨y, hy, e⟩
    split at e
    · cases e; exact ⟨y, hy, by assumption, rfl⟩
    · cases e
  · rintro ⟨y, hy, e, rfl⟩
    exact ⟨y, hy, by rw [if_pos e]⟩
theorem mem_cells {rows : List Str} {wide c : Nat} {p : Cell} : p ∈ cellsM rows wide c ↔ ∃ x y : Nat, x < wide ∧ y < rows.length ∧ sgn rows x y = some c ∧ p = ((x : Int), (y : Int)) := by
  unfold cellsM
  rw [List.mem_flatMap]
  constructor
  · rintro ⟨x, hx, h⟩
    obtain ⟨y, hy, h1, h2⟩ := mem_col.mp h
    exact ⟨x, y, List.mem_range.mp hx, List.mem_range.mp hy, h1, h2⟩
  · rintro ⟨x, y, hx, hy, h1, h2⟩
    exact ⟨x, List.mem_range.mpr hx, mem_col.mpr ⟨y, List.mem_range.mpr hy, h1, h2⟩⟩
theorem plt_irrefl (a : Cell) : ¬ plt a a := by unfold plt; omega
theorem plt_asymm {a b : Cell} (h : plt a b) : ¬ plt b a := by unfold plt at *; omega
theorem plt_total {a b : Cell} (h1 : ¬ plt a b) (h2 : ¬ plt b a) : a = b := by
  unfold plt at *
  exact Prod.ext (by omega) (by omega)
theorem col_strict {rows : List Str} {c x : Nat} {ys : List Nat} (h : ys.Pairwise (· < ·)) : (col rows c x ys).Pairwise plt := by
  unfold col
  rw [List.pairwise_filterMap]
  refine h.imp fun {a b} hab p hp q hq => ?_
  split at hp
  · split at hq
    · cases hp; cases hq
      exact .inr ⟨rfl, by show (a : Int) < b; omega⟩
    · cases hq
  · cases hp
theorem cells_strict (rows : List Str) (wide c : Nat) : (cellsM rows wide c).Pairwise plt := by
  unfold cellsM
  rw [List.pairwise_flatMap]
  refine ⟨fun x _ => col_strict List.pairwise_lt_range, List.pairwise_lt_range.imp fun {a b} hab p hp q hq => ?_⟩
  obtain ⟨y, _, _, rfl⟩ := mem_col.mp hp
  obtain ⟨z, _, _, rfl⟩ := mem_col.mp hq
  exact .inl (by show (a : Int) < b; omega)
theorem strict_nodup {l : List Cell} (h : l.Pairwise plt) : l.Nodup := List.Pairwise.imp (R := plt) (S := fun a b => a ≠ b) (fun {a b} (hab : plt a b) (e : a = b) => plt_irrefl b (by rw [e] at hab; exact hab)) h
theorem strict_rise {l : List Cell} (h : l.Pairwise plt) : PRise l := h.imp fun hab => plt_asymm hab
theorem rise_uniq {l m : List Cell} (hp : l.Perm m) (h1 : PRise l) (h2 : PRise m) : l = m :=
  List.Perm.eq_of_pairwise (le := fun a b => ¬ plt b a) (fun a b _ _ x y => plt_total y x) h1 h2 hp
theorem rise_ext {l m : List Cell} (nl : l.Nodup) (h1 : PRise l) (h2 : m.Pairwise plt) (h : ∀ p, p ∈ l ↔ p ∈ m) : l = m :=
  rise_uniq ((List.perm_ext_iff_of_nodup nl (strict_nodup h2)).mpr h) h1 (strict_rise h2)
/-! is_between -/
def inB (a b w : Int) : Bool := decide ((if b < a then b else a) ≤ w) && decide (w ≤ (if b > a then b else a))
def sides (w c o : Cell) : List Int :=
  let wx := o.1 - c.1
  let wy := o.2 - c.2
  let dx := w.1 - c.1
  let dy := w.2 - c.2
  [wx * (2 * dy + -1) - wy * (2 * dx + -1), wx * (2 * dy + 1) - wy * (2 * dx + -1), wx * (2 * dy + -1) - wy * (2 * dx + 1), wx * (2 * dy + 1) - wy * (2 * dx + 1)]
def btw (w c o : Cell) : Bool := inB c.1 o.1 w.1 && (inB c.2 o.2 w.2 && ((sides w c o).any (fun s => decide (s ≤ 0)) && (sides w c o).any fun s => decide (0 ≤ s)))
/-! _law_touches -/
abbrev LH := (Int × Int) × (Int × Int)
def frs (c o w : Int) : LH := if (2 * o + 1) - (2 * c + 1) < 0 then ((0 - (2 * w + 2 - (2 * c + 1)), 0 - ((2 * o + 1) - (2 * c + 1))), (0 - (2 * w - (2 * c + 1)), 0 - ((2 * o + 1) - (2 * c + 1)))) else ((2 * w - (2 * c + 1), (2 * o + 1) - (2 * c + 1)), (2 * w + 2 - (2 * c + 1), (2 * o + 1) - (2 * c + 1)))
def In6 (p : Cell) : Prop := (0 ≤ p.1 ∧ p.1 < 6) ∧ (0 ≤ p.2 ∧ p.2 < 6)
def seesM (rows : List Str) (wide : Nat) (c o : Cell) : Bool := !decide (c = o) && !((cellsM rows wide 35).any fun w => btw w c o)
theorem cells_in6 {rows : List Str} {wide c : Nat} (h : Rom wide rows) {p : Cell} (hp : p ∈ cellsM rows wide c) : In6 p := by
  obtain ⟨x, y, hx, hy, _, rfl⟩ := mem_cells.mp hp
  have := h.w6
  have := h.h6
  exact ⟨⟨by show (0 : Int) ≤ x; omega, by show (x : Int) < 6; omega⟩, by show (0 : Int) ≤ y; omega, by show (y : Int) < 6; omega⟩
def seenM (rows : List Str) (wide : Nat) (c : Cell) : List Cell := (cellsM rows wide 46).filter (seesM rows wide c)
theorem cells_len (rows : List Str) (wide c : Nat) : (cellsM rows wide c).length ≤ wide * rows.length := by
  unfold cellsM
  rw [List.length_flatMap]
  have : ∀ xs : List Nat, (xs.map fun x => (col rows c x (List.range rows.length)).length).sum ≤ xs.length * rows.length := fun xs => by
    induction xs with
    | nil => simp
    | cons a l ih =>
      rw [List.map_cons, List.sum_cons, List.length_cons]
      have : (col rows c a (List.range rows.length)).length ≤ rows.length := by
        unfold col
        have := List.length_filterMap_le (fun y => if sgn rows a y = some c then some ((a : Int), (y : Int)) else none) (List.range rows.length)
        rw [List.length_range] at this
        exact this
      rw [Nat.succ_mul]
      omega
  have h := this (List.range wide)
  rw [List.length_range] at h
  exact h
end RM

set_option Elab.async false
set_option linter.all false
set_option maxRecDepth 100000
set_option maxHeartbeats 4000000
/-! the library's sort run on other keys, whose comparisons answer alike, takes the same steps -/
namespace KM
open PySem PyProof.Rows
abbrev SM := StateT SortSt Sem
section
variable {M : Model} {Γ : Ctx} {s s0 : Shared} {f : Keyed → Keyed} {kd kr : SortKind} {α β : Type}
abbrev Fs (kr : SortKind) (f : Keyed → Keyed) (st : SortSt) : SortSt := SortSt.mk' kr ((arrOf st).map f) (pendingOf st) (gallopOf st) (failedOf st)
/-- what m' does at s0, m does at s, with the keys put on by f -/
def Sm (M : Model) (Γ : Ctx) (s s0 : Shared) (f : Keyed → Keyed) (kd kr : SortKind) (up : α → α) (m m' : SM α) : Prop :=
  ∀ (st : SortSt) (Q Q' : α → SortSt → Pos → Shared → Prop) (p p' : Pos), kindOf st = kd →
    (∀ r t x x', kindOf t = kd → Q' r t x' s0 → Q (up r) (Fs kr f t) x s) →
    Sem.wp M Γ (m'.run st) (fun r x z => Q' r.1 r.2 x z) (fun _ _ _ => False) p' s0 →
    Sem.wp M Γ (m.run (Fs kr f st)) (fun r x z => Q r.1 r.2 x z) (fun _ _ _ => False) p s
theorem Sm.pure {up : α → α} {a a' : α} (h : a = up a') : Sm M Γ s s0 f kd kr up (pure a) (pure a') := by
  intro st Q Q' p p' hk hQ hw
  rw [StateT.run_pure, Sem.wp_pure'] at hw ⊢
  rw [h]; exact hQ _ _ _ _ hk hw
theorem Sm.bind {up : α → α} {ub : β → β} {m m' : SM α} {g g' : α → SM β} (h1 : Sm M Γ s s0 f kd kr up m m') (h2 : ∀ r, Sm M Γ s s0 f kd kr ub (g (up r)) (g' r)) : Sm M Γ s s0 f kd kr ub (m >>= g) (m' >>= g') := by
  intro st Q Q' p p' hk hQ hw
  rw [StateT.run_bind, Sem.wp_bind'] at hw ⊢
  exact h1 st (fun r t x z => Sem.wp M Γ ((g r).run t) (fun r x z => Q r.1 r.2 x z) (fun _ _ _ => False) x z) (fun r t x z => Sem.wp M Γ ((g' r).run t) (fun r x z => Q' r.1 r.2 x z) (fun _ _ _ => False) x z) p p' hk (fun r t x x' ht hr => h2 r t Q Q' x x' ht hQ hr) hw
theorem Sm.get {ub : β → β} {g g' : SortSt → SM β} (h : ∀ st, kindOf st = kd → Sm M Γ s s0 f kd kr ub (g (Fs kr f st)) (g' st)) : Sm M Γ s s0 f kd kr ub (get >>= g) (get >>= g') := by
  intro st Q Q' p p' hk hQ hw
  rw [StateT.run_bind, StateT.run_get, pure_bind] at hw ⊢
  exact h st hk st Q Q' p p' hk hQ hw
theorem Sm.set {t' : SortSt} {t : SortSt} (hk : kindOf t' = kd) (h : t = Fs kr f t') : Sm M Γ s s0 f kd kr (fun x => x) (set t) (set t') := by
  intro st Q Q' p p' _ hQ hw
  rw [StateT.run_set, Sem.wp_pure'] at hw ⊢
  rw [h]; exact hQ _ _ _ _ hk hw
theorem Sm.modify {g g' : SortSt → SortSt} (h : ∀ st, kindOf st = kd → kindOf (g' st) = kd ∧ g (Fs kr f st) = Fs kr f (g' st)) : Sm M Γ s s0 f kd kr (fun x => x) (modify g) (modify g') := by
  intro st Q Q' p p' hk hQ hw
  rw [StateT.run_modify, Sem.wp_pure'] at hw ⊢
  obtain ⟨a, b⟩ := h st hk
  show Q _ (g (Fs kr f st)) p s
  rw [b]; exact hQ _ _ _ _ a hw
theorem Sm.rule {w : String} : Sm M Γ s s0 f kd kr (fun x => x) (liftM (PySem.rule w)) (liftM (PySem.rule w)) := by
  intro st Q Q' p p' hk hQ hw
  change Sem.wp M Γ (PySem.rule w >>= fun a => Pure.pure (a, st)) _ _ _ _ at hw
  show Sem.wp M Γ (PySem.rule w >>= fun a => Pure.pure (a, Fs kr f st)) _ _ _ _
  rw [Sem.wp_bind', Sem.wp_cmd_rule, Sem.wp_pure'] at hw ⊢
  exact hQ _ _ _ _ hk hw
theorem Sm.uns {up : α → α} {w : String} {m : SM α} : Sm M Γ s s0 f kd kr up m (liftM (unsupported w : Sem α)) := by
  intro st Q Q' p p' hk hQ hw
  change Sem.wp M Γ ((unsupported w : Sem α) >>= fun a => Pure.pure (a, st)) _ _ _ _ at hw
  rw [Sem.wp_bind', Sem.wp_cmd_unsupported] at hw
  exact hw.elim
theorem Sm.ite {up : α → α} {c c' : Prop} [Decidable c] [Decidable c'] {a b a' b' : SM α} (hc : c ↔ c') (h1 : c' → Sm M Γ s s0 f kd kr up a a') (h2 : ¬ c' → Sm M Γ s s0 f kd kr up b b') : Sm M Γ s s0 f kd kr up (if c then a else b) (if c' then a' else b') := by
  by_cases h : c'
  · rw [if_pos (hc.mpr h), if_pos h]; exact h1 h
  · rw [if_neg (fun z => h (hc.mp z)), if_neg h]; exact h2 h
/-- what the walks of the sort carry, with the keys put on -/
class Up (α : Type) where
  up : (Keyed → Keyed) → α → α
abbrev upS [Up α] (f : Keyed → Keyed) : ForInStep α → ForInStep α
  | .done a => .done (Up.up f a)
  | .yield a => .yield (Up.up f a)
instance : Up Nat := ⟨fun _ x => x⟩
instance : Up Bool := ⟨fun _ x => x⟩
instance : Up Unit := ⟨fun _ x => x⟩
instance : Up (Array Keyed) := ⟨fun f x => x.map f⟩
instance [Up α] : Up (Option α) := ⟨fun f => Option.map (Up.up f)⟩
instance [Up α] [Up β] : Up (α × β) := ⟨fun f x => (Up.up f x.1, Up.up f x.2)⟩
theorem Sm.loopL [Up β] {l : List Nat} {g g' : Nat → β → SM (ForInStep β)} (h : ∀ i b, Sm M Γ s s0 f kd kr (upS f) (g i (Up.up f b)) (g' i b)) : ∀ b, Sm M Γ s s0 f kd kr (Up.up f) (forIn l (Up.up f b) g) (forIn l b g') := by
  induction l with
  | nil => intro b; rw [List.forIn_nil, List.forIn_nil]; exact Sm.pure rfl
  | cons i l ih =>
    intro b
    rw [List.forIn_cons, List.forIn_cons]
    refine Sm.bind (h i b) fun r => ?_
    cases r with
    | done a => exact Sm.pure rfl
    | yield a => exact ih a
theorem Sm.loop [Up β] {R : Std.Legacy.Range} {g g' : Nat → β → SM (ForInStep β)} {b b' : β} (hb : b = Up.up f b') (h : ∀ i b, Sm M Γ s s0 f kd kr (upS f) (g i (Up.up f b)) (g' i b)) : Sm M Γ s s0 f kd kr (Up.up f) (forIn R b g) (forIn R b' g') := by
  rw [hb]
  simp only [Std.Legacy.Range.forIn_eq_forIn_range']
  exact Sm.loopL h b'
end
end KM

set_option Elab.async false
set_option linter.all false
set_option maxRecDepth 100000
set_option maxHeartbeats 4000000
namespace KM
open PySem PyProof.Rows
section
variable {M : Model} {Γ : Ctx} {s s0 : Shared} {f : Keyed → Keyed} {kd kr : SortKind} {α β : Type}
/-- the comparisons answer alike -/
def Alike (M : Model) (Γ : Ctx) (s s0 : Shared) (f : Keyed → Keyed) (kd kr : SortKind) : Prop :=
  ∀ (x y : Keyed) (Q Q' : Bool → Pos → Shared → Prop) (E E' : Value → Pos → Shared → Prop) (p p' : Pos), (∀ b z z', Q' b z' s0 → Q b z s) → Sem.wp M Γ (keyLt' kd x.1 y.1) Q' E' p' s0 → Sem.wp M Γ (keyLt' kr (f x).1 (f y).1) Q E p s
theorem Sm.elem {arr : Array Keyed} {i : Nat} : Sm M Γ s s0 f kd kr f (elem' (arr.map f) i) (elem' arr i) := by
  rw [elem'_eq, elem'_eq, Array.getElem?_map]
  cases arr[i]? with
  | none => exact Sm.uns
  | some x => exact Sm.pure rfl
theorem Sm.liftA (hA : Alike M Γ s s0 f kd kr) {x y : Keyed} : Sm M Γ s s0 f kd kr (fun x => x) (liftM (keyLt' kr (f x).1 (f y).1).attempt) (liftM (keyLt' kd x.1 y.1).attempt) := by
  intro st Q Q' p p' hk hQ hw
  change Sem.wp M Γ ((keyLt' kd x.1 y.1).attempt >>= fun a => Pure.pure (a, st)) _ _ _ _ at hw
  show Sem.wp M Γ ((keyLt' kr (f x).1 (f y).1).attempt >>= fun a => Pure.pure (a, Fs kr f st)) _ _ _ _
  rw [Sem.wp_bind', Sem.wp_attempt] at hw ⊢
  refine hA x y _ _ _ _ p p' ?_ hw
  intro b z z' h
  rw [Sem.wp_pure'] at h ⊢
  exact hQ _ _ _ _ hk h
theorem Sm.lt (hA : Alike M Γ s s0 f kd kr) {x y : Keyed} : Sm M Γ s s0 f kd kr (fun x => x) (lt' (f x) (f y)) (lt' x y) := by
  rw [lt'_eq, lt'_eq]
  refine Sm.get fun st hk => ?_
  have e : PyProof.Rows.kindOf (Fs kr f st) = kr := rfl
  rw [e, hk]
  refine Sm.bind (Sm.liftA hA) fun r => ?_
  cases r with
  | ok b => exact Sm.pure rfl
  | error e => exact Sm.bind (Sm.modify fun st hk => ⟨hk, rfl⟩) fun _ => Sm.pure rfl
theorem Sm.ltAt (hA : Alike M Γ s s0 f kd kr) {i j : Nat} : Sm M Γ s s0 f kd kr (fun x => x) (ltAt' i j) (ltAt' i j) := by
  rw [ltAt'_eq]
  refine Sm.get fun st hk => ?_
  exact Sm.bind Sm.elem fun x => Sm.bind Sm.elem fun y => Sm.lt hA
theorem map_swap (xs : Array Keyed) (i j : Nat) : (xs.swapIfInBounds i j).map f = (xs.map f).swapIfInBounds i j := by
  unfold Array.swapIfInBounds
  simp only [Array.size_map]
  split
  · split
    · apply Array.ext_getElem?
      intro k
      simp only [Array.getElem?_map, Array.getElem?_swap, Array.getElem_map]
      split
      · rfl
      · split
        · rfl
        · rfl
    · rfl
  · rfl
theorem map_foldl {γ : Type} (l : List γ) (g : Array Keyed → γ → Array Keyed) (h : ∀ a k, (g a k).map f = g (a.map f) k) : ∀ a, (l.foldl g a).map f = l.foldl g (a.map f) := by
  induction l with
  | nil => intro a; rfl
  | cons k l ih => intro a; rw [List.foldl_cons, List.foldl_cons, ih, h]
theorem Sm.rev {i j : Nat} : Sm M Γ s s0 f kd kr (fun x => x) (reverseSlice' i j) (reverseSlice' i j) := by
  rw [reverseSlice'_eq]
  refine Sm.modify fun st hk => ⟨hk, ?_⟩
  show setArr (Fs kr f st) _ = Fs kr f (setArr st _)
  have e : mirror ((arrOf st).map f) i j ((j - i) / 2) = (mirror (arrOf st) i j ((j - i) / 2)).map f := (map_foldl (f := f) (List.range ((j - i) / 2)) (fun a k => a.swapIfInBounds (i + k) (j - 1 - k)) (fun a k => map_swap a _ _) (arrOf st)).symm
  show SortSt.mk' _ (mirror ((arrOf st).map f) i j ((j - i) / 2)) _ _ _ = _
  rw [e]
theorem Sm.down {i j : Nat} : Sm M Γ s s0 f kd kr (fun x => x) (moveDown' i j) (moveDown' i j) := by
  rw [moveDown'_eq]
  refine Sm.modify fun st hk => ⟨hk, ?_⟩
  have e : bubble ((arrOf st).map f) i (i - j) = (bubble (arrOf st) i (i - j)).map f := (map_foldl (f := f) (List.range (i - j)) (fun a k => a.swapIfInBounds (i - k) (i - k - 1)) (fun a k => map_swap a _ _) (arrOf st)).symm
  show SortSt.mk' _ (bubble ((arrOf st).map f) i (i - j)) _ _ _ = _
  rw [e]
theorem Sm.gall {g : Nat} : Sm M Γ s s0 f kd kr (fun x => x) (setMinGallop' g) (setMinGallop' g) := by
  rw [setMinGallop'_eq]
  exact Sm.modify fun st hk => ⟨hk, rfl⟩
theorem Sm.bindO {γ : Type} [Up γ] {ub : β → β} {m m' : SM (Option γ)} {g g' : Option γ → SM β} (h1 : Sm M Γ s s0 f kd kr (fun x => x) m m') (h2 : Sm M Γ s s0 f kd kr ub (g none) (g' none)) (h3 : ∀ x, Sm M Γ s s0 f kd kr ub (g (some x)) (g' (some x))) : Sm M Γ s s0 f kd kr ub (m >>= g) (m' >>= g') :=
  Sm.bind h1 fun r => match r with
    | none => h2
    | some x => h3 x
theorem Sm.bindL {γ δ : Type} [Up γ] [Up δ] {ub : β → β} {m m' : SM (Option γ × δ)} {g g' : Option γ × δ → SM β} (h1 : Sm M Γ s s0 f kd kr (Up.up f) m m') (h2 : ∀ b, Sm M Γ s s0 f kd kr ub (g (none, Up.up f b)) (g' (none, b))) (h3 : ∀ o b, Sm M Γ s s0 f kd kr ub (g (some (Up.up f o), Up.up f b)) (g' (some o, b))) : Sm M Γ s s0 f kd kr ub (m >>= g) (m' >>= g') :=
  Sm.bind h1 fun r => match r with
    | (none, b) => h2 b
    | (some o, b) => h3 o b
theorem Sm.binary (hA : Alike M Γ s s0 f kd kr) {lo n ok : Nat} : Sm M Γ s s0 f kd kr (fun x => x) (binarySort' lo n ok) (binarySort' lo n ok) := by
  rw [binarySort'_eq]
  refine Sm.bindL (Sm.loop rfl (fun _ _ => ?_)) (fun _ => ?_) (fun _ _ => ?_)
  refine Sm.bindL (Sm.loop rfl (fun _ _ => ?_)) (fun _ => ?_) (fun _ _ => ?_)
  refine Sm.ite Iff.rfl (fun _ => ?_) (fun _ => ?_)
  exact Sm.pure (by simp only [Up.up, upS, Option.map_some, Option.map_none, Array.map_append, Array.map_extract, Array.map_push, Array.map_reverse, List.map_toArray, List.map_cons, List.map_nil])
  refine Sm.bindO (Sm.ltAt hA) ?_ (fun _ => ?_)
  exact Sm.pure (by simp only [Up.up, upS, Option.map_some, Option.map_none, Array.map_append, Array.map_extract, Array.map_push, Array.map_reverse, List.map_toArray, List.map_cons, List.map_nil])
  refine Sm.ite Iff.rfl (fun _ => ?_) (fun _ => ?_)
  exact Sm.pure (by simp only [Up.up, upS, Option.map_some, Option.map_none, Array.map_append, Array.map_extract, Array.map_push, Array.map_reverse, List.map_toArray, List.map_cons, List.map_nil])
  exact Sm.pure (by simp only [Up.up, upS, Option.map_some, Option.map_none, Array.map_append, Array.map_extract, Array.map_push, Array.map_reverse, List.map_toArray, List.map_cons, List.map_nil])
  refine Sm.bind Sm.down (fun _ => ?_)
  exact Sm.pure (by simp only [Up.up, upS, Option.map_some, Option.map_none, Array.map_append, Array.map_extract, Array.map_push, Array.map_reverse, List.map_toArray, List.map_cons, List.map_nil])
  exact Sm.pure (by simp only [Up.up, upS, Option.map_some, Option.map_none, Array.map_append, Array.map_extract, Array.map_push, Array.map_reverse, List.map_toArray, List.map_cons, List.map_nil])
  exact Sm.pure (by simp only [Up.up, upS, Option.map_some, Option.map_none, Array.map_append, Array.map_extract, Array.map_push, Array.map_reverse, List.map_toArray, List.map_cons, List.map_nil])
  exact Sm.pure (by simp only [Up.up, upS, Option.map_some, Option.map_none, Array.map_append, Array.map_extract, Array.map_push, Array.map_reverse, List.map_toArray, List.map_cons, List.map_nil])
theorem Sm.count (hA : Alike M Γ s s0 f kd kr) {lo n : Nat} : Sm M Γ s s0 f kd kr (fun x => x) (countRun' lo n) (countRun' lo n) := by
  rw [countRun'_eq]
  refine Sm.bindL (Sm.loop rfl (fun _ _ => ?_)) (fun _ => ?_) (fun _ _ => ?_)
  refine Sm.bindO (Sm.ltAt hA) ?_ (fun _ => ?_)
  exact Sm.pure (by simp only [Up.up, upS, Option.map_some, Option.map_none, Array.map_append, Array.map_extract, Array.map_push, Array.map_reverse, List.map_toArray, List.map_cons, List.map_nil])
  refine Sm.ite Iff.rfl (fun _ => ?_) (fun _ => ?_)
  exact Sm.pure (by simp only [Up.up, upS, Option.map_some, Option.map_none, Array.map_append, Array.map_extract, Array.map_push, Array.map_reverse, List.map_toArray, List.map_cons, List.map_nil])
  exact Sm.pure (by simp only [Up.up, upS, Option.map_some, Option.map_none, Array.map_append, Array.map_extract, Array.map_push, Array.map_reverse, List.map_toArray, List.map_cons, List.map_nil])
  refine Sm.ite Iff.rfl (fun _ => ?_) (fun _ => ?_)
  exact Sm.pure (by simp only [Up.up, upS, Option.map_some, Option.map_none, Array.map_append, Array.map_extract, Array.map_push, Array.map_reverse, List.map_toArray, List.map_cons, List.map_nil])
  refine Sm.ite Iff.rfl (fun _ => ?_) (fun _ => ?_)
  refine Sm.bindO (Sm.ltAt hA) ?_ (fun _ => ?_)
  exact Sm.pure (by simp only [Up.up, upS, Option.map_some, Option.map_none, Array.map_append, Array.map_extract, Array.map_push, Array.map_reverse, List.map_toArray, List.map_cons, List.map_nil])
  refine Sm.ite Iff.rfl (fun _ => ?_) (fun _ => ?_)
  exact Sm.pure (by simp only [Up.up, upS, Option.map_some, Option.map_none, Array.map_append, Array.map_extract, Array.map_push, Array.map_reverse, List.map_toArray, List.map_cons, List.map_nil])
  refine Sm.bind Sm.rev (fun _ => ?_)
  refine Sm.bind Sm.rule (fun _ => ?_)
  refine Sm.bindL (Sm.loop rfl (fun _ _ => ?_)) (fun _ => ?_) (fun _ _ => ?_)
  refine Sm.bindO (Sm.ltAt hA) ?_ (fun _ => ?_)
  exact Sm.pure (by simp only [Up.up, upS, Option.map_some, Option.map_none, Array.map_append, Array.map_extract, Array.map_push, Array.map_reverse, List.map_toArray, List.map_cons, List.map_nil])
  refine Sm.ite Iff.rfl (fun _ => ?_) (fun _ => ?_)
  refine Sm.ite Iff.rfl (fun _ => ?_) (fun _ => ?_)
  refine Sm.bind Sm.rev (fun _ => ?_)
  exact Sm.pure (by simp only [Up.up, upS, Option.map_some, Option.map_none, Array.map_append, Array.map_extract, Array.map_push, Array.map_reverse, List.map_toArray, List.map_cons, List.map_nil])
  exact Sm.pure (by simp only [Up.up, upS, Option.map_some, Option.map_none, Array.map_append, Array.map_extract, Array.map_push, Array.map_reverse, List.map_toArray, List.map_cons, List.map_nil])
  refine Sm.bindO (Sm.ltAt hA) ?_ (fun _ => ?_)
  exact Sm.pure (by simp only [Up.up, upS, Option.map_some, Option.map_none, Array.map_append, Array.map_extract, Array.map_push, Array.map_reverse, List.map_toArray, List.map_cons, List.map_nil])
  refine Sm.ite Iff.rfl (fun _ => ?_) (fun _ => ?_)
  exact Sm.pure (by simp only [Up.up, upS, Option.map_some, Option.map_none, Array.map_append, Array.map_extract, Array.map_push, Array.map_reverse, List.map_toArray, List.map_cons, List.map_nil])
  exact Sm.pure (by simp only [Up.up, upS, Option.map_some, Option.map_none, Array.map_append, Array.map_extract, Array.map_push, Array.map_reverse, List.map_toArray, List.map_cons, List.map_nil])
  refine Sm.ite Iff.rfl (fun _ => ?_) (fun _ => ?_)
  refine Sm.bind Sm.rev (fun _ => ?_)
  refine Sm.bind Sm.rev (fun _ => ?_)
  refine Sm.bindL (Sm.loop rfl (fun _ _ => ?_)) (fun _ => ?_) (fun _ _ => ?_)
  refine Sm.bindO (Sm.ltAt hA) ?_ (fun _ => ?_)
  exact Sm.pure (by simp only [Up.up, upS, Option.map_some, Option.map_none, Array.map_append, Array.map_extract, Array.map_push, Array.map_reverse, List.map_toArray, List.map_cons, List.map_nil])
  refine Sm.ite Iff.rfl (fun _ => ?_) (fun _ => ?_)
  exact Sm.pure (by simp only [Up.up, upS, Option.map_some, Option.map_none, Array.map_append, Array.map_extract, Array.map_push, Array.map_reverse, List.map_toArray, List.map_cons, List.map_nil])
  exact Sm.pure (by simp only [Up.up, upS, Option.map_some, Option.map_none, Array.map_append, Array.map_extract, Array.map_push, Array.map_reverse, List.map_toArray, List.map_cons, List.map_nil])
  exact Sm.pure (by simp only [Up.up, upS, Option.map_some, Option.map_none, Array.map_append, Array.map_extract, Array.map_push, Array.map_reverse, List.map_toArray, List.map_cons, List.map_nil])
  exact Sm.pure (by simp [Up.up, upS])
  refine Sm.bind Sm.rev (fun _ => ?_)
  refine Sm.bindL (Sm.loop rfl (fun _ _ => ?_)) (fun _ => ?_) (fun _ _ => ?_)
  refine Sm.bindO (Sm.ltAt hA) ?_ (fun _ => ?_)
  exact Sm.pure (by simp only [Up.up, upS, Option.map_some, Option.map_none, Array.map_append, Array.map_extract, Array.map_push, Array.map_reverse, List.map_toArray, List.map_cons, List.map_nil])
  refine Sm.ite Iff.rfl (fun _ => ?_) (fun _ => ?_)
  exact Sm.pure (by simp only [Up.up, upS, Option.map_some, Option.map_none, Array.map_append, Array.map_extract, Array.map_push, Array.map_reverse, List.map_toArray, List.map_cons, List.map_nil])
  exact Sm.pure (by simp only [Up.up, upS, Option.map_some, Option.map_none, Array.map_append, Array.map_extract, Array.map_push, Array.map_reverse, List.map_toArray, List.map_cons, List.map_nil])
  exact Sm.pure (by simp only [Up.up, upS, Option.map_some, Option.map_none, Array.map_append, Array.map_extract, Array.map_push, Array.map_reverse, List.map_toArray, List.map_cons, List.map_nil])
  exact Sm.pure (by simp [Up.up, upS])
  exact Sm.pure (by simp [Up.up, upS])
  refine Sm.bind Sm.rule (fun _ => ?_)
  refine Sm.bindL (Sm.loop rfl (fun _ _ => ?_)) (fun _ => ?_) (fun _ _ => ?_)
  refine Sm.bindO (Sm.ltAt hA) ?_ (fun _ => ?_)
  exact Sm.pure (by simp only [Up.up, upS, Option.map_some, Option.map_none, Array.map_append, Array.map_extract, Array.map_push, Array.map_reverse, List.map_toArray, List.map_cons, List.map_nil])
  refine Sm.ite Iff.rfl (fun _ => ?_) (fun _ => ?_)
  refine Sm.ite Iff.rfl (fun _ => ?_) (fun _ => ?_)
  refine Sm.bind Sm.rev (fun _ => ?_)
  exact Sm.pure (by simp only [Up.up, upS, Option.map_some, Option.map_none, Array.map_append, Array.map_extract, Array.map_push, Array.map_reverse, List.map_toArray, List.map_cons, List.map_nil])
  exact Sm.pure (by simp only [Up.up, upS, Option.map_some, Option.map_none, Array.map_append, Array.map_extract, Array.map_push, Array.map_reverse, List.map_toArray, List.map_cons, List.map_nil])
  refine Sm.bindO (Sm.ltAt hA) ?_ (fun _ => ?_)
  exact Sm.pure (by simp only [Up.up, upS, Option.map_some, Option.map_none, Array.map_append, Array.map_extract, Array.map_push, Array.map_reverse, List.map_toArray, List.map_cons, List.map_nil])
  refine Sm.ite Iff.rfl (fun _ => ?_) (fun _ => ?_)
  exact Sm.pure (by simp only [Up.up, upS, Option.map_some, Option.map_none, Array.map_append, Array.map_extract, Array.map_push, Array.map_reverse, List.map_toArray, List.map_cons, List.map_nil])
  exact Sm.pure (by simp only [Up.up, upS, Option.map_some, Option.map_none, Array.map_append, Array.map_extract, Array.map_push, Array.map_reverse, List.map_toArray, List.map_cons, List.map_nil])
  refine Sm.ite Iff.rfl (fun _ => ?_) (fun _ => ?_)
  refine Sm.bind Sm.rev (fun _ => ?_)
  refine Sm.bind Sm.rev (fun _ => ?_)
  refine Sm.bindL (Sm.loop rfl (fun _ _ => ?_)) (fun _ => ?_) (fun _ _ => ?_)
  refine Sm.bindO (Sm.ltAt hA) ?_ (fun _ => ?_)
  exact Sm.pure (by simp only [Up.up, upS, Option.map_some, Option.map_none, Array.map_append, Array.map_extract, Array.map_push, Array.map_reverse, List.map_toArray, List.map_cons, List.map_nil])
  refine Sm.ite Iff.rfl (fun _ => ?_) (fun _ => ?_)
  exact Sm.pure (by simp only [Up.up, upS, Option.map_some, Option.map_none, Array.map_append, Array.map_extract, Array.map_push, Array.map_reverse, List.map_toArray, List.map_cons, List.map_nil])
  exact Sm.pure (by simp only [Up.up, upS, Option.map_some, Option.map_none, Array.map_append, Array.map_extract, Array.map_push, Array.map_reverse, List.map_toArray, List.map_cons, List.map_nil])
  exact Sm.pure (by simp only [Up.up, upS, Option.map_some, Option.map_none, Array.map_append, Array.map_extract, Array.map_push, Array.map_reverse, List.map_toArray, List.map_cons, List.map_nil])
  exact Sm.pure (by simp [Up.up, upS])
  refine Sm.bind Sm.rev (fun _ => ?_)
  refine Sm.bindL (Sm.loop rfl (fun _ _ => ?_)) (fun _ => ?_) (fun _ _ => ?_)
  refine Sm.bindO (Sm.ltAt hA) ?_ (fun _ => ?_)
  exact Sm.pure (by simp only [Up.up, upS, Option.map_some, Option.map_none, Array.map_append, Array.map_extract, Array.map_push, Array.map_reverse, List.map_toArray, List.map_cons, List.map_nil])
  refine Sm.ite Iff.rfl (fun _ => ?_) (fun _ => ?_)
  exact Sm.pure (by simp only [Up.up, upS, Option.map_some, Option.map_none, Array.map_append, Array.map_extract, Array.map_push, Array.map_reverse, List.map_toArray, List.map_cons, List.map_nil])
  exact Sm.pure (by simp only [Up.up, upS, Option.map_some, Option.map_none, Array.map_append, Array.map_extract, Array.map_push, Array.map_reverse, List.map_toArray, List.map_cons, List.map_nil])
  exact Sm.pure (by simp only [Up.up, upS, Option.map_some, Option.map_none, Array.map_append, Array.map_extract, Array.map_push, Array.map_reverse, List.map_toArray, List.map_cons, List.map_nil])
  exact Sm.pure (by simp [Up.up, upS])
  exact Sm.pure (by simp [Up.up, upS])
  exact Sm.pure (by simp [Up.up, upS])
end
end KM

set_option Elab.async false
set_option linter.all false
set_option maxRecDepth 100000
set_option maxHeartbeats 8000000
namespace KM
open PySem PyProof.Rows
section
variable {M : Model} {Γ : Ctx} {s s0 : Shared} {f : Keyed → Keyed} {kd kr : SortKind} {α β : Type}
theorem Sm.beyond (hA : Alike M Γ s s0 f kd kr) {l : Bool} {key : Keyed} {arr : Array Keyed} {base i : Nat} : Sm M Γ s s0 f kd kr (fun x => x) (beyond' l (f key) (arr.map f) base i) (beyond' l key arr base i) := by
  unfold beyond'
  refine Sm.bind Sm.elem fun x => ?_
  refine Sm.ite Iff.rfl (fun _ => Sm.lt hA) fun _ => ?_
  exact Sm.bind (Sm.lt hA) fun r => Sm.pure rfl
theorem Sm.gallop (hA : Alike M Γ s s0 f kd kr) {l : Bool} {key : Keyed} {arr : Array Keyed} {base n hint : Nat} : Sm M Γ s s0 f kd kr (fun x => x) (gallop' l (f key) (arr.map f) base n hint) (gallop' l key arr base n hint) := by
  rw [gallop'_eq, gallop'_eq]
  refine Sm.bindO (Sm.beyond hA) ?_ (fun _ => ?_)
  exact Sm.pure (by simp only [Up.up, upS, Option.map_some, Option.map_none, Array.map_append, Array.map_extract, Array.map_push, Array.map_reverse, List.map_toArray, List.map_cons, List.map_nil])
  refine Sm.ite Iff.rfl (fun _ => ?_) (fun _ => ?_)
  refine Sm.bindL (Sm.loop rfl (fun _ _ => ?_)) (fun _ => ?_) (fun _ _ => ?_)
  refine Sm.ite Iff.rfl (fun _ => ?_) (fun _ => ?_)
  exact Sm.pure (by simp only [Up.up, upS, Option.map_some, Option.map_none, Array.map_append, Array.map_extract, Array.map_push, Array.map_reverse, List.map_toArray, List.map_cons, List.map_nil])
  refine Sm.bindO (Sm.beyond hA) ?_ (fun _ => ?_)
  exact Sm.pure (by simp only [Up.up, upS, Option.map_some, Option.map_none, Array.map_append, Array.map_extract, Array.map_push, Array.map_reverse, List.map_toArray, List.map_cons, List.map_nil])
  refine Sm.ite Iff.rfl (fun _ => ?_) (fun _ => ?_)
  exact Sm.pure (by simp only [Up.up, upS, Option.map_some, Option.map_none, Array.map_append, Array.map_extract, Array.map_push, Array.map_reverse, List.map_toArray, List.map_cons, List.map_nil])
  exact Sm.pure (by simp only [Up.up, upS, Option.map_some, Option.map_none, Array.map_append, Array.map_extract, Array.map_push, Array.map_reverse, List.map_toArray, List.map_cons, List.map_nil])
  refine Sm.bindL (Sm.loop rfl (fun _ _ => ?_)) (fun _ => ?_) (fun _ _ => ?_)
  refine Sm.ite Iff.rfl (fun _ => ?_) (fun _ => ?_)
  exact Sm.pure (by simp only [Up.up, upS, Option.map_some, Option.map_none, Array.map_append, Array.map_extract, Array.map_push, Array.map_reverse, List.map_toArray, List.map_cons, List.map_nil])
  refine Sm.bindO (Sm.beyond hA) ?_ (fun _ => ?_)
  exact Sm.pure (by simp only [Up.up, upS, Option.map_some, Option.map_none, Array.map_append, Array.map_extract, Array.map_push, Array.map_reverse, List.map_toArray, List.map_cons, List.map_nil])
  refine Sm.ite Iff.rfl (fun _ => ?_) (fun _ => ?_)
  exact Sm.pure (by simp only [Up.up, upS, Option.map_some, Option.map_none, Array.map_append, Array.map_extract, Array.map_push, Array.map_reverse, List.map_toArray, List.map_cons, List.map_nil])
  exact Sm.pure (by simp only [Up.up, upS, Option.map_some, Option.map_none, Array.map_append, Array.map_extract, Array.map_push, Array.map_reverse, List.map_toArray, List.map_cons, List.map_nil])
  exact Sm.pure (by simp only [Up.up, upS, Option.map_some, Option.map_none, Array.map_append, Array.map_extract, Array.map_push, Array.map_reverse, List.map_toArray, List.map_cons, List.map_nil])
  exact Sm.pure (by simp [Up.up, upS])
  exact Sm.pure (by simp [Up.up, upS])
  refine Sm.bindL (Sm.loop rfl (fun _ _ => ?_)) (fun _ => ?_) (fun _ _ => ?_)
  refine Sm.ite Iff.rfl (fun _ => ?_) (fun _ => ?_)
  exact Sm.pure (by simp only [Up.up, upS, Option.map_some, Option.map_none, Array.map_append, Array.map_extract, Array.map_push, Array.map_reverse, List.map_toArray, List.map_cons, List.map_nil])
  refine Sm.bindO (Sm.beyond hA) ?_ (fun _ => ?_)
  exact Sm.pure (by simp only [Up.up, upS, Option.map_some, Option.map_none, Array.map_append, Array.map_extract, Array.map_push, Array.map_reverse, List.map_toArray, List.map_cons, List.map_nil])
  refine Sm.ite Iff.rfl (fun _ => ?_) (fun _ => ?_)
  exact Sm.pure (by simp only [Up.up, upS, Option.map_some, Option.map_none, Array.map_append, Array.map_extract, Array.map_push, Array.map_reverse, List.map_toArray, List.map_cons, List.map_nil])
  exact Sm.pure (by simp only [Up.up, upS, Option.map_some, Option.map_none, Array.map_append, Array.map_extract, Array.map_push, Array.map_reverse, List.map_toArray, List.map_cons, List.map_nil])
  refine Sm.bindL (Sm.loop rfl (fun _ _ => ?_)) (fun _ => ?_) (fun _ _ => ?_)
  refine Sm.ite Iff.rfl (fun _ => ?_) (fun _ => ?_)
  exact Sm.pure (by simp only [Up.up, upS, Option.map_some, Option.map_none, Array.map_append, Array.map_extract, Array.map_push, Array.map_reverse, List.map_toArray, List.map_cons, List.map_nil])
  refine Sm.bindO (Sm.beyond hA) ?_ (fun _ => ?_)
  exact Sm.pure (by simp only [Up.up, upS, Option.map_some, Option.map_none, Array.map_append, Array.map_extract, Array.map_push, Array.map_reverse, List.map_toArray, List.map_cons, List.map_nil])
  refine Sm.ite Iff.rfl (fun _ => ?_) (fun _ => ?_)
  exact Sm.pure (by simp only [Up.up, upS, Option.map_some, Option.map_none, Array.map_append, Array.map_extract, Array.map_push, Array.map_reverse, List.map_toArray, List.map_cons, List.map_nil])
  exact Sm.pure (by simp only [Up.up, upS, Option.map_some, Option.map_none, Array.map_append, Array.map_extract, Array.map_push, Array.map_reverse, List.map_toArray, List.map_cons, List.map_nil])
  exact Sm.pure (by simp only [Up.up, upS, Option.map_some, Option.map_none, Array.map_append, Array.map_extract, Array.map_push, Array.map_reverse, List.map_toArray, List.map_cons, List.map_nil])
  exact Sm.pure (by simp [Up.up, upS])
  exact Sm.pure (by simp [Up.up, upS])
end
end KM

set_option Elab.async false
set_option linter.all false
set_option maxRecDepth 100000
set_option maxHeartbeats 8000000
namespace KM
open PySem PyProof.Rows
section
variable {M : Model} {Γ : Ctx} {s s0 : Shared} {f : Keyed → Keyed} {kd kr : SortKind} {α β : Type}
theorem Sm.mergeLo (hA : Alike M Γ s s0 f kd kr) {a b : Array Keyed} : Sm M Γ s s0 f kd kr (Array.map f) (mergeLo' (a.map f) (b.map f)) (mergeLo' a b) := by
  rw [mergeLo'_eq, mergeLo'_eq]
  simp (config := {zeta := false}) only [Array.size_map]
  refine Sm.bind Sm.rule (fun _ => ?_)
  refine Sm.bind Sm.elem (fun _ => ?_)
  refine Sm.ite Iff.rfl (fun _ => ?_) (fun _ => ?_)
  exact Sm.pure (by simp only [Up.up, upS, Option.map_some, Option.map_none, Array.map_append, Array.map_extract, Array.map_push, Array.map_reverse, List.map_toArray, List.map_cons, List.map_nil])
  refine Sm.ite Iff.rfl (fun _ => ?_) (fun _ => ?_)
  exact Sm.pure (by simp only [Up.up, upS, Option.map_some, Option.map_none, Array.map_append, Array.map_extract, Array.map_push, Array.map_reverse, List.map_toArray, List.map_cons, List.map_nil])
  refine Sm.get (fun _ _ => ?_)
  refine Sm.bindL (Sm.loop (by simp only [Up.up, Option.map_none, Array.map_push, List.map_toArray, List.map_cons, List.map_nil]) (fun _ _ => ?_)) (fun _ => ?_) (fun _ _ => ?_)
  refine Sm.bindL (Sm.loop rfl (fun _ _ => ?_)) (fun _ => ?_) (fun _ _ => ?_)
  refine Sm.bind Sm.elem (fun _ => ?_)
  refine Sm.bind Sm.elem (fun _ => ?_)
  refine Sm.bindO (Sm.lt hA) ?_ (fun _ => ?_)
  exact Sm.pure (by simp only [Up.up, upS, Option.map_some, Option.map_none, Array.map_append, Array.map_extract, Array.map_push, Array.map_reverse, List.map_toArray, List.map_cons, List.map_nil])
  refine Sm.ite Iff.rfl (fun _ => ?_) (fun _ => ?_)
  refine Sm.bind Sm.elem (fun _ => ?_)
  refine Sm.ite Iff.rfl (fun _ => ?_) (fun _ => ?_)
  exact Sm.pure (by simp only [Up.up, upS, Option.map_some, Option.map_none, Array.map_append, Array.map_extract, Array.map_push, Array.map_reverse, List.map_toArray, List.map_cons, List.map_nil])
  refine Sm.ite Iff.rfl (fun _ => ?_) (fun _ => ?_)
  exact Sm.pure (by simp only [Up.up, upS, Option.map_some, Option.map_none, Array.map_append, Array.map_extract, Array.map_push, Array.map_reverse, List.map_toArray, List.map_cons, List.map_nil])
  exact Sm.pure (by simp only [Up.up, upS, Option.map_some, Option.map_none, Array.map_append, Array.map_extract, Array.map_push, Array.map_reverse, List.map_toArray, List.map_cons, List.map_nil])
  refine Sm.bind Sm.elem (fun _ => ?_)
  refine Sm.ite Iff.rfl (fun _ => ?_) (fun _ => ?_)
  exact Sm.pure (by simp only [Up.up, upS, Option.map_some, Option.map_none, Array.map_append, Array.map_extract, Array.map_push, Array.map_reverse, List.map_toArray, List.map_cons, List.map_nil])
  refine Sm.ite Iff.rfl (fun _ => ?_) (fun _ => ?_)
  exact Sm.pure (by simp only [Up.up, upS, Option.map_some, Option.map_none, Array.map_append, Array.map_extract, Array.map_push, Array.map_reverse, List.map_toArray, List.map_cons, List.map_nil])
  exact Sm.pure (by simp only [Up.up, upS, Option.map_some, Option.map_none, Array.map_append, Array.map_extract, Array.map_push, Array.map_reverse, List.map_toArray, List.map_cons, List.map_nil])
  refine Sm.bind Sm.rule (fun _ => ?_)
  refine Sm.bindL (Sm.loop rfl (fun _ _ => ?_)) (fun _ => ?_) (fun _ _ => ?_)
  refine Sm.ite Iff.rfl (fun _ => ?_) (fun _ => ?_)
  refine Sm.bind Sm.gall (fun _ => ?_)
  refine Sm.bind Sm.elem (fun _ => ?_)
  refine Sm.bindO (Sm.gallop hA) ?_ (fun _ => ?_)
  exact Sm.pure (by simp only [Up.up, upS, Option.map_some, Option.map_none, Array.map_append, Array.map_extract, Array.map_push, Array.map_reverse, List.map_toArray, List.map_cons, List.map_nil])
  refine Sm.ite Iff.rfl (fun _ => ?_) (fun _ => ?_)
  refine Sm.ite Iff.rfl (fun _ => ?_) (fun _ => ?_)
  exact Sm.pure (by simp only [Up.up, upS, Option.map_some, Option.map_none, Array.map_append, Array.map_extract, Array.map_push, Array.map_reverse, List.map_toArray, List.map_cons, List.map_nil])
  refine Sm.ite Iff.rfl (fun _ => ?_) (fun _ => ?_)
  exact Sm.pure (by simp only [Up.up, upS, Option.map_some, Option.map_none, Array.map_append, Array.map_extract, Array.map_push, Array.map_reverse, List.map_toArray, List.map_cons, List.map_nil])
  refine Sm.bind Sm.elem (fun _ => ?_)
  refine Sm.ite Iff.rfl (fun _ => ?_) (fun _ => ?_)
  exact Sm.pure (by simp only [Up.up, upS, Option.map_some, Option.map_none, Array.map_append, Array.map_extract, Array.map_push, Array.map_reverse, List.map_toArray, List.map_cons, List.map_nil])
  refine Sm.bind Sm.elem (fun _ => ?_)
  refine Sm.bindO (Sm.gallop hA) ?_ (fun _ => ?_)
  exact Sm.pure (by simp only [Up.up, upS, Option.map_some, Option.map_none, Array.map_append, Array.map_extract, Array.map_push, Array.map_reverse, List.map_toArray, List.map_cons, List.map_nil])
  refine Sm.ite Iff.rfl (fun _ => ?_) (fun _ => ?_)
  refine Sm.ite Iff.rfl (fun _ => ?_) (fun _ => ?_)
  exact Sm.pure (by simp only [Up.up, upS, Option.map_some, Option.map_none, Array.map_append, Array.map_extract, Array.map_push, Array.map_reverse, List.map_toArray, List.map_cons, List.map_nil])
  refine Sm.bind Sm.elem (fun _ => ?_)
  refine Sm.ite Iff.rfl (fun _ => ?_) (fun _ => ?_)
  exact Sm.pure (by simp only [Up.up, upS, Option.map_some, Option.map_none, Array.map_append, Array.map_extract, Array.map_push, Array.map_reverse, List.map_toArray, List.map_cons, List.map_nil])
  refine Sm.ite Iff.rfl (fun _ => ?_) (fun _ => ?_)
  exact Sm.pure (by simp only [Up.up, upS, Option.map_some, Option.map_none, Array.map_append, Array.map_extract, Array.map_push, Array.map_reverse, List.map_toArray, List.map_cons, List.map_nil])
  exact Sm.pure (by simp only [Up.up, upS, Option.map_some, Option.map_none, Array.map_append, Array.map_extract, Array.map_push, Array.map_reverse, List.map_toArray, List.map_cons, List.map_nil])
  refine Sm.bind Sm.elem (fun _ => ?_)
  refine Sm.ite Iff.rfl (fun _ => ?_) (fun _ => ?_)
  exact Sm.pure (by simp only [Up.up, upS, Option.map_some, Option.map_none, Array.map_append, Array.map_extract, Array.map_push, Array.map_reverse, List.map_toArray, List.map_cons, List.map_nil])
  refine Sm.ite Iff.rfl (fun _ => ?_) (fun _ => ?_)
  exact Sm.pure (by simp only [Up.up, upS, Option.map_some, Option.map_none, Array.map_append, Array.map_extract, Array.map_push, Array.map_reverse, List.map_toArray, List.map_cons, List.map_nil])
  exact Sm.pure (by simp only [Up.up, upS, Option.map_some, Option.map_none, Array.map_append, Array.map_extract, Array.map_push, Array.map_reverse, List.map_toArray, List.map_cons, List.map_nil])
  refine Sm.bind Sm.elem (fun _ => ?_)
  refine Sm.ite Iff.rfl (fun _ => ?_) (fun _ => ?_)
  exact Sm.pure (by simp only [Up.up, upS, Option.map_some, Option.map_none, Array.map_append, Array.map_extract, Array.map_push, Array.map_reverse, List.map_toArray, List.map_cons, List.map_nil])
  refine Sm.bind Sm.elem (fun _ => ?_)
  refine Sm.bindO (Sm.gallop hA) ?_ (fun _ => ?_)
  exact Sm.pure (by simp only [Up.up, upS, Option.map_some, Option.map_none, Array.map_append, Array.map_extract, Array.map_push, Array.map_reverse, List.map_toArray, List.map_cons, List.map_nil])
  refine Sm.ite Iff.rfl (fun _ => ?_) (fun _ => ?_)
  refine Sm.ite Iff.rfl (fun _ => ?_) (fun _ => ?_)
  exact Sm.pure (by simp only [Up.up, upS, Option.map_some, Option.map_none, Array.map_append, Array.map_extract, Array.map_push, Array.map_reverse, List.map_toArray, List.map_cons, List.map_nil])
  refine Sm.bind Sm.elem (fun _ => ?_)
  refine Sm.ite Iff.rfl (fun _ => ?_) (fun _ => ?_)
  exact Sm.pure (by simp only [Up.up, upS, Option.map_some, Option.map_none, Array.map_append, Array.map_extract, Array.map_push, Array.map_reverse, List.map_toArray, List.map_cons, List.map_nil])
  refine Sm.ite Iff.rfl (fun _ => ?_) (fun _ => ?_)
  exact Sm.pure (by simp only [Up.up, upS, Option.map_some, Option.map_none, Array.map_append, Array.map_extract, Array.map_push, Array.map_reverse, List.map_toArray, List.map_cons, List.map_nil])
  exact Sm.pure (by simp only [Up.up, upS, Option.map_some, Option.map_none, Array.map_append, Array.map_extract, Array.map_push, Array.map_reverse, List.map_toArray, List.map_cons, List.map_nil])
  refine Sm.bind Sm.elem (fun _ => ?_)
  refine Sm.ite Iff.rfl (fun _ => ?_) (fun _ => ?_)
  exact Sm.pure (by simp only [Up.up, upS, Option.map_some, Option.map_none, Array.map_append, Array.map_extract, Array.map_push, Array.map_reverse, List.map_toArray, List.map_cons, List.map_nil])
  refine Sm.ite Iff.rfl (fun _ => ?_) (fun _ => ?_)
  exact Sm.pure (by simp only [Up.up, upS, Option.map_some, Option.map_none, Array.map_append, Array.map_extract, Array.map_push, Array.map_reverse, List.map_toArray, List.map_cons, List.map_nil])
  exact Sm.pure (by simp only [Up.up, upS, Option.map_some, Option.map_none, Array.map_append, Array.map_extract, Array.map_push, Array.map_reverse, List.map_toArray, List.map_cons, List.map_nil])
  refine Sm.bind Sm.gall (fun _ => ?_)
  refine Sm.bind Sm.elem (fun _ => ?_)
  refine Sm.bindO (Sm.gallop hA) ?_ (fun _ => ?_)
  exact Sm.pure (by simp only [Up.up, upS, Option.map_some, Option.map_none, Array.map_append, Array.map_extract, Array.map_push, Array.map_reverse, List.map_toArray, List.map_cons, List.map_nil])
  refine Sm.ite Iff.rfl (fun _ => ?_) (fun _ => ?_)
  refine Sm.ite Iff.rfl (fun _ => ?_) (fun _ => ?_)
  exact Sm.pure (by simp only [Up.up, upS, Option.map_some, Option.map_none, Array.map_append, Array.map_extract, Array.map_push, Array.map_reverse, List.map_toArray, List.map_cons, List.map_nil])
  refine Sm.ite Iff.rfl (fun _ => ?_) (fun _ => ?_)
  exact Sm.pure (by simp only [Up.up, upS, Option.map_some, Option.map_none, Array.map_append, Array.map_extract, Array.map_push, Array.map_reverse, List.map_toArray, List.map_cons, List.map_nil])
  refine Sm.bind Sm.elem (fun _ => ?_)
  refine Sm.ite Iff.rfl (fun _ => ?_) (fun _ => ?_)
  exact Sm.pure (by simp only [Up.up, upS, Option.map_some, Option.map_none, Array.map_append, Array.map_extract, Array.map_push, Array.map_reverse, List.map_toArray, List.map_cons, List.map_nil])
  refine Sm.bind Sm.elem (fun _ => ?_)
  refine Sm.bindO (Sm.gallop hA) ?_ (fun _ => ?_)
  exact Sm.pure (by simp only [Up.up, upS, Option.map_some, Option.map_none, Array.map_append, Array.map_extract, Array.map_push, Array.map_reverse, List.map_toArray, List.map_cons, List.map_nil])
  refine Sm.ite Iff.rfl (fun _ => ?_) (fun _ => ?_)
  refine Sm.ite Iff.rfl (fun _ => ?_) (fun _ => ?_)
  exact Sm.pure (by simp only [Up.up, upS, Option.map_some, Option.map_none, Array.map_append, Array.map_extract, Array.map_push, Array.map_reverse, List.map_toArray, List.map_cons, List.map_nil])
  refine Sm.bind Sm.elem (fun _ => ?_)
  refine Sm.ite Iff.rfl (fun _ => ?_) (fun _ => ?_)
  exact Sm.pure (by simp only [Up.up, upS, Option.map_some, Option.map_none, Array.map_append, Array.map_extract, Array.map_push, Array.map_reverse, List.map_toArray, List.map_cons, List.map_nil])
  refine Sm.ite Iff.rfl (fun _ => ?_) (fun _ => ?_)
  exact Sm.pure (by simp only [Up.up, upS, Option.map_some, Option.map_none, Array.map_append, Array.map_extract, Array.map_push, Array.map_reverse, List.map_toArray, List.map_cons, List.map_nil])
  exact Sm.pure (by simp only [Up.up, upS, Option.map_some, Option.map_none, Array.map_append, Array.map_extract, Array.map_push, Array.map_reverse, List.map_toArray, List.map_cons, List.map_nil])
  refine Sm.bind Sm.elem (fun _ => ?_)
  refine Sm.ite Iff.rfl (fun _ => ?_) (fun _ => ?_)
  exact Sm.pure (by simp only [Up.up, upS, Option.map_some, Option.map_none, Array.map_append, Array.map_extract, Array.map_push, Array.map_reverse, List.map_toArray, List.map_cons, List.map_nil])
  refine Sm.ite Iff.rfl (fun _ => ?_) (fun _ => ?_)
  exact Sm.pure (by simp only [Up.up, upS, Option.map_some, Option.map_none, Array.map_append, Array.map_extract, Array.map_push, Array.map_reverse, List.map_toArray, List.map_cons, List.map_nil])
  exact Sm.pure (by simp only [Up.up, upS, Option.map_some, Option.map_none, Array.map_append, Array.map_extract, Array.map_push, Array.map_reverse, List.map_toArray, List.map_cons, List.map_nil])
  refine Sm.bind Sm.elem (fun _ => ?_)
  refine Sm.ite Iff.rfl (fun _ => ?_) (fun _ => ?_)
  exact Sm.pure (by simp only [Up.up, upS, Option.map_some, Option.map_none, Array.map_append, Array.map_extract, Array.map_push, Array.map_reverse, List.map_toArray, List.map_cons, List.map_nil])
  refine Sm.bind Sm.elem (fun _ => ?_)
  refine Sm.bindO (Sm.gallop hA) ?_ (fun _ => ?_)
  exact Sm.pure (by simp only [Up.up, upS, Option.map_some, Option.map_none, Array.map_append, Array.map_extract, Array.map_push, Array.map_reverse, List.map_toArray, List.map_cons, List.map_nil])
  refine Sm.ite Iff.rfl (fun _ => ?_) (fun _ => ?_)
  refine Sm.ite Iff.rfl (fun _ => ?_) (fun _ => ?_)
  exact Sm.pure (by simp only [Up.up, upS, Option.map_some, Option.map_none, Array.map_append, Array.map_extract, Array.map_push, Array.map_reverse, List.map_toArray, List.map_cons, List.map_nil])
  refine Sm.bind Sm.elem (fun _ => ?_)
  refine Sm.ite Iff.rfl (fun _ => ?_) (fun _ => ?_)
  exact Sm.pure (by simp only [Up.up, upS, Option.map_some, Option.map_none, Array.map_append, Array.map_extract, Array.map_push, Array.map_reverse, List.map_toArray, List.map_cons, List.map_nil])
  refine Sm.ite Iff.rfl (fun _ => ?_) (fun _ => ?_)
  exact Sm.pure (by simp only [Up.up, upS, Option.map_some, Option.map_none, Array.map_append, Array.map_extract, Array.map_push, Array.map_reverse, List.map_toArray, List.map_cons, List.map_nil])
  exact Sm.pure (by simp only [Up.up, upS, Option.map_some, Option.map_none, Array.map_append, Array.map_extract, Array.map_push, Array.map_reverse, List.map_toArray, List.map_cons, List.map_nil])
  refine Sm.bind Sm.elem (fun _ => ?_)
  refine Sm.ite Iff.rfl (fun _ => ?_) (fun _ => ?_)
  exact Sm.pure (by simp only [Up.up, upS, Option.map_some, Option.map_none, Array.map_append, Array.map_extract, Array.map_push, Array.map_reverse, List.map_toArray, List.map_cons, List.map_nil])
  refine Sm.ite Iff.rfl (fun _ => ?_) (fun _ => ?_)
  exact Sm.pure (by simp only [Up.up, upS, Option.map_some, Option.map_none, Array.map_append, Array.map_extract, Array.map_push, Array.map_reverse, List.map_toArray, List.map_cons, List.map_nil])
  exact Sm.pure (by simp only [Up.up, upS, Option.map_some, Option.map_none, Array.map_append, Array.map_extract, Array.map_push, Array.map_reverse, List.map_toArray, List.map_cons, List.map_nil])
  refine Sm.bind Sm.gall (fun _ => ?_)
  exact Sm.pure (by simp only [Up.up, upS, Option.map_some, Option.map_none, Array.map_append, Array.map_extract, Array.map_push, Array.map_reverse, List.map_toArray, List.map_cons, List.map_nil])
  exact Sm.pure (by simp only [Up.up, upS, Option.map_some, Option.map_none, Array.map_append, Array.map_extract, Array.map_push, Array.map_reverse, List.map_toArray, List.map_cons, List.map_nil])
  exact Sm.pure (by simp only [Up.up, upS, Option.map_some, Option.map_none, Array.map_append, Array.map_extract, Array.map_push, Array.map_reverse, List.map_toArray, List.map_cons, List.map_nil])
  exact Sm.uns
  exact Sm.pure (by simp only [Up.up, upS, Option.map_some, Option.map_none, Array.map_append, Array.map_extract, Array.map_push, Array.map_reverse, List.map_toArray, List.map_cons, List.map_nil])
end
end KM

set_option Elab.async false
set_option linter.all false
set_option maxRecDepth 100000
set_option maxHeartbeats 8000000
namespace KM
open PySem PyProof.Rows
section
variable {M : Model} {Γ : Ctx} {s s0 : Shared} {f : Keyed → Keyed} {kd kr : SortKind} {α β : Type}
theorem Sm.mergeHi (hA : Alike M Γ s s0 f kd kr) {a b : Array Keyed} : Sm M Γ s s0 f kd kr (Array.map f) (mergeHi' (a.map f) (b.map f)) (mergeHi' a b) := by
  rw [mergeHi'_eq, mergeHi'_eq]
  simp (config := {zeta := false}) only [Array.size_map]
  refine Sm.bind Sm.rule (fun _ => ?_)
  refine Sm.bind Sm.elem (fun _ => ?_)
  refine Sm.ite Iff.rfl (fun _ => ?_) (fun _ => ?_)
  exact Sm.pure (by simp only [Up.up, upS, Option.map_some, Option.map_none, Array.map_append, Array.map_extract, Array.map_push, Array.map_reverse, List.map_toArray, List.map_cons, List.map_nil])
  refine Sm.ite Iff.rfl (fun _ => ?_) (fun _ => ?_)
  exact Sm.pure (by simp only [Up.up, upS, Option.map_some, Option.map_none, Array.map_append, Array.map_extract, Array.map_push, Array.map_reverse, List.map_toArray, List.map_cons, List.map_nil])
  refine Sm.get (fun _ _ => ?_)
  refine Sm.bindL (Sm.loop (by simp only [Up.up, Option.map_none, Array.map_push, List.map_toArray, List.map_cons, List.map_nil]) (fun _ _ => ?_)) (fun _ => ?_) (fun _ _ => ?_)
  refine Sm.bindL (Sm.loop rfl (fun _ _ => ?_)) (fun _ => ?_) (fun _ _ => ?_)
  refine Sm.bind Sm.elem (fun _ => ?_)
  refine Sm.bind Sm.elem (fun _ => ?_)
  refine Sm.bindO (Sm.lt hA) ?_ (fun _ => ?_)
  exact Sm.pure (by simp only [Up.up, upS, Option.map_some, Option.map_none, Array.map_append, Array.map_extract, Array.map_push, Array.map_reverse, List.map_toArray, List.map_cons, List.map_nil])
  refine Sm.ite Iff.rfl (fun _ => ?_) (fun _ => ?_)
  refine Sm.bind Sm.elem (fun _ => ?_)
  refine Sm.ite Iff.rfl (fun _ => ?_) (fun _ => ?_)
  exact Sm.pure (by simp only [Up.up, upS, Option.map_some, Option.map_none, Array.map_append, Array.map_extract, Array.map_push, Array.map_reverse, List.map_toArray, List.map_cons, List.map_nil])
  refine Sm.ite Iff.rfl (fun _ => ?_) (fun _ => ?_)
  exact Sm.pure (by simp only [Up.up, upS, Option.map_some, Option.map_none, Array.map_append, Array.map_extract, Array.map_push, Array.map_reverse, List.map_toArray, List.map_cons, List.map_nil])
  exact Sm.pure (by simp only [Up.up, upS, Option.map_some, Option.map_none, Array.map_append, Array.map_extract, Array.map_push, Array.map_reverse, List.map_toArray, List.map_cons, List.map_nil])
  refine Sm.bind Sm.elem (fun _ => ?_)
  refine Sm.ite Iff.rfl (fun _ => ?_) (fun _ => ?_)
  exact Sm.pure (by simp only [Up.up, upS, Option.map_some, Option.map_none, Array.map_append, Array.map_extract, Array.map_push, Array.map_reverse, List.map_toArray, List.map_cons, List.map_nil])
  refine Sm.ite Iff.rfl (fun _ => ?_) (fun _ => ?_)
  exact Sm.pure (by simp only [Up.up, upS, Option.map_some, Option.map_none, Array.map_append, Array.map_extract, Array.map_push, Array.map_reverse, List.map_toArray, List.map_cons, List.map_nil])
  exact Sm.pure (by simp only [Up.up, upS, Option.map_some, Option.map_none, Array.map_append, Array.map_extract, Array.map_push, Array.map_reverse, List.map_toArray, List.map_cons, List.map_nil])
  refine Sm.bind Sm.rule (fun _ => ?_)
  refine Sm.bindL (Sm.loop rfl (fun _ _ => ?_)) (fun _ => ?_) (fun _ _ => ?_)
  refine Sm.ite Iff.rfl (fun _ => ?_) (fun _ => ?_)
  refine Sm.bind Sm.gall (fun _ => ?_)
  refine Sm.bind Sm.elem (fun _ => ?_)
  refine Sm.bindO (Sm.gallop hA) ?_ (fun _ => ?_)
  exact Sm.pure (by simp only [Up.up, upS, Option.map_some, Option.map_none, Array.map_append, Array.map_extract, Array.map_push, Array.map_reverse, List.map_toArray, List.map_cons, List.map_nil])
  refine Sm.ite Iff.rfl (fun _ => ?_) (fun _ => ?_)
  refine Sm.ite Iff.rfl (fun _ => ?_) (fun _ => ?_)
  exact Sm.pure (by simp only [Up.up, upS, Option.map_some, Option.map_none, Array.map_append, Array.map_extract, Array.map_push, Array.map_reverse, List.map_toArray, List.map_cons, List.map_nil])
  refine Sm.bind Sm.elem (fun _ => ?_)
  refine Sm.ite Iff.rfl (fun _ => ?_) (fun _ => ?_)
  exact Sm.pure (by simp only [Up.up, upS, Option.map_some, Option.map_none, Array.map_append, Array.map_extract, Array.map_push, Array.map_reverse, List.map_toArray, List.map_cons, List.map_nil])
  refine Sm.bind Sm.elem (fun _ => ?_)
  refine Sm.bindO (Sm.gallop hA) ?_ (fun _ => ?_)
  exact Sm.pure (by simp only [Up.up, upS, Option.map_some, Option.map_none, Array.map_append, Array.map_extract, Array.map_push, Array.map_reverse, List.map_toArray, List.map_cons, List.map_nil])
  refine Sm.ite Iff.rfl (fun _ => ?_) (fun _ => ?_)
  refine Sm.ite Iff.rfl (fun _ => ?_) (fun _ => ?_)
  exact Sm.pure (by simp only [Up.up, upS, Option.map_some, Option.map_none, Array.map_append, Array.map_extract, Array.map_push, Array.map_reverse, List.map_toArray, List.map_cons, List.map_nil])
  refine Sm.ite Iff.rfl (fun _ => ?_) (fun _ => ?_)
  exact Sm.pure (by simp only [Up.up, upS, Option.map_some, Option.map_none, Array.map_append, Array.map_extract, Array.map_push, Array.map_reverse, List.map_toArray, List.map_cons, List.map_nil])
  refine Sm.bind Sm.elem (fun _ => ?_)
  refine Sm.ite Iff.rfl (fun _ => ?_) (fun _ => ?_)
  exact Sm.pure (by simp only [Up.up, upS, Option.map_some, Option.map_none, Array.map_append, Array.map_extract, Array.map_push, Array.map_reverse, List.map_toArray, List.map_cons, List.map_nil])
  refine Sm.ite Iff.rfl (fun _ => ?_) (fun _ => ?_)
  exact Sm.pure (by simp only [Up.up, upS, Option.map_some, Option.map_none, Array.map_append, Array.map_extract, Array.map_push, Array.map_reverse, List.map_toArray, List.map_cons, List.map_nil])
  exact Sm.pure (by simp only [Up.up, upS, Option.map_some, Option.map_none, Array.map_append, Array.map_extract, Array.map_push, Array.map_reverse, List.map_toArray, List.map_cons, List.map_nil])
  refine Sm.bind Sm.elem (fun _ => ?_)
  refine Sm.ite Iff.rfl (fun _ => ?_) (fun _ => ?_)
  exact Sm.pure (by simp only [Up.up, upS, Option.map_some, Option.map_none, Array.map_append, Array.map_extract, Array.map_push, Array.map_reverse, List.map_toArray, List.map_cons, List.map_nil])
  refine Sm.ite Iff.rfl (fun _ => ?_) (fun _ => ?_)
  exact Sm.pure (by simp only [Up.up, upS, Option.map_some, Option.map_none, Array.map_append, Array.map_extract, Array.map_push, Array.map_reverse, List.map_toArray, List.map_cons, List.map_nil])
  exact Sm.pure (by simp only [Up.up, upS, Option.map_some, Option.map_none, Array.map_append, Array.map_extract, Array.map_push, Array.map_reverse, List.map_toArray, List.map_cons, List.map_nil])
  refine Sm.bind Sm.elem (fun _ => ?_)
  refine Sm.ite Iff.rfl (fun _ => ?_) (fun _ => ?_)
  exact Sm.pure (by simp only [Up.up, upS, Option.map_some, Option.map_none, Array.map_append, Array.map_extract, Array.map_push, Array.map_reverse, List.map_toArray, List.map_cons, List.map_nil])
  refine Sm.bind Sm.elem (fun _ => ?_)
  refine Sm.bindO (Sm.gallop hA) ?_ (fun _ => ?_)
  exact Sm.pure (by simp only [Up.up, upS, Option.map_some, Option.map_none, Array.map_append, Array.map_extract, Array.map_push, Array.map_reverse, List.map_toArray, List.map_cons, List.map_nil])
  refine Sm.ite Iff.rfl (fun _ => ?_) (fun _ => ?_)
  refine Sm.ite Iff.rfl (fun _ => ?_) (fun _ => ?_)
  exact Sm.pure (by simp only [Up.up, upS, Option.map_some, Option.map_none, Array.map_append, Array.map_extract, Array.map_push, Array.map_reverse, List.map_toArray, List.map_cons, List.map_nil])
  refine Sm.ite Iff.rfl (fun _ => ?_) (fun _ => ?_)
  exact Sm.pure (by simp only [Up.up, upS, Option.map_some, Option.map_none, Array.map_append, Array.map_extract, Array.map_push, Array.map_reverse, List.map_toArray, List.map_cons, List.map_nil])
  refine Sm.bind Sm.elem (fun _ => ?_)
  refine Sm.ite Iff.rfl (fun _ => ?_) (fun _ => ?_)
  exact Sm.pure (by simp only [Up.up, upS, Option.map_some, Option.map_none, Array.map_append, Array.map_extract, Array.map_push, Array.map_reverse, List.map_toArray, List.map_cons, List.map_nil])
  refine Sm.ite Iff.rfl (fun _ => ?_) (fun _ => ?_)
  exact Sm.pure (by simp only [Up.up, upS, Option.map_some, Option.map_none, Array.map_append, Array.map_extract, Array.map_push, Array.map_reverse, List.map_toArray, List.map_cons, List.map_nil])
  exact Sm.pure (by simp only [Up.up, upS, Option.map_some, Option.map_none, Array.map_append, Array.map_extract, Array.map_push, Array.map_reverse, List.map_toArray, List.map_cons, List.map_nil])
  refine Sm.bind Sm.elem (fun _ => ?_)
  refine Sm.ite Iff.rfl (fun _ => ?_) (fun _ => ?_)
  exact Sm.pure (by simp only [Up.up, upS, Option.map_some, Option.map_none, Array.map_append, Array.map_extract, Array.map_push, Array.map_reverse, List.map_toArray, List.map_cons, List.map_nil])
  refine Sm.ite Iff.rfl (fun _ => ?_) (fun _ => ?_)
  exact Sm.pure (by simp only [Up.up, upS, Option.map_some, Option.map_none, Array.map_append, Array.map_extract, Array.map_push, Array.map_reverse, List.map_toArray, List.map_cons, List.map_nil])
  exact Sm.pure (by simp only [Up.up, upS, Option.map_some, Option.map_none, Array.map_append, Array.map_extract, Array.map_push, Array.map_reverse, List.map_toArray, List.map_cons, List.map_nil])
  refine Sm.bind Sm.gall (fun _ => ?_)
  refine Sm.bind Sm.elem (fun _ => ?_)
  refine Sm.bindO (Sm.gallop hA) ?_ (fun _ => ?_)
  exact Sm.pure (by simp only [Up.up, upS, Option.map_some, Option.map_none, Array.map_append, Array.map_extract, Array.map_push, Array.map_reverse, List.map_toArray, List.map_cons, List.map_nil])
  refine Sm.ite Iff.rfl (fun _ => ?_) (fun _ => ?_)
  refine Sm.ite Iff.rfl (fun _ => ?_) (fun _ => ?_)
  exact Sm.pure (by simp only [Up.up, upS, Option.map_some, Option.map_none, Array.map_append, Array.map_extract, Array.map_push, Array.map_reverse, List.map_toArray, List.map_cons, List.map_nil])
  refine Sm.bind Sm.elem (fun _ => ?_)
  refine Sm.ite Iff.rfl (fun _ => ?_) (fun _ => ?_)
  exact Sm.pure (by simp only [Up.up, upS, Option.map_some, Option.map_none, Array.map_append, Array.map_extract, Array.map_push, Array.map_reverse, List.map_toArray, List.map_cons, List.map_nil])
  refine Sm.bind Sm.elem (fun _ => ?_)
  refine Sm.bindO (Sm.gallop hA) ?_ (fun _ => ?_)
  exact Sm.pure (by simp only [Up.up, upS, Option.map_some, Option.map_none, Array.map_append, Array.map_extract, Array.map_push, Array.map_reverse, List.map_toArray, List.map_cons, List.map_nil])
  refine Sm.ite Iff.rfl (fun _ => ?_) (fun _ => ?_)
  refine Sm.ite Iff.rfl (fun _ => ?_) (fun _ => ?_)
  exact Sm.pure (by simp only [Up.up, upS, Option.map_some, Option.map_none, Array.map_append, Array.map_extract, Array.map_push, Array.map_reverse, List.map_toArray, List.map_cons, List.map_nil])
  refine Sm.ite Iff.rfl (fun _ => ?_) (fun _ => ?_)
  exact Sm.pure (by simp only [Up.up, upS, Option.map_some, Option.map_none, Array.map_append, Array.map_extract, Array.map_push, Array.map_reverse, List.map_toArray, List.map_cons, List.map_nil])
  refine Sm.bind Sm.elem (fun _ => ?_)
  refine Sm.ite Iff.rfl (fun _ => ?_) (fun _ => ?_)
  exact Sm.pure (by simp only [Up.up, upS, Option.map_some, Option.map_none, Array.map_append, Array.map_extract, Array.map_push, Array.map_reverse, List.map_toArray, List.map_cons, List.map_nil])
  refine Sm.ite Iff.rfl (fun _ => ?_) (fun _ => ?_)
  exact Sm.pure (by simp only [Up.up, upS, Option.map_some, Option.map_none, Array.map_append, Array.map_extract, Array.map_push, Array.map_reverse, List.map_toArray, List.map_cons, List.map_nil])
  exact Sm.pure (by simp only [Up.up, upS, Option.map_some, Option.map_none, Array.map_append, Array.map_extract, Array.map_push, Array.map_reverse, List.map_toArray, List.map_cons, List.map_nil])
  refine Sm.bind Sm.elem (fun _ => ?_)
  refine Sm.ite Iff.rfl (fun _ => ?_) (fun _ => ?_)
  exact Sm.pure (by simp only [Up.up, upS, Option.map_some, Option.map_none, Array.map_append, Array.map_extract, Array.map_push, Array.map_reverse, List.map_toArray, List.map_cons, List.map_nil])
  refine Sm.ite Iff.rfl (fun _ => ?_) (fun _ => ?_)
  exact Sm.pure (by simp only [Up.up, upS, Option.map_some, Option.map_none, Array.map_append, Array.map_extract, Array.map_push, Array.map_reverse, List.map_toArray, List.map_cons, List.map_nil])
  exact Sm.pure (by simp only [Up.up, upS, Option.map_some, Option.map_none, Array.map_append, Array.map_extract, Array.map_push, Array.map_reverse, List.map_toArray, List.map_cons, List.map_nil])
  refine Sm.bind Sm.elem (fun _ => ?_)
  refine Sm.ite Iff.rfl (fun _ => ?_) (fun _ => ?_)
  exact Sm.pure (by simp only [Up.up, upS, Option.map_some, Option.map_none, Array.map_append, Array.map_extract, Array.map_push, Array.map_reverse, List.map_toArray, List.map_cons, List.map_nil])
  refine Sm.bind Sm.elem (fun _ => ?_)
  refine Sm.bindO (Sm.gallop hA) ?_ (fun _ => ?_)
  exact Sm.pure (by simp only [Up.up, upS, Option.map_some, Option.map_none, Array.map_append, Array.map_extract, Array.map_push, Array.map_reverse, List.map_toArray, List.map_cons, List.map_nil])
  refine Sm.ite Iff.rfl (fun _ => ?_) (fun _ => ?_)
  refine Sm.ite Iff.rfl (fun _ => ?_) (fun _ => ?_)
  exact Sm.pure (by simp only [Up.up, upS, Option.map_some, Option.map_none, Array.map_append, Array.map_extract, Array.map_push, Array.map_reverse, List.map_toArray, List.map_cons, List.map_nil])
  refine Sm.ite Iff.rfl (fun _ => ?_) (fun _ => ?_)
  exact Sm.pure (by simp only [Up.up, upS, Option.map_some, Option.map_none, Array.map_append, Array.map_extract, Array.map_push, Array.map_reverse, List.map_toArray, List.map_cons, List.map_nil])
  refine Sm.bind Sm.elem (fun _ => ?_)
  refine Sm.ite Iff.rfl (fun _ => ?_) (fun _ => ?_)
  exact Sm.pure (by simp only [Up.up, upS, Option.map_some, Option.map_none, Array.map_append, Array.map_extract, Array.map_push, Array.map_reverse, List.map_toArray, List.map_cons, List.map_nil])
  refine Sm.ite Iff.rfl (fun _ => ?_) (fun _ => ?_)
  exact Sm.pure (by simp only [Up.up, upS, Option.map_some, Option.map_none, Array.map_append, Array.map_extract, Array.map_push, Array.map_reverse, List.map_toArray, List.map_cons, List.map_nil])
  exact Sm.pure (by simp only [Up.up, upS, Option.map_some, Option.map_none, Array.map_append, Array.map_extract, Array.map_push, Array.map_reverse, List.map_toArray, List.map_cons, List.map_nil])
  refine Sm.bind Sm.elem (fun _ => ?_)
  refine Sm.ite Iff.rfl (fun _ => ?_) (fun _ => ?_)
  exact Sm.pure (by simp only [Up.up, upS, Option.map_some, Option.map_none, Array.map_append, Array.map_extract, Array.map_push, Array.map_reverse, List.map_toArray, List.map_cons, List.map_nil])
  refine Sm.ite Iff.rfl (fun _ => ?_) (fun _ => ?_)
  exact Sm.pure (by simp only [Up.up, upS, Option.map_some, Option.map_none, Array.map_append, Array.map_extract, Array.map_push, Array.map_reverse, List.map_toArray, List.map_cons, List.map_nil])
  exact Sm.pure (by simp only [Up.up, upS, Option.map_some, Option.map_none, Array.map_append, Array.map_extract, Array.map_push, Array.map_reverse, List.map_toArray, List.map_cons, List.map_nil])
  refine Sm.bind Sm.gall (fun _ => ?_)
  exact Sm.pure (by simp only [Up.up, upS, Option.map_some, Option.map_none, Array.map_append, Array.map_extract, Array.map_push, Array.map_reverse, List.map_toArray, List.map_cons, List.map_nil])
  exact Sm.pure (by simp only [Up.up, upS, Option.map_some, Option.map_none, Array.map_append, Array.map_extract, Array.map_push, Array.map_reverse, List.map_toArray, List.map_cons, List.map_nil])
  exact Sm.pure (by simp only [Up.up, upS, Option.map_some, Option.map_none, Array.map_append, Array.map_extract, Array.map_push, Array.map_reverse, List.map_toArray, List.map_cons, List.map_nil])
  exact Sm.uns
  exact Sm.pure (by simp only [Up.up, upS, Option.map_some, Option.map_none, Array.map_append, Array.map_extract, Array.map_push, Array.map_reverse, List.map_toArray, List.map_cons, List.map_nil])
end
end KM

set_option Elab.async false
set_option linter.all false
set_option maxRecDepth 100000
set_option maxHeartbeats 8000000
namespace KM
open PySem PyProof.Rows
section
variable {M : Model} {Γ : Ctx} {s s0 : Shared} {f : Keyed → Keyed} {kd kr : SortKind} {α β : Type}
theorem map_set (xs : Array Keyed) (i : Nat) (v : Keyed) : (xs.setIfInBounds i v).map f = (xs.map f).setIfInBounds i (f v) := by
  rw [Array.map_setIfInBounds]
theorem map_fold (i : Nat) (l : List (Keyed × Nat)) : ∀ a : Array Keyed, (l.foldl (fun (a : Array Keyed) (x : Keyed × Nat) => match x with | (p, j) => a.setIfInBounds (i + j) p) a).map f = (l.map fun x => (f x.1, x.2)).foldl (fun (a : Array Keyed) (x : Keyed × Nat) => match x with | (p, j) => a.setIfInBounds (i + j) p) (a.map f) := by
  induction l with
  | nil => intro a; rfl
  | cons k l ih => intro a; obtain ⟨p, j⟩ := k; rw [List.foldl_cons, List.map_cons, List.foldl_cons, ih]; dsimp only; rw [map_set]
theorem zip_map (l : List Keyed) (k : Nat) : (l.map f).zipIdx k = (l.zipIdx k).map fun x => (f x.1, x.2) := by
  induction l generalizing k with
  | nil => rfl
  | cons x l ih => rw [List.map_cons, List.zipIdx_cons, List.zipIdx_cons, List.map_cons, ih]
theorem Sm.fold {i : Nat} {xs : Array Keyed} {g g' : SortSt → SortSt} (hg : g = fun st => setArr st (List.foldl (fun (a : Array Keyed) (x : Keyed × Nat) => match x with | (p, j) => a.setIfInBounds (i + j) p) (arrOf st) (xs.map f).toList.zipIdx)) (hg' : g' = fun st => setArr st (List.foldl (fun (a : Array Keyed) (x : Keyed × Nat) => match x with | (p, j) => a.setIfInBounds (i + j) p) (arrOf st) xs.toList.zipIdx)) : Sm M Γ s s0 f kd kr (fun x => x) (_root_.modify g) (_root_.modify g') := by
  subst hg hg'
  refine Sm.modify fun st hk => ⟨hk, ?_⟩
  have e := map_fold (f := f) i xs.toList.zipIdx (arrOf st)
  rw [← zip_map, ← Array.toList_map] at e
  show SortSt.mk' _ (List.foldl _ ((arrOf st).map f) _) _ _ _ = SortSt.mk' _ (Array.map f (List.foldl _ (arrOf st) _)) _ _ _
  rw [e]
theorem Sm.mergeLoE (hA : Alike M Γ s s0 f kd kr) {a b a1 b1 : Array Keyed} (ha : a1 = a.map f) (hb : b1 = b.map f) : Sm M Γ s s0 f kd kr (Array.map f) (mergeLo' a1 b1) (mergeLo' a b) := by
  subst ha hb
  exact Sm.mergeLo hA
theorem Sm.mergeHiE (hA : Alike M Γ s s0 f kd kr) {a b a1 b1 : Array Keyed} (ha : a1 = a.map f) (hb : b1 = b.map f) : Sm M Γ s s0 f kd kr (Array.map f) (mergeHi' a1 b1) (mergeHi' a b) := by
  subst ha hb
  exact Sm.mergeHi hA
theorem Sm.mergeAt (hA : Alike M Γ s s0 f kd kr) {i : Nat} : Sm M Γ s s0 f kd kr (fun x => x) (mergeAt' i) (mergeAt' i) := by
  rw [mergeAt'_eq]
  refine Sm.get fun st hk => ?_
  have e1 : pendingOf (Fs kr f st) = pendingOf st := rfl
  have e2 : arrOf (Fs kr f st) = (arrOf st).map f := rfl
  rw [e1, e2]
  rcases h1 : (pendingOf st)[i]? with _ | ⟨sa, na, pw⟩
  · exact Sm.uns
  rcases h2 : (pendingOf st)[i + 1]? with _ | ⟨sb, nb, pw'⟩
  · exact Sm.uns
  refine Sm.bind (Sm.set hk rfl) fun _ => ?_
  refine Sm.bind Sm.elem fun _ => ?_
  refine Sm.bindO (Sm.gallop hA) (Sm.pure rfl) (fun _ => ?_)
  refine Sm.ite Iff.rfl (fun _ => Sm.pure rfl) (fun _ => ?_)
  refine Sm.bind Sm.elem fun _ => ?_
  refine Sm.bindO (Sm.gallop hA) (Sm.pure rfl) (fun _ => ?_)
  refine Sm.ite Iff.rfl (fun _ => Sm.pure rfl) (fun _ => ?_)
  refine Sm.ite Iff.rfl (fun _ => ?_) (fun _ => ?_)
  · refine Sm.bind (Sm.mergeLoE hA Array.map_extract.symm Array.map_extract.symm) fun _ => ?_
    refine Sm.bind (Sm.fold rfl rfl) fun _ => ?_
    exact Sm.get fun _ _ => Sm.pure rfl
  · refine Sm.bind (Sm.mergeHiE hA Array.map_extract.symm Array.map_extract.symm) fun _ => ?_
    refine Sm.bind (Sm.fold rfl rfl) fun _ => ?_
    exact Sm.get fun _ _ => Sm.pure rfl
theorem Sm.runs (hA : Alike M Γ s s0 f kd kr) : Sm M Γ s s0 f kd kr (fun x => x) sortRuns' sortRuns' := by
  rw [sortRuns'_eq]
  refine Sm.get fun st hk => ?_
  have e2 : arrOf (Fs kr f st) = (arrOf st).map f := rfl
  rw [e2]
  simp (config := {zeta := false}) only [Array.size_map]
  refine Sm.bindL (Sm.loop rfl (fun _ _ => ?_)) (fun _ => ?_) (fun _ _ => Sm.pure rfl)
  · refine Sm.ite Iff.rfl (fun _ => Sm.pure rfl) (fun _ => ?_)
    refine Sm.bindO (Sm.count hA) (Sm.pure rfl) (fun _ => ?_)
    refine Sm.ite Iff.rfl (fun _ => ?_) (fun _ => ?_)
    · refine Sm.bind Sm.rule fun _ => ?_
      refine Sm.bind (Sm.binary hA) fun _ => ?_
      refine Sm.ite Iff.rfl (fun _ => Sm.pure rfl) (fun _ => ?_)
      refine Sm.get fun st' hk' => ?_
      have e : pendingOf (Fs kr f st') = pendingOf st' := rfl
      rw [e]
      rcases h1 : (pendingOf st').back? with _ | ⟨s1, n1, z⟩
      · exact Sm.bind (Sm.modify fun st hk => ⟨hk, rfl⟩) fun _ => Sm.pure rfl
      · refine Sm.bindL (Sm.loop rfl (fun _ _ => ?_)) (fun _ => ?_) (fun _ _ => Sm.pure rfl)
        · refine Sm.get fun st2 hk2 => ?_
          have e : pendingOf (Fs kr f st2) = pendingOf st2 := rfl
          rw [e]
          dsimp only
          rcases h2 : (if (pendingOf st2).size > 1 then (pendingOf st2)[(pendingOf st2).size - 2]? else none) with _ | ⟨a, b, c⟩
          · exact Sm.pure rfl
          · refine Sm.ite Iff.rfl (fun _ => Sm.pure rfl) (fun _ => ?_)
            refine Sm.bind (Sm.mergeAt hA) fun _ => ?_
            exact Sm.ite Iff.rfl (fun _ => Sm.pure rfl) (fun _ => Sm.pure rfl)
        · refine Sm.bind (Sm.modify fun st hk => ⟨hk, rfl⟩) fun _ => ?_
          exact Sm.bind (Sm.modify fun st hk => ⟨hk, rfl⟩) fun _ => Sm.pure rfl
    · skip
      refine Sm.get fun st' hk' => ?_
      have e : pendingOf (Fs kr f st') = pendingOf st' := rfl
      rw [e]
      rcases h1 : (pendingOf st').back? with _ | ⟨s1, n1, z⟩
      · exact Sm.bind (Sm.modify fun st hk => ⟨hk, rfl⟩) fun _ => Sm.pure rfl
      · refine Sm.bindL (Sm.loop rfl (fun _ _ => ?_)) (fun _ => ?_) (fun _ _ => Sm.pure rfl)
        · refine Sm.get fun st2 hk2 => ?_
          have e : pendingOf (Fs kr f st2) = pendingOf st2 := rfl
          rw [e]
          dsimp only
          rcases h2 : (if (pendingOf st2).size > 1 then (pendingOf st2)[(pendingOf st2).size - 2]? else none) with _ | ⟨a, b, c⟩
          · exact Sm.pure rfl
          · refine Sm.ite Iff.rfl (fun _ => Sm.pure rfl) (fun _ => ?_)
            refine Sm.bind (Sm.mergeAt hA) fun _ => ?_
            exact Sm.ite Iff.rfl (fun _ => Sm.pure rfl) (fun _ => Sm.pure rfl)
        · refine Sm.bind (Sm.modify fun st hk => ⟨hk, rfl⟩) fun _ => ?_
          exact Sm.bind (Sm.modify fun st hk => ⟨hk, rfl⟩) fun _ => Sm.pure rfl
  · refine Sm.bindL (Sm.loop rfl (fun _ _ => ?_)) (fun _ => Sm.pure rfl) (fun _ _ => Sm.pure rfl)
    refine Sm.get fun st2 hk2 => ?_
    have e : pendingOf (Fs kr f st2) = pendingOf st2 := rfl
    rw [e]
    refine Sm.ite Iff.rfl (fun _ => Sm.pure rfl) (fun _ => ?_)
    refine Sm.bind (Sm.mergeAt hA) fun _ => ?_
    exact Sm.ite Iff.rfl (fun _ => Sm.pure rfl) (fun _ => Sm.pure rfl)
end
end KM

set_option Elab.async false
set_option linter.all false
set_option maxRecDepth 100000
set_option maxHeartbeats 4000000
/-! keys that are tuples of nothing, compared by their lengths, at any Around -/
namespace KM
open PySem PyProof.Rows
section
variable {M : Model} {Γ : Ctx} {s : Shared}
theorem wp_items {x : Value} {Q : Array Value → Pos → Shared → Prop} {E p} (h : Sem.wp M Γ (Builtin.List.listItems x) Q E p s) : ∃ a o xs n, x = .ref a ∧ s.heap.get? a = some o ∧ o.data = .seq xs n ∧ Q xs p s := by
  unfold Builtin.List.listItems at h
  rw [Sem.wp_bind'] at h
  cases x <;> simp only [seqItems?, Sem.wp_bind', Sem.wp_cmd_load, Sem.wp_pure', Sem.wp_cmd_unsupported, notAStandIn] at h
  case builtin => split at h <;> simp only [Sem.wp_pure', Sem.wp_cmd_unsupported] at h
  case ref a =>
    obtain ⟨o, ho, h⟩ := h
    refine ⟨a, o, ?_⟩
    cases hd : o.data <;> rw [hd] at h <;> simp only [Sem.wp_pure', Sem.wp_cmd_unsupported] at h
    exact ⟨_, _, rfl, ho, rfl, h⟩
theorem wp_items_at {a : Addr} {o : Obj} {xs : Array Value} {n : Nat} {Q : Array Value → Pos → Shared → Prop} {E p} (ho : s.heap.get? a = some o) (hd : o.data = .seq xs n) (h : Q xs p s) : Sem.wp M Γ (Builtin.List.listItems (.ref a)) Q E p s := by
  unfold Builtin.List.listItems
  rw [Sem.wp_bind']
  simp only [seqItems?, Sem.wp_bind', Sem.wp_cmd_load, Sem.wp_pure', Sem.wp_cmd_unsupported]
  refine ⟨o, ho, ?_⟩
  rw [hd]
  simp only [Sem.wp_pure']
  exact h
theorem wp_none {Q : Bool → Pos → Shared → Prop} {E p} : Sem.wp M Γ (eqBool .none .none) Q E p s = Q true p s := by
  change Sem.wp M Γ (Sem.rule _ (fun _ => Sem.pure _)) _ _ _ _ = _
  simp only [Sem.wp]
/-- the heap of such keys -/
def H0 (n : Nat) (rk : Nat → Nat) : Heap := { objs := ((List.range n).map fun i => seqObj "tuple" (List.replicate (rk i) Value.none).toArray 0).toArray }
theorem H0_at {n : Nat} {rk : Nat → Nat} {i : Nat} (h : i < n) : (H0 n rk).get? i = some (seqObj "tuple" (List.replicate (rk i) Value.none).toArray 0) := by
  unfold Heap.get? H0
  simp [h]
theorem H0_out {n : Nat} {rk : Nat → Nat} {i : Nat} {o : Obj} (h : (H0 n rk).get? i = some o) : i < n := by
  unfold Heap.get? H0 at h
  by_cases hi : i < n
  · exact hi
  · simp [hi] at h
theorem zips (a b k : Nat) : ((List.replicate a Value.none).zip (List.replicate b Value.none)).zipIdx k = (List.range' k (min a b)).map fun i => ((Value.none, Value.none), i) := by
  induction a generalizing b k with
  | zero => simp
  | succ a ih =>
    cases b with
    | zero => simp
    | succ b =>
      rw [List.replicate_succ, List.replicate_succ, List.zip_cons_cons, List.zipIdx_cons, ih, Nat.succ_min_succ, List.range'_succ, List.map_cons]
theorem wp_loop {β : Type} {f : (Value × Value) × Nat → β → Sem (ForInStep β)} {b0 : β} {Q : β → Pos → Shared → Prop} {E : Value → Pos → Shared → Prop} (hf : ∀ (i : Nat) (Q : ForInStep β → Pos → Shared → Prop) (p : Pos), Sem.wp M Γ (f ((.none, .none), i) b0) Q E p s = Q (.yield b0) p s) : ∀ (l : List Nat) (p : Pos), Sem.wp M Γ (forIn (l.map fun i => ((Value.none, Value.none), i)) b0 f) Q E p s = Q b0 p s := by
  intro l
  induction l with
  | nil => intro p; rw [List.map_nil, List.forIn_nil, Sem.wp_pure']
  | cons i l ih =>
    intro p
    rw [List.map_cons, List.forIn_cons, Sem.wp_bind', hf]
    exact ih p
theorem wp_key {b : Bool} {Q : Bool → Pos → Shared → Prop} {E p} {i j : Addr} {o1 o2 : Obj} {n1 n2 m1 m2 : Nat} (hx : s.heap.get? i = some o1) (hy : s.heap.get? j = some o2) (d1 : o1.data = .seq (List.replicate n1 Value.none).toArray m1) (d2 : o2.data = .seq (List.replicate n2 Value.none).toArray m2) :
    Sem.wp M Γ (keyLt' (tuples' b) (.ref i) (.ref j)) Q E p s = Q (decide (n1 < n2)) p s := by
  change Sem.wp M Γ (Bind.bind (Builtin.List.listItems (.ref i)) _) _ _ _ _ = _
  rw [Sem.wp_bind']
  have e : ∀ {Q : Array Value → Pos → Shared → Prop} {p} {a : Addr} {o : Obj} {xs : Array Value} {n : Nat}, s.heap.get? a = some o → o.data = .seq xs n → Sem.wp M Γ (Builtin.List.listItems (.ref a)) Q E p s = Q xs p s := fun {Q p a o xs n} ho hd => by
    apply propext
    constructor
    · intro h
      obtain ⟨a', o', xs', n', e1, e2, e3, h⟩ := wp_items h
      cases e1
      rw [ho] at e2; cases e2
      rw [hd] at e3; cases e3
      exact h
    · exact wp_items_at ho hd
  rw [e hx d1, Sem.wp_bind', e hy d2, Sem.wp_bind']
  dsimp only
  rw [zips, wp_loop]
  · simp only [Sem.wp_pure', List.size_toArray, List.length_replicate]
  · intro k Q p
    dsimp only
    rw [Sem.wp_bind', wp_none]
    simp only [Bool.not_true, Bool.false_eq_true, if_false, Sem.wp_pure']
end
end KM

set_option Elab.async false
set_option linter.all false
set_option maxRecDepth 100000
set_option maxHeartbeats 4000000
/-! list.sort of any number, whose comparisons are told at their own Around -/
namespace KM
open PySem PyProof.Rows PyProof.Rows.G
section
variable {prog : Program} {w : World} {A : Around} {E : Value → Shared → Prop} {s : Shared}
def fk (vs : List Value) : Keyed → Keyed
  | (.ref i, q) => if i < vs.length then (vs.getD i Value.none, vs.getD i Value.none) else (.ref i, q)
  | x => x
abbrev k0 (i : Nat) : Keyed := (.ref i, .none)
def keyK (n : Nat) (rk : Nat → Nat) : PyProof.Rows.KeyKind where
  α := Nat
  blt a b := decide (a < b)
  irrefl a := by simp
  trans a b c h1 h2 := by simp at *; omega
  negTrans a b c h := by simp at *; omega
  total a b h1 h2 := by simp at *; omega
  keyOf v := match v with
    | .ref i => if i < n then some (rk i) else none
    | _ => none
  dflt := 0
theorem keyOf_inv {n : Nat} {rk : Nat → Nat} {x : Value} {a : Nat} (h : (keyK n rk).keyOf x = some a) : ∃ i, x = .ref i ∧ i < n ∧ a = rk i := by
  cases x with
  | ref i =>
    change (if i < n then some (rk i) else none) = some a at h
    split at h
    · cases h; exact ⟨i, rfl, ‹_›, rfl⟩
    · cases h
  | _ => cases h
abbrev at0 (s : Shared) (n : Nat) (rk : Nat → Nat) : Shared := { s with heap := H0 n rk }
theorem fake_lt {n : Nat} {rk : Nat → Nat} {b : Bool} : LtAt prog w (at0 s n rk) (keyK n rk) (tuples' b) := by
  intro A E x y a c Q hx hy hq
  obtain ⟨i, rfl, hi, rfl⟩ := keyOf_inv hx
  obtain ⟨j, rfl, hj, rfl⟩ := keyOf_inv hy
  intro Γ p _
  rw [wp_key (s := at0 s n rk) (H0_at hi) (H0_at hj) rfl rfl]
  exact hq
theorem alike {Γ : Ctx} {vs : List Value} {rk : Nat → Nat} {kr : SortKind} (hΓ : Γ.In A)
    (hc : ∀ i j C, i < vs.length → j < vs.length → C (decide (rk i < rk j)) s → wpAny (model prog w) A (keyLt' kr (vs.getD i Value.none) (vs.getD j Value.none)) C (fun _ _ => False) s) :
    Alike (model prog w) Γ s (at0 s vs.length rk) (fk vs) (tuples' false) kr := by
  intro x y Q Q' E E' p p' hQ hw
  have hw2 := hw
  change Sem.wp _ Γ (Bind.bind (Builtin.List.listItems x.1) _) _ _ _ _ at hw2
  rw [Sem.wp_bind'] at hw2
  obtain ⟨i, o1, xs1, n1, e1, g1, d1, hw2⟩ := wp_items hw2
  rw [Sem.wp_bind'] at hw2
  obtain ⟨j, o2, xs2, n2, e2, g2, d2, hw2⟩ := wp_items hw2
  clear hw2
  have hi := H0_out g1
  have hj := H0_out g2
  rw [H0_at hi] at g1
  rw [H0_at hj] at g2
  cases g1; cases g2
  obtain ⟨x1, x2⟩ := x
  obtain ⟨y1, y2⟩ := y
  dsimp only at e1 e2
  subst e1 e2
  rw [wp_key (s := at0 s vs.length rk) (H0_at hi) (H0_at hj) rfl rfl] at hw
  have f1 : fk vs (.ref i, x2) = (vs.getD i Value.none, vs.getD i Value.none) := if_pos hi
  have f2 : fk vs (.ref j, y2) = (vs.getD j Value.none, vs.getD j Value.none) := if_pos hj
  rw [f1, f2]
  have := hc i j (fun b z => z = s ∧ b = decide (rk i < rk j)) hi hj ⟨rfl, rfl⟩ Γ p hΓ
  refine Sem.wp_mono _ _ _ ?_ ?_ _ _ this
  · rintro b x z ⟨rfl, rfl⟩
    exact hQ _ _ _ hw
  · intro _ _ _ h; exact h.elim
theorem map_k0 (vs : List Value) : ((List.range vs.length).toArray.map k0).map (fk vs) = pairsOf vs := by
  apply Array.ext
  · simp [pairsOf]
  · intro i h1 h2
    have hi : i < vs.length := by simpa using h1
    simp only [pairsOf, Array.getElem_map, List.getElem_toArray, List.getElem_range, Array.getElem_zip]
    show (if i < vs.length then _ else _) = _
    rw [if_pos hi]
    simp [List.getD_eq_getElem?_getD, hi]
def Bn (n : Nat) (p : Array Nat) : Prop := p.Perm (List.range n).toArray
theorem Bn.size {n : Nat} {p : Array Nat} (h : Bn n p) : p.size = n := by have := h.size_eq; simpa using this
def ixK (x : Keyed) : Nat := match x.1 with
  | .ref i => i
  | _ => 0
/-- the library's sort, wherever it stands: what it leaves is a permutation that rises by the ranks -/
theorem runs_any {vs : List Value} {rk : Nat → Nat} {kr : SortKind} (h2 : 2 ≤ vs.length)
    (hc : ∀ i j C, i < vs.length → j < vs.length → C (decide (rk i < rk j)) s → wpAny (model prog w) A (keyLt' kr (vs.getD i Value.none) (vs.getD j Value.none)) C (fun _ _ => False) s)
    {Q : Unit × SortSt → Shared → Prop}
    (h : ∀ p : Array Nat, Bn vs.length p → (∀ i j, i ≤ j → j < vs.length → rk (p.getD i 0) ≤ rk (p.getD j 0)) → ∀ st, arrOf st = p.map (fun i => (vs.getD i Value.none, vs.getD i Value.none)) → failedOf st = none → Q ((), st) s) :
    wpAny (model prog w) A (StateT.run sortRuns' (SortSt.mk' kr (pairsOf vs) #[] 7 none)) Q E s := by
  intro Γ p hΓ
  have a0 : Array Keyed := (List.range vs.length).toArray.map k0
  have sz : ((List.range vs.length).toArray.map k0).size = vs.length := by simp
  have K : KeysOf (keyK vs.length rk) ((List.range vs.length).toArray.map k0) := by
    intro x hx
    simp only [Array.toList_map, List.mem_map, List.mem_range] at hx
    obtain ⟨i, hi, rfl⟩ := hx
    exact ⟨rk i, if_pos hi⟩
  have lib := G.wpS_sortRunsSt (prog := prog) (w := w) (A := A) (E := fun _ _ => False) (s := at0 s vs.length rk) (κ := keyK vs.length rk) (kd := tuples' false) (a₀ := (List.range vs.length).toArray.map k0) (st := SortSt.mk' (tuples' false) ((List.range vs.length).toArray.map k0) #[] 7 none)
    (Q := fun _ st' => (arrOf st').Perm ((List.range vs.length).toArray.map k0) ∧ failedOf st' = none ∧ SortedToK (keyK vs.length rk) (arrOf st') ((List.range vs.length).toArray.map k0).size)
    fake_lt K ⟨Array.Perm.refl _, rfl, rfl⟩ rfl (fun c => rfl) (by rw [sz]; exact h2) (fun st' e1 e2 e3 _ => ⟨e1, e2, e3⟩)
  have lib := lib Γ p hΓ
  have sm := Sm.runs (alike (rk := rk) hΓ hc) (SortSt.mk' (tuples' false) ((List.range vs.length).toArray.map k0) #[] 7 none)
    (fun _ st _ z => z = s ∧ ∃ p : Array Nat, Bn vs.length p ∧ (∀ i j, i ≤ j → j < vs.length → rk (p.getD i 0) ≤ rk (p.getD j 0)) ∧ arrOf st = p.map (fun i => (vs.getD i Value.none, vs.getD i Value.none)) ∧ failedOf st = none)
    (fun r st' x z => z = at0 s vs.length rk ∧ ((arrOf st').Perm ((List.range vs.length).toArray.map k0) ∧ failedOf st' = none ∧ SortedToK (keyK vs.length rk) (arrOf st') ((List.range vs.length).toArray.map k0).size)) p p rfl ?_ lib
  · have e : Fs kr (fk vs) (SortSt.mk' (tuples' false) ((List.range vs.length).toArray.map k0) #[] 7 none) = SortSt.mk' kr (pairsOf vs) #[] 7 none := by
      show SortSt.mk' kr (((List.range vs.length).toArray.map k0).map (fk vs)) #[] 7 none = _
      rw [map_k0]
    rw [e] at sm
    refine Sem.wp_mono _ _ _ ?_ ?_ _ _ sm
    · rintro ⟨⟨⟩, st⟩ x z ⟨rfl, q, B, S, e1, e2⟩
      exact h q B S st e1 e2
    · intro _ _ _ h; exact h.elim
  · rintro r t x x' hk ⟨_, hp, hf, hs⟩
    refine ⟨rfl, (arrOf t).map ixK, ?_, ?_, ?_, hf⟩
    · have := Array.perm_iff_toList_perm.mpr (by simpa using (Array.perm_iff_toList_perm.mp hp).map ixK : ((arrOf t).map ixK).toList.Perm (((List.range vs.length).toArray.map k0).map ixK).toList)
      rw [Array.map_map] at this
      have e : (List.range vs.length).toArray.map (ixK ∘ k0) = (List.range vs.length).toArray := by
        have : (ixK ∘ k0) = fun i => i := rfl
        rw [this]; simp
      rw [e] at this
      exact this
    · have hz : (arrOf t).size = vs.length := by rw [hp.size_eq, sz]
      have hm : ∀ i (hi : i < (arrOf t).size), ∃ k, k < vs.length ∧ (arrOf t)[i] = k0 k := by
        intro i hi
        have := (Array.Perm.mem_iff hp).mp (Array.getElem_mem hi)
        simp only [Array.mem_map, List.mem_toArray, List.mem_range] at this
        obtain ⟨k, a, b⟩ := this
        exact ⟨k, a, b.symm⟩
      intro i j hij hj
      have hs := hs i j hij (by rw [sz]; exact hj)
      obtain ⟨a, ha, ea⟩ := hm i (by omega)
      obtain ⟨b, hb, eb⟩ := hm j (by omega)
      have k1 : KK (keyK vs.length rk) (arrOf t) i = rk a := by
        unfold KK
        rw [Array.getElem?_eq_getElem (by omega), ea]
        show ((if a < vs.length then some (rk a) else none : Option Nat)).getD 0 = _
        rw [if_pos ha]; rfl
      have k2 : KK (keyK vs.length rk) (arrOf t) j = rk b := by
        unfold KK
        rw [Array.getElem?_eq_getElem (by omega), eb]
        show ((if b < vs.length then some (rk b) else none : Option Nat)).getD 0 = _
        rw [if_pos hb]; rfl
      have g1 : ((arrOf t).map ixK).getD i 0 = a := by
        have hi : i < (arrOf t).size := by omega
        simp [Array.getD, hi, ea, ixK]
      have g2 : ((arrOf t).map ixK).getD j 0 = b := by
        have hi : j < (arrOf t).size := by omega
        simp [Array.getD, hi, eb, ixK]
      rw [g1, g2]
      have hs : (keyK vs.length rk).blt (KK (keyK vs.length rk) (arrOf t) i |> fun _ => KK (keyK vs.length rk) (arrOf t) j) (KK (keyK vs.length rk) (arrOf t) i) = false := hs
      dsimp only at hs
      rw [k1, k2] at hs
      have hs : decide (rk b < rk a) = false := hs
      have := of_decide_eq_false hs
      omega
    · show (arrOf t).map (fk vs) = _
      rw [Array.map_map]
      apply Array.map_congr_left
      intro x hx
      have := (Array.Perm.mem_iff hp).mp hx
      simp only [Array.mem_map, List.mem_toArray, List.mem_range] at this
      obtain ⟨k, a, rfl⟩ := this
      exact if_pos a
end
end KM

set_option Elab.async false
set_option linter.all false
set_option maxRecDepth 100000
set_option maxHeartbeats 1000000
namespace KS
open PySem PySem.W PyProof.Rows
/-- an order of the places 0 .. n - 1, any two of which are unlike -/
structure Ordn (n : Nat) (lt : Nat → Nat → Bool) : Prop where
  tr : ∀ {i j k}, i < n → j < n → k < n → lt i j = true → lt j k = true → lt i k = true
  tot : ∀ {i j}, i < n → j < n → i ≠ j → lt i j = false → lt j i = true
  as : ∀ {i j}, i < n → j < n → lt i j = true → lt j i = false
abbrev gt0 (p : Array Nat) (i : Nat) : Nat := p.getD i 0
def Bd (n : Nat) (p : Array Nat) : Prop := p.Perm (List.range n).toArray
theorem Bd.size {n : Nat} {p : Array Nat} (h : Bd n p) : p.size = n := by have := h.size_eq; simpa using this
theorem gt0_eq {p : Array Nat} {i : Nat} (h : i < p.size) : gt0 p i = p[i] := by simp [gt0, Array.getD, h]
theorem Bd.lt {n : Nat} {p : Array Nat} (h : Bd n p) (hn : 0 < n) (i : Nat) : gt0 p i < n := by
  by_cases hi : i < p.size
  · rw [gt0_eq hi]
    have hm : p[i] ∈ p := Array.getElem_mem hi
    have := (Array.Perm.mem_iff h).mp hm
    simpa using this
  · simp [gt0, Array.getD, hi, hn]
theorem Bd.ne {n : Nat} {p : Array Nat} (h : Bd n p) {i j : Nat} (hi : i < n) (hj : j < n) (hij : i ≠ j) : gt0 p i ≠ gt0 p j := by
  have hs := h.size
  rw [gt0_eq (by omega), gt0_eq (by omega)]
  have nd : p.toList.Nodup := (Array.perm_iff_toList_perm.mp h).nodup_iff.mpr (by simpa using List.nodup_range)
  intro e
  have hw := List.pairwise_iff_getElem.mp nd
  rcases Nat.lt_or_gt_of_ne hij with z | z
  · exact hw i j (by simpa using by omega) (by simpa using by omega) z (by simpa using e)
  · exact hw j i (by simpa using by omega) (by simpa using by omega) z (by simpa using e.symm)
def Sd (lt : Nat → Nat → Bool) (p : Array Nat) (m : Nat) : Prop := ∀ i j, i < j → j < m → lt (gt0 p i) (gt0 p j) = true
def Dd (lt : Nat → Nat → Bool) (p : Array Nat) (m : Nat) : Prop := ∀ i j, i < j → j < m → lt (gt0 p j) (gt0 p i) = true
section
variable {n : Nat} {lt : Nat → Nat → Bool} {cmp : Nat → Nat → (Bool → Shared → Prop) → Shared → Prop} {s : Shared}
theorem Sd.snoc (O : Ordn n lt) {p : Array Nat} (B : Bd n p) {a : Nat} (h1 : 1 ≤ a) (ha : a < n) (h : Sd lt p a) (hl : lt (gt0 p (a - 1)) (gt0 p a) = true) : Sd lt p (a + 1) := by
  intro i j hij hj
  have b := B.lt (by omega)
  by_cases e : j < a
  · exact h i j hij e
  · have : j = a := by omega
    subst this
    by_cases e2 : i = j - 1
    · subst e2; exact hl
    · exact O.tr (b _) (b _) (b _) (h i (j - 1) (by omega) (by omega)) hl
theorem Dd.snoc (O : Ordn n lt) {p : Array Nat} (B : Bd n p) {a : Nat} (h1 : 1 ≤ a) (ha : a < n) (h : Dd lt p a) (hl : lt (gt0 p a) (gt0 p (a - 1)) = true) : Dd lt p (a + 1) := by
  intro i j hij hj
  have b := B.lt (by omega)
  by_cases e : j < a
  · exact h i j hij e
  · have : j = a := by omega
    subst this
    by_cases e2 : i = j - 1
    · subst e2; exact hl
    · exact O.tr (b _) (b _) (b _) hl (h i (j - 1) (by omega) (by omega))
variable (O : Ordn n lt) (hc : ∀ i j C, i < n → j < n → C (lt i j) s → cmp i j C s)
include O hc
omit O hc in
omit O hc in
omit O hc in
omit O hc in
omit O hc in
end
end KS

set_option Elab.async false
set_option linter.all false
set_option maxRecDepth 100000
set_option maxHeartbeats 4000000
/-! t < u of tuples of texts -/
namespace HT
open PySem PyProof.Rows
section
open PySem.SeqAt
open PySem.AutoSeq1 (wpAny_loadPart')
open PySem.MeetsSeq PySem.MeetsSeq2 PySem.MeetsSeq3
end
section
variable {prog : Program} {w : World} {A : Around} {E : Value → Shared → Prop} {s : Shared}
end
end HT
namespace L2
open PySem PySem.Spec PyProof.Rows
section
variable {X : Cx}
end
end L2

set_option Elab.async false
set_option linter.all false
set_option maxRecDepth 100000
set_option maxHeartbeats 1000000
namespace KS
open PySem PySem.W PySem.Spec PyProof.Rows PyProof.Rows.G
section
variable {prog : Program} {w : World} {A : Around} {E : Value → Shared → Prop} {s : Shared}
end
end KS

set_option Elab.async false
set_option linter.all false
set_option maxRecDepth 100000
set_option maxHeartbeats 1000000
namespace KS
open PySem PySem.W PySem.Spec PyProof.Rows PyProof.Rows.G
section
variable {prog : Program} {w : World} {A : Around} {E : Value → Shared → Prop} {s : Shared}
/-- a tuple of texts where the heap stands -/
def TS (h : Heap) (v : Value) (ns : List Str) : Prop := ∃ l items, v = .ref l ∧ IsTup h l items ∧ StrsAre items.toList ns
theorem mapM_ok {α β : Type} {M : Model} {f : α → Sem β} {r : α → β} : ∀ (l : List α) {Q : List β → Shared → Prop}, (∀ v ∈ l, ∀ (Q' : β → Shared → Prop), Q' (r v) s → wpAny M A (f v) Q' E s) → Q (l.map r) s → wpAny M A (l.mapM f) Q E s
  | [], Q, _, h => by rw [List.mapM_nil]; exact wpAny_pure h
  | v :: l, Q, hf, h => by
    rw [List.mapM_cons]
    exact wpAny_bind (hf v (by simp) _ (wpAny_bind (mapM_ok l (fun x hx => hf x (List.mem_cons_of_mem _ hx)) (wpAny_pure h))))
def fromData : Data → Option Value
  | .seq items _ => items[0]?
  | _ => none
def fstOf (h : Heap) : Value → Option Value
  | .ref l => (h.get? l).bind fun o => fromData o.data
  | _ => none
theorem fstOf_at {h : Heap} {l : Addr} {o : Obj} {items : Array Value} {n : Nat} (ho : h.get? l = some o) (hd : o.data = .seq items n) : fstOf h (.ref l) = items[0]? := by
  show ((h.get? l).bind fun o => fromData o.data) = _
  rw [ho]
  show fromData o.data = _
  rw [hd]
  rfl
end
end KS

set_option Elab.async false
set_option linter.all false
set_option maxRecDepth 100000
set_option maxHeartbeats 1000000
namespace KS
open PySem PySem.W PySem.Spec PyProof.Rows PyProof.Rows.G L2 LS
section
variable {prog : Program} {w : World} {A : Around} {E : Value → Shared → Prop} {s : Shared}
end
end KS

set_option Elab.async false
set_option linter.all false
set_option maxRecDepth 100000
set_option maxHeartbeats 1000000
namespace KS
open PySem PySem.W PySem.Spec PyProof.Rows PyProof.Rows.G L2 LS
section
variable {prog : Program} {w : World} {A : Around} {E : Value → Shared → Prop} {s : Shared}
/-- sorted(..) where what the sort within wants hangs on how much room there is -/
theorem shellU {r : Addr} {vs : List Value} {Out : List Value → Prop} {Q : Value → Shared → Prop} {o : Obj} {T : String} {n : Nat} (ho : s.heap.get? r = some o) (hcl : o.cls = .type T) (hT : T = "list" ∨ T = "tuple") (hd : o.data = .seq vs.toArray n) (hL : vs.length ≤ sizeLine)
    (hs : ∀ (A' : Around) (E : Value → Shared → Prop) (s2 : Shared) (a : Addr) (P : PySem.Fin → Shared → Prop), A'.units ≤ A.units + 4 → (∀ b o, s.heap.get? b = some o → s2.heap.get? b = some o) → s.heap.objs.size ≤ a → s2.heap.get? a = some (seqObj "list" vs.toArray 0) →
      (∀ out : Array Value, Out out.toList → P (.done (.ret .none)) { s2 with heap := sortedHeap s2.heap a vs out }) → wpAny (model prog w) A' (Builtin.«list.sort» ⟨[.ref a], []⟩) P E s2)
    (hh : A.handled = none)
    (hQ : ∀ h2 a (out : Array Value) e, (∀ b o, s.heap.get? b = some o → h2.get? b = some o) → s.heap.objs.size ≤ a → h2.get? a = some (seqObj "list" out e) → Out out.toList → Q (.ref a) { s with heap := h2 }) :
    wpAny (model prog w) A (call (.builtin "sorted") [.ref r]) Q E s := by
  refine Calls.call_function_entry kind_sorted plain_sorted entry_sorted (args_sorted1 _) ?_
  unfold Builtin.«sorted»
  refine wpAny_bind (m := checkCount "sorted" 1 1 _) (wpAny_pure (wpAny_bind (collect_seq ho hcl hT hd (fun h' hk hle => wpAny_bind (wpAny_newList ?_ hL)) hL)))
  have hoL : (h'.push (seqObj "list" vs.toArray 0)).get? h'.objs.size = some (seqObj "list" vs.toArray 0) := Heap.get?_push_size _ rfl
  show wpAny _ _ _ _ _ { s with heap := h'.push (seqObj "list" vs.toArray 0) }
  refine wpAny_bind (wpAny_holding (wpAny_call_entry slot_list_sort ⟨_, hoL, rfl⟩ entry_list_sort (hs _ _ { s with heap := h'.push (seqObj "list" vs.toArray 0) } _ _ ?_ (fun b o e => Heap.get?_push_of_some _ (hk b o e)) hle hoL fun out ho => ⟨_, rfl, ?_⟩) (args_list_sort _)))
  · show A.units + 1 + 1 ≤ A.units + 4; omega
  obtain ⟨e, he⟩ := sortedHeap_at (vs := vs) (out := out) hoL
  refine wpAny_pure ⟨_, rfl, hQ _ _ out e (fun b o q => ?_) hle he ho⟩
  have hlt : b < (h'.push (seqObj "list" vs.toArray 0)).objs.size := Heap.lt_size (Heap.get?_push_of_some (seqObj "list" vs.toArray 0) (hk b o q))
  rw [sortedHeap_old (Nat.ne_of_lt (Heap.lt_size (hk b o q))) hlt]
  exact Heap.get?_push_of_some _ (hk b o q)
end
theorem TS.keep {h h' : Heap} {v : Value} {ns : List Str} (t : TS h v ns) (k : KeepsTups h h') : TS h' v ns := by
  obtain ⟨l, items, rfl, ⟨o, ho, hc, n, hd⟩, hi⟩ := t
  exact ⟨l, items, rfl, ⟨o, k l o ho hc, hc, n, hd⟩, hi⟩
end KS
namespace L2
open PySem PySem.W PySem.Spec PyProof.Rows PyProof.Rows.G LS KS
section
variable {X : Cx}
end
end L2

set_option Elab.async false
set_option linter.all false
set_option maxRecDepth 100000
set_option maxHeartbeats 4000000
/-! a set's table: its places rise -/
namespace LN
open PySem PySem.Spec PyProof.Rows
def Up (xs : Array Nat) : Prop := xs.toList.Pairwise (· < ·)
theorem cut_of (j : Nat) : ∀ (l : List Nat), l.Pairwise (· < ·) → ∃ i, i ≤ l.length ∧ (∀ k v, k < i → l[k]? = some v → v < j) ∧ (∀ k v, i ≤ k → l[k]? = some v → j ≤ v)
  | [], _ => ⟨0, Nat.le_refl _, fun k v h => absurd h (Nat.not_lt_zero _), fun k v _ h => by simp at h⟩
  | x :: l, h => by
    rw [List.pairwise_cons] at h
    by_cases hx : x < j
    · obtain ⟨i, h1, h2, h3⟩ := cut_of j l h.2
      refine ⟨i + 1, by simpa using h1, fun k v hk e => ?_, fun k v hk e => ?_⟩
      · cases k with
        | zero => simp at e; omega
        | succ k => exact h2 k v (by omega) (by simpa using e)
      · cases k with
        | zero => omega
        | succ k => exact h3 k v (by omega) (by simpa using e)
    · refine ⟨0, Nat.zero_le _, fun k v h => absurd h (Nat.not_lt_zero _), fun k v _ e => ?_⟩
      cases k with
      | zero => simp at e; omega
      | succ k =>
        have := h.1 v (List.mem_of_getElem? (by simpa using e))
        omega
theorem go_eq {xs : Array Nat} {j i : Nat} (h1 : ∀ k v, k < i → xs.toList[k]? = some v → v < j) (h2 : ∀ k v, i ≤ k → xs.toList[k]? = some v → j ≤ v) :
    ∀ (fuel lo hi : Nat), lo ≤ i → i ≤ hi → hi ≤ xs.size → hi - lo ≤ fuel → SetTable.below.go xs j fuel lo hi = i
  | 0, lo, hi, a, b, c, d => by unfold SetTable.below.go; omega
  | fuel + 1, lo, hi, a, b, c, d => by
    unfold SetTable.below.go
    by_cases hlt : lo < hi
    · rw [if_pos hlt]
      have hm : (lo + hi) / 2 < xs.size := by omega
      have hg : xs.toList[(lo + hi) / 2]? = some (xs.getD ((lo + hi) / 2) j) := by
        rw [Array.getElem?_toList, Array.getElem?_eq_getElem hm]
        simp [Array.getD, hm]
      dsimp only
      by_cases hv : xs.getD ((lo + hi) / 2) j < j
      · rw [if_pos hv]
        have : ¬ i ≤ (lo + hi) / 2 := fun z => by have := h2 _ _ z hg; omega
        exact go_eq h1 h2 fuel _ _ (by omega) b c (by omega)
      · rw [if_neg hv]
        have : ¬ (lo + hi) / 2 < i := fun z => hv (h1 _ _ z hg)
        exact go_eq h1 h2 fuel _ _ a (by omega) (by omega) (by omega)
    · rw [if_neg hlt]; omega
theorem below_eq {xs : Array Nat} {j i : Nat} (hi : i ≤ xs.size) (h1 : ∀ k v, k < i → xs.toList[k]? = some v → v < j) (h2 : ∀ k v, i ≤ k → xs.toList[k]? = some v → j ≤ v) : SetTable.below xs j = i :=
  go_eq h1 h2 xs.size 0 xs.size (Nat.zero_le _) hi (Nat.le_refl _) (by omega)
theorem up_insert {xs : Array Nat} {j : Nat} (h : Up xs) (hn : xs[SetTable.below xs j]? ≠ some j) : Up (SetTable.insertAt xs (SetTable.below xs j) j) := by
  obtain ⟨i, hi, h1, h2⟩ := cut_of j xs.toList h
  rw [Array.length_toList] at hi
  have e := below_eq hi h1 h2
  rw [e] at hn ⊢
  unfold Up SetTable.insertAt
  have el : ((xs.extract 0 i).push j ++ xs.extract i xs.size).toList = xs.toList.take i ++ (j :: xs.toList.drop i) := by
    simp
    exact List.take_of_length_le (by rw [List.length_drop, Array.length_toList]; exact Nat.le_refl _)
  rw [el, List.pairwise_append]
  have hd : ∀ v ∈ xs.toList.drop i, j < v := fun v hv => by
    obtain ⟨k, hk⟩ := List.mem_iff_getElem?.mp hv
    rw [List.getElem?_drop] at hk
    have h3 := h2 (i + k) v (by omega) hk
    by_cases hz : j = v
    · subst hz
      cases k with
      | zero => exact absurd (by rw [← Array.getElem?_toList]; exact hk) hn
      | succ k =>
        have hlt : i + (k + 1) < xs.toList.length := (List.getElem?_eq_some_iff.mp hk).1
        have hi0 : i < xs.toList.length := by omega
        have hp := List.pairwise_iff_getElem.mp h i (i + (k + 1)) hi0 hlt (by omega)
        have e1 : xs.toList[i + (k + 1)] = j := (List.getElem?_eq_some_iff.mp hk).2
        have := h2 i (xs.toList[i]) (Nat.le_refl _) (List.getElem?_eq_getElem hi0)
        omega
    · omega
  have ht : ∀ v ∈ xs.toList.take i, v < j := fun v hv => by
    obtain ⟨k, hk⟩ := List.mem_iff_getElem?.mp hv
    rw [List.getElem?_take] at hk
    by_cases hki : k < i
    · rw [if_pos hki] at hk; exact h1 k v hki hk
    · rw [if_neg hki] at hk; cases hk
  refine ⟨h.sublist (List.take_sublist _ _), List.pairwise_cons.mpr ⟨hd, h.sublist (List.drop_sublist _ _)⟩, fun a ha b hb => ?_⟩
  have := ht a ha
  rcases List.mem_cons.mp hb with rfl | hb
  · exact this
  · have := hd b hb; omega
theorem slot_not {t : SetTable} {j : Nat} (h : ∀ i, t.slot j ≠ .live i) : t.place[SetTable.below t.place j]? ≠ some j := fun e => by
  refine h (SetTable.below t.place j) ?_
  unfold SetTable.slot
  dsimp only
  rw [if_pos (by rw [e]; simp)]
theorem probe_free {t : SetTable} {f : Nat → Int} {h : Int} : ∀ (fuel : Nat) (p : SetTable.Probe) (j : Nat) (d : Option Nat), (∀ k, p.dummy = some k → ∀ i, t.slot k ≠ .live i) → SetTable.probe.go t f h fuel p = some (.empty j d) → (∀ i, t.slot j ≠ .live i) ∧ (∀ k, d = some k → ∀ i, t.slot k ≠ .live i)
  | 0, p, j, d, _, e => by cases e
  | fuel + 1, p, j, d, hd, e => by
    have adv : ∀ q : SetTable.Probe, (t.advance q).dummy = q.dummy := fun q => by
      unfold SetTable.advance
      split <;> rfl
    unfold SetTable.probe.go at e
    cases hs : t.slot p.j with
    | empty =>
      rw [hs] at e
      dsimp only at e
      cases e
      exact ⟨fun i z => by (rw [hs] at z; cases z), hd⟩
    | dummy =>
      rw [hs] at e
      dsimp only at e
      refine probe_free fuel _ j d (fun k hk i z => ?_) e
      rw [adv] at hk
      cases hk
      rw [hs] at z; cases z
    | live i =>
      rw [hs] at e
      dsimp only at e
      split at e
      · cases e
      · refine probe_free fuel _ j d (fun k hk => ?_) e
        rw [adv] at hk
        exact hd k hk
theorem up_range (n : Nat) : Up (Array.range n) := by
  unfold Up
  rw [Array.toList_range]
  exact List.pairwise_lt_range
theorem up_orS {t : SetTable} {n : Nat} (h : Up t.place) : Up (t.orStandIn n).place := by
  unfold SetTable.orStandIn
  split
  · exact h
  · exact up_range n
theorem up_layNew {t : SetTable} {es : Array (Int × Value)} {h : Int} {x : Value} (hu : Up t.place) : Up (layNew t es h x).2.1.place := by
  unfold layNew
  split
  · rename_i slot dm e
    refine up_orS ?_
    unfold SetTable.put
    dsimp only
    refine up_insert hu ?_
    unfold SetTable.freeSlot at e
    split at e
    · rename_i j d ep
      cases e
      obtain ⟨h1, h2⟩ := probe_free _ _ _ _ (fun k hk => by cases hk) (show SetTable.probe.go t _ h _ _ = some (.empty j d) from ep)
      cases d with
      | none => exact slot_not h1
      | some k => exact slot_not (h2 k rfl)
    · cases e
  · exact up_range _
theorem up_relay {t : SetTable} {es : Array (Int × Value)} {n : Nat} : Up (relayAll t es n).2.1.place := by
  unfold relayAll
  split
  · rename_i t' order e
    have : Up t'.place := by
      unfold SetTable.relaid SetTable.laid at e
      simp only [Option.bind_eq_bind, Option.bind_eq_some_iff] at e
      obtain ⟨o, _, e⟩ := e
      cases e
      unfold Up
      dsimp only
      generalize SetTable.sizeAbove n - 1 + 1 = m
      have key : ∀ (l : List Nat), l.Pairwise (· < ·) → ((l.filterMap fun j => (o.getD j none).map (j, ·)).map (·.1)).Pairwise (· < ·) := fun l hl => by
        have : ((l.filterMap fun j => (o.getD j none).map (j, ·)).map (·.1)).Sublist l := by
          induction l with
          | nil => exact .slnil
          | cons x l ih =>
            rw [List.filterMap_cons]
            cases hx : (o.getD x none).map (x, ·) with
            | none => exact .cons _ (ih (List.pairwise_cons.mp hl).2)
            | some y =>
              cases ho : o.getD x none with
              | none => rw [ho] at hx; cases hx
              | some z =>
                rw [ho] at hx
                cases hx
                exact .cons₂ _ (ih (List.pairwise_cons.mp hl).2)
        exact hl.sublist this
      exact key _ List.pairwise_lt_range
    dsimp only
    split
    · exact this
    · exact up_range _
  · exact up_range _
end LN

set_option Elab.async false
set_option linter.all false
set_option maxRecDepth 100000
set_option maxHeartbeats 4000000
/-! sets of ints -/
namespace LN
open PySem PySem.Spec PyProof.Rows
open LS (byT orS_led layNew_led relay_led)
section
variable {prog : Program} {w : World} {A : Around} {E : Value → Shared → Prop} {s : Shared}
def SetX (prog : Program) (w : World) (h : Heap) (a : Addr) (ks : List Int) : Prop := ∃ es ep t, h.get? a = some { cls := .type "set", dict := none, data := .set es ep t } ∧ ElemsOf (PySem.intKind prog w) es.toList ∧
  (∀ k, k ∈ ks ↔ ∃ e ∈ es.toList, (PySem.intKind prog w).is k e.2 = true) ∧ es.size < scanBound ∧ t.fits es.size = true ∧ es.size = ks.length ∧ t.led = !byT w ∧ Up t.place
theorem SetX.of {h : Heap} {a : Addr} {ks : List Int} (x : SetX prog w h a ks) : h.SetOf (PySem.intKind prog w) a (fun k => decide (k ∈ ks)) ks.length := by
  obtain ⟨es, ep, t, ho, hel, hm, hb, hf, hn, _, _⟩ := x
  exact ⟨_, es, ep, t, ho, ⟨rfl, rfl, rfl⟩, rfl, hel, fun k => by rw [decide_eq_true_eq]; exact hm k, hb, hf, hn⟩
theorem SetX.at {h h' : Heap} {a : Addr} {ks : List Int} (x : SetX prog w h a ks) (k : ∀ o, h.get? a = some o → h'.get? a = some o) : SetX prog w h' a ks := by
  obtain ⟨es, ep, t, ho, r⟩ := x
  exact ⟨es, ep, t, k _ ho, r⟩
theorem SetX.typeIs {a : Addr} {ks : List Int} (x : SetX prog w s.heap a ks) : s.TypeIs (.ref a) "set" := x.of.typeIs
def add1 (ks : List Int) (k : Int) : List Int := if k ∈ ks then ks else ks ++ [k]
theorem mem_add1 {ks : List Int} {k j : Int} : j ∈ add1 ks k ↔ j ∈ ks ∨ j = k := by
  unfold add1
  split
  · rename_i h; exact ⟨.inl, fun z => z.elim id fun e => e ▸ h⟩
  · simp
theorem nodup_add1 {ks : List Int} {k : Int} (h : ks.Nodup) : (add1 ks k).Nodup := by
  unfold add1
  split
  · exact h
  · rename_i n
    rw [List.nodup_append]
    exact ⟨h, by simp, fun a ha b hb e => n (by rw [List.mem_singleton] at hb; subst hb; subst e; exact ha)⟩
theorem len_add1 {ks : List Int} {k : Int} : (add1 ks k).length ≤ ks.length + 1 := by
  unfold add1
  split <;> simp
theorem wp_add {a : Addr} {ks : List Int} {k : Int} {t0 : Tok} {Q : Bool → Shared → Prop} (hS : SetX prog w s.heap a ks) (hroom : ks.length + 1 < scanBound)
    (h : ∀ h', Heap.SameBut a s.heap h' → SetX prog w h' a (add1 ks k) → Q (!decide (k ∈ ks)) { s with heap := h' }) :
    wpAny (model prog w) A (setAddHashed a (.int k t0) ((PySem.intKind prog w).hash k)) Q E s := by
  have hkey : (PySem.intKind prog w).is k (.int k t0) = true := by show Value.isInt k (.int k t0) = true; simp [Value.isInt]
  have hsc : (Value.int k t0).scannable = true := rfl
  obtain ⟨es, ep, t, ho, hel, hmem, hb, hf, hn, hled, hpl⟩ := hS
  have hb1 : es.size + 1 < scanBound := by rw [hn]; exact hroom
  have hex : Obj.ExactSet { cls := .type "set", dict := none, data := .set es ep t } := ⟨rfl, rfl, rfl⟩
  have hd : ({ cls := .type "set", dict := none, data := .set es ep t } : Obj).data = .set es ep t := rfl
  unfold setAddHashed setAddHashedIn
  refine wpAny_holding (wpAny_bind (wpAny_setState_of ho hd hf ?_))
  dsimp only
  rw [byScan_of hsc hb hel]
  simp only [↓reduceIte]
  unfold setAddByScan
  refine wpAny_bind ?_
  refine wpAny_bind (wpAny_rule ?_)
  refine wpAny_bind (wpAny_setScan_of hkey ho hd hf hel ?_)
  cases hr : List.findIdx? (fun e => (PySem.intKind prog w).is k e.2) es.toList with
  | some j =>
    dsimp only
    obtain ⟨hj, hpj, _⟩ := List.findIdx?_eq_some_iff_getElem.mp hr
    have hSk : k ∈ ks := (hmem k).mpr ⟨es.toList[j], List.getElem_mem hj, hpj⟩
    refine wpAny_pure (wpAny_pure ?_)
    have e : s = { s with heap := s.heap } := by cases s; rfl
    have := h s.heap (Heap.SameBut.refl a s.heap) ⟨es, ep, t, ho, hel, fun k' => by
      rw [mem_add1, ← hmem k']; exact ⟨fun hk => hk.elim id (fun e => e ▸ hSk), .inl⟩, hb, hf, by unfold add1; rw [if_pos hSk]; exact hn, hled, hpl⟩
    rw [decide_eq_true hSk] at this; rw [e]; exact this
  | none =>
    dsimp only
    have hSk : ¬ k ∈ ks := fun hk => by
      obtain ⟨e, he, hp⟩ := (hmem k).mp hk; have := List.findIdx?_eq_none_iff.mp hr e he; rw [hp] at this; exact Bool.noConfusion this
    have hgw : ∀ (b : Bool) {s₁ : Shared} {Q' : Unit → Shared → Prop}, Q' () s₁ → wpAny (model prog w) A (match b with | true => rule "set.scan.the-table-gave-way" | false => pure ()) Q' E s₁ :=
      fun b s₁ Q' hq => by cases b <;> first | exact wpAny_pure hq | exact wpAny_rule hq
    have hperm := layNew_perm t es ((PySem.intKind prog w).hash k) (.int k t0)
    have hfits := layNew_fits t es ((PySem.intKind prog w).hash k) (.int k t0)
    have hl1 := layNew_led t es ((PySem.intKind prog w).hash k) (.int k t0)
    have hu1 : Up (layNew t es ((PySem.intKind prog w).hash k) (.int k t0)).2.1.place := up_layNew hpl
    generalize hL : layNew t es ((PySem.intKind prog w).hash k) (.int k t0) = L at hperm hfits hl1 hu1 ⊢
    obtain ⟨es1, t1, wasDummy, gave⟩ := L
    dsimp only at hperm hfits hl1 hu1 ⊢
    rw [Array.toList_push] at hperm
    have hel1 : ElemsOf (PySem.intKind prog w) es1.toList := (hel.push hkey hsc).perm hperm
    have hmem1 : ∀ k', k' ∈ add1 ks k ↔ ∃ e ∈ es1.toList, (PySem.intKind prog w).is k' e.2 = true := fun k' => by
      have := mem_push_iff (S := fun k => decide (k ∈ ks)) hkey (fun k' => by rw [decide_eq_true_eq]; exact hmem k') hperm k'
      rw [← this, mem_add1, Bool.or_eq_true, decide_eq_true_eq, decide_eq_true_eq]
    have hb1' : es1.size < scanBound := by rw [← Array.length_toList, hperm.length_eq, List.length_append, Array.length_toList]; simpa using hb1
    have hsz1 : es1.size = (add1 ks k).length := by
      unfold add1; rw [if_neg hSk, List.length_append, ← Array.length_toList, hperm.length_eq, List.length_append, Array.length_toList, hn]; rfl
    refine wpAny_bind (hgw _ ?_)
    have tail : ∀ t2 : SetTable, t2.fits es1.size = true → t2.led = t.led → Up t2.place → wpAny (model prog w) A (do
        storeSet a es1 t2
        if (!wasDummy && t2.tooFull) = true then do
            (match (relayAll t2 es1 (SetTable.grown es1.size)).2.2 with | true => rule "set.scan.the-table-gave-way" | false => pure ())
            storeSet a (relayAll t2 es1 (SetTable.grown es1.size)).1 (relayAll t2 es1 (SetTable.grown es1.size)).2.1
            pure (some true)
          else pure (some true)) (fun r s' => ∃ h', r = some true ∧ s' = { s with heap := h' } ∧ Heap.SameBut a s.heap h' ∧ SetX prog w h' a (add1 ks k)) E s := by
      intro t2 hf2 hl2 hp2
      refine wpAny_bind (wpAny_storeSet_of ho hd ?_ (fits_of_scanBound hb1'))
      have hg : (s.heap.update a (Obj.putSet es1 t2)).get? a = some { cls := .type "set", dict := none, data := .set es1 (ep + 1) t2 } := by
        have := Heap.get?_update_self (Obj.putSet es1 t2) ho (by rw [putSet_of es1 t2 hd]; rfl)
        rw [putSet_of es1 t2 hd] at this; exact this
      have hsb1 := Heap.SameBut.update s.heap a (Obj.putSet es1 t2)
      split
      · have hp := relayAll_perm t2 es1 (SetTable.grown es1.size)
        have hfr := relayAll_fits t2 es1 (SetTable.grown es1.size)
        have hl3 := relay_led t2 es1 (SetTable.grown es1.size)
        have hu3 : Up (relayAll t2 es1 (SetTable.grown es1.size)).2.1.place := up_relay
        generalize hRl : relayAll t2 es1 (SetTable.grown es1.size) = Rl at hp hfr hl3 hu3 ⊢
        obtain ⟨es2, t3, gave2⟩ := Rl
        dsimp only at hp hfr hl3 hu3 ⊢
        have hsz : es2.size = es1.size := by rw [← Array.length_toList, hp.length_eq, Array.length_toList]
        refine wpAny_bind (hgw _ ?_)
        refine wpAny_bind (wpAny_storeSet_of hg rfl ?_ (fits_of_scanBound (by rw [hsz]; exact hb1')))
        have hg2 : ((s.heap.update a (Obj.putSet es1 t2)).update a (Obj.putSet es2 t3)).get? a = some { cls := .type "set", dict := none, data := .set es2 (ep + 1 + 1) t3 } := by
          have := Heap.get?_update_self (Obj.putSet es2 t3) hg (by rw [putSet_of es2 t3 rfl]; rfl)
          rw [putSet_of es2 t3 rfl] at this; exact this
        refine wpAny_pure ⟨_, rfl, rfl, hsb1.trans (Heap.SameBut.update _ a _), es2, _, t3, hg2, hel1.perm hp, fun k' => (hmem1 k').trans ⟨fun ⟨e, he, q⟩ => ⟨e, hp.mem_iff.mpr he, q⟩, fun ⟨e, he, q⟩ => ⟨e, hp.mem_iff.mp he, q⟩⟩, by rw [hsz]; exact hb1', hfr, by rw [hsz]; exact hsz1, hl3.1.trans (hl2.trans hled), hu3⟩
      · exact wpAny_pure ⟨_, rfl, rfl, hsb1, es1, _, t2, hg, hel1, hmem1, hb1', hf2, hsz1, hl2.trans hled, hp2⟩
    have fin : ∀ (r : Option Bool) (s' : Shared), (∃ h', r = some true ∧ s' = { s with heap := h' } ∧ Heap.SameBut a s.heap h' ∧ SetX prog w h' a (add1 ks k)) → wpAny (model prog w) A (match r with | some added => pure added | none => setAddHashedIn a (.int k t0) ((PySem.intKind prog w).hash k) 99999) Q E s' := by
      rintro r s' ⟨h', rfl, rfl, hsb, hX⟩
      have := h h' hsb hX
      rw [decide_eq_false hSk] at this
      exact wpAny_pure this
    by_cases hp1 : t1.plain = true
    · rw [if_pos hp1]
      refine wpAny_bind ?_
      rw [hashByValue_scannable 8 hsc]
      refine wpAny_pure ?_
      have pk : plainKind (.int k t0) = true := rfl
      rw [pk]
      simp only [↓reduceIte]
      exact wpAny_mono (tail t1 hfits hl1.1 hu1) (fun r s' x => fin r s' x) fun _ _ x => x
    · rw [if_neg hp1]
      refine wpAny_bind (wpAny_pure ?_)
      simp only [↓reduceIte]
      exact wpAny_mono (tail t1 hfits hl1.1 hu1) (fun r s' x => fin r s' x) fun _ _ x => x
end
end LN

set_option Elab.async false
set_option linter.all false
set_option maxRecDepth 100000
set_option maxHeartbeats 4000000
namespace LN
open PySem PySem.Spec PyProof.Rows
open LS (byT code_set_new)
def dedN (ss : List Int) (i : Nat) : List Int := (ss.take i).foldl add1 []
def ded (ss : List Int) : List Int := ss.foldl add1 []
theorem dedN_succ {ss : List Int} {i : Nat} {x : Int} (h : ss[i]? = some x) : dedN ss (i + 1) = add1 (dedN ss i) x := by
  unfold dedN; rw [List.take_add_one, h, List.foldl_append]; rfl
theorem ded_nodup_aux : ∀ (ss : List Int) (acc : List Int), acc.Nodup → (ss.foldl add1 acc).Nodup
  | [], _, h => h
  | x :: ss, acc, h => ded_nodup_aux ss _ (nodup_add1 h)
theorem ded_nodup (ss : List Int) : (ded ss).Nodup := ded_nodup_aux ss [] (by simp)
theorem ded_len_aux : ∀ (ss : List Int) (acc : List Int), (ss.foldl add1 acc).length ≤ acc.length + ss.length
  | [], _ => by simp
  | x :: ss, acc => by
    have := ded_len_aux ss (add1 acc x)
    have := @len_add1 acc x
    simp only [List.foldl_cons, List.length_cons]; omega
theorem dedN_len (ss : List Int) (i : Nat) : (dedN ss i).length ≤ i := by
  have := ded_len_aux (ss.take i) []
  have h2 := List.length_take_le i ss
  unfold dedN; simp at this; omega
theorem mem_ded_aux {j : Int} : ∀ (ss : List Int) (acc : List Int), j ∈ ss.foldl add1 acc ↔ j ∈ acc ∨ j ∈ ss
  | [], acc => by simp
  | x :: ss, acc => by
    rw [List.foldl_cons, mem_ded_aux ss, mem_add1, List.mem_cons]
    exact ⟨fun h => h.elim (fun h => h.elim .inl fun e => .inr (.inl e)) fun h => .inr (.inr h), fun h => h.elim (fun h => .inl (.inl h)) fun h => h.elim (fun e => .inl (.inr e)) .inr⟩
theorem mem_ded {ss : List Int} {j : Int} : j ∈ ded ss ↔ j ∈ ss := by unfold ded; rw [mem_ded_aux]; simp
section
variable {prog : Program} {w : World} {A : Around} {R : Result → Shared → Prop} {I : Addr} {fp wr : List Addr} {G : Array GenState → Array GenState → Prop} {n : Nat} {P : Nat → Value → Prop} {St : Nat → Shared → Prop}
theorem update_loopS (W : WalksS prog w A.in1 I fp wr G n P St) (S : Addr) (hSf : S ∉ fp) (ss : List Int) (hss : ss.length = n)
    (hval : ∀ i v, P i v → ∃ x t, ss[i]? = some x ∧ v = .int x t) (hb : n + 1 < scanBound) :
    ∀ (k i : Nat) (s : Shared), n - i = k → i ≤ n → St i s → SetX prog w s.heap S (dedN ss i) →
      (∀ s', Moved (S :: wr) G s s' → SetX prog w s'.heap S (dedN ss n) → R (.ok (.ret .none)) s') →
      codeAny (model prog w) A (.builtin "set.update.loop" ⟨[.ref S, .ref I], []⟩) R s := by
  have hSw : S ∉ wr := fun h => hSf (W.sub _ h)
  have hsub : ∀ b ∈ wr, b ∈ S :: wr := fun b hb => List.mem_cons_of_mem _ hb
  intro k
  induction k with
  | zero =>
    intro i s hk hi hst hS hR
    have hin : i = n := by omega
    subst hin
    refine codeAny_builtin PyProof.Rows.F.entry_set_update_loop ?_
    rw [Around.under_plainId PyProof.Rows.F.plain_set_update_loop _]
    show wpAny _ A.in1 (pyNext (.ref I) >>= _) _ _ s
    refine wpAny_bind (W.done s _ _ hst fun s' hm => ?_)
    show wpAny _ A.in1 (ret Value.none) _ _ s'
    exact wpAny_pure (hR s' (hm.mono hsub) (hS.at fun o e => hm.heap S _ hSw e))
  | succ k ih =>
    intro i s hk hi hst hS hR
    have hlt : i < n := by omega
    refine codeAny_builtin PyProof.Rows.F.entry_set_update_loop ?_
    rw [Around.under_plainId PyProof.Rows.F.plain_set_update_loop _]
    show wpAny _ A.in1 (pyNext (.ref I) >>= _) _ _ s
    refine wpAny_bind (W.item i s _ _ hlt hst fun v s' hP hst' hm => ?_)
    obtain ⟨x, t, hx, rfl⟩ := hval i v hP
    have hS' : SetX prog w s'.heap S (dedN ss i) := hS.at fun o e => hm.heap S _ hSw e
    show wpAny _ A.in1 (holding [Value.int x t] (setAdd S (.int x t)) >>= _) _ _ s'
    refine wpAny_bind (wpAny_holding ?_)
    unfold setAdd
    refine wpAny_holding ?_
    refine wpAny_bind ((PySem.intKind prog w).pyHash (k := x) (by show Value.isInt x (.int x t) = true; simp [Value.isInt]) ?_)
    have hroom : (dedN ss i).length + 1 < scanBound := by have := dedN_len ss i; omega
    refine wp_add (s := { s' with toks := s'.toks + 1 }) hS' hroom fun h' hsb hS2 => ?_
    have hSi : SetX prog w h' S (dedN ss (i + 1)) := by rw [dedN_succ hx]; exact hS2
    refine wpAny_pure ⟨plainId_quiet PyProof.Rows.F.plain_set_update_loop _, ih (i + 1) _ (by omega) hlt (W.frame _ s' _ _ hst' (Nat.le_succ _) fun b hb o e => ?_) hSi fun s'' hm'' hS'' => ?_⟩
    · rw [hsb.2 b (fun h : b = S => hSf (by rw [← h]; exact hb))]; exact e
    · refine hR s'' (Moved.trans W.gtrans ((hm.mono hsub).then_heap (Nat.le_succ _) fun b o hb e => ?_) hm'') hS''
      rw [hsb.2 b (fun h : b = S => hb (by rw [h]; exact List.mem_cons_self))]; exact e
end
section
variable {prog : Program} {w : World} {A : Around} {E : Value → Shared → Prop} {s : Shared}
theorem ints_at : ∀ {vs : List Value} {ss : List Int}, IntsAre vs ss → ∀ (i : Nat) (v : Value), vs[i]? = some v → ∃ x t, ss[i]? = some x ∧ v = .int x t
  | _, _, .nil, i, v, h => by simp at h
  | _, _, .cons y t r, 0, v, h => by simp at h; exact ⟨y, t, rfl, h.symm⟩
  | _, _, .cons y t r, i + 1, v, h => by simp only [List.getElem?_cons_succ] at h ⊢; exact ints_at r i v h
theorem fresh_X {h : Heap} {a : Addr} (ho : h.get? a = some { cls := .type "set", dict := none, data := .set #[] 0 (.fresh 0 0 (!byT w)) }) : SetX prog w h a [] :=
  ⟨#[], 0, _, ho, fun e he => by simp at he, fun k => by simp, by unfold scanBound; simp, rfl, rfl, rfl, List.Pairwise.nil⟩
set_option maxRecDepth 100000 in
set_option maxHeartbeats 3200000 in
theorem call_set {l : Addr} {items : Array Value} {ss : List Int} {Q : Value → Shared → Prop}
    (hh : A.handled = none) (hl : s.heap.IsList l items) (hi : IntsAre items.toList ss) (hb : items.size + 1 < scanBound)
    (h : ∀ (h' : Heap) (tk : Nat), SetX prog w h' s.heap.objs.size (ded ss) →
      (∀ b o, b < s.heap.objs.size → s.heap.get? b = some o → h'.get? b = some o) → Q (.ref s.heap.objs.size) { s with heap := h', toks := tk }) :
    wpAny (model prog w) A (call (.type "set") [.ref l]) Q E s := by
  obtain ⟨c, tl, hmro⟩ := PySem.F.called_set.mro
  have hmade := PySem.F.called_set.made
  have hsub := PySem.F.called_set.sub
  refine wpAny_call (codeAny_of_tree ?_)
  show wpAny _ _ (callAny (.type "set") _) _ _ _
  refine wpAny_pure ⟨Code.quiet_builtin _ (by decide +kernel), codeAny_builtin PySem.F.entry_type_call ?_⟩
  rw [Around.under_plain (weight_type_call_type "set" [.ref l] []) rfl]
  have h1 := PySem.F.called_set.notType
  have h2 := PySem.F.called_set.canCreate
  have hct := PySem.F.typeCall_set_1 (.ref l)
  repeat (any_goals (first | assumption | wp_step))
  refine codeAny_mono (code_set_new (.ref l) (E := E) (Q₁ := fun obj s₁ => obj = .ref s.heap.objs.size ∧ s₁ = { s with heap := s.heap.push { cls := .type "set", dict := none, data := .set #[] 0 (.fresh 0 0 (!byT w)) } }) ⟨rfl, rfl⟩) fun r s₁ hr => ?_
  cases r with
  | error e => exact hr
  | ok fl =>
    cases fl with
    | ret obj =>
      obtain ⟨rfl, rfl⟩ := hr
      generalize hled : (!byT w) = led
      have hS : (s.heap.push { cls := .type "set", dict := none, data := .set #[] 0 (.fresh 0 0 led) }).get? s.heap.objs.size = some { cls := .type "set", dict := none, data := .set #[] 0 (.fresh 0 0 led) } := Heap.get?_push_size _ rfl
      have hT : Shared.TypeIs { s with heap := s.heap.push { cls := .type "set", dict := none, data := .set #[] 0 (.fresh 0 0 led) } } (.ref s.heap.objs.size) "set" := ⟨_, hS, rfl⟩
      have hli := PySem.F.called_set.init.lookup
      have hbi := PySem.F.called_set.init.bind (.ref s.heap.objs.size)
      repeat (any_goals (first | assumption | wp_step))
      refine codeAny_mono (codeAny_call_builtin (R := wants (fun r s₂ => r = .none ∧ ∃ h' tk, s₂ = { s with heap := h', toks := tk } ∧
          SetX prog w h' s.heap.objs.size (ded ss) ∧
          (∀ b o, b < s.heap.objs.size → s.heap.get? b = some o → h'.get? b = some o)) E) PySem.F.called_set.init.plain PySem.F.entry_set_init (PySem.check_set_init_1 hT ?_)) fun r₂ s₂ hr₂ => ?_
      · obtain ⟨ol, hol, hcl, nl, hdl⟩ := hl
        obtain ⟨ocls, odict, odata, oslots⟩ := ol
        simp only at hcl hdl
        subst hcl; subst hdl
        have hol' : (s.heap.push { cls := .type "set", dict := none, data := .set #[] 0 (.fresh 0 0 led) }).get? l = some { cls := .type "list", dict := odict, data := .seq items nl, slots := oslots } := Heap.get?_push_of_some _ hol
        have hsls := PySem.F.sub_list_set
        have hslf := PySem.F.sub_list_frozenset
        have hne : (Value.type "list" == Value.type "dict") = false := by decide
        have hl1 : (s.heap.push { cls := .type "set", dict := none, data := .set #[] 0 (.fresh 0 0 led) }).IsList l items := ⟨_, hol', rfl, nl, rfl⟩
        unfold Builtin.«set.__init__» noKeywords Builtin.Frozenset.updateFrom
        generalize hPI : pyIter = PI
        wp_walk
        subst hPI
        refine wpAny_pyIter_list hl1 ?_
        refine wpAny_bind (wpAny_runValue ?_)
        have hlS : l < s.heap.objs.size := Heap.lt_size hol
        have hh3 : A.in1.in1.in1.handled = none := by simp [hh]
        have hneI : l ≠ (s.heap.push { cls := .type "set", dict := none, data := .set #[] 0 (.fresh 0 0 led) }).objs.size := by
          rw [Heap.size_push]; exact Nat.ne_of_lt (Nat.lt_succ_of_lt hlS)
        have hSf : s.heap.objs.size ∉ [(s.heap.push { cls := .type "set", dict := none, data := .set #[] 0 (.fresh 0 0 led) }).objs.size, l] := by
          rw [Heap.size_push]; simp only [List.mem_cons, List.mem_singleton, List.not_mem_nil, or_false, not_or]
          exact ⟨Nat.ne_of_lt (Nat.lt_succ_self _), Nat.ne_of_gt hlS⟩
        have hlen : ss.length = items.size := by rw [← hi.length, Array.length_toList]
        have hval : ∀ (i : Nat) (v : Value), items[i]? = some v → ∃ x t, ss[i]? = some x ∧ v = .int x t := fun i v hv => ints_at hi i v (by rw [Array.getElem?_toList]; exact hv)
        refine update_loopS ((Walks.list hh3 _ l hneI items).toS) s.heap.objs.size
          hSf ss hlen hval hb (items.size - 0) 0 _ (by omega) (Nat.zero_le _)
          ⟨⟨_, Heap.get?_push_size _ rfl, rfl, rfl⟩, (hl1.push _)⟩ ?hS0 ?hR
        case hS0 =>
          have hget : ((s.heap.push { cls := .type "set", dict := none, data := .set #[] 0 (.fresh 0 0 led) }).push { cls := .type "list_iterator", data := .fields #[.ref l, .int 0 0] }).get? s.heap.objs.size
              = some { cls := .type "set", dict := none, data := .set #[] 0 (.fresh 0 0 led) } := Heap.get?_push_of_some _ hS
          exact fresh_X (by rw [hled]; exact hget)
        case hR =>
          intro s' hm hS'
          obtain ⟨h', g', d', tk', os'⟩ := s'
          have eg : g' = s.gens := hm.gens
          have ed : d' = s.drawn := hm.drawn
          have eo : os' = s.os := hm.os
          subst eg; subst ed; subst eo
          show wpAny _ _ _ _ _ _
          refine wpAny_pure ?_
          show wpAny _ _ (ret Value.none) _ _ _
          refine wpAny_pure ⟨rfl, h', tk', rfl, ?_, fun b o hb e => ?_⟩
          · have e : dedN ss items.size = ded ss := by unfold dedN ded; rw [List.take_of_length_le (by omega)]
            rw [← e]; exact hS'
          have hb1 : b ≠ s.heap.objs.size := Nat.ne_of_lt hb
          have hb2 : b ≠ (s.heap.push { cls := .type "set", dict := none, data := .set #[] 0 (.fresh 0 0 led) }).objs.size := by
            rw [Heap.size_push]; exact Nat.ne_of_lt (Nat.lt_succ_of_lt hb)
          exact hm.heap b o (by simp only [List.mem_cons, List.mem_singleton, List.not_mem_nil, or_false, not_or]; exact ⟨hb1, hb2⟩) (Heap.get?_push_of_some _ (Heap.get?_push_of_some _ e))
      · cases r₂ with
        | error e => exact hr₂
        | ok fl₂ =>
          cases fl₂ with
          | ret r =>
            obtain ⟨rfl, h', tk, rfl, hS', hk'⟩ := hr₂
            repeat (any_goals (first | assumption | wp_step))
            exact h _ _ hS' hk'
          | _ => exact hr₂.elim
    | _ => exact hr.elim
end
end LN

set_option Elab.async false
set_option linter.all false
set_option maxRecDepth 100000
set_option maxHeartbeats 4000000
namespace LN
open PySem PySem.Spec PyProof.Rows
open LS hiding SetX add1 mem_add1 nodup_add1 len_add1 wp_add dedN ded dedN_succ ded_nodup_aux ded_nodup ded_len_aux dedN_len mem_ded_aux mem_ded update_loopS fresh_X call_set perm_of vals_perm iter_set extend_set collect_set SetX.of SetX.at SetX.typeIs
theorem below_next {xs : Array Nat} (h : Up xs) {i : Nat} (hi : i ≤ xs.size) : SetTable.below xs (if i = 0 then 0 else xs.getD (i - 1) 0 + 1) = i := by
  have get : ∀ (k v : Nat), xs.toList[k]? = some v → ∃ hk : k < xs.toList.length, xs.toList[k] = v := fun k v e => by
    obtain ⟨a, b⟩ := List.getElem?_eq_some_iff.mp e
    exact ⟨a, b⟩
  have p := List.pairwise_iff_getElem.mp h
  by_cases h0 : i = 0
  · subst h0
    rw [if_pos rfl]
    exact below_eq (Nat.zero_le _) (fun k v z => absurd z (Nat.not_lt_zero _)) fun k v _ _ => Nat.zero_le _
  · rw [if_neg h0]
    have hl : i - 1 < xs.size := by omega
    have hl' : i - 1 < xs.toList.length := by rw [Array.length_toList]; exact hl
    have hg : xs.getD (i - 1) 0 = xs.toList[i - 1] := by simp [Array.getD, hl]
    rw [hg]
    refine below_eq hi (fun k v hk e => ?_) fun k v hk e => ?_
    · obtain ⟨a, rfl⟩ := get k v e
      by_cases z : k = i - 1
      · subst z; exact Nat.lt_succ_self _
      · have := p k (i - 1) a hl' (by omega); omega
    · obtain ⟨a, rfl⟩ := get k v e
      exact p (i - 1) k hl' a (by omega)
section
variable {prog : Program} {w : World} {A : Around} {E : Value → Shared → Prop} {s : Shared}
/-- by places -/
theorem walkP {I a : Addr} (hne : I ≠ a) (hby : byT w = false) {es : Array (Int × Value)} {ep n : Nat} {t : SetTable} (hf : t.fits es.size = true) (hn : es.size = n) (hup : Up t.place) (hnd : (!t.plain && decide (es.size > 1)) = false) (hled : t.led = true) (hh : A.handled = none) :
    Walks prog w A I [I, a] [I] n (fun i v => ∃ e, es[i]? = some e ∧ v = e.2)
      (fun i h => h.get? I = some (itObj (rawInt (((if i = 0 then 0 else t.place.getD (i - 1) 0 + 1) : Nat) : Int)) i a n ep) ∧ h.get? a = some (setObj es ep t)) where
  sub := fun b hb => by simp at hb; simp [hb]
  frame := fun _ _ _ ⟨x, y⟩ hk => ⟨hk _ (by simp) _ x, hk _ (by simp) _ y⟩
  item := fun i s Q E hi ⟨x, y⟩ hQ => by
    have hps : t.place.size = n := by
      simp only [SetTable.fits, Bool.and_eq_true, beq_iff_eq] at hf; rw [hf.1, hn]
    have he : es[i]? = some (es[i]'(by omega)) := Array.getElem?_eq_getElem (by omega)
    have hp : t.place[i]? = some (t.place[i]'(by omega)) := Array.getElem?_eq_getElem (by omega)
    have hd : t.place.getD i 0 = t.place[i]'(by omega) := by simp [Array.getD, show i < t.place.size by omega]
    have hbl := below_next hup (i := i) (by omega)
    refine next_go x y hf hn ?_
    show wpAny _ _ (setNext a (((if i = 0 then 0 else t.place.getD (i - 1) 0 + 1) : Nat) : Int).toNat (i : Int).toNat (ep : Int).toNat >>= _) _ _ s
    rw [Int.toNat_natCast]
    unfold setNext setsByText
    refine wpAny_bind (wpAny_bind (wpAny_setState_of y rfl hf ?_))
    dsimp only
    refine wpAny_bind (wpAny_bind (wpAny_askSetting (wpAny_pure ?_)))
    dsimp only [model]
    rw [if_neg (show ¬ w.params.followText "set-order" = true by rw [show w.params.followText "set-order" = false from hby]; simp)]
    refine wpAny_ite_split (fun c => absurd (show (!t.plain && decide (es.size > 1)) = true from c) (by rw [hnd]; simp)) (fun _ => ?_)
    refine wpAny_bind ?_
    show wpAny _ _ (if (!t.led && !es.isEmpty) = true then unsupported "set:maker-not-led" else pure ()) _ _ _
    rw [if_neg (by rw [hled]; simp)]
    refine wpAny_pure ?_
    rw [hbl]
    refine wpAny_pure ?_
    rw [he, hp]
    show wpAny _ _ (setField (.ref I) 0 (rawInt ((t.place[i]'(by omega) + 1 : Nat) : Int)) >>= _) _ _ s
    refine wpAny_bind (wpAny_setField x rfl (by simp) ?_)
    refine wpAny_bind (wpAny_setField (upd_it0 x) rfl (by simp) ?_)
    refine wpAny_pure ⟨_, rfl, hQ _ _ s.toks ⟨_, he, rfl⟩ ⟨?_, ?_⟩ fun b ob hb e => ?_⟩
    · rw [if_neg (Nat.succ_ne_zero _), Nat.add_sub_cancel, hd]; exact upd_it (upd_it0 x)
    · rw [Heap.get?_update_other _ _ hne, Heap.get?_update_other _ _ hne]; exact y
    · rw [Heap.get?_update_other _ _ (fun h => hb (by simp [h])), Heap.get?_update_other _ _ (fun h => hb (by simp [h]))]; exact e
  done := fun s Q E ⟨x, y⟩ hQ => by
    have hps : t.place.size = n := by
      simp only [SetTable.fits, Bool.and_eq_true, beq_iff_eq] at hf; rw [hf.1, hn]
    have hbl := below_next hup (i := n) (by omega)
    have he : es[n]? = none := Array.getElem?_eq_none (by omega)
    refine next_go x y hf hn ?_
    show wpAny _ _ (setNext a (((if n = 0 then 0 else t.place.getD (n - 1) 0 + 1) : Nat) : Int).toNat (n : Int).toNat (ep : Int).toNat >>= _) _ _ s
    rw [Int.toNat_natCast]
    unfold setNext setsByText
    refine wpAny_bind (wpAny_bind (wpAny_setState_of y rfl hf ?_))
    dsimp only
    refine wpAny_bind (wpAny_bind (wpAny_askSetting (wpAny_pure ?_)))
    dsimp only [model]
    rw [if_neg (show ¬ w.params.followText "set-order" = true by rw [show w.params.followText "set-order" = false from hby]; simp)]
    refine wpAny_ite_split (fun c => absurd (show (!t.plain && decide (es.size > 1)) = true from c) (by rw [hnd]; simp)) (fun _ => ?_)
    refine wpAny_bind ?_
    show wpAny _ _ (if (!t.led && !es.isEmpty) = true then unsupported "set:maker-not-led" else pure ()) _ _ _
    rw [if_neg (by rw [hled]; simp)]
    refine wpAny_pure ?_
    refine wpAny_pure ?_
    rw [hbl, he]
    show wpAny _ _ (setField (.ref I) 2 .none >>= _) _ _ s
    refine wpAny_bind (wpAny_setField x rfl (by simp) ?_)
    refine wpAny_mono (wp_stop hh fun h' k => hQ h' _ fun b ob hb e => k b ob ?_) (fun _ _ x => x.elim) fun _ _ x => x
    rw [Heap.get?_update_other _ _ (fun h => hb (by simp [h]))]; exact e
  self := fun i s Q E ⟨x, y⟩ hQ => by
    exact it_self x hQ
end
end LN

set_option Elab.async false
set_option linter.all false
set_option maxRecDepth 100000
set_option maxHeartbeats 4000000
namespace LN
open PySem PySem.Spec PyProof.Rows
open LS hiding SetX add1 mem_add1 nodup_add1 len_add1 wp_add dedN ded dedN_succ ded_nodup_aux ded_nodup ded_len_aux dedN_len mem_ded_aux mem_ded update_loopS fresh_X call_set perm_of vals_perm iter_set extend_set collect_set SetX.of SetX.at SetX.typeIs
theorem perm_of : ∀ (ks ys : List Int), ks.Nodup → ys.length = ks.length → (∀ k ∈ ks, k ∈ ys) → ys.Perm ks
  | [], ys, _, hl, _ => by rw [List.length_eq_zero_iff.mp hl]
  | k :: ks, ys, hn, hl, hs => by
    have hk : k ∈ ys := hs k (by simp)
    have p := List.perm_cons_erase hk
    rw [List.nodup_cons] at hn
    refine p.trans (.cons k (perm_of ks (ys.erase k) hn.2 (by rw [List.length_erase_of_mem hk, hl]; rfl) fun j hj => ?_))
    have hne : j ≠ k := fun e => hn.1 (e ▸ hj)
    exact (List.mem_erase_of_ne hne).mpr (hs j (List.mem_cons_of_mem _ hj))
theorem ints_of {prog : Program} {w : World} : ∀ (vs : List Value), (∀ v ∈ vs, ∃ k, (PySem.intKind prog w).is k v = true) → ∃ ys, IntsAre vs ys
  | [], _ => ⟨[], .nil⟩
  | v :: vs, h => by
    obtain ⟨k, hk⟩ := h v (by simp)
    obtain ⟨t, rfl⟩ := Value.isInt_shape hk
    obtain ⟨ys, hy⟩ := ints_of (prog := prog) (w := w) vs fun u hu => h u (List.mem_cons_of_mem _ hu)
    exact ⟨k :: ys, .cons k t hy⟩
theorem mem_ints : ∀ {vs : List Value} {ys : List Int}, IntsAre vs ys → ∀ {k : Int} {t : Tok}, Value.int k t ∈ vs → k ∈ ys
  | _, _, .cons y t r, k, u, h => by
    rcases List.mem_cons.mp h with e | e
    · cases e; simp
    · exact List.mem_cons_of_mem _ (mem_ints r e)
section
variable {prog : Program} {w : World} {A : Around} {E : Value → Shared → Prop} {s : Shared}
theorem vals_perm {ks : List Int} {es : Array (Int × Value)} (hel : ElemsOf (PySem.intKind prog w) es.toList) (hm : ∀ k, k ∈ ks ↔ ∃ e ∈ es.toList, (PySem.intKind prog w).is k e.2 = true) (hn : es.size = ks.length) (nd : ks.Nodup)
    {vs : List Value} (hp : vs.Perm (es.toList.map (·.2))) : ∃ ys, IntsAre vs ys ∧ ys.Perm ks := by
  obtain ⟨ys, hy⟩ := ints_of (prog := prog) (w := w) vs fun v hv => by
    obtain ⟨e, he, rfl⟩ := List.mem_map.mp (hp.mem_iff.mp hv)
    obtain ⟨k, h1, _⟩ := (hel e he).1
    exact ⟨k, h1⟩
  refine ⟨ys, hy, perm_of ks ys nd ?_ fun k hk => ?_⟩
  · rw [← hy.length, hp.length_eq, List.length_map, Array.length_toList, hn]
  · obtain ⟨e, he, hke⟩ := (hm k).mp hk
    obtain ⟨t, ht⟩ := Value.isInt_shape hke
    exact mem_ints hy (t := t) (hp.mem_iff.mpr (List.mem_map.mpr ⟨e, he, ht⟩))
theorem iter_set {a : Addr} {ks : List Int} (X : SetX prog w s.heap a ks) (nd : ks.Nodup) {Q : Value → Shared → Prop}
    (hQ : ∀ (I : Addr) (fp : List Addr) (Pv : Nat → Value → Prop) (St : Nat → Heap → Prop) (h' : Heap) (d' : Drawn), (∀ b o, s.heap.get? b = some o → h'.get? b = some o) → s.heap.objs.size ≤ I → (∀ b ∈ fp, b = a ∨ s.heap.objs.size ≤ b ∧ b < h'.objs.size) →
      (∀ A : Around, A.handled = none → Walks prog w A I fp [I] ks.length Pv St) → St 0 h' →
      (∀ vs : List Value, vs.length = ks.length → (∀ j v, vs[j]? = some v → Pv j v) → ∃ ys, IntsAre vs ys ∧ ys.Perm ks) → Q (.ref I) { s with heap := h', drawn := d' }) :
    wpAny (model prog w) A (pyIter (.ref a)) Q E s := by
  have hX := X
  obtain ⟨es, ep, t, ho, hel, hm, hb, hf, hn, hled, hpl⟩ := X
  have halt : a < s.heap.objs.size := Heap.lt_size ho
  refine wpAny_pyIter_slot hX.typeIs slot_set_iter (wpAny_call_entry slot_set_iter hX.typeIs entry_set_iter ?_ (args_set_iter _))
  show wpAny _ _ (Builtin.Frozenset.sizeOf a >>= _) _ _ s
  unfold Builtin.Frozenset.sizeOf setEntries
  refine wpAny_bind (wpAny_bind (wpAny_bind (wpAny_setState_of ho rfl hf (wpAny_pure (wpAny_pure ?_)))))
  dsimp only
  unfold setDrawn setsByText
  refine wpAny_bind (wpAny_bind (wpAny_setState_of ho rfl hf ?_))
  dsimp only
  refine wpAny_bind (wpAny_bind (wpAny_askSetting (wpAny_pure ?_)))
  dsimp only [model]
  refine wpAny_pure ?_
  show wpAny _ _ (if (!byT w && (!t.plain && decide (es.size > 1))) = true then _ else _) _ _ s
  have last : ∀ (first : Value) (s1 : Shared) (R : Value → Shared → Prop), s1.heap.get? a = some (setObj es ep t) → R (.ref s1.heap.objs.size) { s1 with heap := s1.heap.push (itObj first 0 a es.size ep) } →
      wpAny (model prog w) A.in1 (do ret (← newFields "set_iterator" [first, rawInt 0, .ref a, rawInt es.size, rawInt (← setEpoch a)])) (fun fin s' => ∃ v, fin = .done (.ret v) ∧ R v s') E s1 := by
    intro first s1 R h1 h2
    unfold setEpoch
    refine wpAny_bind (wpAny_bind (wpAny_setState_of h1 rfl hf (wpAny_pure ?_)))
    refine wpAny_bind (wpAny_newObj_type ?_)
    exact wpAny_pure ⟨_, rfl, h2⟩
  by_cases hd : (!byT w && (!t.plain && decide (es.size > 1))) = true
  · rw [if_pos hd]
    refine wpAny_bind (wp_drawOrder es.size (List.range es.size) s (by simp) fun ps d' hp => ?_)
    have hpl : ps.length = es.size := by rw [hp.length_eq]; simp
    refine wpAny_bind (wpAny_newTuple ?_ (by rw [List.length_map, hpl]; exact Nat.le_of_lt (Nat.lt_of_lt_of_le hb (by unfold scanBound; rw [sizeLine_eq]; decide))))
    have hp2 : ∀ p ∈ ps, p < es.size := fun p h => by simpa using hp.mem_iff.mp h
    refine wpAny_mono (last (.ref s.heap.objs.size) { s with heap := s.heap.push { cls := .type "tuple", data := .seq (ps.map fun (i : Nat) => rawInt i).toArray }, drawn := d' } (fun v s' => v = .ref (s.heap.objs.size + 1) ∧ s' = { s with heap := (s.heap.push { cls := .type "tuple", data := .seq (ps.map fun (i : Nat) => rawInt i).toArray }).push (itObj (.ref s.heap.objs.size) 0 a es.size ep), drawn := d' })
      (Heap.get?_push_of_some _ ho) ⟨by simp [Heap.size_push], rfl⟩) (fun fin s' x => ?_) fun _ _ x => x
    obtain ⟨v, rfl, rfl, rfl⟩ := x
    have hsz1 : (s.heap.push { cls := .type "tuple", data := .seq (ps.map fun (i : Nat) => rawInt i).toArray }).objs.size = s.heap.objs.size + 1 := Heap.size_push _ _
    have hI : ((s.heap.push { cls := .type "tuple", data := .seq (ps.map fun (i : Nat) => rawInt i).toArray }).push (itObj (.ref s.heap.objs.size) 0 a es.size ep)).get? (s.heap.objs.size + 1) = some (itObj (.ref s.heap.objs.size) 0 a es.size ep) := by
      rw [← hsz1]; exact Heap.get?_push_size _ rfl
    refine ⟨_, rfl, "set_iterator", _, ⟨_, hI, rfl⟩, slot_si_next.lookup, ?_⟩
    have hT : ((s.heap.push { cls := .type "tuple", data := .seq (ps.map fun (i : Nat) => rawInt i).toArray }).push (itObj (.ref s.heap.objs.size) 0 a es.size ep)).get? s.heap.objs.size = some { cls := .type "tuple", data := .seq (ps.map fun (i : Nat) => rawInt i).toArray } := Heap.get?_push_of_some _ (Heap.get?_push_size _ rfl)
    have W : ∀ A : Around, A.handled = none → Walks prog w A (s.heap.objs.size + 1) _ _ _ _ _ := fun A hh => walkB (I := s.heap.objs.size + 1) (a := a) (T := s.heap.objs.size) (ep := ep) ⟨Nat.ne_of_gt (Nat.lt_succ_of_lt halt), Nat.succ_ne_self _⟩ hf hn (hpl.trans hn) (fun p h => hn ▸ hp2 p h) hh
    rw [hn] at hI hT ⊢
    refine hQ (s.heap.objs.size + 1) [s.heap.objs.size + 1, a, s.heap.objs.size] _ _ _ d' (fun b o e => Heap.get?_push_of_some _ (Heap.get?_push_of_some _ e)) (Nat.le_succ _) (fun b hb => ?_) W ⟨hI, Heap.get?_push_of_some _ (Heap.get?_push_of_some _ ho), _, _, hT, rfl⟩ fun vs hvl hv => ?_
    · simp only [List.mem_cons, List.not_mem_nil, or_false] at hb
      rw [Heap.size_push, Heap.size_push]
      rcases hb with rfl | rfl | rfl
      · exact .inr ⟨Nat.le_succ _, Nat.lt_succ_self _⟩
      · exact .inl rfl
      · exact .inr ⟨Nat.le_refl _, Nat.lt_succ_of_lt (Nat.lt_succ_self _)⟩
    · have e : vs = ps.map (fun p => ((es[p]?).map (·.2)).getD .none) := by
        refine list_of_at (f := fun j => (ps[j]?).map fun p => ((es[p]?).map (·.2)).getD .none) hvl (fun j v hj => ?_) _ (by rw [List.length_map, hpl, hn]) (fun j hj => by simp)
        obtain ⟨p, e, h1, h2, rfl⟩ := hv j v hj
        simp [h1, h2]
      refine vals_perm hel hm hn nd ?_
      rw [e, ← map_range_get]
      exact hp.map _
  · rw [if_neg hd]
    refine wpAny_bind (wpAny_pure ?_)
    refine wpAny_mono (last (rawInt 0) s (fun v s' => v = .ref s.heap.objs.size ∧ s' = { s with heap := s.heap.push (itObj (rawInt 0) 0 a es.size ep) }) ho ⟨rfl, rfl⟩) (fun fin s' x => ?_) fun _ _ x => x
    obtain ⟨v, rfl, rfl, rfl⟩ := x
    have hI : (s.heap.push (itObj (rawInt 0) 0 a es.size ep)).get? s.heap.objs.size = some (itObj (rawInt 0) 0 a es.size ep) := Heap.get?_push_size _ rfl
    refine ⟨_, rfl, "set_iterator", _, ⟨_, hI, rfl⟩, slot_si_next.lookup, ?_⟩
    have hfp : ∀ b ∈ [s.heap.objs.size, a], b = a ∨ s.heap.objs.size ≤ b ∧ b < (s.heap.push (itObj (rawInt 0) 0 a es.size ep)).objs.size := fun b hb => by
      simp only [List.mem_cons, List.not_mem_nil, or_false] at hb
      rw [Heap.size_push]
      rcases hb with rfl | rfl
      · exact .inr ⟨by omega, by omega⟩
      · exact .inl rfl
    cases hby : byT w with
    | true =>
      have W : ∀ A : Around, A.handled = none → Walks prog w A s.heap.objs.size _ _ _ _ _ := fun A hh => walkA (I := s.heap.objs.size) (a := a) (ep := ep) (Nat.ne_of_gt halt) hby hf hn hh
      rw [hn] at hI hfp ⊢
      refine hQ s.heap.objs.size [s.heap.objs.size, a] _ _ _ s.drawn (fun b o e => Heap.get?_push_of_some _ e) (Nat.le_refl _) hfp W ⟨hI, Heap.get?_push_of_some _ ho⟩ fun vs hvl hv => ?_
      have hsz : (pickOrder (w.params.setOrder a ep) es).size = es.size := by rw [← Array.length_toList, (pick_perm _ _).length_eq, Array.length_toList]
      have e : vs = (pickOrder (w.params.setOrder a ep) es).toList.map (·.2) := by
        refine list_of_at (f := fun j => ((pickOrder (w.params.setOrder a ep) es)[j]?).map (·.2)) hvl (fun j v hj => ?_) _ (by rw [List.length_map, Array.length_toList, hsz, hn]) (fun j hj => by simp)
        obtain ⟨e, h1, rfl⟩ := hv j v hj
        simp [h1]
      refine vals_perm hel hm hn nd ?_
      rw [e]
      exact (pick_perm _ _).map _
    | false =>
      have hnd : (!t.plain && decide (es.size > 1)) = false := by
        rw [hby] at hd
        simpa using hd
      have W : ∀ A : Around, A.handled = none → Walks prog w A s.heap.objs.size _ _ _ _ _ := fun A hh => walkP (I := s.heap.objs.size) (a := a) (ep := ep) (Nat.ne_of_gt halt) hby hf hn hpl hnd (by rw [hled, hby]; rfl) hh
      rw [hn] at hI hfp ⊢
      refine hQ s.heap.objs.size [s.heap.objs.size, a] _ _ _ s.drawn (fun b o e => Heap.get?_push_of_some _ e) (Nat.le_refl _) hfp W ⟨hI, Heap.get?_push_of_some _ ho⟩ fun vs hvl hv => ?_
      have e : vs = es.toList.map (·.2) := by
        refine list_of_at (f := fun j => (es[j]?).map (·.2)) hvl (fun j v hj => ?_) _ (by rw [List.length_map, Array.length_toList, hn]) (fun j hj => by simp)
        obtain ⟨e, h1, rfl⟩ := hv j v hj
        simp [h1]
      refine vals_perm hel hm hn nd ?_
      rw [e]
theorem extend_set {r S : Addr} {ks : List Int} {h0 : Heap} (hS : s.heap.objs.size = S) (hr : r < S) (hh : A.handled = none) (hn : ks.length ≤ sizeLine) (nd : ks.Nodup) (hk0 : ∀ b o, s.heap.get? b = some o → h0.get? b = some o)
    (hS₁ : h0.get? S = some { cls := .type "list", data := .seq #[] }) (hsz : h0.objs.size = S + 1) (X1 : SetX prog w h0 r ks) :
    wpAny (model prog w) A.in1 (Builtin.List.listExtendWith (.ref S) (.ref r) (.ref S))
      (fun fin s' => ∃ Pv d', (∀ vs : List Value, vs.length = ks.length → (∀ j v, vs[j]? = some v → Pv j v) → ∃ ys, IntsAre vs ys ∧ ys.Perm ks) ∧ match fin with | .done f => GG s ks.length Pv d' S (.ok f) s' | .again c' => c'.quiet = true ∧ codeAny (model prog w) A c' (GG s ks.length Pv d' S) s') (fun _ _ => False) { s with heap := h0 } := by
  have hSr : S ≠ r := Nat.ne_of_gt hr
  unfold Builtin.List.listExtendWith
  refine wpAny_bind (wpAny_typeOf (T := "set") (SetX.typeIs (s := { s with heap := h0 }) X1) ?_)
  have h1 : Builtin.List.listSameRef (.ref S) (.ref r) = false := by simp [Builtin.List.listSameRef, hSr]
  have h2 : (Value.type "set" == Value.type "list") = false := by decide
  have h3 : (Value.type "set" == Value.type "tuple") = false := by decide
  simp only [h1, h2, h3, Bool.or_false, Bool.false_eq_true, if_false]
  refine wpAny_bind (iter_set (s := { s with heap := h0 }) X1 nd fun I fp Pv St h' d' hk hI hfp W st hvs => ?_)
  have hI' : S + 1 ≤ I := by rw [← hsz]; exact hI
  have hSf : S ∉ fp := fun hm => by
    rcases hfp S hm with e | ⟨e, _⟩
    · exact hSr e
    · have e' : S + 1 ≤ S := by rw [← hsz]; exact e
      exact absurd e' (Nat.not_succ_le_self _)
  have hS₂ := hk S _ hS₁
  have key : ∀ (h2 : Heap) (c₁ tk : Nat), St 0 h2 → (∀ b o, b ≠ S → h'.get? b = some o → h2.get? b = some o) →
      h2.get? S = some { cls := .type "list", data := .seq #[] c₁ } → codeAny (model prog w) A (.builtin "list.extend.loop" ⟨[.ref S, .ref I, .ref S], []⟩) (GG s ks.length Pv d' S) { s with heap := h2, toks := tk, drawn := d' } := by
    intro h2 c₁ tk hst hk2 hS₁
    refine codeAny_extend_loopS (W A.in1 hh).toS hn S hSf _ ks.length 0 _ #[] c₁ rfl (Nat.zero_le _) hst hS₁ (ItemsOf.nil _) fun s' acc' c' hm hS' hacc => ?_
    refine ⟨s'.heap, s'.toks, acc', c', rfl, ?_, fun b o e => ?_, hS', hacc⟩
    · rw [Moved.eq_with hm]
    · have hlt : b < S := by rw [← hS]; exact Heap.lt_size e
      refine hm.heap b o (fun hmem => ?_) (hk2 b o (Nat.ne_of_lt hlt) (hk b o (hk0 b o e)))
      rcases List.mem_cons.mp hmem with e' | hmem
      · exact absurd e' (Nat.ne_of_lt hlt)
      · have := List.mem_singleton.mp hmem
        exact absurd this (Nat.ne_of_lt (Nat.lt_of_lt_of_le (Nat.lt_succ_of_lt hlt) hI'))
  refine wpAny_bind (wpAny_holding (hint_set (SetX.typeIs (s := { s with heap := h', drawn := d' }) (X1.at fun o e => hk _ _ e)) ?_))
  refine wpAny_ite_split (fun _ => ?_) (fun _ => wpAny_pure ⟨Pv, d', hvs, plainId_quiet PySem.F.plain_extend_loop _, key h' 0 s.toks st (fun b o _ e => e) hS₂⟩)
  refine wpAny_bind (wpAny_rule ?_)
  refine wpAny_bind ?_
  show wpAny _ _ (updateSeq S (·.push .none) >>= fun _ => updateSeq S (·.pop)) _ _ _
  refine wpAny_bind (wpAny_updateSeq hS₂ rfl ?_)
  have hS₃ := Heap.get?_update_self (Obj.mapSeq (·.push Value.none)) hS₂ rfl
  refine wpAny_updateSeq (hz := by seq_fits) hS₃ rfl ?_
  have hS₄ := Heap.get?_update_self (Obj.mapSeq (·.pop)) hS₃ rfl
  refine wpAny_pure ⟨Pv, d', hvs, plainId_quiet PySem.F.plain_extend_loop _, key _ _ s.toks ?_ (fun b o hb e => ?_) hS₄⟩
  · refine (W A hh).frame 0 _ _ st fun b hb o e => ?_
    have hbS : b ≠ S := fun h => hSf (h ▸ hb)
    exact (Heap.get?_update_other _ _ (Ne.symm hbS)).trans ((Heap.get?_update_other _ _ (Ne.symm hbS)).trans e)
  · exact (Heap.get?_update_other _ _ (Ne.symm hb)).trans ((Heap.get?_update_other _ _ (Ne.symm hb)).trans e)
theorem collect_set {r : Addr} {ks : List Int} (X : SetX prog w s.heap r ks) (nd : ks.Nodup) (hh : A.handled = none) {R : List Value → Shared → Prop}
    (h : ∀ (h' : Heap) (tk : Nat) (d' : Drawn) (vs : List Value) (ys : List Int), (∀ b o, s.heap.get? b = some o → h'.get? b = some o) → s.heap.objs.size ≤ h'.objs.size → IntsAre vs ys → ys.Perm ks → R vs { s with heap := h', toks := tk, drawn := d' }) :
    wpAny (model prog w) A (collect (.ref r)) R E s := by
  have hr : r < s.heap.objs.size := by obtain ⟨_, _, _, e, _⟩ := X; exact Heap.lt_size e
  have hn : ks.length ≤ sizeLine := by
    obtain ⟨es, _, _, _, _, _, hb, _, e, _⟩ := X
    rw [← e, sizeLine_eq]; unfold scanBound at hb; omega
  unfold collect
  refine wpAny_bind (wpAny_runValue (codeAny_builtin entry_proto_collect' ?_))
  rw [Around.under_plainId PySem.F.plain_proto_collect _]
  show wpAny _ A.in1 (newList [] >>= fun l => again (.builtin "list.__iadd__" ⟨[l, .ref r], []⟩)) _ _ s
  refine wpAny_bind (wpAny_newObj_type ?_)
  refine wpAny_pure ⟨plainId_quiet PySem.F.plain_list_iadd _, codeAny_builtin entry_list_iadd' ?_⟩
  rw [Around.under_plainId PySem.F.plain_list_iadd _]
  have hS₁ : (s.heap.push { cls := .type "list", data := .seq ([] : List Value).toArray }).get? s.heap.objs.size = some { cls := .type "list", data := .seq #[] } := Heap.get?_push_size _ rfl
  show wpAny _ A.in1 (Builtin.List.listExtendWith (.ref s.heap.objs.size) (.ref r) (.ref s.heap.objs.size)) _ _ _
  refine wpAny_mono (extend_set (A := A) (s := s) (h0 := s.heap.push { cls := .type "list", data := .seq ([] : List Value).toArray }) rfl hr hh hn nd (fun b o e => Heap.get?_push_of_some _ e) hS₁ (Heap.size_push _ _) (X.at fun o e => Heap.get?_push_of_some _ e)) (fun fin s' x => ?_) fun e s' x => x.elim
  obtain ⟨Pv, d', hvs, x⟩ := x
  cases fin with
  | done f =>
    obtain ⟨h3, tk, acc', c', e, rfl, hk3, hS3, hacc⟩ := x
    cases e
    show wpAny _ A (load s.heap.objs.size >>= _) _ _ _
    refine wpAny_bind (wpAny_load hS3 ?_)
    obtain ⟨ys, y1, y2⟩ := hvs acc'.toList (by rw [Array.length_toList]; exact hacc.1) fun j v e => hacc.2 j v (by rw [← Array.getElem?_toList]; exact e)
    exact wpAny_pure (h h3 tk d' _ ys hk3 (Nat.le_of_lt (Heap.lt_size hS3)) y1 y2)
  | again c₁ =>
    refine ⟨x.1, codeAny_mono x.2 fun q s₂ y => ?_⟩
    obtain ⟨h3, tk, acc', c', rfl, rfl, hk3, hS3, hacc⟩ := y
    show wpAny _ A (load s.heap.objs.size >>= _) _ _ _
    refine wpAny_bind (wpAny_load hS3 ?_)
    obtain ⟨ys, y1, y2⟩ := hvs acc'.toList (by rw [Array.length_toList]; exact hacc.1) fun j v e => hacc.2 j v (by rw [← Array.getElem?_toList]; exact e)
    exact wpAny_pure (h h3 tk d' _ ys hk3 (Nat.le_of_lt (Heap.lt_size hS3)) y1 y2)
end
end LN

set_option Elab.async false
set_option linter.all false
set_option maxRecDepth 100000
set_option maxHeartbeats 4000000
/-! set(list of ints), sorted(set of ints) as rules -/
namespace LN
open PySem PySem.W PySem.Spec PyProof.Rows L2
open LS (sorted_shell dinv)
section
variable {X : Cx} {pins : List (Addr × Obj)} {σ : L2.St} {H : Hp} {s : Shared}
end
end LN

set_option Elab.async false
set_option linter.all false
set_option maxRecDepth 100000
set_option maxHeartbeats 4000000
/-! lists of ints: l < m -/
namespace HT
open PySem PySem.Spec PyProof.Rows
section
open PySem.SeqAt
open PySem.AutoSeq1 (wpAny_loadPart')
open PySem.MeetsSeq PySem.MeetsSeq2 PySem.MeetsSeq3
theorem ints_get {vs : List Value} {ns : List Int} (h : IntsAre vs ns) : ∀ (i : Nat), i < vs.length → ∃ a t, vs[i]? = some (.int a t) ∧ ns[i]? = some a := by
  induction h with
  | nil => intro i hi; cases hi
  | cons n t r ih =>
    intro i hi
    cases i with
    | zero => exact ⟨n, t, rfl, rfl⟩
    | succ i => exact ih i (by simpa using hi)
end
end HT

set_option Elab.async false
set_option linter.all false
set_option maxRecDepth 100000
set_option maxHeartbeats 4000000
/-! (i, l) < (j, m): an int and a list of ints -/
namespace HT
open PySem PySem.Spec PyProof.Rows
section
open PySem.SeqAt
open PySem.AutoSeq1 (wpAny_loadPart')
open PySem.MeetsSeq PySem.MeetsSeq2 PySem.MeetsSeq3
theorem lex_self : ∀ l : List Int, lexLt l l = false
  | [] => rfl
  | x :: l => by rw [lexLt_cons, if_pos rfl]; exact lex_self l
end
end HT
namespace L2
open PySem PySem.Spec PyProof.Rows
section
variable {X : Cx}
end
end L2

set_option Elab.async false
set_option linter.all false
set_option maxRecDepth 100000
set_option maxHeartbeats 4000000
/-! (i, t) < (j, u): an int and a tuple of texts -/
namespace HT
open PySem PySem.Spec PyProof.Rows
section
open PySem.SeqAt
open PySem.AutoSeq1 (wpAny_loadPart')
open PySem.MeetsSeq PySem.MeetsSeq2 PySem.MeetsSeq3
end
end HT
namespace L2
open PySem PySem.Spec PyProof.Rows
section
variable {X : Cx}
end
end L2

set_option Elab.async false
set_option linter.all false
set_option maxRecDepth 100000
set_option maxHeartbeats 4000000
/-! tuples of ints within tuples: told apart and less -/
namespace HT
open PySem PySem.Spec PyProof.Rows
section
open PySem.SeqAt
open PySem.AutoSeq1 (wpAny_loadPart')
open PySem.MeetsSeq PySem.MeetsSeq2 PySem.MeetsSeq3
theorem ints_fun : ∀ {vs : List Value} {ns ms : List Int}, IntsAre vs ns → IntsAre vs ms → ns = ms
  | _, _, _, .nil, h => by cases h; rfl
  | _, _, _, .cons _ _ h, h' => by
    cases h' with
    | cons _ _ h' => rw [ints_fun h h']
theorem eq_tupI {A : Around} {s : Shared} {la lb : Addr} {its its2 : Array Value} {ns ms : List Int} (hla : s.heap.IsTuple la its) (hlb : s.heap.IsTuple lb its2) (hI : IntsAre its.toList ns) (hJ : IntsAre its2.toList ms) (hu : A.units < cLine) : ∃ k, EqAt A s (.ref la) (.ref lb) k ∧ (k = true ↔ ns = ms) := by
  by_cases hne : la = lb
  · subst hne
    refine ⟨true, EqAt.same _, fun _ => ?_, fun _ => rfl⟩
    obtain ⟨o, ho, hc, n, hd⟩ := hla
    obtain ⟨o2, ho2, hc2, n2, hd2⟩ := hlb
    rw [ho] at ho2
    cases ho2
    rw [hd] at hd2
    cases hd2
    exact ints_fun hI hJ
  have z1 : its.size = ns.length := by rw [← hI.length]; simp
  have z2 : its2.size = ms.length := by rw [← hJ.length]; simp
  have hE : ∀ j (h1 : j < its.size) (h2 : j < its2.size), EqAt A.in1 s its[j] its2[j] (decide (ns[j]? = ms[j]?)) := fun j h1 h2 => by
    obtain ⟨c1, t1, g1, g2⟩ := ints_get hI j (by simpa using h1)
    obtain ⟨c2, t2, g3, g4⟩ := ints_get hJ j (by simpa using h2)
    have e1 : its[j] = .int c1 t1 := by rw [Array.getElem?_toList, Array.getElem?_eq_getElem h1] at g1; exact Option.some.inj g1
    have e2 : its2[j] = .int c2 t2 := by rw [Array.getElem?_toList, Array.getElem?_eq_getElem h2] at g3; exact Option.some.inj g3
    rw [e1, e2, g2, g4]
    have : decide (some c1 = some c2) = (c1 == c2) := by rw [Bool.eq_iff_iff, decide_eq_true_eq, beq_iff_eq, Option.some.injEq]
    rw [this]
    exact EqAt.int_int c1 t1 c2 t2
  refine ⟨_, EqAt.of_refs hne (RcAt.tuples hla hlb hu hE), ?_⟩
  rw [Bool.and_eq_true, beq_iff_eq, List.all_eq_true]
  constructor
  · rintro ⟨h1, h2⟩
    refine List.ext_getElem? fun j => ?_
    by_cases hj : j < its.size
    · exact of_decide_eq_true (h1 j (List.mem_range.mpr (by omega)))
    · rw [List.getElem?_eq_none (by omega), List.getElem?_eq_none (by omega)]
  · rintro rfl
    exact ⟨fun j _ => decide_eq_true rfl, by omega⟩
end
end HT
namespace L2
open PySem PySem.Spec PyProof.Rows
section
variable {X : Cx}
end
end L2

set_option Elab.async false
set_option linter.all false
set_option maxRecDepth 100000
set_option maxHeartbeats 4000000
namespace KM
open PySem PySem.W PySem.Spec PyProof.Rows PyProof.Rows.G
section
variable {prog : Program} {w : World} {A : Around} {E : Value → Shared → Prop} {s : Shared}
/-- list.sort of any number whose comparison is told where the sort stands, by ranks -/
theorem sort_any {a : Addr} {vs : List Value} {n0 : Nat} {kd : SortKind} {rk : Nat → Nat} {P : PySem.Fin → Shared → Prop} (ho : s.heap.get? a = some (seqObj "list" vs.toArray n0)) (hL : vs.length ≤ sizeLine)
    (hk : 2 ≤ vs.length → ∀ {Q : SortKind → Shared → Prop}, Q kd { s with heap := sortHeap6 s.heap a vs } → wpAny (model prog w) A (keyKind' vs.toArray) Q E { s with heap := sortHeap6 s.heap a vs })
    (hc : ∀ i j C, i < vs.length → j < vs.length → C (decide (rk i < rk j)) { s with heap := sortHeap6 s.heap a vs } → wpAny (model prog w) A (keyLt' kd (vs.getD i Value.none) (vs.getD j Value.none)) C (fun _ _ => False) { s with heap := sortHeap6 s.heap a vs })
    (h : ∀ p : Array Nat, Bn vs.length p → (∀ i j, i ≤ j → j < vs.length → rk (p.getD i 0) ≤ rk (p.getD j 0)) → P (.done (.ret .none)) { s with heap := sortedHeap s.heap a vs (p.map fun i => vs.getD i Value.none) }) :
    wpAny (model prog w) A (Builtin.«list.sort» ⟨[.ref a], []⟩) P E s := by
  obtain ⟨e1, g1⟩ : ∃ e1, (s.heap.update a (Obj.mapSeq fun _ => #[])).get? a = some (seqObj "list" #[] e1) := ⟨_, get?_update_seq ho _⟩
  have g6 : (sortHeap6 s.heap a vs).get? a = some (seqObj "list" #[] e1) := Heap.get?_push_of_some _ (Heap.get?_push_of_some _ g1)
  rw [list_sort_plain a]; refine wpAny_bind (listItems_at ho rfl (wpAny_bind (listUpdate_at ho rfl (wpAny_bind (seqEpoch_at g1 rfl (wpAny_bind (wpAny_newTuple ?_ hL)))) (by rw [List.size_toArray]; exact hL) (Nat.zero_le _))))
  refine wpAny_bind (wpAny_newList (wpAny_holding ?_) (Nat.zero_le _)); show wpAny (model prog w) A _ P E { s with heap := sortHeap6 s.heap a vs }; dsimp only
  have hz : ∀ p : Array Nat, p.size = vs.length → (p.map fun i => vs.getD i Value.none).size ≤ sizeLine + 1 := fun p hp => by rw [Array.size_map, hp]; omega
  by_cases hn : vs.toArray.size < 2
  · rw [if_pos hn, if_pos hn]; refine wpAny_bind (wpAny_pure ?_); rw [StateT.run_pure]; refine wpAny_bind (wpAny_pure ?_); dsimp only
    have e : (arrOf (SortSt.mk' general' (vs.toArray.zip vs.toArray) #[] 7 none)).map (·.2) = (List.range vs.length).toArray.map fun i => vs.getD i Value.none := by
      show (pairsOf vs).map (·.2) = _
      rw [← map_k0, Array.map_map, Array.map_map]
      apply Array.map_congr_left
      intro i hi
      have hi : i < vs.length := by simpa using hi
      show (if i < vs.length then (vs.getD i Value.none, vs.getD i Value.none) else _).2 = _
      rw [if_pos hi]
    rw [e]
    refine wpAny_bind (seqEpoch_at g6 rfl (wpAny_bind (listUpdate_at g6 rfl ?_ (Nat.zero_le _) (hz _ (by simp)))))
    rw [List.size_toArray] at hn
    have q := h (List.range vs.length).toArray (Array.Perm.refl _) (fun i j hij hj => by
      have : i = j := by omega
      rw [this]; exact Nat.le_refl _)
    simp only [bne_self_eq_false, Bool.false_eq_true, if_false]; exact wpAny_pure q
  · rw [if_neg hn, if_neg hn]; rw [List.size_toArray] at hn
    refine wpAny_bind (hk (by omega) ?_)
    refine wpAny_bind (runs_any (rk := rk) (by omega) hc (fun p B S st har hf => ?_))
    dsimp only
    have snd : (arrOf st).map (·.2) = p.map fun i => vs.getD i Value.none := by
      rw [har, Array.map_map]; rfl
    rw [snd]
    refine wpAny_bind (seqEpoch_at g6 rfl (wpAny_bind (listUpdate_at g6 rfl ?_ (Nat.zero_le _) (hz _ B.size))))
    rw [hf]; simp only [bne_self_eq_false, Bool.false_eq_true, if_false]; exact wpAny_pure (h p B S)
/-- ranks of what is told apart -/
def rank {α : Type} (lt : α → α → Bool) (ks : List α) (a : α) : Nat := ks.countP fun b => lt b a
theorem countP_lt {α : Type} {p q : α → Bool} {l : List α} (h : ∀ x ∈ l, p x = true → q x = true) {x : α} (hx : x ∈ l) (hp : p x = false) (hq : q x = true) : l.countP p < l.countP q := by
  induction l with
  | nil => cases hx
  | cons y l ih =>
    rw [List.countP_cons, List.countP_cons]
    rcases List.mem_cons.mp hx with rfl | hx
    · rw [hp, hq]
      have := List.countP_mono_left (l := l) (fun z hz h1 => h z (List.mem_cons_of_mem _ hz) h1)
      simp; omega
    · have := ih (fun z hz => h z (List.mem_cons_of_mem _ hz)) hx
      by_cases hy : p y = true
      · rw [hy, h y (by simp) hy]; simp; omega
      · rw [Bool.eq_false_iff.mpr hy]; simp; omega
structure Tot {α : Type} (lt : α → α → Bool) : Prop where
  irr : ∀ a, lt a a = false
  tr : ∀ {a b c}, lt a b = true → lt b c = true → lt a c = true
  tot : ∀ {a b}, lt a b = false → lt b a = false → a = b
theorem Tot.rank {α : Type} {lt : α → α → Bool} (T : Tot lt) {ks : List α} {a b : α} (ha : a ∈ ks) (hb : b ∈ ks) : decide (rank lt ks a < rank lt ks b) = lt a b := by
  have key : ∀ {a b}, a ∈ ks → lt a b = true → KM.rank lt ks a < KM.rank lt ks b := fun {a b} ha h => countP_lt (fun x _ hx => T.tr hx h) ha (T.irr a) h
  cases h : lt a b with
  | true => exact decide_eq_true (key ha h)
  | false =>
    refine decide_eq_false ?_
    cases h2 : lt b a with
    | true => have := key hb h2; omega
    | false => rw [T.tot h h2]; exact Nat.lt_irrefl _
theorem Tot.le {α : Type} {lt : α → α → Bool} (T : Tot lt) {ks : List α} {a b : α} (ha : a ∈ ks) (hb : b ∈ ks) (h : KM.rank lt ks a ≤ KM.rank lt ks b) : lt b a = false := by
  cases h2 : lt b a with
  | false => rfl
  | true => have := T.rank hb ha; rw [h2] at this; have := of_decide_eq_true this; omega
end
end KM

set_option Elab.async false
set_option linter.all false
set_option maxRecDepth 100000
set_option maxHeartbeats 4000000
/-! sorted(..) of pairs of pairs of ints, any number -/
namespace KM
open PySem PySem.W PySem.Spec PyProof.Rows PyProof.Rows.G
abbrev C2 := Int × Int
abbrev P4 := C2 × C2
abbrev QR := P4 × Addr × Addr × Addr
abbrev il (c : C2) : List Int := [c.1, c.2]
def clt (a b : C2) : Bool := HT.lexLt (il a) (il b)
def qlt (x y : P4) : Bool := if x.1 = y.1 then clt x.2 y.2 else clt x.1 y.1
section
variable {prog : Program} {w : World} {A : Around} {E : Value → Shared → Prop} {s : Shared}
def QAt (h : Heap) (r : QR) : Prop := (∃ ia, IsTup h r.2.2.1 ia ∧ IntsAre ia.toList (il r.1.1)) ∧ (∃ ib, IsTup h r.2.2.2 ib ∧ IntsAre ib.toList (il r.1.2)) ∧ IsTup h r.2.1 #[.ref r.2.2.1, .ref r.2.2.2]
theorem keepT {h h' : Heap} (k : KeepsTups h h') {a : Addr} {xs : Array Value} : IsTup h a xs → IsTup h' a xs := fun ⟨o, ho, hc, n, hd⟩ => ⟨o, k a o ho hc, hc, n, hd⟩
theorem QAt.keep {h h' : Heap} {r : QR} (k : KeepsTups h h') (t : QAt h r) : QAt h' r := by
  obtain ⟨⟨ia, a1, a2⟩, ⟨ib, b1, b2⟩, c⟩ := t
  exact ⟨⟨ia, keepT k a1, a2⟩, ⟨ib, keepT k b1, b2⟩, keepT k c⟩
theorem il_eq {a b : C2} : il a = il b ↔ a = b := by
  obtain ⟨a1, a2⟩ := a
  obtain ⟨b1, b2⟩ := b
  simp [il]
theorem clt_self (a : C2) : clt a a = false := HT.lex_self _
theorem key_pp {x y : QR} {Q : Bool → Shared → Prop} (hx : QAt s.heap x) (hy : QAt s.heap y) (hu : A.units < cLine) (h : Q (qlt x.1 y.1) s) : wpAny (model prog w) A (keyLt' (tuples' false) (.ref x.2.1) (.ref y.2.1)) Q E s := by
  obtain ⟨k1, p1, a1, b1⟩ := x
  obtain ⟨k2, p2, a2, b2⟩ := y
  obtain ⟨⟨ia1, ha1, hi1⟩, ⟨ib1, hb1, hj1⟩, ⟨o1, ho1, hc1, n1, hd1⟩⟩ := hx
  obtain ⟨⟨ia2, ha2, hi2⟩, ⟨ib2, hb2, hj2⟩, ⟨o2, ho2, hc2, n2, hd2⟩⟩ := hy
  dsimp only at *
  have one : ∀ {p q : Addr} {ip iq : Array Value} {c d : C2} {Q : Bool → Shared → Prop}, IsTup s.heap p ip → IsTup s.heap q iq → IntsAre ip.toList (il c) → IntsAre iq.toList (il d) → Q (clt c d) s → wpAny (model prog w) A (oneLt' false (.ref p) (.ref q)) Q E s := fun {p q ip iq c d Q} hp hq hI hJ hQ => by
    rw [oneLt'_eq]
    simp only [Bool.false_eq_true, if_false]
    refine wpAny_bind ?_
    exact HT.lt_tupInts hp hq hI hJ hu (wpAny_truthy_bool hQ)
  change wpAny _ _ (Bind.bind (Builtin.List.listItems (.ref p1)) _) _ _ _
  refine wpAny_bind (listItems_at ho1 hd1 (wpAny_bind (listItems_at ho2 hd2 ?_)))
  change wpAny _ _ (Bind.bind (forIn [(((.ref a1, .ref a2) : Value × Value), 0), ((.ref b1, .ref b2), 1)] ((none : Option Bool), ()) _) _) _ _ _
  obtain ⟨e1, he1, hf1⟩ := HT.eq_tupI ha1 ha2 hi1 hi2 hu
  obtain ⟨e2, he2, hf2⟩ := HT.eq_tupI hb1 hb2 hj1 hj2 hu
  rw [List.forIn_cons]
  refine wpAny_bind (wpAny_bind (wpAny_bind (he1 prog w _ _ ?_)))
  cases e1 with
  | false =>
    have hne : k1.1 ≠ k2.1 := fun z => absurd (hf1.mpr (il_eq.mpr z)) Bool.false_ne_true
    unfold qlt at h
    rw [if_neg hne] at h
    simp only [Bool.not_false, if_true]
    refine wpAny_bind ?_
    change wpAny _ _ (oneLt' false (.ref a1) (.ref a2)) _ _ _
    refine one ha1 ha2 hi1 hi2 (wpAny_pure (wpAny_pure (wpAny_pure h)))
  | true =>
    have heq : k1.1 = k2.1 := il_eq.mp (hf1.mp rfl)
    unfold qlt at h
    rw [if_pos heq] at h
    simp only [Bool.not_true, Bool.false_eq_true, if_false]
    refine wpAny_pure ?_
    dsimp only
    rw [List.forIn_cons]
    refine wpAny_bind (wpAny_bind (he2 prog w _ _ ?_))
    cases e2 with
    | false =>
      simp only [Bool.not_false, if_true]
      refine wpAny_bind ?_
      change wpAny _ _ (oneLt' false (.ref b1) (.ref b2)) _ _ _
      refine one hb1 hb2 hj1 hj2 (wpAny_pure (wpAny_pure (wpAny_pure h)))
    | true =>
      have heq2 : k1.2 = k2.2 := il_eq.mp (hf2.mp rfl)
      rw [heq2, clt_self] at h
      simp only [Bool.not_true, Bool.false_eq_true, if_false]
      refine wpAny_pure ?_
      dsimp only
      rw [List.forIn_nil]
      refine wpAny_pure (wpAny_pure ?_)
      exact h
theorem q_first {h : Heap} {r : QR} (q : QAt h r) : KS.fstOf h (.ref r.2.1) = some (.ref r.2.2.1) := by
  obtain ⟨_, _, o, ho, hc, n, hd⟩ := q
  rw [KS.fstOf_at ho hd]
  rfl
/-- the kind of a list of such pairs -/
theorem kind_pp {rs : List QR} {Q : SortKind → Shared → Prop} (hr : ∀ r ∈ rs, QAt s.heap r) (hne : rs ≠ []) (h : Q (tuples' false) s) : wpAny (model prog w) A (keyKind' (rs.map fun r => Value.ref r.2.1).toArray) Q E s := by
  have hf : ∀ v ∈ rs.map (fun r => Value.ref r.2.1), ∀ (Q' : Option Value → Shared → Prop), Q' (KS.fstOf s.heap v) s → wpAny (model prog w) A (firstOfTuple' v) Q' E s := fun v hv Q' hq => by
    obtain ⟨r, hr', rfl⟩ := List.mem_map.mp hv
    obtain ⟨_, _, o, ho, hc, n, hd⟩ := hr r hr'
    rw [kas_first_eq]
    refine wpAny_bind (wpAny_typeOf (T := "tuple") ⟨o, ho, hc⟩ ?_)
    rw [if_neg (by decide)]
    refine wpAny_bind (listItems_at ho hd (wpAny_pure ?_))
    rw [KS.fstOf_at ho hd] at hq
    exact hq
  rw [keyKind'_eq _, List.mapM_toArray, map_eq_pure_bind]
  refine wpAny_bind (wpAny_bind (KS.mapM_ok _ hf (wpAny_pure ?_)))
  have e1 : (rs.map fun r => Value.ref r.2.1).map (KS.fstOf s.heap) = rs.map fun r => some (Value.ref r.2.2.1) := by
    rw [List.map_map]
    exact List.map_congr_left fun r hr' => q_first (hr r hr')
  rw [e1]
  rw [if_pos (by simp)]
  refine wpAny_bind (wpAny_rule ?_)
  have e2 : Array.filterMap id (rs.map fun r => some (Value.ref r.2.2.1)).toArray = (rs.map fun r => Value.ref r.2.2.1).toArray := by
    rw [List.filterMap_toArray]
    simp [List.filterMap_map, Function.comp_def]
  rw [e2, oneTypeOnly'_eq _, List.mapM_toArray, map_eq_pure_bind]
  have ht : ∀ v ∈ rs.map (fun r => Value.ref r.2.2.1), ∀ (Q' : Value → Shared → Prop), Q' (.type "tuple") s → wpAny (model prog w) A (typeOf v) Q' E s := fun v hv Q' hq => by
    obtain ⟨r, hr', rfl⟩ := List.mem_map.mp hv
    obtain ⟨⟨ia, ⟨o, ho, hc, n, hd⟩, _⟩, _⟩ := hr r hr'
    exact wpAny_typeOf (T := "tuple") ⟨o, ho, hc⟩ hq
  refine wpAny_bind (wpAny_bind (wpAny_bind (KS.mapM_ok (r := fun _ => Value.type "tuple") _ ht (wpAny_pure ?_))))
  obtain ⟨r0, rs', rfl⟩ := List.exists_cons_of_ne_nil hne
  have e0 : (List.map (fun _ => Value.type "tuple") ((r0 :: rs').map fun r => Value.ref r.2.2.1)).toArray[0]? = some (Value.type "tuple") := by simp
  rw [e0]
  have ea : ((List.map (fun _ => Value.type "tuple") ((r0 :: rs').map fun r => Value.ref r.2.2.1)).toArray.all fun x => x == Value.type "tuple") = true := by
    simp only [List.all_toArray, List.all_map, List.all_eq_true]; exact fun _ _ => rfl
  simp only [ea, if_true]
  refine wpAny_pure (wpAny_pure ?_)
  exact h
end
theorem clt_true {a b : C2} : clt a b = true ↔ LS.plt a b := by
  obtain ⟨a1, a2⟩ := a
  obtain ⟨b1, b2⟩ := b
  unfold clt il LS.plt
  rw [HT.lexLt_cons, HT.lexLt_cons]
  dsimp only
  by_cases h : a1 = b1
  · rw [if_pos h]
    by_cases h2 : a2 = b2
    · rw [if_pos h2]; subst h h2; simp [HT.lexLt]
    · rw [if_neg h2, decide_eq_true_eq]; omega
  · rw [if_neg h, decide_eq_true_eq]; omega
theorem clt_false {a b : C2} : clt a b = false ↔ ¬ LS.plt a b := by rw [← clt_true, Bool.not_eq_true]
theorem tot_c : Tot clt := by
  refine ⟨clt_self, fun {a b c} h1 h2 => ?_, fun {a b} h1 h2 => ?_⟩
  · rw [clt_true] at *; unfold LS.plt at *; omega
  · rw [clt_false] at *; unfold LS.plt at *; exact Prod.ext (by omega) (by omega)
theorem tot_q : Tot qlt := by
  refine ⟨fun a => ?_, fun {a b c} h1 h2 => ?_, fun {a b} h1 h2 => ?_⟩
  · unfold qlt; rw [if_pos rfl]; exact clt_self _
  · unfold qlt at *
    by_cases z1 : a.1 = b.1
    · rw [if_pos z1] at h1
      rw [z1]
      by_cases z2 : b.1 = c.1
      · rw [if_pos z2] at *; exact tot_c.tr h1 h2
      · rw [if_neg z2] at *; exact h2
    · rw [if_neg z1] at h1
      by_cases z2 : b.1 = c.1
      · rw [if_pos z2] at h2; rw [← z2, if_neg z1]; exact h1
      · rw [if_neg z2] at h2
        have h3 := tot_c.tr h1 h2
        rw [if_neg (fun z => by rw [z, clt_self] at h3; cases h3)]
        exact h3
  · unfold qlt at *
    by_cases z1 : a.1 = b.1
    · rw [if_pos z1] at h1
      rw [if_pos z1.symm] at h2
      exact Prod.ext z1 (tot_c.tot h1 h2)
    · rw [if_neg z1] at h1
      rw [if_neg (fun z => z1 z.symm)] at h2
      exact absurd (tot_c.tot h1 h2) z1
abbrev QUp (l : List P4) : Prop := l.Pairwise fun a b => qlt b a = false
end KM

set_option Elab.async false
set_option linter.all false
set_option maxRecDepth 100000
set_option maxHeartbeats 4000000
/-! what is seen, looked at otherwise -/
namespace RM
open PySem LS KM
/-- between, in one row -/
def Btw (w c o : Cell) : Prop := ((c.1 ≤ w.1 ∨ o.1 ≤ w.1) ∧ (w.1 ≤ c.1 ∨ w.1 ≤ o.1)) ∧ ((c.2 ≤ w.2 ∨ o.2 ≤ w.2) ∧ (w.2 ≤ c.2 ∨ w.2 ≤ o.2)) ∧
  (2 * ((o.1 - c.1) * (w.2 - c.2) - (o.2 - c.2) * (w.1 - c.1))).natAbs ≤ (o.1 - c.1).natAbs + (o.2 - c.2).natAbs
theorem inB_iff {a b w : Int} : inB a b w = true ↔ (a ≤ w ∨ b ≤ w) ∧ (w ≤ a ∨ w ≤ b) := by
  unfold inB
  rw [Bool.and_eq_true, decide_eq_true_eq, decide_eq_true_eq]
  split <;> split <;> omega
theorem btw_iff {w c o : Cell} : btw w c o = true ↔ Btw w c o := by
  unfold btw Btw
  rw [Bool.and_eq_true, Bool.and_eq_true, Bool.and_eq_true, inB_iff, inB_iff]
  refine and_congr Iff.rfl (and_congr Iff.rfl ?_)
  unfold sides
  simp only [List.any_cons, List.any_nil, Bool.or_false, Bool.or_eq_true, decide_eq_true_eq]
  generalize o.1 - c.1 = A
  generalize o.2 - c.2 = B
  generalize w.1 - c.1 = X
  generalize w.2 - c.2 = Y
  have e1 : A * (2 * Y + -1) = 2 * (A * Y) - A := by grind
  have e2 : A * (2 * Y + 1) = 2 * (A * Y) + A := by grind
  have e3 : B * (2 * X + -1) = 2 * (B * X) - B := by grind
  have e4 : B * (2 * X + 1) = 2 * (B * X) + B := by grind
  rw [e1, e2, e3, e4]
  generalize A * Y = p
  generalize B * X = q
  omega
theorem btw_symm {w c o : Cell} : Btw w c o ↔ Btw w o c := by
  unfold Btw
  have e : (c.1 - o.1) * (w.2 - o.2) - (c.2 - o.2) * (w.1 - o.1) = -((o.1 - c.1) * (w.2 - c.2) - (o.2 - c.2) * (w.1 - c.1)) := by grind
  rw [e]
  generalize (o.1 - c.1) * (w.2 - c.2) - (o.2 - c.2) * (w.1 - c.1) = t
  omega
def mir (W : Int) (c : Cell) : Cell := (W - 1 - c.1, c.2)
def swp (c : Cell) : Cell := (c.2, c.1)
theorem btw_mir {W : Int} {w c o : Cell} : Btw (mir W w) (mir W c) (mir W o) ↔ Btw w c o := by
  unfold Btw mir
  dsimp only
  have e : (W - 1 - o.1 - (W - 1 - c.1)) * (w.2 - c.2) - (o.2 - c.2) * (W - 1 - w.1 - (W - 1 - c.1)) = -((o.1 - c.1) * (w.2 - c.2) - (o.2 - c.2) * (w.1 - c.1)) := by grind
  rw [e]
  generalize (o.1 - c.1) * (w.2 - c.2) - (o.2 - c.2) * (w.1 - c.1) = t
  omega
theorem btw_swp {w c o : Cell} : Btw (swp w) (swp c) (swp o) ↔ Btw w c o := by
  unfold Btw swp
  dsimp only
  have e : (o.2 - c.2) * (w.1 - c.1) - (o.1 - c.1) * (w.2 - c.2) = -((o.1 - c.1) * (w.2 - c.2) - (o.2 - c.2) * (w.1 - c.1)) := by grind
  rw [e]
  generalize (o.1 - c.1) * (w.2 - c.2) - (o.2 - c.2) * (w.1 - c.1) = t
  omega
/-- the cells of a sign, as a set -/
def On (rows : List Str) (wide k : Nat) (p : Cell) : Prop := ∃ x y : Nat, x < wide ∧ y < rows.length ∧ sgn rows x y = some k ∧ p = ((x : Int), (y : Int))
theorem sees_iff {rows : List Str} {wide : Nat} {c o : Cell} : seesM rows wide c o = true ↔ c ≠ o ∧ ∀ w, On rows wide 35 w → ¬ Btw w c o := by
  unfold seesM
  rw [Bool.and_eq_true, Bool.not_eq_true', decide_eq_false_iff_not, Bool.not_eq_true', List.any_eq_false]
  refine and_congr Iff.rfl (forall_congr' fun w => ?_)
  rw [mem_cells, btw_iff]
  rfl
theorem sees_symm {rows : List Str} {wide : Nat} {c o : Cell} : seesM rows wide c o = true ↔ seesM rows wide o c = true := by
  rw [sees_iff, sees_iff]
  refine and_congr ⟨Ne.symm, Ne.symm⟩ (forall_congr' fun w => ?_)
  rw [btw_symm]
def pairsM (rows : List Str) (wide : Nat) : List P4 := (cellsM rows wide 46).flatMap fun c => (seenM rows wide c).map fun o => (c, o)
theorem mem_pairs {rows : List Str} {wide : Nat} {p : P4} : p ∈ pairsM rows wide ↔ On rows wide 46 p.1 ∧ On rows wide 46 p.2 ∧ seesM rows wide p.1 p.2 = true := by
  unfold pairsM
  rw [List.mem_flatMap]
  constructor
  · rintro ⟨c, hc, h⟩
    obtain ⟨o, ho, rfl⟩ := List.mem_map.mp h
    unfold seenM at ho
    obtain ⟨h1, h2⟩ := List.mem_filter.mp ho
    exact ⟨mem_cells.mp hc, mem_cells.mp h1, h2⟩
  · rintro ⟨h1, h2, h3⟩
    exact ⟨p.1, mem_cells.mpr h1, List.mem_map.mpr ⟨p.2, List.mem_filter.mpr ⟨mem_cells.mpr h2, h3⟩, rfl⟩⟩
abbrev QStrict (l : List P4) : Prop := l.Pairwise fun a b => qlt a b = true
theorem pairs_strict (rows : List Str) (wide : Nat) : QStrict (pairsM rows wide) := by
  unfold pairsM QStrict
  rw [List.pairwise_flatMap]
  refine ⟨fun c _ => ?_, (cells_strict rows wide 46).imp fun {a b} hab p hp q hq => ?_⟩
  · rw [List.pairwise_map]
    unfold seenM
    refine ((cells_strict rows wide 46).filter _).imp fun {a b} hab => ?_
    unfold qlt
    rw [if_pos rfl]
    exact clt_true.mpr hab
  · obtain ⟨o, _, rfl⟩ := List.mem_map.mp hp
    obtain ⟨o2, _, rfl⟩ := List.mem_map.mp hq
    unfold qlt
    have hne : a ≠ b := fun z => plt_irrefl b (by rw [z] at hab; exact hab)
    rw [if_neg hne]
    exact clt_true.mpr hab
theorem q_nodup {l : List P4} (h : QStrict l) : l.Nodup := h.imp fun {a b} hab e => by rw [e, tot_q.irr] at hab; cases hab
theorem q_up {l : List P4} (h : QStrict l) : QUp l := h.imp fun {a b} hab => by
  cases z : qlt b a with
  | false => rfl
  | true => have := tot_q.tr hab z; rw [tot_q.irr] at this; cases this
theorem q_ext {l m : List P4} (nl : l.Nodup) (h1 : QUp l) (h2 : QStrict m) (h : ∀ p, p ∈ l ↔ p ∈ m) : l = m :=
  List.Perm.eq_of_pairwise (le := fun a b => qlt b a = false) (fun a b _ _ x y => tot_q.tot y x) h1 (q_up h2) ((List.perm_ext_iff_of_nodup nl (q_nodup h2)).mpr h)
/-- sorted pairs seen otherwise are the pairs of what is seen otherwise -/
theorem pairs_map {rows rows' : List Str} {wide wide' : Nat} {l : List P4} {g : P4 → P4} (hg : ∀ p q, p ∈ pairsM rows wide → q ∈ pairsM rows wide → g p = g q → p = q) (h1 : QUp l) (hp : l.Perm ((pairsM rows wide).map g)) (h : ∀ p, p ∈ pairsM rows' wide' ↔ ∃ q, q ∈ pairsM rows wide ∧ g q = p) : l = pairsM rows' wide' := by
  refine q_ext (hp.nodup_iff.mpr ?_) h1 (pairs_strict _ _) fun p => ?_
  · unfold List.Nodup
    rw [List.pairwise_map]
    refine (q_nodup (pairs_strict rows wide)).imp_of_mem fun {a b} ha hb hab e => hab (hg _ _ ha hb e)
  · rw [hp.mem_iff, h, List.mem_map]
theorem mir_mir {W : Int} (c : Cell) : mir W (mir W c) = c := by unfold mir; exact Prod.ext (by dsimp only; omega) rfl
theorem swp_swp (c : Cell) : swp (swp c) = c := rfl
theorem pairs_sym {rows : List Str} {wide : Nat} {l : List P4} (h1 : QUp l) (hp : l.Perm ((pairsM rows wide).map fun p => (p.2, p.1))) : l = pairsM rows wide := by
  refine pairs_map (g := fun p => (p.2, p.1)) (fun p q _ _ e => ?_) h1 hp fun p => ?_
  · exact Prod.ext (congrArg (·.2) e) (congrArg (·.1) e)
  · constructor
    · intro h
      refine ⟨(p.2, p.1), ?_, rfl⟩
      obtain ⟨a, b, c⟩ := mem_pairs.mp h
      exact mem_pairs.mpr ⟨b, a, sees_symm.mp c⟩
    · rintro ⟨q, h, rfl⟩
      obtain ⟨a, b, c⟩ := mem_pairs.mp h
      exact mem_pairs.mpr ⟨b, a, sees_symm.mp c⟩
theorem pairs_thru {rows rows' : List Str} {wide wide' : Nat} {g g' : Cell → Cell} (hi : ∀ a, g (g' a) = a) (hi' : ∀ a, g' (g a) = a) (hb : ∀ w c o, Btw (g w) (g c) (g o) ↔ Btw w c o) (hon : ∀ k p, On rows wide k p → On rows' wide' k (g p)) (hon' : ∀ k p, On rows' wide' k p → On rows wide k (g' p)) {l : List P4} (h1 : QUp l) (hp : l.Perm ((pairsM rows wide).map fun p => (g p.1, g p.2))) : l = pairsM rows' wide' := by
  have hs : ∀ c o, seesM rows' wide' (g c) (g o) = true ↔ seesM rows wide c o = true := fun c o => by
    rw [sees_iff, sees_iff]
    constructor
    · rintro ⟨a, b⟩
      exact ⟨fun e => a (by rw [e]), fun w hw z => b (g w) (hon _ w hw) ((hb _ _ _).mpr z)⟩
    · rintro ⟨a, b⟩
      refine ⟨fun e => a (by rw [← hi' c, e, hi']), fun w hw z => b (g' w) (hon' _ w hw) ?_⟩
      rw [← hb, hi]; exact z
  refine pairs_map (g := fun p => (g p.1, g p.2)) (fun p q _ _ e => ?_) h1 hp fun p => ?_
  · have e1 : g p.1 = g q.1 := congrArg (·.1) e
    have e2 : g p.2 = g q.2 := congrArg (·.2) e
    exact Prod.ext (by rw [← hi' p.1, e1, hi']) (by rw [← hi' p.2, e2, hi'])
  · constructor
    · intro h
      refine ⟨(g' p.1, g' p.2), ?_, Prod.ext (hi _) (hi _)⟩
      obtain ⟨a, b, c⟩ := mem_pairs.mp h
      refine mem_pairs.mpr ⟨hon' _ _ a, hon' _ _ b, (hs _ _).mp ?_⟩
      rw [hi, hi]; exact c
    · rintro ⟨q, h, rfl⟩
      obtain ⟨a, b, c⟩ := mem_pairs.mp h
      exact mem_pairs.mpr ⟨hon _ _ a, hon _ _ b, (hs _ _).mpr c⟩
/-- fewer walls, no less seen -/
theorem pairs_more {rows rows' : List Str} {wide : Nat} (hf : ∀ p, On rows wide 46 p → On rows' wide 46 p) (hw : ∀ p, On rows' wide 35 p → On rows wide 35 p) {p : P4} (h : p ∈ pairsM rows wide) : p ∈ pairsM rows' wide := by
  obtain ⟨a, b, c⟩ := mem_pairs.mp h
  rw [sees_iff] at c
  exact mem_pairs.mpr ⟨hf _ a, hf _ b, sees_iff.mpr ⟨c.1, fun w hw' z => c.2 w (hw w hw') z⟩⟩
theorem on_uniq {rows : List Str} {wide k m : Nat} {p : Cell} (h1 : On rows wide k p) (h2 : On rows wide m p) : k = m := by
  obtain ⟨x, y, _, _, e, rfl⟩ := h1
  obtain ⟨x', y', _, _, e', h⟩ := h2
  have hx : x = x' := by have := congrArg (·.1) h; dsimp only at this; omega
  have hy : y = y' := by have := congrArg (·.2) h; dsimp only at this; omega
  subst hx hy
  rw [e] at e'
  exact Option.some.inj e'
/-- what stands side by side is seen -/
theorem sees_side {rows : List Str} {wide : Nat} {c o : Cell} (hc : On rows wide 46 c) (ho : On rows wide 46 o) (h : (o.1 = c.1 + 1 ∧ o.2 = c.2) ∨ (o.1 = c.1 ∧ o.2 = c.2 + 1)) : seesM rows wide c o = true := by
  rw [sees_iff]
  refine ⟨fun e => by rw [e] at h; omega, fun w hw z => ?_⟩
  obtain ⟨⟨z1, z2⟩, ⟨z3, z4⟩, _⟩ := z
  have : w = c ∨ w = o := by
    rcases h with ⟨h1, h2⟩ | ⟨h1, h2⟩
    · by_cases e : w.1 = c.1
      · exact .inl (Prod.ext e (by omega))
      · exact .inr (Prod.ext (by omega) (by omega))
    · by_cases e : w.2 = c.2
      · exact .inl (Prod.ext (by omega) e)
      · exact .inr (Prod.ext (by omega) (by omega))
  rcases this with rfl | rfl
  · exact absurd (on_uniq hw hc) (by decide)
  · exact absurd (on_uniq hw ho) (by decide)
end RM

set_option Elab.async false
set_option linter.all false
set_option maxRecDepth 100000
set_option maxHeartbeats 4000000
/-! {k: v for target in iter if ..}, as the list comprehension's rule goes -/
namespace L2
open PySem PySem.Spec PyProof.Rows
section
variable {X : Cx}
end
end L2

set_option Elab.async false
set_option linter.all false
set_option maxRecDepth 100000
set_option maxHeartbeats 4000000
namespace L2
open PySem PySem.Spec PyProof.Rows
section
variable {X : Cx}
end
section
variable {X : Cx} {o e f : Expr} {apos cpos : Pos} {td ty tx : TE}
end
section
variable {X : Cx} {a b : Expr} {ta tb : TE} {pos : Pos} {rest : List Expr}
end
end L2

set_option Elab.async false
set_option linter.all false
set_option maxRecDepth 100000
set_option maxHeartbeats 4000000
namespace LC
open PySem L2 Ry TH LB
def Bt (n : Nat) (x : Int) : Prop := x.natAbs < 2 ^ n
theorem Bt.up {n m : Nat} {x : Int} (h : Bt n x) (k : n ≤ m) : Bt m x := Nat.lt_of_lt_of_le h (Nat.pow_le_pow_right (by decide) k)
theorem Bt.mul {n m : Nat} {x y : Int} (h : Bt n x) (h' : Bt m y) : Bt (n + m) (x * y) := by
  unfold Bt at *
  rw [Int.natAbs_mul, Nat.pow_add]
  exact Nat.mul_lt_mul'' h h'
theorem Bt.add {n : Nat} {x y : Int} (h : Bt n x) (h' : Bt n y) : Bt (n + 1) (x + y) := by
  unfold Bt at *
  rw [Nat.pow_succ]
  have := Int.natAbs_add_le x y
  omega
theorem Bt.neg {n : Nat} {x : Int} (h : Bt n x) : Bt n (-x) := by unfold Bt at *; rw [Int.natAbs_neg]; exact h
theorem Bt.sub {n : Nat} {x y : Int} (h : Bt n x) (h' : Bt n y) : Bt (n + 1) (x - y) := by rw [Int.sub_eq_add_neg]; exact h.add h'.neg
theorem Bt.le {n : Nat} {x y : Int} (h : Bt n x) (k : y.natAbs ≤ x.natAbs) : Bt n y := Nat.lt_of_le_of_lt k h
theorem bits_le {n : Nat} {x : Int} (h : Bt n x) : Builtin.Int.intBits x ≤ n := by
  unfold Builtin.Int.intBits
  split
  · exact Nat.zero_le _
  · rename_i z
    have z' : x ≠ 0 := by simpa using z
    have := (Nat.log2_lt (by omega)).mpr h
    omega
def CMulB (i j : Int) : Prop := Bt 20000 i ∧ Bt 20000 j
section
variable {X : Cx}
theorem op_mulB : OpR X (binaryOp .Mult) (rI CMulB fun i j => .int (i * j)) := opI fun _ _ _ _ _ _ _ hc q => PyProof.Rows.mul_int q (IntMulOk.of_bits (Nat.le_trans (bits_le hc.1) (by decide)) (Nat.le_trans (bits_le hc.2) (by decide)))
end
def BQ (n : Nat) (q : Rat) : Prop := Bt n q.num ∧ Bt n (q.den : Int)
def BP (p : Pt) : Prop := BQ 1600 p.1 ∧ BQ 1600 p.2
def W8 (a b : Int) : Prop := Bt 8 a ∧ Bt 8 b
theorem BQ.up {n m : Nat} {q : Rat} (h : BQ n q) (k : n ≤ m) : BQ m q := ⟨h.1.up k, h.2.up k⟩
theorem BQ.int {n : Nat} {i : Int} (h : Bt n i) (k : 0 < n) : BQ n (i : Rat) := by
  refine ⟨h, ?_⟩
  show (1 : Int).natAbs < 2 ^ n
  exact Nat.one_lt_two_pow (by omega)
theorem BQ.div {n : Nat} {u l : Int} (h0 : l ≠ 0) (h : Bt n u) (h' : Bt n l) : BQ n (Rat.divInt u l) :=
  ⟨h.le (num_le u l h0), h'.le (by have := den_le u l h0; omega)⟩
theorem den_ne (q : Rat) : (q.den : Int) ≠ 0 := by have := q.den_pos; omega
theorem BQ.add {n m : Nat} {p q : Rat} (h : BQ n p) (h' : BQ m q) : BQ (n + m + 1) (p + q) := by
  rw [← add_di]
  refine BQ.div (Int.mul_ne_zero (den_ne _) (den_ne _)) (Bt.add (h.1.mul h'.2) ?_) ((h.2.mul h'.2).up (by omega))
  rw [Nat.add_comm]; exact h'.1.mul h.2
theorem BQ.sub {n m : Nat} {p q : Rat} (h : BQ n p) (h' : BQ m q) : BQ (n + m + 1) (p - q) := by
  rw [← sub_di]
  refine BQ.div (Int.mul_ne_zero (den_ne _) (den_ne _)) (Bt.sub (h.1.mul h'.2) ?_) ((h.2.mul h'.2).up (by omega))
  rw [Nat.add_comm]; exact h'.1.mul h.2
theorem BQ.mul {n m : Nat} {p q : Rat} (h : BQ n p) (h' : BQ m q) : BQ (n + m) (p * q) := by
  rw [← mul_di]
  exact BQ.div (Int.mul_ne_zero (den_ne _) (den_ne _)) (h.1.mul h'.1) (h.2.mul h'.2)
def spLow (K : PySem.W.Frag) : Sp := fun vs H Q _ => ∃ u l : Int, vs = [.int u, .int l] ∧ l ≠ 0 ∧ Bt 8900 l ∧ ∀ v H', Same H H' → FR K H' v (Rat.divInt u l) → Q v H'
def B4 (n : Nat) (a b c d : Int) : Prop := Bt n a ∧ Bt n b ∧ Bt n c ∧ Bt n d
def spLess (K : PySem.W.Frag) : Sp := fun vs H Q _ => ∃ (x y : V) (a b c d : Int), vs = [x, y] ∧ IP K H x a b ∧ IP K H y c d ∧ B4 2000 a b c d ∧ ∀ v H', Same H H' → IP K H' v (a * d - c * b) (b * d) → Q v H'
def spApart (K : PySem.W.Frag) : Sp := fun vs H Q _ => ∃ (x y : V) (p o : Pt), vs = [x, y] ∧ PP K H x p ∧ PP K H y o ∧ BP p ∧ BP o ∧ ∀ v H', Same H H' → AP2 K H' v p o → Q v H'
def spTurn (K : PySem.W.Frag) : Sp := fun vs H Q _ => ∃ (x y : V) (a b c d : Int), vs = [x, y] ∧ IP K H x a b ∧ IP K H y c d ∧ B4 8000 a b c d ∧ Q (.int (a * d - b * c)) H
def spMoved (K : PySem.W.Frag) : Sp := fun vs H Q _ => ∃ (x y : V) (p : Pt) (a b t u : Int), vs = [x, y, .int t, .int u] ∧ PP K H x p ∧ IP K H y a b ∧ BP p ∧ W8 a b ∧ u ≠ 0 ∧ Bt 7000 t ∧ Bt 7000 u ∧
  ∀ v H', Same H H' → PP K H' v (p.1 + (t : Rat) / (u : Rat) * (a : Rat), p.2 + (t : Rat) / (u : Rat) * (b : Rat)) → Q v H'
def spMeet (K : PySem.W.Frag) : Sp := fun vs H Q _ => ∃ (x y z u : V) (p o : Pt) (a b c d : Int), vs = [x, y, z, u] ∧ PP K H x p ∧ IP K H y a b ∧ PP K H z o ∧ IP K H u c d ∧ BP p ∧ BP o ∧ W8 a b ∧ W8 c d ∧
  ∀ v H', Same H H' → OP K H' v (meetQ p a b o c d) → Q v H'
def spTwo (K : PySem.W.Frag) (g : Rat → Rat → Rat) : Sp := fun vs H Q _ => ∃ (x y : V) (p q : Rat) (n m : Nat), vs = [x, y] ∧ FR K H x p ∧ FR K H y q ∧ BQ n p ∧ BQ m q ∧ n + m ≤ 8900 ∧ ∀ v H', Same H H' → FR K H' v (g p q) → Q v H'
def spCross (K : PySem.W.Frag) : Sp := fun vs H Q _ => ∃ (x y : V) (p : Pt) (a b : Int), vs = [x, y] ∧ PP K H x p ∧ IP K H y a b ∧ BQ 3300 p.1 ∧ BQ 3300 p.2 ∧ W8 a b ∧ ∀ v H', Same H H' → FR K H' v (crs p.1 p.2 a b) → Q v H'
theorem bnd_b {a b c d : Int} (h : W8 a b) (h' : W8 c d) : Bt 17 (bnd a b c d) := Bt.sub (h.1.mul h'.2) (h.2.mul h'.1)
end LC
namespace LC
open PySem L2 Ry TH LB
def spLL (K : PySem.W.Frag) : Sp := fun vs H Q _ => ∃ (x : V) (a b : Int), vs = [x] ∧ IP K H x a b ∧ W8 a b ∧ (a ≠ 0 ∨ b ≠ 0) ∧ ∀ v H', Same H H' → IT H' v (a.fdiv (Int.gcd a b)) (b.fdiv (Int.gcd a b)) → Q v H'
end LC

set_option Elab.async false
set_option linter.all false
set_option maxRecDepth 100000
set_option maxHeartbeats 4000000
namespace KG
open PySem L2 Ry TH LS LC
open LB hiding spLow spLess spApart spTurn spMoved spMeet spTwo spCross spLL
def top (i : Nat) : Stmt := PySem.Challenge.pw_rigeyes_k17_whole_sight.main.body.getD i (.Pass ⟨0, 0, 0, 0⟩)
section
variable {P : Program} {w : World} {K : PySem.W.Frag} {mg : Str → Option Value} {base : Heap} {f : Addr} {fd : FuncData}
abbrev s9 : Stmt := top 1
theorem sc9 : FnScope ["one", "other"] ["one", "other"] (defScope s9) := ⟨rfl, rfl, rfl, by decide +kernel, rfl, by decide +kernel, by decide +kernel⟩
theorem c9 (D : Df K mg "turn" s9 ["one", "other"]) : Cal P w K mg base 1 "turn" ["one", "other"] (spTurn K) := by
  refine D.cal fun f fd F => F.ok sc9 (fun vs H Q E h => ?_) (fun cdv A outer s H vs Q E hr h => ?_)
  · obtain ⟨_, _, _, _, _, _, rfl, _⟩ := h
    rfl
  obtain ⟨_, _, a, b, c, d, rfl, ⟨p, rfl, hp⟩, ⟨r, rfl, hq⟩, ⟨ba, bb, bc, bd⟩, q⟩ := h
  refine ⟨_, pss_one (ps_ret (pe_op op_sub (pe_op op_mulB (pe_ix ix_tup (pv 0) pe_int (fun _ _ => rfl)) (pe_ix ix_tup (pv 1) pe_int (fun _ _ => rfl))) (pe_op op_mulB (pe_ix ix_tup (pv 0) pe_int (fun _ _ => rfl)) (pe_ix ix_tup (pv 1) pe_int (fun _ _ => rfl))))), ?_⟩
  exact ⟨_, rfl, p, _, _, _, rfl, rfl, hp, rfl, _, rfl, r, _, _, _, rfl, rfl, hq, rfl, _, _, rfl, rfl, ⟨ba.up (by decide), bd.up (by decide)⟩, _, rfl, p, _, _, _, rfl, rfl, hp, rfl, _, rfl, r, _, _, _, rfl, rfl, hq, rfl, _, _, rfl, rfl, ⟨bb.up (by decide), bc.up (by decide)⟩, _, _, rfl, rfl, q⟩
abbrev s13 : Stmt := top 12
theorem sc13 : FnScope ["script", "k"] ["script", "k"] (defScope s13) := ⟨rfl, rfl, rfl, by decide +kernel, rfl, by decide +kernel, by decide +kernel⟩
theorem c13 (D : Df K mg "_law_cell" s13 ["script", "k"]) (mL : mg "len" = none) : Cal P w K mg base 1 "_law_cell" ["script", "k"] (spCell K) := by
  refine D.cal fun f fd F => F.ok sc13 (fun vs H Q E h => ?_) (fun cdv A outer s H vs Q E hr h => ?_)
  · obtain ⟨_, _, _, rfl, _⟩ := h
    rfl
  obtain ⟨a, ns, k, rfl, hS, h63, k0, k1, q⟩ := h
  refine ⟨_, pss_cons (ps_if (pt_cmpR op_lt (pv 1) (pe_callB call_len_seq rfl mL PySem.boot_len (pa_cons (pv 0) pa_nil)) (nomark _)) (pss_one (ps_ret (pe_ix ix_list (pv 0) (pv 1) (fun _ _ => rfl)))) pss_nil)
    (pss_cons (ps_if (pt_cmpR op_eq (pe_callB call_len_seq rfl mL PySem.boot_len (pa_cons (pv 0) pa_nil)) pe_int (nomark _)) (pss_one (ps_ret (pe_op op_add (pe_op op_mul pe_int (pv 1)) pe_int))) pss_nil)
    (pss_one (ps_ret (pe_op op_add (pe_op op_mod (pe_ix ix_list (pv 0) (pe_op op_mod (pv 1) (pe_callB call_len_seq rfl mL PySem.boot_len (pa_cons (pv 0) pa_nil))) (fun _ _ => rfl)) pe_int) (pe_op op_mul pe_int (pv 1)))))), ?_⟩
  have hl : (ns.map V.int).length = ns.length := List.length_map _
  refine ⟨_, rfl, _, rfl, a, _, rfl, .inl hS, _, _, rfl, rfl, _, rfl, ?_⟩
  rw [hl]
  refine ite2 (fun c => ?_) (fun c => ?_)
  · have c' := of_decide_eq_true c
    obtain ⟨v, hv⟩ := at_ints k0 c'
    exact ⟨_, rfl, _, rfl, a, _, _, _, rfl, rfl, hS, hv, q _⟩
  · have c' := of_decide_eq_false (Bool.eq_false_iff.mpr c)
    refine ⟨_, rfl, a, _, rfl, .inl hS, rfl, _, rfl, ?_⟩
    rw [hl]
    refine ite2 (fun z => ?_) (fun z => ?_)
    · exact ⟨_, rfl, _, _, rfl, rfl, .inl ⟨by decide, by decide⟩, _, _, rfl, rfl, q _⟩
    · have z' := of_decide_eq_false (Bool.eq_false_iff.mpr z)
      have pos : (0 : Int) < (ns.length : Int) := by
        rcases Nat.eq_zero_or_pos ns.length with y | y
        · exact absurd (by rw [y]; rfl) z'
        · omega
      obtain ⟨v, hv⟩ := at_ints (ns := ns) (k := k % (ns.length : Int)) (Int.emod_nonneg _ (by omega)) (Int.emod_lt_of_pos _ pos)
      refine ⟨_, rfl, _, rfl, _, rfl, a, _, rfl, .inl hS, _, _, rfl, rfl, (by rw [hl]; exact pos), a, _, _, _, rfl, rfl, hS, (by rw [hl]; exact hv), _, _, rfl, rfl, (by show (0 : Int) < 1000003; decide), _, rfl, _, _, rfl, rfl, .inl ⟨by decide, by decide⟩, _, _, rfl, rfl, q _⟩
abbrev s14 : Stmt := top 13
theorem sc14 : FnScope N14 ["script", "k", "many", "base"] (defScope s14) := ⟨rfl, rfl, rfl, by decide +kernel, rfl, by decide +kernel, by decide +kernel⟩
theorem c14 (D : Df K mg "_law_draws" s14 ["script", "k", "many", "base"]) (C13 : Cal P w K mg base 1 "_law_cell" ["script", "k"] (spCell K)) (mR : mg "range" = none) : Cal P w K mg base 2 "_law_draws" ["script", "k", "many", "base"] (spDraws K) := by
  obtain ⟨g, gd, G, bG, kG, mG⟩ := C13
  refine D.cal fun f fd F => F.ok sc14 (fun vs H Q E h => ?_) (fun cdv A outer s H vs Q E hr h => ?_)
  · obtain ⟨_, _, _, _, rfl, _⟩ := h
    rfl
  obtain ⟨a, ns, k, mm, rfl, hm100, hS, h63, k0, k1, q⟩ := h
  refine ⟨_, pss_cons (ps_set (i := 4) sc14.nd rfl (Or.inl rfl) (pe_tup (pa_cons pe_int (pa_cons pe_int (pa_cons pe_int (pa_cons pe_int (pa_cons pe_int (pa_cons pe_int (pa_cons pe_int (pa_cons pe_int pa_nil))))))))))
    (pss_cons (ps_set (i := 5) sc14.nd rfl (Or.inl rfl) (pe_call G hr rfl mG kG bG .nil pass0 (pa_cons (pv 0) (pa_cons (pv 1) pa_nil))))
    (pss_cons (ps_set (i := 6) sc14.nd rfl (Or.inl rfl) pe_int)
    (pss_cons (ps_if (pt_cmpR op_ge (pv 5) (pe_op op_pow pe_int pe_int) (nomark _)) (pss_one (ps_set (i := 6) sc14.nd rfl (Or.inl rfl) (pv 5))) pss_nil)
    (pss_cons (ps_set (i := 7) sc14.nd rfl (Or.inl rfl) (pe_lst pa_nil))
    (pss_cons (ps_for PassesOwn.never rfl (pi_range1 rfl mR (pa_cons (pv 2) pa_nil)) (pg_name (i := 8) sc14.nd rfl (Or.inl rfl))
      (pss_cons (ps_set (i := 9) sc14.nd rfl (Or.inl rfl) (pe_op op_mul (pe_op op_mod (pv 5) (pe_ix ix_tup (pv 4) (pe_op op_mod (pv 8) pe_int) (fun _ _ => rfl))) (pe_op op_add pe_int (pe_op op_mul (pe_op op_mul pe_int (pv 8)) (pv 8)))))
      (pss_cons (ps_set (i := 9) sc14.nd rfl (Or.inl rfl) (pe_op op_add (pe_op op_add (pv 9) (pe_op op_mul (pe_op op_mul pe_int (pe_op op_add (pv 8) pe_int)) (pe_op op_add (pv 8) pe_int))) (pe_op op_mul pe_int (pv 1))))
      (pss_cons (ps_set (i := 9) sc14.nd rfl (Or.inl rfl) (pe_op op_mod (pv 9) (pe_ix ix_tup (pv 4) (pe_op op_mod (pe_op op_add (pe_op op_mul pe_int (pv 8)) (pv 1)) pe_int) (fun _ _ => rfl))))
      (pss_cons (ps_set (i := 9) sc14.nd rfl (Or.inl rfl) (pe_op op_mod (pe_op op_mul (pe_op op_mul (pv 9) (pv 9)) (pv 9)) (pe_ix ix_tup (pv 4) (pe_op op_mod (pe_op op_add (pv 8) pe_int) pe_int) (fun _ _ => rfl))))
      (pss_cons (ps_if (pt_cmpR op_gt (pv 6) pe_int (nomark _)) (pss_one (ps_set (i := 9) sc14.nd rfl (Or.inl rfl) (pv 6))) pss_nil)
      (pss_cons (ps_expr (pe_bm PySem.F.plainAttrs_list PySem.F.slot_list_append PySem.F.type_list_append mt_append (pv 7) (pa_cons (pe_op op_mod (pv 9) (pv 3)) pa_nil)))
      (pss_one (ps_set (i := 6) sc14.nd rfl (Or.inl rfl) (pe_op op_fdiv (pv 6) (pv 3)))))))))))
    (pss_one (ps_ret (pv 7)))))))), ?_⟩
  refine ⟨(by show 8 ≤ sizeLine; decide), fun pr hpr => ?_⟩
  have e0 := same_new hpr (.tup PR)
  refine ⟨_, rfl, _, rfl, a, ns, k, rfl, e0.seq hS, h63, k0, k1, fun cell => ?_⟩
  refine ⟨_, rfl, _, _, rfl, rfl, ⟨by decide, by decide, by decide⟩, _, _, rfl, rfl, _, rfl, ?_⟩
  have pw : (0 : Int) ≤ 10 ^ (18 : Int).toNat := by decide
  have hpr' : SqT K (upd H pr (.tup PR)) pr PR := SqT.of upd_same
  refine ite2 (fun c => ⟨_, rfl, ?_⟩) (fun c => ?_)
  all_goals
    have c' : 0 ≤ cell ∨ True := .inr trivial
    have r0 : (10 : Int) ^ (18 : Int).toNat ≤ cell → 0 ≤ cell := fun z => by omega
    refine ⟨(by show 0 ≤ sizeLine; decide), fun row hrow => ?_⟩
    refine ⟨_, rfl, ((mm : Nat) : Int), rfl, by omega, by omega, for_range (n := ((mm : Nat) : Int).toNat) (fun i σ H' => ∃ (rest : Int) (ds : List Int) (j m : Option V), σ = [some (.ref a), some (.int k), some (.int (mm : Nat)), some (.int 27720), some (.ref pr), some (.int cell), some (.int rest), some (.ref row), j, m] ∧ Same (upd H pr (.tup PR)) H' ∧ H' row = some (.lst (ds.map V.int)) ∧ ds.length = i ∧ Dg ds ∧ 0 ≤ rest)
      ⟨_, [], none, none, rfl, same_new hrow _, upd_same, rfl, (fun _ z => by simp at z), (by first | exact r0 (of_decide_eq_true c) | decide)⟩ ?_ ?_⟩
    · rintro i σ H1 hi ⟨rest, ds, j, m, rfl, e1, hl, hd, dg, hr0⟩
      have hp1 := same_tup e1 hpr'
      obtain ⟨p1, a1, b1, l1⟩ := pr_at (mod8 (0 + (i : Int))).1 (mod8 (0 + (i : Int))).2
      obtain ⟨p2, a2, b2, l2⟩ := pr_at (mod8 (3 * (0 + (i : Int)) + k)).1 (mod8 (3 * (0 + (i : Int)) + k)).2
      obtain ⟨p3, a3, b3, l3⟩ := pr_at (mod8 (0 + (i : Int) + 5)).1 (mod8 (0 + (i : Int) + 5)).2
      have si : Sm (0 + (i : Int)) := ⟨by omega, by omega⟩
      have si1 : Sm (0 + (i : Int) + 1) := ⟨by omega, by omega⟩
      have m1 := mod_in (i := cell) b1 l1
      refine ⟨_, rfl, _, rfl, _, rfl, _, _, rfl, rfl, (by show (0 : Int) < 8; decide), pr, _, _, _, rfl, rfl, hp1, a1, _, _, rfl, rfl, b1, _, rfl, _, _, rfl, rfl, .inl ⟨by decide, by decide⟩, _, rfl, _, _, rfl, rfl, .inr si, _, _, rfl, rfl, _, _, rfl, rfl, .inl ⟨by omega, by omega⟩, ?_⟩
      refine ⟨_, rfl, _, rfl, _, _, rfl, rfl, _, _, rfl, rfl, .inl ⟨by decide, by decide⟩, _, rfl, _, _, rfl, rfl, _, _, rfl, rfl, .inr si1, _, _, rfl, rfl, _, rfl, _, _, rfl, rfl, .inl ⟨by decide, by decide⟩, _, _, rfl, rfl, ?_⟩
      refine ⟨_, rfl, _, rfl, _, rfl, _, _, rfl, rfl, .inl ⟨by decide, by decide⟩, _, rfl, _, _, rfl, rfl, _, _, rfl, rfl, (by show (0 : Int) < 8; decide), pr, _, _, _, rfl, rfl, hp1, a2, _, _, rfl, rfl, b2, ?_⟩
      refine ⟨_, rfl, _, rfl, _, _, rfl, rfl, .inl (sm_mod b2 l2), _, rfl, _, _, rfl, rfl, .inr (sm_mod b2 l2), _, rfl, _, rfl, _, _, rfl, rfl, _, _, rfl, rfl, (by show (0 : Int) < 8; decide), pr, _, _, _, rfl, rfl, hp1, a3, _, _, rfl, rfl, b3, ?_⟩
      refine ⟨_, rfl, _, _, rfl, rfl, _, rfl, ?_⟩
      refine ite2 (fun z => ⟨_, rfl, ?_⟩) (fun z => ?_)
      all_goals
        refine ⟨_, rfl, .inl ⟨rfl, _, SqL.of hl⟩, _, rfl, _, rfl, _, _, rfl, rfl, (by show (0 : Int) < 27720; decide), row, _, _, rfl, rfl, hl, (by rw [List.length_map]; exact small1000 (by omega)), ?_⟩
        refine ⟨_, rfl, _, rfl, _, _, rfl, rfl, ⟨by decide, by decide⟩, ?_⟩
        refine ⟨_, ds ++ [_], _, _, rfl, fun b o e => ?_, (by rw [upd_same, List.map_append]; rfl), (by rw [List.length_append, hd]; rfl), fun x hx => ?_, Int.ediv_nonneg hr0 (by decide)⟩
        · rw [upd_ne (ne_of_none e hrow)]
          exact e1 b o e
        · rcases List.mem_append.mp hx with y | y
          · exact dg x y
          · rw [List.mem_singleton.mp y]
            exact ⟨Int.emod_nonneg _ (by decide), Int.emod_lt_of_pos _ (by decide)⟩
    · rintro σ H1 ⟨rest, ds, j, m, rfl, e1, hl, hd, dg, hr0⟩
      exact ⟨_, rfl, q row ds H1 (e0.trans e1) hl (by omega) dg⟩
end
end KG

set_option Elab.async false
set_option linter.all false
set_option maxRecDepth 100000
set_option maxHeartbeats 4000000
/-! what is found in a survey, over plain lists -/
namespace SM
open PySem Ry LS LC
structure Sgt where
  l : Str
  m : Str
  a : Int
  b : Int
structure Knw where
  n : Str
  x : Int
  y : Int
structure Fnd where
  n : Str
  p : Pt
  r : Nat
  two : Option (Str × Str)
abbrev Ray := Str × Int × Int
abbrev Beg := Str × Pt × Int × Int
def look (F : List Fnd) (n : Str) : Option Fnd := F.find? fun f => decide (f.n = n)
theorem look_mem {F : List Fnd} {n : Str} {f : Fnd} (h : look F n = some f) : f ∈ F ∧ f.n = n := ⟨List.mem_of_find?_eq_some h, by simpa using List.find?_some h⟩
theorem look_none {F : List Fnd} {n : Str} : look F n = none ↔ ∀ f ∈ F, f.n ≠ n := by
  unfold look
  rw [List.find?_eq_none]
  simp
def raysOf (sg : List Sgt) (n : Str) : List Ray := sg.flatMap fun s => (if s.m = n then [(s.l, s.a, s.b)] else []) ++ (if s.l = n then [(s.m, -s.a, -s.b)] else [])
def begun (F : List Fnd) (rs : List Ray) : List Beg := rs.filterMap fun r => (look F r.1).map fun f => (r.1, f.p, r.2.1, r.2.2)
def met (g h : Beg) : Option (Pt × Str × Str) := (meetQ g.2.1 g.2.2.1 g.2.2.2 h.2.1 h.2.2.1 h.2.2.2).map fun q => (q, g.1, h.1)
def firstMet : List Beg → Option (Pt × Str × Str)
  | [] => none
  | g :: rest => match rest.findSome? (met g) with
    | some r => some r
    | none => firstMet rest
def more (sg : List Sgt) (ns : List Str) (F : List Fnd) (k : Nat) : List Fnd :=
  ns.filterMap fun n => if (look F n).isSome then none else (firstMet (begun F (raysOf sg n))).map fun r => ⟨n, r.1, k, some r.2⟩
def kn0 (kn : List Knw) : List Fnd := kn.map fun k => ⟨k.n, ((k.x : Rat), (k.y : Rat)), 0, none⟩
/-! ### how great the numbers get -/
def cc : Nat → Nat
  | 0 => 8
  | 1 => 8
  | n + 2 => cc (n + 1) + cc n + 20
theorem cc_mono1 (n : Nat) : cc n ≤ cc (n + 1) := by
  cases n with
  | zero => decide
  | succ n => show cc (n + 1) ≤ cc (n + 1) + cc n + 20; omega
theorem cc_mono {m n : Nat} (h : m ≤ n) : cc m ≤ cc n := by
  induction h with
  | refl => exact Nat.le_refl _
  | step _ ih => exact Nat.le_trans ih (cc_mono1 _)
theorem cc_two {i j k : Nat} (hj : j < i) (hk : k < i) (h : j ≠ k) : cc j + cc k + 20 ≤ cc i := by
  match i, hj, hk with
  | 1, hj, hk => omega
  | i + 2, hj, hk =>
    show _ ≤ cc (i + 1) + cc i + 20
    rcases Nat.lt_or_gt_of_ne h with z | z
    · have a := cc_mono (show k ≤ i + 1 by omega)
      have b := cc_mono (show j ≤ i by omega)
      omega
    · have a := cc_mono (show j ≤ i + 1 by omega)
      have b := cc_mono (show k ≤ i by omega)
      omega
def Lv (c : Nat) (p : Pt) : Prop := ∃ X Y D : Int, D ≠ 0 ∧ Bt c X ∧ Bt c Y ∧ Bt c D ∧ p.1 = (X : Rat) / (D : Rat) ∧ p.2 = (Y : Rat) / (D : Rat)
theorem Lv.up {c c' : Nat} {p : Pt} (h : Lv c p) (k : c ≤ c') : Lv c' p := by
  obtain ⟨X, Y, D, h0, h1, h2, h3, e⟩ := h
  exact ⟨X, Y, D, h0, h1.up k, h2.up k, h3.up k, e⟩
theorem Lv.int {x y : Int} (h : Bt 8 x) (h' : Bt 8 y) : Lv 8 ((x : Rat), (y : Rat)) := ⟨x, y, 1, by decide, h, h', by show (1 : Int).natAbs < 2 ^ 8; decide, by show (x : Rat) = x / ((1 : Int) : Rat); grind, by show (y : Rat) = y / ((1 : Int) : Rat); grind⟩
theorem fid {X1 Y1 D1 X2 Y2 D2 B a c d : Rat} (h1 : D1 ≠ 0) (h2 : D2 ≠ 0) (h3 : B ≠ 0) : X1 / D1 + ((X2 / D2 - X1 / D1) * d - (Y2 / D2 - Y1 / D1) * c) / B * a = (X1 * D2 * B + ((X2 * D1 - X1 * D2) * d - (Y2 * D1 - Y1 * D2) * c) * a) / (D1 * D2 * B) := by
  have h4 : D1 * D2 ≠ 0 := by grind
  have h5 : D1 * D2 * B ≠ 0 := by grind
  grind
theorem fid2 {X1 Y1 D1 X2 Y2 D2 B b c d : Rat} (h1 : D1 ≠ 0) (h2 : D2 ≠ 0) (h3 : B ≠ 0) : Y1 / D1 + ((X2 / D2 - X1 / D1) * d - (Y2 / D2 - Y1 / D1) * c) / B * b = (Y1 * D2 * B + ((X2 * D1 - X1 * D2) * d - (Y2 * D1 - Y1 * D2) * c) * b) / (D1 * D2 * B) := by
  have h4 : D1 * D2 ≠ 0 := by grind
  have h5 : D1 * D2 * B ≠ 0 := by grind
  grind
theorem lv_meet {c1 c2 : Nat} {p o : Pt} {a b c d : Int} {r : Pt} (hp : Lv c1 p) (ho : Lv c2 o) (w : W8 a b) (w' : W8 c d) (h : meetQ p a b o c d = some r) : Lv (c1 + c2 + 20) r := by
  obtain ⟨X1, Y1, D1, d1, x1, y1, z1, e1, e2⟩ := hp
  obtain ⟨X2, Y2, D2, d2, x2, y2, z2, e3, e4⟩ := ho
  unfold meetQ at h
  by_cases b0 : bnd a b c d = 0
  · rw [if_pos b0] at h; cases h
  rw [if_neg b0] at h
  split at h
  · cases h
  cases h
  have hB := bnd_b w w'
  have n1 : Bt (c1 + c2 + 1) (X2 * D1 - X1 * D2) := Bt.sub (by rw [Nat.add_comm]; exact x2.mul z1) (x1.mul z2)
  have n2 : Bt (c1 + c2 + 1) (Y2 * D1 - Y1 * D2) := Bt.sub (by rw [Nat.add_comm]; exact y2.mul z1) (y1.mul z2)
  have hN : Bt (c1 + c2 + 1 + 8 + 1) ((X2 * D1 - X1 * D2) * d - (Y2 * D1 - Y1 * D2) * c) := Bt.sub (n1.mul w'.2) (n2.mul w'.1)
  have r1 : (D1 : Rat) ≠ 0 := cast_ne d1
  have r2 : (D2 : Rat) ≠ 0 := cast_ne d2
  have r3 : (bnd a b c d : Rat) ≠ 0 := cast_ne b0
  generalize bnd a b c d = B at *
  refine ⟨X1 * D2 * B + ((X2 * D1 - X1 * D2) * d - (Y2 * D1 - Y1 * D2) * c) * a, Y1 * D2 * B + ((X2 * D1 - X1 * D2) * d - (Y2 * D1 - Y1 * D2) * c) * b, D1 * D2 * B, Int.mul_ne_zero (Int.mul_ne_zero d1 d2) b0, ?_, ?_, ?_, ?_, ?_⟩
  · exact (Bt.add (((x1.mul z2).mul hB).up (show c1 + c2 + 17 ≤ c1 + c2 + 19 by omega)) ((hN.mul w.1).up (by omega))).up (by omega)
  · exact (Bt.add (((y1.mul z2).mul hB).up (show c1 + c2 + 17 ≤ c1 + c2 + 19 by omega)) ((hN.mul w.2).up (by omega))).up (by omega)
  · exact ((z1.mul z2).mul hB).up (by omega)
  · show p.1 + crs (o.1 - p.1) (o.2 - p.2) c d / (B : Rat) * (a : Rat) = _
    rw [e1, e2, e3, e4]
    simp only [crs, Rat.intCast_add, Rat.intCast_mul, Rat.intCast_sub]
    exact fid r1 r2 r3
  · show p.2 + crs (o.1 - p.1) (o.2 - p.2) c d / (B : Rat) * (b : Rat) = _
    rw [e1, e2, e3, e4]
    simp only [crs, Rat.intCast_add, Rat.intCast_mul, Rat.intCast_sub]
    exact fid2 r1 r2 r3
end SM

set_option Elab.async false
set_option linter.all false
set_option maxRecDepth 100000
set_option maxHeartbeats 4000000
namespace SM
open PySem Ry LS LC
structure WF (U : List Str) (kn : List Knw) (sg : List Sgt) : Prop where
  few : U.length ≤ 10
  knU : ∀ k ∈ kn, k.n ∈ U
  knN : (kn.map (·.n)).Nodup
  knB : ∀ k ∈ kn, Bt 8 k.x ∧ Bt 8 k.y
  sgU : ∀ s ∈ sg, s.l ∈ U ∧ s.m ∈ U
  sgB : ∀ s ∈ sg, W8 s.a s.b
  sgN : (sg.map fun s => [s.l, s.m]).Nodup
  sgR : Rise (sg.map fun s => [s.l, s.m])
  dj : ∀ s ∈ sg, ∀ s' ∈ sg, s.l ≠ s'.m
  kl : kn.length ≤ 6
  sl : sg.length ≤ 16
theorem rays_mem {sg : List Sgt} {n : Str} {r : Ray} (h : r ∈ raysOf sg n) : ∃ s ∈ sg, (s.m = n ∧ r = (s.l, s.a, s.b)) ∨ (s.l = n ∧ r = (s.m, -s.a, -s.b)) := by
  unfold raysOf at h
  rw [List.mem_flatMap] at h
  obtain ⟨s, hs, h⟩ := h
  refine ⟨s, hs, ?_⟩
  rw [List.mem_append] at h
  rcases h with h | h
  · split at h
    · rename_i e; rw [List.mem_singleton] at h; exact .inl ⟨e, h⟩
    · cases h
  · split at h
    · rename_i e; rw [List.mem_singleton] at h; exact .inr ⟨e, h⟩
    · cases h
theorem rays_nodup {n : Str} : ∀ {sg : List Sgt}, (sg.map fun s => [s.l, s.m]).Nodup → (∀ s ∈ sg, ∀ s' ∈ sg, s.l ≠ s'.m) → ((raysOf sg n).map (·.1)).Nodup
  | [], _, _ => by simp [raysOf]
  | s :: sg, hn, dj => by
    have hn' := hn
    simp only [List.map_cons, List.nodup_cons] at hn'
    have ih := rays_nodup (n := n) (sg := sg) hn'.2 fun a ha b hb => dj a (List.mem_cons_of_mem _ ha) b (List.mem_cons_of_mem _ hb)
    have e : raysOf (s :: sg) n = ((if s.m = n then [(s.l, s.a, s.b)] else []) ++ (if s.l = n then [(s.m, -s.a, -s.b)] else [])) ++ raysOf sg n := by simp [raysOf]
    have hss := dj s (by simp) s (by simp)
    have no : ∀ t ∈ sg, [t.l, t.m] ≠ [s.l, s.m] := fun t ht z => hn'.1 (List.mem_map.mpr ⟨t, ht, z⟩)
    rw [e]
    by_cases h1 : s.m = n
    · have h2 : ¬ s.l = n := fun z => hss (z.trans h1.symm)
      rw [if_pos h1, if_neg h2]
      simp only [List.append_nil, List.singleton_append, List.map_cons, List.nodup_cons]
      refine ⟨fun hm => ?_, ih⟩
      obtain ⟨r, hr, er⟩ := List.mem_map.mp hm
      obtain ⟨t, ht, z | z⟩ := rays_mem hr
      · refine no t ht ?_
        rw [z.1, h1]
        rw [z.2] at er
        simp only at er
        rw [er]
      · exact dj t (List.mem_cons_of_mem _ ht) s (by simp) (z.1.trans h1.symm)
    · rw [if_neg h1]
      by_cases h2 : s.l = n
      · rw [if_pos h2]
        simp only [List.nil_append, List.singleton_append, List.map_cons, List.nodup_cons]
        refine ⟨fun hm => ?_, ih⟩
        obtain ⟨r, hr, er⟩ := List.mem_map.mp hm
        obtain ⟨t, ht, z | z⟩ := rays_mem hr
        · exact dj s (by simp) t (List.mem_cons_of_mem _ ht) (h2.trans z.1.symm)
        · refine no t ht ?_
          rw [z.1, h2]
          rw [z.2] at er
          simp only at er
          rw [er]
      · rw [if_neg h2]
        exact ih
theorem begun_mem {F : List Fnd} {rs : List Ray} {g : Beg} (h : g ∈ begun F rs) : ∃ r ∈ rs, ∃ f, look F r.1 = some f ∧ g = (r.1, f.p, r.2.1, r.2.2) := by
  unfold begun at h
  rw [List.mem_filterMap] at h
  obtain ⟨r, hr, e⟩ := h
  rw [Option.map_eq_some_iff] at e
  obtain ⟨f, hf, e⟩ := e
  exact ⟨r, hr, f, hf, e.symm⟩
theorem begun_sub (F : List Fnd) : ∀ rs : List Ray, ((begun F rs).map (·.1)).Sublist (rs.map (·.1))
  | [] => by simp [begun]
  | r :: rs => by
    have ih := begun_sub F rs
    unfold begun at ih ⊢
    rw [List.filterMap_cons]
    cases look F r.1 with
    | none => exact List.Sublist.cons _ ih
    | some f => exact List.Sublist.cons₂ _ ih
theorem first_mem : ∀ {gs : List Beg} {q : Pt × Str × Str}, firstMet gs = some q → ∃ g ∈ gs, ∃ h ∈ gs, met g h = some q ∧ ((gs.map (·.1)).Nodup → g.1 ≠ h.1)
  | [], q, e => by cases e
  | g :: gs, q, e => by
    unfold firstMet at e
    split at e
    · rename_i r hr
      cases e
      obtain ⟨h, hh, eh⟩ := List.exists_of_findSome?_eq_some hr
      refine ⟨g, by simp, h, List.mem_cons_of_mem _ hh, eh, fun nd => ?_⟩
      simp only [List.map_cons, List.nodup_cons] at nd
      exact fun z => nd.1 (by rw [z]; exact List.mem_map.mpr ⟨h, hh, rfl⟩)
    · obtain ⟨a, ha, b, hb, e2, ne⟩ := first_mem e
      refine ⟨a, List.mem_cons_of_mem _ ha, b, List.mem_cons_of_mem _ hb, e2, fun nd => ?_⟩
      simp only [List.map_cons, List.nodup_cons] at nd
      exact ne nd.2
theorem nodup_le : ∀ {l U : List Str}, l.Nodup → (∀ x ∈ l, x ∈ U) → l.length ≤ U.length
  | [], _, _, _ => Nat.zero_le _
  | x :: l, U, nd, h => by
    rw [List.nodup_cons] at nd
    have hx := h x (by simp)
    have := nodup_le (l := l) (U := U.erase x) nd.2 fun y hy => (List.mem_erase_of_ne (fun z => nd.1 (by rw [← z]; exact hy))).mpr (h y (List.mem_cons_of_mem _ hy))
    rw [List.length_erase_of_mem hx] at this
    have := List.length_pos_of_mem hx
    simp only [List.length_cons]
    omega
structure FInv (U : List Str) (F : List Fnd) : Prop where
  nd : (F.map (·.n)).Nodup
  sub : ∀ f ∈ F, f.n ∈ U
  lv : ∀ i f, F[i]? = some f → Lv (cc i) f.p
theorem FInv.len {U : List Str} {F : List Fnd} (h : FInv U F) (hU : U.length ≤ 10) : F.length ≤ 10 := by
  have := nodup_le h.nd (U := U) fun x hx => by
    obtain ⟨f, hf, rfl⟩ := List.mem_map.mp hx
    exact h.sub f hf
  rw [List.length_map] at this
  omega
theorem FInv.base {U : List Str} {kn : List Knw} {sg : List Sgt} (w : WF U kn sg) : FInv U (kn0 kn) where
  nd := by
    have : (kn0 kn).map (·.n) = kn.map (·.n) := by simp [kn0]
    rw [this]; exact w.knN
  sub := fun f hf => by
    obtain ⟨k, hk, rfl⟩ := List.mem_map.mp hf
    exact w.knU k hk
  lv := fun i f hf => by
    obtain ⟨k, hk, rfl⟩ := List.mem_map.mp (List.mem_of_getElem? hf)
    exact (Lv.int (w.knB k hk).1 (w.knB k hk).2).up (cc_mono (Nat.zero_le i))
theorem more_mem {sg : List Sgt} {ns : List Str} {F : List Fnd} {k : Nat} {f : Fnd} (h : f ∈ more sg ns F k) : f.n ∈ ns ∧ look F f.n = none ∧ ∃ q, firstMet (begun F (raysOf sg f.n)) = some q ∧ f = ⟨f.n, q.1, k, some q.2⟩ := by
  unfold more at h
  rw [List.mem_filterMap] at h
  obtain ⟨n, hn, e⟩ := h
  split at e
  · cases e
  · rename_i z
    rw [Option.map_eq_some_iff] at e
    obtain ⟨q, hq, rfl⟩ := e
    exact ⟨hn, by simpa using z, q, hq, rfl⟩
theorem more_sub (sg : List Sgt) (F : List Fnd) (k : Nat) : ∀ ns : List Str, ((more sg ns F k).map (·.n)).Sublist ns
  | [] => by simp [more]
  | n :: ns => by
    have ih := more_sub sg F k ns
    unfold more at ih ⊢
    rw [List.filterMap_cons]
    split
    · exact List.Sublist.cons _ ih
    · rename_i f e
      split at e
      · cases e
      · rw [Option.map_eq_some_iff] at e
        obtain ⟨q, _, rfl⟩ := e
        exact List.Sublist.cons₂ _ ih
theorem FInv.step {U : List Str} {kn : List Knw} {sg : List Sgt} (w : WF U kn sg) {ns : List Str} (nn : ns.Nodup) (nU : ∀ n ∈ ns, n ∈ U) {F : List Fnd} (h : FInv U F) (k : Nat) : FInv U (F ++ more sg ns F k) where
  nd := by
    rw [List.map_append, List.nodup_append]
    refine ⟨h.nd, (more_sub sg F k ns).nodup nn, fun a ha b hb e => ?_⟩
    subst e
    obtain ⟨f, hf, rfl⟩ := List.mem_map.mp ha
    obtain ⟨g, hg, e⟩ := List.mem_map.mp hb
    have := (more_mem hg).2.1
    exact look_none.mp this f hf e.symm
  sub := fun f hf => by
    rcases List.mem_append.mp hf with hf | hf
    · exact h.sub f hf
    · exact nU _ (more_mem hf).1
  lv := fun i f hf => by
    by_cases hi : i < F.length
    · rw [List.getElem?_append_left hi] at hf
      exact h.lv i f hf
    · rw [List.getElem?_append_right (by omega)] at hf
      obtain ⟨_, _, q, hq, e⟩ := more_mem (List.mem_of_getElem? hf)
      obtain ⟨g, hg, g', hg', em, ne⟩ := first_mem hq
      have ne' := ne ((begun_sub F _).nodup (rays_nodup w.sgN w.dj))
      obtain ⟨r, hr, f1, l1, rfl⟩ := begun_mem hg
      obtain ⟨r', hr', f2, l2, rfl⟩ := begun_mem hg'
      obtain ⟨m1, e1⟩ := look_mem l1
      obtain ⟨m2, e2⟩ := look_mem l2
      obtain ⟨j1, hj1⟩ := List.getElem?_of_mem m1
      obtain ⟨j2, hj2⟩ := List.getElem?_of_mem m2
      have lt1 : j1 < F.length := (List.getElem?_eq_some_iff.mp hj1).1
      have lt2 : j2 < F.length := (List.getElem?_eq_some_iff.mp hj2).1
      have nj : j1 ≠ j2 := fun z => by
        subst z
        rw [hj1] at hj2
        cases hj2
        exact ne' (e1.symm.trans e2)
      have ww : ∀ {r : Ray}, r ∈ raysOf sg f.n → W8 r.2.1 r.2.2 := fun {r} hr => by
        obtain ⟨s, hs, z | z⟩ := rays_mem hr
        · rw [z.2]; exact w.sgB s hs
        · rw [z.2]; exact ⟨(w.sgB s hs).1.neg, (w.sgB s hs).2.neg⟩
      unfold met at em
      rw [Option.map_eq_some_iff] at em
      obtain ⟨pt, hpt, rfl⟩ := em
      rw [e]
      exact (lv_meet (h.lv j1 f1 hj1) (h.lv j2 f2 hj2) (ww hr) (ww hr') hpt).up (cc_two (by omega) (by omega) nj)
end SM

set_option Elab.async false
set_option linter.all false
set_option maxRecDepth 100000
set_option maxHeartbeats 4000000
namespace SR
open PySem L2 Ry TH LS LC SM
open LB hiding spLow spLess spApart spTurn spMoved spMeet spTwo spCross spLL
inductive All2 {α β : Type} (R : α → β → Prop) : List α → List β → Prop
  | nil : All2 R [] []
  | cons {v x vs xs} : R v x → All2 R vs xs → All2 R (v :: vs) (x :: xs)
namespace All2
variable {α β : Type} {R S : α → β → Prop}
theorem imp (h : ∀ v x, R v x → S v x) : ∀ {vs : List α} {xs : List β}, All2 R vs xs → All2 S vs xs
  | _, _, .nil => .nil
  | _, _, .cons a b => .cons (h _ _ a) (imp h b)
theorem length : ∀ {vs : List α} {xs : List β}, All2 R vs xs → vs.length = xs.length
  | _, _, .nil => rfl
  | _, _, .cons a b => by rw [List.length_cons, List.length_cons, length b]
theorem app : ∀ {vs : List α} {xs : List β} {ws : List α} {ys : List β}, All2 R vs xs → All2 R ws ys → All2 R (vs ++ ws) (xs ++ ys)
  | _, _, _, _, .nil, h => h
  | _, _, _, _, .cons a b, h => .cons a (app b h)
theorem get : ∀ {vs : List α} {xs : List β} {i : Nat} {v : α}, All2 R vs xs → vs[i]? = some v → ∃ x, xs[i]? = some x ∧ R v x
  | _, _, 0, v, .cons a b, e => by cases e; exact ⟨_, rfl, a⟩
  | _, _, i + 1, v, .cons a b, e => by simpa using get (i := i) b (by simpa using e)
theorem drop : ∀ {vs : List α} {xs : List β} (n : Nat), All2 R vs xs → All2 R (vs.drop n) (xs.drop n)
  | _, _, 0, h => h
  | _, _, n + 1, .nil => .nil
  | _, _, n + 1, .cons _ b => drop n b
theorem take : ∀ {vs : List α} {xs : List β} (n : Nat), All2 R vs xs → All2 R (vs.take n) (xs.take n)
  | _, _, 0, h => .nil
  | _, _, n + 1, .nil => .nil
  | _, _, n + 1, .cons a b => .cons a (take n b)
end All2
abbrev Kvs := List (Key × V)
def EntK (R : V → Fnd → Prop) (kvs : Kvs) (F : List Fnd) : Prop := All2 (fun (kv : Key × V) f => kv.1 = Sum.inr f.n ∧ R kv.2 f) kvs F
theorem EntK.imp {R S : V → Fnd → Prop} {kvs : Kvs} {F : List Fnd} (h : ∀ v x, R v x → S v x) (e : EntK R kvs F) : EntK S kvs F := All2.imp (fun _ _ z => ⟨z.1, h _ _ z.2⟩) e
theorem put_new {kvs : Kvs} {k : Key} {v : V} (h : valV kvs k = none) : putK kvs k v = kvs ++ [(k, v)] := by
  unfold putK
  rw [if_neg]
  intro z
  rw [List.any_eq_true] at z
  obtain ⟨kv, hm, e⟩ := z
  unfold valV at h
  rw [Option.map_eq_none_iff, List.find?_eq_none] at h
  exact h kv hm e
/-- found entries: (point, round, the two) -/
def FV (K : PySem.W.Frag) (TV : Hp → V → Option (Str × Str) → Prop) (H : Hp) (v : V) (f : Fnd) : Prop := ∃ a p t, v = .ref a ∧ H a = some (.tup [p, .int (f.r : Nat), t]) ∧ PP K H p f.p ∧ TV H t f.two
def TwoP (H : Hp) (t : V) : Option (Str × Str) → Prop
  | none => ∃ b, t = .ref b ∧ H b = some (.tup [])
  | some (x, y) => ∃ b, t = .ref b ∧ H b = some (.tup [.str x, .str y])
def TwoL (H : Hp) (t : V) : Option (Str × Str) → Prop
  | none => t = .non
  | some (x, y) => ∃ b, t = .ref b ∧ H b = some (.tup [.str x, .str y])
theorem TwoP.mono {H H' : Hp} {t : V} {o : Option (Str × Str)} (e : Same H H') (h : TwoP H t o) : TwoP H' t o := by
  cases o with
  | none => obtain ⟨b, x, y⟩ := h; exact ⟨b, x, e _ _ y⟩
  | some q => obtain ⟨b, x, y⟩ := h; exact ⟨b, x, e _ _ y⟩
theorem TwoL.mono {H H' : Hp} {t : V} {o : Option (Str × Str)} (e : Same H H') (h : TwoL H t o) : TwoL H' t o := by
  cases o with
  | none => exact h
  | some q => obtain ⟨b, x, y⟩ := h; exact ⟨b, x, e _ _ y⟩
theorem FV.mono {K : PySem.W.Frag} {TV : Hp → V → Option (Str × Str) → Prop} (tm : ∀ {H H' : Hp} {t : V} {o : Option (Str × Str)}, Same H H' → TV H t o → TV H' t o) {H H' : Hp} {v : V} {f : Fnd} (e : Same H H') (h : FV K TV H v f) : FV K TV H' v f := by
  obtain ⟨a, p, t, rfl, h1, h2, h3⟩ := h
  exact ⟨a, p, t, rfl, e _ _ h1, h2.mono e, tm e h3⟩
/-! surveys -/
def KnRow (H : Hp) (v : V) (k : Knw) : Prop := ∃ a b, v = .ref a ∧ H a = some (.tup [.str k.n, .ref b]) ∧ H b = some (.tup [.int k.x, .int k.y])
def SgRow (H : Hp) (v : V) (s : Sgt) : Prop := ∃ a b, v = .ref a ∧ H a = some (.tup [.str s.l, .str s.m, .ref b]) ∧ H b = some (.tup [.int s.a, .int s.b])
theorem KnRow.mono {H H' : Hp} {v : V} {k : Knw} (e : Same H H') : KnRow H v k → KnRow H' v k := fun ⟨a, b, h, x, y⟩ => ⟨a, b, h, e _ _ x, e _ _ y⟩
theorem SgRow.mono {H H' : Hp} {v : V} {s : Sgt} (e : Same H H') : SgRow H v s → SgRow H' v s := fun ⟨a, b, h, x, y⟩ => ⟨a, b, h, e _ _ x, e _ _ y⟩
structure Sv (H : Hp) (v : V) (kn : List Knw) (sg : List Sgt) : Prop where
  out : ∃ a b c ks ss, v = .ref a ∧ H a = some (.tup [.ref b, .ref c]) ∧ H b = some (.tup ks) ∧ H c = some (.tup ss) ∧ All2 (KnRow H) ks kn ∧ All2 (SgRow H) ss sg
theorem Sv.mono {H H' : Hp} {v : V} {kn : List Knw} {sg : List Sgt} (e : Same H H') : Sv H v kn sg → Sv H' v kn sg := fun ⟨a, b, c, ks, ss, h, x, y, z, p, q⟩ =>
  ⟨a, b, c, ks, ss, h, e _ _ x, e _ _ y, e _ _ z, p.imp fun _ _ => KnRow.mono e, q.imp fun _ _ => SgRow.mono e⟩
def RayV (K : PySem.W.Frag) (H : Hp) (v : V) (r : Ray) : Prop := ∃ t u, v = .ref t ∧ H t = some (.tup [.str r.1, u]) ∧ IP K H u r.2.1 r.2.2
theorem RayV.mono {K : PySem.W.Frag} {H H' : Hp} {v : V} {r : Ray} (e : Same H H') : RayV K H v r → RayV K H' v r := fun ⟨t, u, h, x, y⟩ => ⟨t, u, h, e _ _ x, y.mono e⟩
/-- the rays' dict: each name with its list -/
structure RE where
  n : Str
  a : Addr
  vs : List V
  rs : List Ray
def rkv (es : List RE) : Kvs := es.map fun e => (Sum.inr e.n, .ref e.a)
structure RepR (K : PySem.W.Frag) (B : Addr → Prop) (H : Hp) (d : Addr) (R : Str → List Ray) (es : List RE) : Prop where
  dict : H d = some (.dK (rkv es))
  lsts : ∀ e ∈ es, H e.a = some (.lst e.vs) ∧ All2 (RayV K (blk B H)) e.vs e.rs ∧ e.rs = R e.n ∧ B e.a
  bd : B d
  na : (es.map (·.a)).Nodup
  nn : (es.map (·.n)).Nodup
  all : ∀ n, R n ≠ [] → n ∈ es.map (·.n)
theorem val_rkv {n : Str} : ∀ {es : List RE}, (valV (rkv es) (Sum.inr n) = none ∧ n ∉ es.map (·.n)) ∨ ∃ e ∈ es, e.n = n ∧ valV (rkv es) (Sum.inr n) = some (.ref e.a)
  | [] => .inl ⟨rfl, by simp⟩
  | e :: es => by
    by_cases z : e.n = n
    · exact .inr ⟨e, by simp, z, valV_pos (p := ((Sum.inr e.n : Key), V.ref e.a)) (by show (Sum.inr e.n : Key) = Sum.inr n; rw [z])⟩
    · have z' : ¬ (Sum.inr e.n : Key) = Sum.inr n := fun y => z (Sum.inr.inj y)
      have := valV_neg (r := rkv es) (p := ((Sum.inr e.n : Key), V.ref e.a)) z'
      show (valV ((Sum.inr e.n, V.ref e.a) :: rkv es) _ = none ∧ _) ∨ ∃ x ∈ _, _ ∧ valV ((Sum.inr e.n, V.ref e.a) :: rkv es) _ = _
      rw [this]
      rcases val_rkv (n := n) (es := es) with ⟨h1, h2⟩ | ⟨x, hx, h1, h2⟩
      · refine .inl ⟨h1, ?_⟩
        simp only [List.map_cons, List.mem_cons, not_or]
        exact ⟨fun y => z y.symm, h2⟩
      · exact .inr ⟨x, List.mem_cons_of_mem _ hx, h1, h2⟩
/-- a name gets its list -/
theorem RepR.open {K : PySem.W.Frag} {B : Addr → Prop} {H : Hp} {d l : Addr} {R : Str → List Ray} {es : List RE} (h : RepR K B H d R es) {n : Str} (hn : n ∉ es.map (·.n)) (hl : H l = none) (hB : ¬ B l) :
    RepR K (fun a => B a ∨ a = l) (upd (upd H l (.lst [])) d (.dK (putK (rkv es) (Sum.inr n) (.ref l)))) d R (es ++ [⟨n, l, [], []⟩]) := by
  have hdl : d ≠ l := fun z => by rw [z] at h; have := h.dict; rw [hl] at this; cases this
  have hv : valV (rkv es) (Sum.inr n) = none := by
    rcases val_rkv (n := n) (es := es) with z | ⟨e, he, z, _⟩
    · exact z.1
    · exact absurd (List.mem_map.mpr ⟨e, he, z⟩) hn
  have sm : Same (blk B H) (blk (fun a => B a ∨ a = l) (upd (upd H l (.lst [])) d (.dK (putK (rkv es) (Sum.inr n) (.ref l))))) := fun a o e => by
    obtain ⟨b1, b2⟩ := blk_of e
    have al : a ≠ l := fun z => by rw [z, hl] at b2; cases b2
    have ad : a ≠ d := fun z => b1 (z ▸ h.bd)
    refine blk_mk (fun z => z.elim b1 al) ?_
    rw [upd_ne ad, upd_ne al]; exact b2
  refine ⟨?_, fun e he => ?_, .inl h.bd, ?_, ?_, fun m hm => ?_⟩
  · rw [upd_same, put_new hv]
    simp [rkv]
  · rcases List.mem_append.mp he with he | he
    · obtain ⟨h1, h2, h3, h4⟩ := h.lsts e he
      have al : e.a ≠ l := fun z => by rw [z, hl] at h1; cases h1
      have ad : e.a ≠ d := fun z => by rw [z, h.dict] at h1; cases h1
      exact ⟨by rw [upd_ne ad, upd_ne al]; exact h1, h2.imp fun _ _ => RayV.mono sm, h3, .inl h4⟩
    · rw [List.mem_singleton] at he
      subst he
      refine ⟨by rw [upd_ne (Ne.symm hdl), upd_same], .nil, ?_, .inr rfl⟩
      show [] = R n
      cases hR : R n with
      | nil => rfl
      | cons x xs => exact absurd (h.all n (by rw [hR]; simp)) hn
  · rw [List.map_append, List.nodup_append]
    refine ⟨h.na, by simp, fun a ha b hb e => ?_⟩
    simp at hb
    subst hb
    subst e
    obtain ⟨x, hx, ex⟩ := List.mem_map.mp ha
    have := (h.lsts x hx).1
    rw [ex, hl] at this; cases this
  · rw [List.map_append, List.nodup_append]
    refine ⟨h.nn, by simp, fun a ha b hb e => ?_⟩
    simp at hb
    subst hb
    subst e
    exact hn ha
  · rw [List.map_append, List.mem_append]
    exact .inl (h.all m hm)
theorem re_eq {β : Type} {f : RE → β} : ∀ {es : List RE}, (es.map f).Nodup → ∀ {a b : RE}, a ∈ es → b ∈ es → f a = f b → a = b
  | [], _, _, _, h, _, _ => by cases h
  | x :: es, nd, a, b, ha, hb, e => by
    simp only [List.map_cons, List.nodup_cons] at nd
    rcases List.mem_cons.mp ha with h1 | h1 <;> rcases List.mem_cons.mp hb with h2 | h2
    · rw [h1, h2]
    · exact absurd (by rw [← h1, e]; exact List.mem_map.mpr ⟨b, h2, rfl⟩) nd.1
    · exact absurd (by rw [← h2, ← e]; exact List.mem_map.mpr ⟨a, h1, rfl⟩) nd.1
    · exact re_eq nd.2 h1 h2 e
/-- a ray more for a name -/
def addR (R : Str → List Ray) (n : Str) (r : Ray) : Str → List Ray := fun m => if m = n then R m ++ [r] else R m
def addE (es : List RE) (n : Str) (v : V) (r : Ray) : List RE := es.map fun e => if e.n = n then { e with vs := e.vs ++ [v], rs := e.rs ++ [r] } else e
theorem RepR.add {K : PySem.W.Frag} {B : Addr → Prop} {H : Hp} {d : Addr} {R : Str → List Ray} {es : List RE} (h : RepR K B H d R es) {e : RE} (he : e ∈ es) {v : V} {r : Ray} (hv : RayV K (blk B H) v r) :
    RepR K B (upd H e.a (.lst (e.vs ++ [v]))) d (addR R e.n r) (addE es e.n v r) := by
  have hBe := (h.lsts e he).2.2.2
  have hde : d ≠ e.a := fun z => by have := (h.lsts e he).1; rw [← z, h.dict] at this; cases this
  have sm : Same (blk B H) (blk B (upd H e.a (.lst (e.vs ++ [v])))) := fun a o q => by
    obtain ⟨b1, b2⟩ := blk_of q
    exact blk_mk b1 (by rw [upd_ne (fun z => b1 (by rw [z]; exact hBe))]; exact b2)
  have kn : ∀ (f : RE), (if f.n = e.n then { f with vs := f.vs ++ [v], rs := f.rs ++ [r] } else f).n = f.n := fun f => by split <;> rfl
  have ka : ∀ (f : RE), (if f.n = e.n then { f with vs := f.vs ++ [v], rs := f.rs ++ [r] } else f).a = f.a := fun f => by split <;> rfl
  have mn : (addE es e.n v r).map (·.n) = es.map (·.n) := by unfold addE; rw [List.map_map]; exact List.map_congr_left fun f _ => kn f
  have ma : (addE es e.n v r).map (·.a) = es.map (·.a) := by unfold addE; rw [List.map_map]; exact List.map_congr_left fun f _ => ka f
  refine ⟨?_, fun f hf => ?_, h.bd, by rw [ma]; exact h.na, by rw [mn]; exact h.nn, fun m hm => ?_⟩
  · rw [upd_ne hde, h.dict]
    have : rkv (addE es e.n v r) = rkv es := by
      unfold rkv addE
      rw [List.map_map]
      exact List.map_congr_left fun f _ => by simp only [Function.comp]; rw [kn, ka]
    rw [this]
  · obtain ⟨g, hg, rfl⟩ := List.mem_map.mp hf
    obtain ⟨h1, h2, h3, h4⟩ := h.lsts g hg
    by_cases z : g.n = e.n
    · have ge : g = e := re_eq h.nn hg he z
      subst ge
      rw [if_pos rfl]
      refine ⟨upd_same, All2.app (h2.imp fun _ _ => RayV.mono sm) (.cons (hv.mono sm) .nil), ?_, h4⟩
      show g.rs ++ [r] = addR R g.n r g.n
      unfold addR
      rw [if_pos rfl, ← h3]
    · rw [if_neg z]
      have ne : g.a ≠ e.a := fun y => z (by rw [re_eq h.na hg he y])
      exact ⟨by rw [upd_ne ne]; exact h1, h2.imp fun _ _ => RayV.mono sm, by unfold addR; rw [if_neg z]; exact h3, h4⟩
  · rw [mn]
    unfold addR at hm
    split at hm
    · rename_i z; rw [z]; exact List.mem_map.mpr ⟨e, he, rfl⟩
    · exact h.all m hm
end SR

set_option Elab.async false
set_option linter.all false
set_option maxRecDepth 100000
set_option maxHeartbeats 4000000
namespace L2
open PySem
end L2
namespace SR
open PySem L2 Ry TH LS LC SM
open LB hiding spLow spLess spApart spTurn spMoved spMeet spTwo spCross spLL
abbrev no (l : Addr) : Addr → Prop := fun a => a = l
theorem no_upd {H : Hp} {l : Addr} (o : HO) : Same (blk (no l) H) (blk (no l) (upd H l o)) := fun a o' h => by
  obtain ⟨b1, b2⟩ := blk_of h
  exact blk_mk b1 (by rw [upd_ne b1]; exact b2)
theorem no_new {H : Hp} {l : Addr} (hl : H l = none) (o : HO) : Same H (blk (no l) (upd H l o)) := fun a o' h => by
  have : a ≠ l := fun z => by rw [z, hl] at h; cases h
  exact blk_mk this (by rw [upd_ne this]; exact h)
theorem no_sub {H : Hp} {l : Addr} : Same (blk (no l) H) H := blk_sub _ _
def BegV (K : PySem.W.Frag) (H : Hp) (v : V) (g : Beg) : Prop := ∃ t p u, v = .ref t ∧ H t = some (.tup [.str g.1, p, u]) ∧ PP K H p g.2.1 ∧ IP K H u g.2.2.1 g.2.2.2
theorem BegV.mono {K : PySem.W.Frag} {H H' : Hp} {v : V} {g : Beg} (e : Same H H') : BegV K H v g → BegV K H' v g := fun ⟨t, p, u, h, x, y, z⟩ => ⟨t, p, u, h, e _ _ x, y.mono e, z.mono e⟩
theorem take_succ {α : Type} {l : List α} {i : Nat} {x : α} (h : l[i]? = some x) : l.take (i + 1) = l.take i ++ [x] := by rw [List.take_add_one, h]; rfl
end SR

set_option Elab.async false
set_option linter.all false
set_option maxRecDepth 100000
set_option maxHeartbeats 4000000
namespace L2
open PySem
theorem pi_tupK {X : Cx} {K : PySem.W.Frag} {tg l : Expr} {tl : TE} (hK : X.K = K) (hl : PE X l tl) : PI X tg l (iTup K tl) := by
  subst hK
  exact pi_tup hl
/-- a walk by its number of turns -/
theorem lp {J : It} {H0 : Hp} {Done : Hp → Prop} {B : (Hp → Prop) → V → Hp → Prop} (n : Nat) (Pv : Nat → Hp → Prop) (h0 : Pv 0 H0) (hgo : ∀ i H, i < n → Pv i H → J.go i H) (hst : ∀ H, Pv n H → J.stop n H) (hd : ∀ H, Pv n H → Done H)
    (hs : ∀ i H x H', i < n → Pv i H → J.yld i H x H' → B (Pv (i + 1)) x H') :
    ∃ W : Nat → Nat → Hp → Prop, (∃ m, W 0 m H0) ∧ ∀ i m H, W i m H → (J.stop i H ∧ Done H) ∨ (J.go i H ∧ ∃ Nx : Hp → Prop, (∀ H', Nx H' → ∃ m', m' < m ∧ W (i + 1) m' H') ∧ ∀ x H', J.yld i H x H' → B Nx x H') := by
  refine ⟨fun i m H => m = n - i ∧ i ≤ n ∧ Pv i H, ⟨n, by simp, Nat.zero_le _, h0⟩, ?_⟩
  rintro i m H ⟨rfl, hi, p⟩
  by_cases hlt : i < n
  · exact .inr ⟨hgo i H hlt p, Pv (i + 1), fun H' p' => ⟨n - (i + 1), by omega, rfl, hlt, p'⟩, fun x H' y => hs i H x H' hlt p y⟩
  · have e : i = n := by omega
    subst e
    exact .inl ⟨hst H p, hd H p⟩
end L2
namespace RR
open PySem L2 Ry TH LS LC RM SR
open LB hiding spLow spLess spApart spTurn spMoved spMeet spTwo spCross spLL
def RmV (H : Hp) (v : V) (rows : List Str) : Prop := ∃ a, v = .ref a ∧ H a = some (.tup (rows.map V.str))
theorem RmV.mono {H H' : Hp} {v : V} {rows : List Str} (e : Same H H') : RmV H v rows → RmV H' v rows := fun ⟨a, h, x⟩ => ⟨a, h, e _ _ x⟩
def CV (H : Hp) (v : V) (c : Cell) : Prop := IT H v c.1 c.2
theorem CV.mono {H H' : Hp} {v : V} {c : Cell} (e : Same H H') : CV H v c → CV H' v c := IT.mono e
/-- a list of cells of its own -/
def CLs (H : Hp) (l : Addr) (H' : Hp) (cs : List Cell) : Prop := Same H H' ∧ H l = none ∧ ∃ vs, H' l = some (.lst vs) ∧ All2 (CV (blk (no l) H')) vs cs
def cmp (c : Cell) (k : Int) : Int := if k = 0 then c.1 else c.2
theorem at_pr {c : Cell} {k : Int} (h : k = 0 ∨ k = 1) : atI [V.int c.1, V.int c.2] k = some (.int (cmp c k)) := by
  rcases h with rfl | rfl <;> rfl
theorem go_tup {K : PySem.W.Frag} {H : Hp} {a : Addr} {xs : List V} {i : Nat} (h : SqT K H a xs) (hi : i < xs.length) : (Itt K a).go i H := ⟨xs, xs[i], h, by simp [hi]⟩
theorem stop_tup {K : PySem.W.Frag} {H : Hp} {a : Addr} {xs : List V} (h : SqT K H a xs) : (Itt K a).stop xs.length H := ⟨xs, h, Nat.le_refl _⟩
def spGap (K : PySem.W.Frag) : Sp := fun vs H Q _ => ∃ (x y : V) (a b c d : Int), vs = [x, y] ∧ IP K H x a b ∧ IP K H y c d ∧ ∀ v H', Same H H' → IP K H' v (c - a) (d - b) → Q v H'
def Nr (c : Cell) : Prop := (-100 ≤ c.1 ∧ c.1 ≤ 100) ∧ (-100 ≤ c.2 ∧ c.2 ≤ 100)
theorem In6.nr {c : Cell} (h : In6 c) : Nr c := by
  obtain ⟨⟨a, b⟩, c, d⟩ := h
  exact ⟨⟨by omega, by omega⟩, by omega, by omega⟩
def spBtw (K : PySem.W.Frag) : Sp := fun vs H Q _ => ∃ (x y z : V) (w c o : Cell), vs = [x, y, z] ∧ IP K H x w.1 w.2 ∧ IP K H y c.1 c.2 ∧ IP K H z o.1 o.2 ∧ Nr w ∧ Nr c ∧ Nr o ∧ ∀ H', Same H H' → Q (.bl (btw w c o)) H'
def spCellsOf : Sp := fun vs H Q _ => ∃ (r : V) (k wide : Nat) (rows : List Str), vs = [r, .str ⟨#[k]⟩] ∧ RmV H r rows ∧ Rom wide rows ∧ ∀ l H', CLs H l H' (cellsM rows wide k) → Q (.ref l) H'
def spCells : Sp := fun vs H Q _ => ∃ (r : V) (wide : Nat) (rows : List Str), vs = [r] ∧ RmV H r rows ∧ Rom wide rows ∧ ∀ l H', CLs H l H' (cellsM rows wide 46) → Q (.ref l) H'
def spSees (K : PySem.W.Frag) : Sp := fun vs H Q _ => ∃ (r x y : V) (wide : Nat) (rows : List Str) (c o : Cell), vs = [r, x, y] ∧ RmV H r rows ∧ Rom wide rows ∧ IP K H x c.1 c.2 ∧ IP K H y o.1 o.2 ∧ In6 c ∧ In6 o ∧ ∀ H', Same H H' → Q (.bl (seesM rows wide c o)) H'
def spSeen (K : PySem.W.Frag) : Sp := fun vs H Q _ => ∃ (r x : V) (wide : Nat) (rows : List Str) (c : Cell), vs = [r, x] ∧ RmV H r rows ∧ Rom wide rows ∧ IP K H x c.1 c.2 ∧ In6 c ∧ ∀ l H', CLs H l H' (seenM rows wide c) → Q (.ref l) H'
def spRoom : Sp := fun vs H Q _ => ∃ (dr : Addr) (ds : List Int), vs = [.ref dr] ∧ H dr = some (.lst (ds.map V.int)) ∧ ds.length = 60 ∧ Dg ds ∧ ∀ v H' wide rows, Same H H' → RmV H' v rows → Rom wide rows → Q v H'
end RR
namespace KG
open PySem L2 Ry TH LS LC RM RR SR
open LB hiding spLow spLess spApart spTurn spMoved spMeet spTwo spCross spLL
section
variable {P : Program} {w : World} {K : PySem.W.Frag} {mg : Str → Option Value} {base : Heap} {f : Addr} {fd : FuncData}
abbrev sGP : Stmt := top 10
theorem scGP : FnScope ["one", "other"] ["one", "other"] (defScope sGP) := ⟨rfl, rfl, rfl, by decide +kernel, rfl, by decide +kernel, by decide +kernel⟩
theorem cGP (D : Df K mg "gap" sGP ["one", "other"]) : Cal P w K mg base 1 "gap" ["one", "other"] (spGap K) := by
  refine D.cal fun f fd F' => F'.ok scGP (fun vs H Q E h => ?_) (fun cdv A outer s H vs Q E hr h => ?_)
  · obtain ⟨_, _, _, _, _, _, rfl, _⟩ := h
    rfl
  obtain ⟨_, _, a, b, c, d, rfl, ⟨p, rfl, hp⟩, ⟨r, rfl, hq⟩, q⟩ := h
  refine ⟨_, (pss_one (ps_ret (pe_tup (pa_cons (pe_op op_sub (pe_ix ix_tup (pv 1) pe_int (fun _ _ => rfl)) (pe_ix ix_tup (pv 0) pe_int (fun _ _ => rfl))) (pa_cons (pe_op op_sub (pe_ix ix_tup (pv 1) pe_int (fun _ _ => rfl)) (pe_ix ix_tup (pv 0) pe_int (fun _ _ => rfl))) pa_nil))))), ?_⟩
  exact ⟨_, rfl, r, _, _, _, rfl, rfl, hq, rfl, _, rfl, p, _, _, _, rfl, rfl, hp, rfl, _, _, rfl, rfl, _, rfl, r, _, _, _, rfl, rfl, hq, rfl, _, rfl, p, _, _, _, rfl, rfl, hp, rfl, _, _, rfl, rfl, two, fun T hT => q _ _ (same_new hT _) IP.new⟩
abbrev sBT : Stmt := top 9
abbrev NBT : List Str := ["wall", "one", "other", "at", "way", "dx", "dy", "sides", "right", "down"]
theorem scBT : FnScope NBT ["wall", "one", "other"] (defScope sBT) := ⟨rfl, rfl, rfl, by decide +kernel, rfl, by decide +kernel, by decide +kernel⟩
theorem cBT (D : Df K mg "is_between" sBT ["wall", "one", "other"]) (CG : Cal P w K mg base 1 "gap" ["one", "other"] (spGap K)) (CT : Cal P w K mg base 1 "turn" ["one", "other"] (LC.spTurn K)) (m_min : mg "min" = none) (m_max : mg "max" = none) : Cal P w K mg base 2 "is_between" ["wall", "one", "other"] (spBtw K) := by
  obtain ⟨g1, gd1, G, bG, kG, mG⟩ := CG
  obtain ⟨g2, gd2, T, bT, kT, mT⟩ := CT
  refine D.cal fun f fd F' => F'.ok scBT (fun vs H Q E h => ?_) (fun cdv A outer s H vs Q E hr h => ?_)
  · obtain ⟨_, _, _, _, _, _, rfl, _⟩ := h
    rfl
  obtain ⟨_, _, _, ww, c, o, rfl, hw, hc, ho, nw, nc, no', q⟩ := h
  refine ⟨_, (pss_cons (ps_for PassesOwn.never rfl (pi_tup (pe_tup (pa_cons pe_int (pa_cons pe_int pa_nil)))) (pg_name (i := 3) scBT.nd rfl (Or.inl rfl)) (pss_one (ps_if (pt_not (pt_chain op_le op_le (pe_callB (call_min2 rfl) (by rfl) m_min (by decide +kernel) (pa_cons (pe_ix ix_tup (pv 1) (pv 3) (fun _ _ => rfl)) (pa_cons (pe_ix ix_tup (pv 2) (pv 3) (fun _ _ => rfl)) pa_nil))) (pe_ix ix_tup (pv 0) (pv 3) (fun _ _ => rfl)) (pe_callB (call_max2 rfl) (by rfl) m_max (by decide +kernel) (pa_cons (pe_ix ix_tup (pv 1) (pv 3) (fun _ _ => rfl)) (pa_cons (pe_ix ix_tup (pv 2) (pv 3) (fun _ _ => rfl)) pa_nil))))) (pss_one (ps_ret pe_bl)) pss_nil)))
    (pss_cons (ps_set (i := 4) scBT.nd rfl (Or.inr rfl) (pe_call G hr rfl mG kG bG .nil pass0 (pa_cons (pv 1) (pa_cons (pv 2) pa_nil))))
    (pss_cons (ps_asg (pe_call G hr rfl mG kG bG .nil pass0 (pa_cons (pv 1) (pa_cons (pv 0) pa_nil))) (pg_tup (by rfl) (pgs_cons (pg_name (i := 5) scBT.nd rfl (Or.inr rfl)) (pgs_cons (pg_name (i := 6) scBT.nd rfl (Or.inr rfl)) pgs_nil))))
    (pss_cons (ps_setLc2 (i := 7) (own := [("right", 8), ("down", 9)]) (vs1 := [9]) (g := (gName 8)) (g1 := (gName 9)) (by rfl) scBT.nd rfl rfl (sw_true rfl rfl rfl (by decide +kernel)) (pi_tup (pe_tup (pa_cons (pe_un un_neg pe_int) (pa_cons pe_int pa_nil)))) (blkOk_by (own := [("right", 8), ("down", 9)]) (N := ["wall", "one", "other", "at", "way", "dx", "dy", "sides", "right", "down"]) (sc := defScope sBT) (by decide +kernel)) (by decide) (fun _ _ _ _ _ => (pg_name (i := 8) scBT.nd rfl (Or.inl rfl))) (fun _ _ _ _ _ => pts_nil) (fun _ _ _ _ _ => (pi_tupK (K := K) rfl (pe_tup (pa_cons (pe_un un_neg pe_int) (pa_cons pe_int pa_nil))))) (fun _ _ _ _ _ => (pg_name (i := 9) scBT.nd rfl (Or.inl rfl))) (fun _ _ _ _ _ => pts_nil) (fun _ _ _ _ _ => (pe_call T hr rfl mT kT bT .nil pass0 (pa_cons (pv 4) (pa_cons (pe_tup (pa_cons (pe_op op_add (pe_op op_mul pe_int (pv 5)) (pv 8)) (pa_cons (pe_op op_add (pe_op op_mul pe_int (pv 6)) (pv 9)) pa_nil))) pa_nil)))))
    (pss_one (ps_ret (pe_chain op_le op_le (pe_callB (cr_min rfl) (by rfl) m_min (by decide +kernel) (pa_cons (pv 7) pa_nil)) pe_int (pe_callB (cr_max rfl) (by rfl) m_max (by decide +kernel) (pa_cons (pv 7) pa_nil))))))))), ?_⟩
  obtain ⟨pw, rfl, hw⟩ := hw
  obtain ⟨pc, rfl, hc⟩ := hc
  obtain ⟨po, rfl, ho⟩ := ho
  refine ⟨two, fun t ht => ?_⟩
  have e0 := same_new ht (.tup [.int 0, .int 1])
  refine ⟨t, rfl, ⟨_, SqT.of upd_same⟩, for_tup (K := K) (a := t) (xs := [.int 0, .int 1]) (fun i σ H' => (∃ o3 o4 o5 o6 o7 o8 o9, σ = [some (.ref pw), some (.ref pc), some (.ref po), o3, o4, o5, o6, o7, o8, o9]) ∧ Same (upd H t (.tup [.int 0, .int 1])) H' ∧ (0 < i → inB c.1 o.1 ww.1 = true) ∧ (1 < i → inB c.2 o.2 ww.2 = true)) ⟨⟨_, _, _, _, _, _, _, rfl⟩, Same.refl _, fun h => absurd h (by decide), fun h => absurd h (by decide)⟩ (fun i σ H' _ ⟨_, e, _⟩ => same_tup e (SqT.of upd_same)) ?_ ?_⟩
  · rintro i x σ H1 hx ⟨⟨o3, o4, o5, o6, o7, o8, o9, rfl⟩, e1, b1, b2⟩
    obtain ⟨k, rfl, hk, hki⟩ : ∃ k : Int, x = .int k ∧ (k = 0 ∨ k = 1) ∧ k = i := by
      match i, hx with
      | 0, hx => cases hx; exact ⟨_, rfl, .inl rfl, rfl⟩
      | 1, hx => cases hx; exact ⟨_, rfl, .inr rfl, rfl⟩
    have E1 := e0.trans e1
    have hw1 := same_tup E1 hw
    have hc1 := same_tup E1 hc
    have ho1 := same_tup E1 ho
    have fin : inB (cmp c k) (cmp o k) (cmp ww k) = false → btw ww c o = false := fun h => by
      unfold btw
      rcases hk with rfl | rfl
      · rw [show inB c.1 o.1 ww.1 = false from h]; rfl
      · rw [show inB c.2 o.2 ww.2 = false from h]; simp
    refine ⟨_, rfl, _, rfl, pc, _, _, _, rfl, rfl, hc1, at_pr hk, _, rfl, _, rfl, po, _, _, _, rfl, rfl, ho1, at_pr hk, _, _, rfl, _, rfl, _, rfl, pw, _, _, _, rfl, rfl, hw1, at_pr hk, _, _, rfl, rfl, _, rfl, ?_⟩
    by_cases h1 : (if cmp o k < cmp c k then cmp o k else cmp c k) ≤ cmp ww k
    case neg =>
      refine iteF' (decide_eq_false h1) ⟨_, rfl, iteT' rfl ?_⟩
      have := q H1 E1
      rw [fin (by unfold inB; rw [decide_eq_false h1]; rfl)] at this
      exact this
    refine iteT' (decide_eq_true h1) ⟨_, rfl, _, rfl, pc, _, _, _, rfl, rfl, hc1, at_pr hk, _, rfl, _, rfl, po, _, _, _, rfl, rfl, ho1, at_pr hk, _, _, rfl, _, _, rfl, rfl, _, rfl, ?_⟩
    by_cases h2 : cmp ww k ≤ (if cmp o k > cmp c k then cmp o k else cmp c k)
    case neg =>
      refine iteT' (by rw [decide_eq_false h2]; rfl) ?_
      have := q H1 E1
      rw [fin (by unfold inB; rw [decide_eq_false h2]; simp)] at this
      exact this
    have hin : inB (cmp c k) (cmp o k) (cmp ww k) = true := by unfold inB; rw [decide_eq_true h1, decide_eq_true h2]; rfl
    refine iteF' (by rw [decide_eq_true h2]; rfl) ⟨⟨_, _, _, _, _, _, _, rfl⟩, e1, fun _ => ?_, fun z => ?_⟩
    · rcases hk with rfl | rfl
      · exact hin
      · exact b1 (by omega)
    · rcases hk with rfl | rfl
      · omega
      · exact hin
  rintro σ H1 ⟨⟨o3, o4, o5, o6, o7, o8, o9, rfl⟩, e1, b1, b2⟩
  have hb1 := b1 (by decide)
  have hb2 := b2 (by decide)
  have E1 := e0.trans e1
  refine ⟨_, rfl, _, rfl, _, _, _, _, _, _, rfl, ⟨pc, rfl, same_tup E1 hc⟩, ⟨po, rfl, same_tup E1 ho⟩, fun wv H2 e2 hwv => ?_⟩
  have E2 := E1.trans e2
  refine ⟨_, rfl, _, rfl, _, _, _, _, _, _, rfl, ⟨pc, rfl, same_tup E2 hc⟩, ⟨pw, rfl, same_tup E2 hw⟩, fun gv H3 e3 hgv => ?_⟩
  obtain ⟨ga, rfl, hga⟩ := hgv
  refine ⟨ga, _, rfl, hga, rfl, _, _, rfl, _, _, rfl, rfl, ?_⟩
  have hwv3 := hwv.mono e3
  refine ⟨_, rfl, two, fun t1 ht1 => ?_⟩
  have e4 := same_new ht1 (.tup [.int (-1), .int 1])
  have E4 := E2.trans (e3.trans e4)
  have hwv4 := hwv3.mono e4
  refine ⟨t1, rfl, ⟨_, SqT.of upd_same⟩, fun D hD => ?_⟩
  refine lp 2 (fun i H' => ∃ acc : List Int, H' D = some (.lst (acc.map V.int)) ∧ Same (upd H3 t1 (.tup [.int (-1), .int 1])) H' ∧ acc = (sides ww c o).take (2 * i)) ⟨[], upd_same, same_new hD _, rfl⟩ (fun i H' hi ⟨_, _, e, _⟩ => go_tup (SqT.of (e _ _ upd_same)) hi) (fun H' ⟨_, _, e, _⟩ => stop_tup (SqT.of (e _ _ upd_same))) ?_ ?_
  · rintro H5 ⟨_, hD5, e5, rfl⟩
    have sd4 : (sides ww c o).take (2 * 2) = sides ww c o := rfl
    rw [sd4] at hD5
    have E5 := E4.trans e5
    refine ⟨_, rfl, D, sides ww c o, rfl, SqL.of hD5, (show 0 < 4 by decide), fun m hm hmin => ⟨_, _, rfl, rfl, _, rfl, ?_⟩⟩
    have key := q H5 E5
    unfold btw at key
    rw [hb1, hb2, Bool.true_and, Bool.true_and] at key
    by_cases h1 : m ≤ 0
    · rw [List.any_eq_true.mpr ⟨m, hm, decide_eq_true h1⟩, Bool.true_and] at key
      refine iteT' (decide_eq_true h1) ⟨_, rfl, D, sides ww c o, rfl, SqL.of hD5, (show 0 < 4 by decide), fun M hM hmax => ⟨_, _, rfl, rfl, ?_⟩⟩
      have : ((sides ww c o).any fun s => decide (0 ≤ s)) = decide (0 ≤ M) := by
        rw [Bool.eq_iff_iff, List.any_eq_true, decide_eq_true_eq]
        constructor
        · rintro ⟨s, hs, h⟩
          have := hmax s hs
          have := of_decide_eq_true h
          omega
        · exact fun h => ⟨M, hM, decide_eq_true h⟩
      rw [this] at key
      exact key
    · have : ((sides ww c o).any fun s => decide (s ≤ 0)) = false := by
        rw [List.any_eq_false]
        intro s hs
        have := hmin s hs
        rw [decide_eq_true_eq]
        omega
      rw [this, Bool.false_and] at key
      exact iteF' (decide_eq_false h1) key
  · rintro i H5 x _ hi ⟨_, hD5, e5, rfl⟩ ⟨rfl, hx⟩
    have hx := hx _ (SqT.of (e5 _ _ upd_same))
    obtain ⟨r, rfl, hr1, hri⟩ : ∃ r : Int, x = .int r ∧ (r = -1 ∨ r = 1) ∧ (i = 0 ∧ r = -1 ∨ i = 1 ∧ r = 1) := by
      match i, hx with
      | 0, hx => cases hx; exact ⟨_, rfl, .inl rfl, .inl ⟨rfl, rfl⟩⟩
      | 1, hx => cases hx; exact ⟨_, rfl, .inr rfl, .inr ⟨rfl, rfl⟩⟩
    refine ⟨rfl, ?_⟩
    refine ⟨_, rfl, two, fun t2 ht2 => ?_⟩
    have e6 := same_new ht2 (.tup [.int (-1), .int 1])
    have ht2D : t2 ≠ D := fun z => by rw [z, hD5] at ht2; cases ht2
    refine ⟨t2, rfl, ⟨_, SqT.of upd_same⟩, ?_⟩
    refine lp 2 (fun j H' => ∃ acc : List Int, H' D = some (.lst (acc.map V.int)) ∧ Same (upd H3 t1 (.tup [.int (-1), .int 1])) H' ∧ H' t2 = some (.tup [.int (-1), .int 1]) ∧ acc = (sides ww c o).take (2 * i + j)) ⟨_, e6 _ _ hD5, e5.trans e6, upd_same, rfl⟩ (fun j H' hj ⟨_, _, _, h, _⟩ => go_tup (SqT.of h) hj) (fun H' ⟨_, _, _, h, _⟩ => stop_tup (SqT.of h)) (fun H' ⟨acc, a1, a2, _, a3⟩ => ⟨acc, a1, a2, a3⟩) ?_
    rintro j H7 x _ hj ⟨_, hD7, e7, ht7, rfl⟩ ⟨rfl, hx⟩
    have hx := hx _ (SqT.of ht7)
    obtain ⟨dn, rfl, hd1, hdj⟩ : ∃ r : Int, x = .int r ∧ (r = -1 ∨ r = 1) ∧ (j = 0 ∧ r = -1 ∨ j = 1 ∧ r = 1) := by
      match j, hx with
      | 0, hx => cases hx; exact ⟨_, rfl, .inl rfl, .inl ⟨rfl, rfl⟩⟩
      | 1, hx => cases hx; exact ⟨_, rfl, .inr rfl, .inr ⟨rfl, rfl⟩⟩
    obtain ⟨⟨w1, w2⟩, w3, w4⟩ := nw
    obtain ⟨⟨c1, c2⟩, c3, c4⟩ := nc
    obtain ⟨⟨o1, o2⟩, o3, o4⟩ := no'
    have bb : ∀ {z : Int}, z.natAbs < 2 ^ 20 → Bt 8000 z := fun {z} h => Nat.lt_of_lt_of_le h (Nat.pow_le_pow_right (by decide) (by decide))
    refine ⟨rfl, ?_⟩
    refine ⟨_, rfl, _, rfl, _, _, rfl, rfl, .inl ⟨by decide, by decide⟩, _, rfl, _, _, rfl, rfl, _, rfl, _, _, rfl, rfl, .inl ⟨by decide, by decide⟩, _, rfl, _, _, rfl, rfl, two, fun T hT => ?_⟩
    refine ⟨_, _, _, _, _, _, rfl, hwv4.mono (e7.trans (same_new hT _)), IP.new, ⟨bb (by omega), bb (by omega), bb (by omega), bb (by omega)⟩, ?_⟩
    have hsd : (sides ww c o)[2 * i + j]? = some ((o.1 - c.1) * (2 * (ww.2 - c.2) + dn) - (o.2 - c.2) * (2 * (ww.1 - c.1) + r)) := by
      rcases hri with ⟨rfl, rfl⟩ | ⟨rfl, rfl⟩ <;> rcases hdj with ⟨rfl, rfl⟩ | ⟨rfl, rfl⟩ <;> rfl
    have hTD : T ≠ D := fun z => by rw [z, hD7] at hT; cases hT
    refine ⟨_, (same_new hT _) _ _ hD7, small6 ?_, _, ?_, ?_, ?_, (take_succ hsd).symm⟩
    · rw [List.length_map]
      have := List.length_take_le' (2 * i + j) (sides ww c o)
      have : (sides ww c o).length = 4 := rfl
      omega
    · rw [upd_same, List.map_append]; rfl
    · exact fun b o hb => by rw [upd_ne (fun z => by rw [z, hD] at hb; cases hb)]; exact (e7.trans (same_new hT _)) b o hb
    · rw [upd_ne ht2D]; exact (same_new hT _) _ _ ht7
end
end KG

set_option Elab.async false
set_option linter.all false
set_option maxRecDepth 100000
set_option maxHeartbeats 4000000
namespace RR
open PySem L2 Ry TH LS LC RM SR
open LB hiding spLow spLess spApart spTurn spMoved spMeet spTwo spCross spLL
def scan (rows : List Str) (k y n : Nat) : List Cell := (List.range n).filterMap fun x => if sgn rows x y = some k then some ((x : Int), (y : Int)) else none
def scanAll (rows : List Str) (wide k n : Nat) : List Cell := (List.range n).flatMap fun y => scan rows k y wide
theorem scan_succ (rows : List Str) (k y n : Nat) : scan rows k y (n + 1) = scan rows k y n ++ if sgn rows n y = some k then [((n : Int), (y : Int))] else [] := by
  unfold scan
  rw [List.range_succ, List.filterMap_append]
  congr 1
  rw [List.filterMap_cons]
  split <;> rename_i h <;> split at h <;> simp_all
theorem scanAll_succ (rows : List Str) (wide k n : Nat) : scanAll rows wide k (n + 1) = scanAll rows wide k n ++ scan rows k n wide := by
  unfold scanAll
  rw [List.range_succ, List.flatMap_append]
  simp
theorem mem_scan {rows : List Str} {k y n : Nat} {p : Cell} : p ∈ scan rows k y n ↔ ∃ x < n, sgn rows x y = some k ∧ p = ((x : Int), (y : Int)) := by
  unfold scan
  rw [List.mem_filterMap]
  constructor
  · rintro ⟨x, hx, e⟩
    split at e
    · cases e; exact ⟨x, List.mem_range.mp hx, by assumption, rfl⟩
    · cases e
  · rintro ⟨x, hx, e, rfl⟩
    exact ⟨x, List.mem_range.mpr hx, by rw [if_pos e]⟩
theorem mem_scanAll {rows : List Str} {wide k n : Nat} {p : Cell} : p ∈ scanAll rows wide k n ↔ ∃ x y : Nat, x < wide ∧ y < n ∧ sgn rows x y = some k ∧ p = ((x : Int), (y : Int)) := by
  unfold scanAll
  rw [List.mem_flatMap]
  constructor
  · rintro ⟨y, hy, h⟩
    obtain ⟨x, hx, h1, h2⟩ := mem_scan.mp h
    exact ⟨x, y, hx, List.mem_range.mp hy, h1, h2⟩
  · rintro ⟨x, y, hx, hy, h1, h2⟩
    exact ⟨y, List.mem_range.mpr hy, mem_scan.mpr ⟨x, hx, h1, h2⟩⟩
def ylt (a b : Cell) : Prop := a.2 < b.2 ∨ (a.2 = b.2 ∧ a.1 < b.1)
theorem scanAll_nodup (rows : List Str) (wide k n : Nat) : (scanAll rows wide k n).Nodup := by
  have h : (scanAll rows wide k n).Pairwise ylt := by
    unfold scanAll
    rw [List.pairwise_flatMap]
    refine ⟨fun y _ => ?_, List.pairwise_lt_range.imp fun {a b} hab p hp q hq => ?_⟩
    · unfold scan
      rw [List.pairwise_filterMap]
      refine List.pairwise_lt_range.imp fun {a b} hab p hp q hq => ?_
      split at hp
      · split at hq
        · cases hp; cases hq
          exact .inr ⟨rfl, by show (a : Int) < b; omega⟩
        · cases hq
      · cases hp
    · obtain ⟨y, _, _, rfl⟩ := mem_scan.mp hp
      obtain ⟨z, _, _, rfl⟩ := mem_scan.mp hq
      exact .inl (by show (a : Int) < b; omega)
  exact List.Pairwise.imp (R := ylt) (S := fun a b => a ≠ b) (fun {a b} (hab : ylt a b) (e : a = b) => by rw [e] at hab; unfold ylt at hab; omega) h
theorem scan_len (rows : List Str) (k y n : Nat) : (scan rows k y n).length ≤ n := by
  unfold scan
  have := List.length_filterMap_le (fun x => if sgn rows x y = some k then some ((x : Int), (y : Int)) else none) (List.range n)
  rw [List.length_range] at this
  exact this
theorem scanAll_len (rows : List Str) (wide k : Nat) : ∀ n, (scanAll rows wide k n).length ≤ n * wide
  | 0 => by simp [scanAll]
  | n + 1 => by
    rw [scanAll_succ, List.length_append, Nat.succ_mul]
    have := scanAll_len rows wide k n
    have := scan_len rows k n wide
    omega
theorem cd_eqv (c o : Cell) : PyData.eqv (.tuple [.int c.1, .int c.2]) (.tuple [.int o.1, .int o.2]) = decide (c = o) := by
  have : (c = o) ↔ (c.1 = o.1 ∧ c.2 = o.2) := ⟨fun h => by rw [h]; exact ⟨rfl, rfl⟩, fun h => Prod.ext h.1 h.2⟩
  rw [Bool.eq_iff_iff, decide_eq_true_eq, this]
  simp [PyData.eqv, PyData.eqvAll]
theorem cd_lay (c : Cell) : SeqAt.shaped (.tuple [.int c.1, .int c.2]) = true := by
  simp [SeqAt.shaped, PyData.canLay0, PyData.canLayAll0, PyData.depth, PyData.depthAll]
theorem cd_dp {K : PySem.W.Frag} {H : Hp} {v : V} {c : Cell} (h : IP K H v c.1 c.2) : Dp K H v (.tuple [.int c.1, .int c.2]) := by
  obtain ⟨a, rfl, ha⟩ := h
  exact .tup ha (.cons (.int _) (.cons (.int _) .nil))
/-- pairs laid so far -/
def PrL (H0 : Hp) (D : Addr) (H' : Hp) (cs : List Cell) : Prop := ∃ ps : List PR, H' D = some (.lst (ps.map fun p => .ref p.2)) ∧ Same H0 H' ∧ (∀ p ∈ ps, blk (no D) H' p.2 = some (.tup [.int p.1.1, .int p.1.2])) ∧ ps.map (·.1) = cs
theorem PrL.mono {H0 H H' : Hp} {D : Addr} {cs : List Cell} (e : Same H H') : PrL H0 D H cs → PrL H0 D H' cs := fun ⟨ps, h1, h2, h3, h4⟩ => ⟨ps, e _ _ h1, h2.trans e, fun p hp => (blk_same e) _ _ (h3 p hp), h4⟩
theorem PrL.step {H0 H : Hp} {D T : Addr} {cs : List Cell} {c : Cell} {ps : List PR} (hD : H0 D = none) (h1 : H D = some (.lst (ps.map fun p => .ref p.2))) (e : Same H0 H) (h3 : ∀ p ∈ ps, blk (no D) H p.2 = some (.tup [.int p.1.1, .int p.1.2])) (h4 : ps.map (·.1) = cs) (hT : H T = none) :
    PrL H0 D (upd (upd H T (.tup [.int c.1, .int c.2])) D (.lst ((ps.map fun p => V.ref p.2) ++ [.ref T]))) (cs ++ [c]) := by
  have hTD : T ≠ D := fun z => by rw [z, h1] at hT; cases hT
  refine ⟨ps ++ [(c, T)], by rw [upd_same, List.map_append]; rfl, fun b o hb => ?_, fun p hp => ?_, by rw [List.map_append, h4]; rfl⟩
  · rw [upd_ne (ne_of_none hb hD)]; exact (e.trans (same_new hT _)) b o hb
  · rcases List.mem_append.mp hp with hp | hp
    · exact ((blk_same (same_new hT _)).trans (no_upd _)) _ _ (h3 p hp)
    · rw [List.mem_singleton] at hp
      subst hp
      exact blk_mk hTD (by rw [upd_ne hTD, upd_same])
theorem all2_prs {H : Hp} : ∀ {ps : List PR}, (∀ p ∈ ps, H p.2 = some (.tup [.int p.1.1, .int p.1.2])) → All2 (CV H) (ps.map fun p => V.ref p.2) (ps.map (·.1))
  | [], _ => .nil
  | p :: ps, h => .cons ⟨p.2, rfl, h p (by simp)⟩ (all2_prs fun q hq => h q (List.mem_cons_of_mem _ hq))
end RR
namespace KG
open PySem L2 Ry TH LS LC RM RR SR
open LB hiding spLow spLess spApart spTurn spMoved spMeet spTwo spCross spLL
section
variable {P : Program} {w : World} {K : PySem.W.Frag} {mg : Str → Option Value} {base : Heap} {f : Addr} {fd : FuncData}
abbrev sCO : Stmt := top 8
abbrev NCO : List Str := ["room", "sign", "y", "line", "x", "each"]
theorem scCO : FnScope NCO ["room", "sign"] (defScope sCO) := ⟨rfl, rfl, rfl, by decide +kernel, rfl, by decide +kernel, by decide +kernel⟩
theorem cCO (D : Df K mg "cells_of" sCO ["room", "sign"]) (m_sorted : mg "sorted" = none) (m_enumerate : mg "enumerate" = none) : Cal P w K mg base 1 "cells_of" ["room", "sign"] spCellsOf := by
  refine D.cal fun f fd F' => F'.ok scCO (fun vs H Q E h => ?_) (fun cdv A outer s H vs Q E hr h => ?_)
  · obtain ⟨_, _, _, _, rfl, _⟩ := h
    rfl
  obtain ⟨_, k, wide, rows, rfl, ⟨ra, rfl, hra⟩, rom, q⟩ := h
  refine ⟨_, (pss_one (ps_ret (pe_callB (cr_sortedP rfl) (by rfl) m_sorted (by decide +kernel) (pa_cons (pe_lc2 (own := [("y", 2), ("line", 3), ("x", 4), ("each", 5)]) (vs1 := [4, 5]) (g := (gTup K 2 (gCons (gName 2) (gCons (gName 3) gNil)))) (g1 := (gTup K 2 (gCons (gName 4) (gCons (gName 5) gNil)))) (by rfl) scCO.nd (pi_enumT (by rfl) m_enumerate (pa_cons (pv 0) pa_nil)) (blkOk_by (own := [("y", 2), ("line", 3), ("x", 4), ("each", 5)]) (N := ["room", "sign", "y", "line", "x", "each"]) (sc := defScope sCO) (by decide +kernel)) (by decide) (fun _ _ _ _ _ => (pg_tup (by rfl) (pgs_cons (pg_name (i := 2) scCO.nd rfl (Or.inl rfl)) (pgs_cons (pg_name (i := 3) scCO.nd rfl (Or.inl rfl)) pgs_nil)))) (fun _ _ _ _ _ => pts_nil) (fun _ _ _ _ _ => (pi_enumS (by rfl) m_enumerate (pa_cons (pv 3) pa_nil))) (fun _ _ _ _ _ => (pg_tup (by rfl) (pgs_cons (pg_name (i := 4) scCO.nd rfl (Or.inl rfl)) (pgs_cons (pg_name (i := 5) scCO.nd rfl (Or.inl rfl)) pgs_nil)))) (fun _ _ _ _ _ => (pts_one (pt_cmpR op_eq (pv 5) (pv 1) (nomark _)))) (fun _ _ _ _ _ => (pe_tup (pa_cons (pv 4) (pa_cons (pv 2) pa_nil))))) pa_nil)))), ?_⟩
  have hh6 := rom.h6
  have hw6 := rom.w6
  refine ⟨_, rfl, ra, _, rfl, SqT.of hra, fun D hD => ?_⟩
  refine lp rows.length (fun i H' => PrL H D H' (scanAll rows wide k i)) ⟨[], upd_same, same_new hD _, fun p hp => (by cases hp), rfl⟩ (fun i H' hi ⟨_, _, e, _⟩ => ⟨_, (rows.map V.str)[i]'(by rw [List.length_map]; exact hi), SqT.of (e _ _ hra), by simp [hi]⟩) (fun H' ⟨_, _, e, _⟩ => ⟨_, SqT.of (e _ _ hra), by simp⟩) ?_ ?_
  · rintro H1 ⟨ps, h1, e1, h3, h4⟩
    have hlen : ps.length ≤ 36 := by
      have := congrArg List.length h4
      rw [List.length_map] at this
      have := scanAll_len rows wide k rows.length
      have : rows.length * wide ≤ 6 * 6 := Nat.mul_le_mul hh6 hw6
      omega
    refine ⟨D, ps, rfl, .inl (SqL.of h1), fun p hp => SqT.of (no_sub _ _ (h3 p hp)), by omega, fun qs l hp hr hl => q l _ ⟨e1.trans (same_new hl _), ?_, _, upd_same, ?_⟩⟩
    · cases hHd : H l with
      | none => rfl
      | some o => rw [e1 _ _ hHd] at hl; cases hl
    · have e : qs.map (·.1) = cellsM rows wide k := by
        have hp1 : (qs.map (·.1)).Perm (scanAll rows wide k rows.length) := by rw [← h4]; exact hp.map _
        refine rise_ext (hp1.nodup_iff.mpr (scanAll_nodup ..)) hr (cells_strict rows wide k) fun p => ?_
        rw [hp1.mem_iff, mem_scanAll, mem_cells]
      rw [← e]
      refine all2_prs fun p hp' => ?_
      have hb := no_sub _ _ (h3 p (hp.mem_iff.mp hp'))
      have hne : p.2 ≠ l := fun z => by rw [z, hl] at hb; cases hb
      exact blk_mk hne (by rw [upd_ne hne]; exact hb)
  · rintro i H1 x _ hi hP ⟨T, x', rfl, hT, rfl, hx⟩
    obtain ⟨ps, h1, e1, h3, h4⟩ := hP
    have hrow : rows[i]? = some rows[i] := List.getElem?_eq_getElem hi
    have hx := hx _ (SqT.of (e1 _ _ hra))
    rw [List.getElem?_map, hrow] at hx
    cases hx
    have hsz : (rows[i]).cps.size = wide := rom.len _ (List.getElem_mem hi)
    have g1 := same_new hT (.tup [.int (i : Nat), .str rows[i]])
    refine ⟨T, _, rfl, SqT.of upd_same, rfl, _, _, rfl, _, _, rfl, rfl, rfl, ?_⟩
    refine ⟨_, rfl, rows[i], rfl, ?_⟩
    refine lp wide (fun j H' => PrL H D H' (scanAll rows wide k i ++ scan rows k i j)) (PrL.mono g1 ⟨ps, h1, e1, h3, by rw [h4]; simp [scan]⟩) (fun j H' hj _ => (by show j < (rows[i]).cps.size; omega)) (fun H' _ => (by show (rows[i]).cps.size ≤ wide; omega)) (fun H' h => by rw [scanAll_succ]; exact h) ?_
    rintro j H2 x _ hj hP2 ⟨T2, cc, rfl, hT2, rfl, hcc⟩
    have g2 := same_new hT2 (.tup [.int (j : Nat), .str ⟨#[cc]⟩])
    have hP3 := PrL.mono g2 hP2
    have hsg : sgn rows j i = some cc := by unfold sgn; rw [hrow]; exact hcc
    refine ⟨T2, _, rfl, SqT.of upd_same, rfl, _, _, rfl, _, _, rfl, rfl, rfl, ?_⟩
    refine ⟨_, rfl, _, rfl, rfl, _, rfl, ?_⟩
    rw [scan_succ, hsg]
    by_cases hk : cc = k
    · subst hk
      obtain ⟨ps2, a1, a2, a3, a4⟩ := hP3
      refine iteT' (decide_eq_true rfl) ⟨_, rfl, _, rfl, two, fun T3 hT3 => ⟨_, (same_new hT3 _) _ _ a1, small6 ?_, ?_⟩⟩
      · have := congrArg List.length a4
        rw [List.length_map, List.length_append] at this
        have h5 := scanAll_len rows wide cc i
        have h6 := scan_len rows cc i j
        have : i * wide ≤ 6 * 6 := Nat.mul_le_mul (by omega) hw6
        rw [List.length_map]
        omega
      · rw [if_pos rfl, ← List.append_assoc]
        exact PrL.step (c := ((j : Int), (i : Int))) hD a1 a2 a3 a4 hT3
    · refine iteF' (decide_eq_false fun z => hk (by have := V.str.inj z; simpa using this)) ?_
      rw [if_neg (fun z => hk (Option.some.inj z)), List.append_nil]
      exact hP3
end
end KG

set_option Elab.async false
set_option linter.all false
set_option maxRecDepth 100000
set_option maxHeartbeats 4000000
namespace RR
open PySem L2 Ry TH LS LC RM SR
open LB hiding spLow spLess spApart spTurn spMoved spMeet spTwo spCross spLL
theorem CLs.all2 {H H' : Hp} {l : Addr} {cs : List Cell} (h : CLs H l H' cs) : ∃ vs, H' l = some (.lst vs) ∧ All2 (CV H') vs cs := by
  obtain ⟨_, _, vs, h1, h2⟩ := h
  exact ⟨vs, h1, h2.imp fun _ _ => CV.mono no_sub⟩
theorem cells_len36 {rows : List Str} {wide : Nat} (h : Rom wide rows) (c : Nat) : (cellsM rows wide c).length ≤ 36 := by
  have := cells_len rows wide c
  have := h.h6
  have := h.w6
  have : wide * rows.length ≤ 6 * 6 := Nat.mul_le_mul (by omega) (by omega)
  omega
end RR
namespace KG
open PySem L2 Ry TH LS LC RM RR SR
open LB hiding spLow spLess spApart spTurn spMoved spMeet spTwo spCross spLL
section
variable {P : Program} {w : World} {K : PySem.W.Frag} {mg : Str → Option Value} {base : Heap} {f : Addr} {fd : FuncData}
abbrev sCE : Stmt := top 5
theorem scCE : FnScope ["room"] ["room"] (defScope sCE) := ⟨rfl, rfl, rfl, by decide +kernel, rfl, by decide +kernel, by decide +kernel⟩
theorem cCE {tk : Tok} (D : Df K mg "cells" sCE ["room"]) (CO : Cal P w K mg base 1 "cells_of" ["room", "sign"] spCellsOf) (m_FREE : mg "FREE" = some (.str "." tk)) : Cal P w K mg base 2 "cells" ["room"] spCells := by
  obtain ⟨g1, gd1, O, bO, kO, mO⟩ := CO
  refine D.cal fun f fd F' => F'.ok scCE (fun vs H Q E h => ?_) (fun cdv A outer s H vs Q E hr h => ?_)
  · obtain ⟨_, _, _, rfl, _⟩ := h
    rfl
  obtain ⟨r, wide, rows, rfl, hrm, rom, q⟩ := h
  refine ⟨_, (pss_one (ps_ret (pe_call O hr rfl mO kO bO .nil pass0 (pa_cons (pv 0) (pa_cons (pe_glob (v := .str ".") (by rfl) m_FREE ⟨_, rfl⟩) pa_nil))))), ?_⟩
  exact ⟨_, rfl, r, 46, wide, rows, rfl, hrm, rom, q⟩
abbrev sSE : Stmt := top 6
abbrev NSE : List Str := ["room", "cell", "other", "wall"]
theorem scSE : FnScope NSE ["room", "cell", "other"] (defScope sSE) := ⟨rfl, rfl, rfl, by decide +kernel, rfl, by decide +kernel, by decide +kernel⟩
theorem cSE {tk : Tok} (D : Df K mg "sees" sSE ["room", "cell", "other"]) (CO : Cal P w K mg base 1 "cells_of" ["room", "sign"] spCellsOf) (CB : Cal P w K mg base 2 "is_between" ["wall", "one", "other"] (spBtw K)) (m_WALL : mg "WALL" = some (.str "#" tk)) (m_any : mg "any" = none) : Cal P w K mg base 3 "sees" ["room", "cell", "other"] (spSees K) := by
  obtain ⟨g1, gd1, O, bO, kO, mO⟩ := CO
  obtain ⟨g2, gd2, B, bB, kB, mB⟩ := CB
  refine D.cal fun f fd F' => F'.ok scSE (fun vs H Q E h => ?_) (fun cdv A outer s H vs Q E hr h => ?_)
  · obtain ⟨_, _, _, _, _, _, _, rfl, _⟩ := h
    rfl
  obtain ⟨r, x, y, wide, rows, c, o, rfl, hrm, rom, hx, hy, c6, o6, q⟩ := h
  have h1 : Room 1 _ := hr.mono (by decide)
  refine ⟨_, (pss_cons (ps_if (pt_cmpR (op_eqD hr.units) (pv 1) (pv 2) (nomark _)) (pss_one (ps_ret pe_bl)) pss_nil)
    (pss_one (ps_ret (pe_not (pe_callB (cr_any rfl) (by rfl) m_any (by decide +kernel) (pa_cons (pe_lc (own := [("wall", 3)]) (g := gName 3) (by rfl) scSE.nd (pi_list (pe_call O h1 rfl mO kO bO .nil pass0 (pa_cons (pv 0) (pa_cons (pe_glob (v := .str "#") (by rfl) m_WALL ⟨_, rfl⟩) pa_nil)))) (blkOk_by (own := [("wall", 3)]) (N := ["room", "cell", "other", "wall"]) (sc := defScope sSE) (by decide +kernel)) (fun _ _ _ _ _ => (pg_name (i := 3) scSE.nd rfl (Or.inl rfl))) (fun _ _ _ _ _ => pts_nil) (fun _ _ _ _ _ => (pe_call B hr rfl mB kB bB .nil pass0 (pa_cons (pv 3) (pa_cons (pv 1) (pa_cons (pv 2) pa_nil)))))) pa_nil)))))), ?_⟩
  refine ⟨_, rfl, _, rfl, _, _, cd_dp hx, cd_dp hy, cd_lay c, cd_lay o, _, rfl, ?_⟩
  rw [cd_eqv]
  by_cases hco : c = o
  · refine iteT' (decide_eq_true hco) ?_
    have := q H (Same.refl _)
    unfold seesM at this
    rw [decide_eq_true hco] at this
    exact this
  refine iteF' (decide_eq_false hco) ?_
  unfold seesM at q
  rw [decide_eq_false hco] at q
  simp only [Bool.not_false, Bool.true_and] at q
  refine ⟨_, rfl, r, 35, wide, rows, rfl, hrm, rom, fun l H1 hcl => ?_⟩
  obtain ⟨vs, hl, hA⟩ := hcl.all2
  have e1 := hcl.1
  have h36 := cells_len36 rom 35
  have hin : ∀ w ∈ cellsM rows wide 35, In6 w := fun w hw => cells_in6 rom hw
  generalize cellsM rows wide 35 = ws at hcl hA h36 hin q
  refine ⟨l, rfl, ⟨_, SqL.of hl⟩, fun D hD => lc_list (K := K) (a := l) (xs := vs) (fun i H' => Same H1 H' ∧ H' D = some (.lst (((ws.take i).map fun w => btw w c o).map V.bl))) ⟨same_new hD _, upd_same⟩ (fun i H' _ ⟨e, _⟩ => SqL.of (e _ _ hl)) ?_ ?_⟩
  · rintro i v H2 hv ⟨e2, hD2⟩
    obtain ⟨ww, hww, hwv⟩ := hA.get hv
    have E2 := e1.trans e2
    refine ⟨rfl, ?_⟩
    refine ⟨_, rfl, _, rfl, _, rfl, v, x, y, ww, c, o, rfl, (IT.ip hwv).mono e2, hx.mono E2, hy.mono E2, In6.nr (hin ww (List.mem_of_getElem? hww)), In6.nr c6, In6.nr o6, fun H3 e3 => ⟨_, e3 _ _ hD2, small6 ?_, fun b ob hb => ?_, ?_⟩⟩
    · rw [List.length_map, List.length_map]; have := List.length_take_le' i ws; omega
    · rw [upd_ne (ne_of_none hb hD)]; exact (e2.trans e3) b ob hb
    · rw [upd_same, take_succ hww, List.map_append, List.map_append]; rfl
  · rintro H2 ⟨e2, hD2⟩
    rw [hA.length, List.take_of_length_le (Nat.le_refl _)] at hD2
    refine ⟨D, _, rfl, SqL.of hD2, _, rfl, ?_⟩
    have := q H2 (e1.trans e2)
    rw [List.any_map]
    exact this
abbrev sSF : Stmt := top 7
abbrev NSF : List Str := ["room", "cell", "other"]
theorem scSF : FnScope NSF ["room", "cell"] (defScope sSF) := ⟨rfl, rfl, rfl, by decide +kernel, rfl, by decide +kernel, by decide +kernel⟩
theorem cSF (D : Df K mg "seen_from" sSF ["room", "cell"]) (CC : Cal P w K mg base 2 "cells" ["room"] spCells) (CS : Cal P w K mg base 3 "sees" ["room", "cell", "other"] (spSees K)) : Cal P w K mg base 4 "seen_from" ["room", "cell"] (spSeen K) := by
  obtain ⟨g1, gd1, C, bC, kC, mC⟩ := CC
  obtain ⟨g2, gd2, S, bS, kS, mS⟩ := CS
  refine D.cal fun f fd F' => F'.ok scSF (fun vs H Q E h => ?_) (fun cdv A outer s H vs Q E hr h => ?_)
  · obtain ⟨_, _, _, _, _, rfl, _⟩ := h
    rfl
  obtain ⟨r, x, wide, rows, c, rfl, hrm, rom, hx, c6, q⟩ := h
  have h2 : Room 2 _ := hr.mono (by decide)
  refine ⟨_, (pss_one (ps_ret (pe_lc (own := [("other", 2)]) (g := gName 2) (by rfl) scSF.nd (pi_list (pe_call C h2 rfl mC kC bC .nil pass0 (pa_cons (pv 0) pa_nil))) (blkOk_by (own := [("other", 2)]) (N := ["room", "cell", "other"]) (sc := defScope sSF) (by decide +kernel)) (fun _ _ _ _ _ => (pg_name (i := 2) scSF.nd rfl (Or.inl rfl))) (fun _ _ _ _ _ => (pts_one (pt_val (pe_call S hr rfl mS kS bS .nil pass0 (pa_cons (pv 0) (pa_cons (pv 1) (pa_cons (pv 2) pa_nil))))))) (fun _ _ _ _ _ => (pv 2))))), ?_⟩
  refine ⟨_, rfl, r, wide, rows, rfl, hrm, rom, fun l H1 hcl => ?_⟩
  obtain ⟨vs, hl, hA⟩ := hcl.all2
  have e1 := hcl.1
  have h36 := cells_len36 rom 46
  have hin : ∀ w ∈ cellsM rows wide 46, In6 w := fun w hw => cells_in6 rom hw
  unfold seenM at q
  generalize cellsM rows wide 46 = ws at hcl hA h36 hin q
  refine ⟨l, rfl, ⟨_, SqL.of hl⟩, fun D hD => lc_list (K := K) (a := l) (xs := vs) (fun i H' => Same H1 H' ∧ ∃ acc, H' D = some (.lst acc) ∧ All2 (CV H1) acc ((ws.take i).filter (seesM rows wide c))) ⟨same_new hD _, [], upd_same, .nil⟩ (fun i H' _ ⟨e, _⟩ => SqL.of (e _ _ hl)) ?_ ?_⟩
  · rintro i v H2 hv ⟨e2, acc, hD2, hA2⟩
    obtain ⟨ww, hww, hwv⟩ := hA.get hv
    have E2 := e1.trans e2
    refine ⟨rfl, ?_⟩
    refine ⟨_, rfl, _, rfl, _, rfl, r, x, v, wide, rows, c, ww, rfl, hrm.mono E2, rom, hx.mono E2, (IT.ip hwv).mono e2, c6, hin ww (List.mem_of_getElem? hww), fun H3 e3 => ⟨_, rfl, ?_⟩⟩
    rw [take_succ hww, List.filter_append]
    cases hs : seesM rows wide c ww with
    | true =>
      refine iteT' rfl ⟨_, rfl, acc, e3 _ _ hD2, small6 ?_, fun b ob hb => ?_, _, upd_same, ?_⟩
      · have h1 := hA2.length; have := List.length_filter_le (seesM rows wide c) (ws.take i); have := List.length_take_le' i ws; omega
      · rw [upd_ne (ne_of_none hb hD)]; exact (e2.trans e3) b ob hb
      · have : [ww].filter (seesM rows wide c) = [ww] := by simp [hs]
        rw [this]
        exact All2.app hA2 (.cons hwv .nil)
    | false =>
      refine iteF' rfl ⟨e2.trans e3, acc, e3 _ _ hD2, ?_⟩
      have : [ww].filter (seesM rows wide c) = [] := by simp [hs]
      rw [this, List.append_nil]
      exact hA2
  · rintro H2 ⟨e2, acc, hD2, hA2⟩
    rw [hA.length, List.take_of_length_le (Nat.le_refl _)] at hA2
    have hn : H D = none := by
      cases hHd : H D with
      | none => rfl
      | some o => rw [e1 _ _ hHd] at hD; cases hD
    refine q D H2 ⟨e1.trans e2, hn, acc, hD2, hA2.imp fun v cc z => ?_⟩
    obtain ⟨a, rfl, ha⟩ := z
    have hne : a ≠ D := fun z => by rw [z, hD] at ha; cases ha
    exact ⟨a, rfl, blk_mk hne (e2 _ _ ha)⟩
end
end KG

set_option Elab.async false
set_option linter.all false
set_option maxRecDepth 100000
set_option maxHeartbeats 4000000
namespace RR
open PySem L2 Ry TH LS LC RM SR TL
open LB hiding spLow spLess spApart spTurn spMoved spMeet spTwo spCross spLL
theorem joinL_flat : ∀ ps : List (List Nat), joinL [] ps = ps.flatten
  | [] => rfl
  | [p] => by simp [joinL]
  | p :: q :: r => by
    show p ++ ([] ++ joinL [] (q :: r)) = _
    rw [joinL_flat (q :: r)]
    simp
abbrev one1 (c : Nat) : Str := ⟨#[c]⟩
theorem join_signs (cs : List Nat) : (Txt.join "" (cs.map one1)).cps.toList = cs := by
  have h := tl_join "" (cs.map one1)
  rw [← join_eq] at h
  have e : tl (Str.ofString "") = [] := rfl
  rw [e, joinL_flat, List.map_map] at h
  have e2 : (List.map (tl ∘ one1) cs).flatten = cs := by
    induction cs with
    | nil => rfl
    | cons c cs ih =>
      have ih := ih (by rw [← List.map_map, ← joinL_flat, ← e, ← tl_join, ← join_eq])
      rw [List.map_cons, List.flatten_cons, ih]
      rfl
  rw [e2] at h
  exact h
theorem sum_ones (cs : List Nat) : ((cs.map one1).map (·.length)).sum = cs.length := by
  induction cs with
  | nil => rfl
  | cons c cs ih => rw [List.map_cons, List.map_cons, List.sum_cons, ih, List.length_cons]; show 1 + _ = _; omega
def Sgs (r : Str) (n : Nat) : Prop := r.cps.size = n ∧ ∀ c ∈ r.cps.toList, c = 46 ∨ c = 35
theorem sgs_join {cs : List Nat} (h : ∀ c ∈ cs, c = 46 ∨ c = 35) : Sgs (Txt.join "" (cs.map one1)) cs.length := by
  have e := join_signs cs
  exact ⟨by rw [← Array.length_toList, e], by rw [e]; exact h⟩
theorem sgs_dot {r : Str} {n : Nat} (h : Sgs r n) : Sgs ("." ++ r) (n + 1) := by
  have e : (Str.ofString "." ++ r).cps = #[46] ++ r.cps := rfl
  constructor
  · rw [e, Array.size_append, h.1]; show 1 + n = n + 1; omega
  · rw [e, Array.toList_append]
    intro c hc
    rcases List.mem_append.mp hc with hc | hc
    · exact .inl (by simpa using hc)
    · exact h.2 c hc
theorem at935 {i : Int} (h0 : 0 ≤ i) (h : i < 3) : ∃ c : Int, atI [V.int 9, V.int 3, V.int 5] i = some (V.int c) ∧ 0 < c := by
  have c : i = 0 ∨ i = 1 ∨ i = 2 := by omega
  rcases c with rfl | rfl | rfl
  · exact ⟨9, rfl, by decide⟩
  · exact ⟨3, rfl, by decide⟩
  · exact ⟨5, rfl, by decide⟩
theorem at_dr {ds : List Int} (hl : ds.length = 60) (hg : Dg ds) {k : Int} (h0 : 0 ≤ k) (h1 : k < 60) : ∃ c, atI (ds.map V.int) k = some (.int c) ∧ 0 ≤ c ∧ c < 27720 := by
  obtain ⟨j, rfl⟩ := Int.eq_ofNat_of_zero_le h0
  have hj : j < ds.length := by omega
  have := hg ds[j] (List.getElem_mem hj)
  exact ⟨ds[j], atI_nat (by rw [List.getElem?_map, List.getElem?_eq_getElem hj]; rfl), this.1, this.2⟩
theorem cutD (xs : List V) (k : Nat) (j : Int) (e : j = (k : Nat)) : cutV xs (some j) none = xs.drop k := by
  subst e
  unfold cutV
  rw [HT.sIx_nat, HT.sIx_none]
  rcases Nat.le_total k xs.length with z | z
  · rw [Nat.min_eq_left z]
    exact List.take_of_length_le (by rw [List.length_drop]; exact Nat.le_refl _)
  · rw [Nat.min_eq_right z, List.drop_of_length_le (Nat.le_refl _), List.drop_of_length_le z]
    simp
theorem cut1 (cs : List Nat) : cutV (cs.map fun c => V.str (one1 c)) (some 1) none = (cs.drop 1).map fun c => V.str (one1 c) := by
  rw [List.map_drop]
  exact cutD _ 1 _ rfl
end RR
namespace KG
open PySem L2 Ry TH LS LC RM RR SR
open LB hiding spLow spLess spApart spTurn spMoved spMeet spTwo spCross spLL
section
variable {P : Program} {w : World} {K : PySem.W.Frag} {mg : Str → Option Value} {base : Heap} {f : Addr} {fd : FuncData}
abbrev sLR : Stmt := top 14
abbrev NLR : List Str := ["draws", "wide", "high", "rows", "y", "row", "x"]
theorem scLR : FnScope NLR ["draws"] (defScope sLR) := ⟨rfl, rfl, rfl, by decide +kernel, rfl, by decide +kernel, by decide +kernel⟩
theorem cLR (D : Df K mg "_law_room" sLR ["draws"]) (m_range : mg "range" = none) (m_int : mg "int" = none) (m_tuple : mg "tuple" = none) : Cal P w K mg base 1 "_law_room" ["draws"] spRoom := by
  refine D.cal fun f fd F' => F'.ok scLR (fun vs H Q E h => ?_) (fun cdv A outer s H vs Q E hr h => ?_)
  · obtain ⟨_, _, rfl, _⟩ := h
    rfl
  obtain ⟨dr, ds, rfl, hdr, hdl, hdg, q⟩ := h
  refine ⟨_, (pss_cons (ps_par (i := 1) (j := 2) (by rfl) scLR.nd rfl rfl (by decide) rfl rfl (pa_cons (pe_op op_add pe_int (pe_op op_mod (pe_ix ix_list (pv 0) pe_int (fun _ _ => rfl)) pe_int)) (pa_cons (pe_op op_add pe_int (pe_op op_mod (pe_ix ix_list (pv 0) pe_int (fun _ _ => rfl)) pe_int)) pa_nil)) (by rfl))
    (pss_cons (ps_set (i := 3) scLR.nd rfl (Or.inl rfl) (pe_lst pa_nil))
    (pss_cons (ps_for PassesOwn.never rfl (pi_range1 rfl m_range (pa_cons (pv 2) pa_nil)) (pg_name (i := 4) scLR.nd rfl (Or.inr rfl)) (pss_cons (ps_setLc (i := 5) (own := [("x", 6)]) (g := gName 6) (by rfl) scLR.nd rfl rfl (sw_true rfl rfl rfl (by decide +kernel)) (pi_range1 rfl m_range (pa_cons (pv 1) pa_nil)) (blkOk_by (own := [("x", 6)]) (N := ["draws", "wide", "high", "rows", "y", "row", "x"]) (sc := defScope sLR) (by decide +kernel)) (fun _ _ _ _ _ => (pg_name (i := 6) scLR.nd rfl (Or.inl rfl))) (fun _ _ _ _ _ => pts_nil) (fun _ _ _ _ _ => (pe_ix ix_str pe_str (pe_callTy call_int1 (by rfl) m_int (by decide +kernel) (pa_cons (pe_cmpR op_eq (pe_op op_mod (pe_ix (r := rIxL K) ix_list (pv 0) (pe_op op_add pe_int (pe_op op_mod (pe_op op_add (pe_op op_mul pe_int (pv 4)) (pv 6)) pe_int)) (fun _ _ => rfl)) (pe_ix (r := rIxL K) ix_list (pe_lst (pa_cons pe_int (pa_cons pe_int (pa_cons pe_int pa_nil)))) (pe_op op_mod (pe_ix (r := rIxL K) ix_list (pv 0) pe_int (fun _ _ => rfl)) pe_int) (fun _ _ => rfl))) pe_int (nomark _)) pa_nil)) (fun _ _ => rfl))))
    (pss_one (ps_expr (pe_bm PySem.F.plainAttrs_list PySem.F.slot_list_append PySem.F.type_list_append mt_append (pv 3) (pa_cons (pe_ifExp (pt_cmpR op_gt (pv 4) pe_int (nomark _)) (pe_join pe_str (pv 5)) (pe_op op_add_str pe_str (pe_join pe_str (pe_slice sl_list (pv 5) (po_some pe_int) po_none)))) pa_nil))))))
    (pss_one (ps_ret (pe_callTy call_tuple_of (by rfl) m_tuple (by decide +kernel) (pa_cons (pv 3) pa_nil))))))), ?_⟩
  obtain ⟨d0, hd0, d0a, d0b⟩ := at_dr hdl hdg (k := 0) (by decide) (by decide)
  obtain ⟨d1, hd1, d1a, d1b⟩ := at_dr hdl hdg (k := 1) (by decide) (by decide)
  obtain ⟨d39, hd39, d39a, d39b⟩ := at_dr hdl hdg (k := 39) (by decide) (by decide)
  refine ⟨_, rfl, dr, _, _, _, rfl, rfl, SqL.of hdr, hd0, _, _, rfl, rfl, (by show (0 : Int) < 6; decide), _, _, rfl, rfl, _, rfl, dr, _, _, _, rfl, rfl, SqL.of hdr, hd1, _, _, rfl, rfl, (by show (0 : Int) < 6; decide), _, _, rfl, rfl, _, _, rfl, ?_⟩
  obtain ⟨wide, ew, w0, w6⟩ : ∃ wide : Nat, 1 + d0 % 6 = (wide : Int) ∧ 1 ≤ wide ∧ wide ≤ 6 := ⟨(1 + d0 % 6).toNat, by omega, by omega, by omega⟩
  obtain ⟨high, eh, h0, h6⟩ : ∃ high : Nat, 1 + d1 % 6 = (high : Int) ∧ 1 ≤ high ∧ high ≤ 6 := ⟨(1 + d1 % 6).toNat, by omega, by omega, by omega⟩
  refine ⟨Nat.zero_le _, fun rl hrl => ?_⟩
  have s1 : Same H (blk (no rl) (upd H rl (.lst []))) := no_new hrl _
  refine ⟨_, rfl, _, rfl, by omega, by omega, ?_⟩
  rw [show (1 + d1 % 6).toNat = high by omega]
  refine for_range (n := high) (fun i σ H' => (∃ o4 o5 o6, σ = [some (.ref dr), some (.int (1 + d0 % 6)), some (.int (1 + d1 % 6)), some (.ref rl), o4, o5, o6]) ∧ Same H (blk (no rl) H') ∧ ∃ rows : List Str, H' rl = some (.lst (rows.map V.str)) ∧ rows.length = i ∧ ∀ r ∈ rows, Sgs r wide) ⟨⟨_, _, _, rfl⟩, s1, [], upd_same, rfl, fun r hr => (by cases hr)⟩ ?_ ?_
  · rintro i σ H1 hi ⟨⟨o4, o5, o6, rfl⟩, e1, rows, hrl1, hlen, hsg⟩
    have E1 := e1.trans no_sub
    refine ⟨_, rfl, _, rfl, by omega, by omega, fun D hD => ?_⟩
    rw [show (1 + d0 % 6).toNat = wide by omega]
    refine lc_range (n := wide) (fun j H' => Same H1 H' ∧ ∃ cs : List Nat, H' D = some (.lst (cs.map fun c => V.str (one1 c))) ∧ cs.length = j ∧ ∀ c ∈ cs, c = 46 ∨ c = 35) ⟨same_new hD _, [], upd_same, rfl, fun c hc => (by cases hc)⟩ ?_ ?_
    · rintro j H2 hj ⟨e2, cs, hD2, hcl, hcs⟩
      have E2 := E1.trans e2
      obtain ⟨dv, hdv, dva, dvb⟩ := at_dr hdl hdg (k := 2 + (6 * (0 + (i : Int)) + (0 + (j : Int))) % 37) (by omega) (by omega)
      obtain ⟨c9, hc9, c90⟩ := at935 (i := d39 % 3) (by omega) (by omega)
      refine ⟨rfl, ?_⟩
      refine ⟨_, rfl, _, rfl, _, _, rfl, rfl, .inl ⟨by decide, by decide⟩, _, rfl, _, _, rfl, rfl, _, _, rfl, rfl, (by show (0 : Int) < 37; decide), _, _, rfl, rfl, dr, _, _, _, rfl, rfl, SqL.of (E2 _ _ hdr), hdv, (by show 3 ≤ sizeLine; decide), fun fl hfl => ?_⟩
      have g2 := same_new hfl (.lst [.int 9, .int 3, .int 5])
      refine ⟨_, rfl, dr, _, _, _, rfl, rfl, SqL.of ((E2.trans g2) _ _ hdr), hd39, _, _, rfl, rfl, (by show (0 : Int) < 3; decide), fl, _, _, _, rfl, rfl, SqL.of upd_same, hc9, _, _, rfl, rfl, c90, rfl, .inr ⟨_, rfl, ?_⟩⟩
      have pick : ∃ c : Nat, atI (Str.ofString ".#").cps.toList (if decide (V.int (dv % c9) = V.int 0) = true then 1 else 0) = some c ∧ (c = 46 ∨ c = 35) := by
        by_cases z : decide (V.int (dv % c9) = V.int 0) = true
        · rw [if_pos z]; exact ⟨35, rfl, .inr rfl⟩
        · rw [if_neg z]; exact ⟨46, rfl, .inl rfl⟩
      obtain ⟨cc, hcc, hcc2⟩ := pick
      refine ⟨_, _, _, rfl, rfl, (by decide), hcc, _, g2 _ _ hD2, small6 (by rw [List.length_map]; omega), fun b o hb => ?_, cs ++ [cc], by rw [upd_same, List.map_append]; rfl, by rw [List.length_append, hcl]; rfl, fun c hc => ?_⟩
      · rw [upd_ne (ne_of_none hb hD)]; exact (e2.trans g2) b o hb
      · rcases List.mem_append.mp hc with hc | hc
        · exact hcs c hc
        · rw [List.mem_singleton] at hc; rw [hc]; exact hcc2
    · rintro H2 ⟨e2, cs, hD2, hcl, hcs⟩
      have hrl2 := e2 _ _ hrl1
      have fin : ∀ (r : Str) (H3 : Hp), Same H2 H3 → Sgs r wide → Same H (blk (no rl) (upd H3 rl (.lst (rows.map V.str ++ [.str r])))) ∧ ∃ rows' : List Str, upd H3 rl (.lst (rows.map V.str ++ [.str r])) rl = some (.lst (rows'.map V.str)) ∧ rows'.length = i + 1 ∧ ∀ r ∈ rows', Sgs r wide := fun r H3 e3 hr => by
        refine ⟨e1.trans ((blk_same (e2.trans e3)).trans (no_upd _)), rows ++ [r], by rw [upd_same, List.map_append]; rfl, by rw [List.length_append, hlen]; rfl, fun x hx => ?_⟩
        rcases List.mem_append.mp hx with hx | hx
        · exact hsg x hx
        · rw [List.mem_singleton] at hx; rw [hx]; exact hr
      have em : ∀ cs : List Nat, (cs.map fun c => V.str (one1 c)) = (cs.map one1).map V.str := fun cs => by rw [List.map_map]; rfl
      have sz : ∀ cs : List Nat, cs.length ≤ 6 → ((cs.map one1).map (·.length)).sum + (cs.map one1).length * (Str.ofString "").length ≤ 16777216 := fun cs h => by
        rw [sum_ones, show (Str.ofString "").length = 0 from rfl, Nat.mul_zero]; omega
      have hrs : (rows.map V.str).length < sizeLine := small6 (by rw [List.length_map]; omega)
      refine ⟨_, rfl, .inl ⟨rfl, _, SqL.of hrl2⟩, ?_⟩
      refine ⟨_, rfl, _, _, rfl, rfl, _, rfl, ?_⟩
      by_cases hi0 : (0 : Int) < 0 + (i : Int)
      · refine iteT' (decide_eq_true hi0) ⟨⟨_, rfl⟩, _, rfl, _, D, cs.map one1, rfl, rfl, .inl (SqL.of (by rw [← em]; exact hD2)), sz cs (by omega), rl, _, _, rfl, rfl, hrl2, hrs, ⟨_, _, _, rfl⟩, ?_⟩
        have := sgs_join hcs
        rw [hcl] at this
        exact fin _ H2 (Same.refl _) this
      · refine iteF' (decide_eq_false hi0) ⟨⟨_, rfl⟩, _, rfl, _, rfl, D, _, rfl, SqL.of hD2, fun L hL => ?_⟩
        rw [cut1]
        have g3 := same_new hL (.lst ((cs.drop 1).map fun c => V.str (one1 c)))
        have hsj := sgs_dot (sgs_join (cs := cs.drop 1) fun c hc => hcs c (List.mem_of_mem_drop hc))
        rw [List.length_drop, hcl, Nat.sub_add_cancel w0] at hsj
        refine ⟨_, L, (cs.drop 1).map one1, rfl, rfl, .inl (SqL.of (by rw [← em]; exact upd_same)), sz _ (by rw [List.length_drop]; omega), _, _, rfl, rfl, ?_, rl, _, _, rfl, rfl, g3 _ _ hrl2, hrs, ⟨_, _, _, rfl⟩, fin _ _ g3 hsj⟩
        have hz := (sgs_join (cs := cs.drop 1) fun c hc => hcs c (List.mem_of_mem_drop hc)).1
        have : (Txt.join "" ((cs.drop 1).map one1)).length = (cs.drop 1).length := hz
        rw [this, List.length_drop]
        exact small9 (by show 1 + _ ≤ _; omega)
  · rintro σ H1 ⟨⟨o4, o5, o6, rfl⟩, e1, rows, hrl1, hlen, hsg⟩
    refine ⟨_, rfl, rl, _, rfl, .inl ⟨SqL.of hrl1, fun t ht => q _ _ wide rows ((e1.trans no_sub).trans (same_new ht _)) ⟨t, rfl, upd_same⟩ ⟨by omega, by omega, w0, w6, fun r hr => (hsg r hr).1, fun r hr => (hsg r hr).2⟩⟩⟩
end
end KG

set_option Elab.async false
set_option linter.all false
set_option maxRecDepth 100000
set_option maxHeartbeats 4000000
namespace KM
open PySem PySem.W PySem.Spec PyProof.Rows PyProof.Rows.G
theorem out_any {R : Type} (d : R) {ps : List R} {p : Array Nat} (B : Bn ps.length p) {rk : R → Nat} (S : ∀ i j, i ≤ j → j < ps.length → rk (ps.getD (p.getD i 0) d) ≤ rk (ps.getD (p.getD j 0) d)) (val : R → Value) :
    ∃ qs : List R, qs.Perm ps ∧ qs.Pairwise (fun a b => rk a ≤ rk b) ∧ (p.map fun i => (ps.map val).getD i Value.none).toList = qs.map val := by
  refine ⟨p.toList.map fun i => ps.getD i d, ?_, ?_, ?_⟩
  · have h1 : (p.toList.map fun i => ps.getD i d).Perm ((List.range ps.length).map fun i => ps.getD i d) := (Array.perm_iff_toList_perm.mp B).map _
    refine h1.trans ?_
    have : ((List.range ps.length).map fun i => ps.getD i d) = ps := by
      apply List.ext_getElem
      · simp
      · intro i h1 h2
        simp at h1
        simp [List.getD_eq_getElem?_getD, h1]
    rw [this]
  · rw [List.pairwise_map]
    refine List.pairwise_iff_getElem.mpr fun i j hi hj hij => ?_
    rw [Array.length_toList, B.size] at hi hj
    have := S i j (by omega) hj
    have hs := B.size
    have g : ∀ k (hk : k < p.size), p.getD k 0 = p[k] := fun k hk => by simp [Array.getD, hk]
    rw [g i (by omega), g j (by omega)] at this
    simpa using this
  · rw [Array.toList_map, List.map_map]
    refine List.map_congr_left fun i hi => ?_
    have hlt : i < ps.length := by
      have := (Array.perm_iff_toList_perm.mp B).mem_iff.mp hi
      simpa using this
    simp [List.getD_eq_getElem?_getD, hlt]
end KM
namespace L2
open PySem PySem.W PySem.Spec PyProof.Rows PyProof.Rows.G KM
section
variable {X : Cx}
theorem ints2_of {its : List Value} {a b : Int} (h : Vals [V.int a, V.int b] its) : IntsAre its [a, b] := by
  cases h with
  | cons r t =>
    cases t with
    | cons r2 t2 =>
      cases t2
      obtain ⟨t1, rfl⟩ := r
      obtain ⟨t2, rfl⟩ := r2
      exact .cons _ _ (.cons _ _ .nil)
theorem qat_of {pins : List (Addr × Obj)} {σ : L2.St} {H : Hp} {s : Shared} {r : QR} (I : Inv X pins σ H s) (h1 : SqT X.K H r.2.1 [.ref r.2.2.1, .ref r.2.2.2]) (h2 : SqT X.K H r.2.2.1 [.int r.1.1.1, .int r.1.1.2]) (h3 : SqT X.K H r.2.2.2 [.int r.1.2.1, .int r.1.2.2]) : QAt s.heap r := by
  obtain ⟨its, r1, p1, _⟩ := I.tuple h1
  obtain ⟨i2, r2, p2, _⟩ := I.tuple h2
  obtain ⟨i3, r3, p3, _⟩ := I.tuple h3
  refine ⟨⟨_, p2, ints2_of r2⟩, ⟨_, p3, ints2_of r3⟩, ?_⟩
  cases r1 with
  | cons a t =>
    cases t with
    | cons b t2 =>
      cases t2
      cases a
      cases b
      exact p1
theorem q_refs : ∀ (ps : List QR) (its : List Value), Vals (ps.map fun p => V.ref p.2.1) its → its = ps.map fun p => Value.ref p.2.1
  | [], _, h => by cases h; rfl
  | p :: ps, _, h => by
    cases h with
    | cons r t => cases r; rw [q_refs ps _ t]; rfl
theorem refs_q : ∀ (ps : List QR), Vals (ps.map fun p => V.ref p.2.1) (ps.map fun p => Value.ref p.2.1)
  | [] => .nil
  | p :: ps => .cons rfl (refs_q ps)
def d0 : QR := (((0, 0), (0, 0)), 0, 0, 0)
def rSortedPP (K : PySem.W.Frag) : List V → Hp → VK → Prop := fun xs H Q => ∃ (a : Addr) (ps : List QR), xs = [.ref a] ∧ SqL K H a (ps.map fun p => .ref p.2.1) ∧ (∀ r ∈ ps, SqT K H r.2.1 [.ref r.2.2.1, .ref r.2.2.2] ∧ SqT K H r.2.2.1 [.int r.1.1.1, .int r.1.1.2] ∧ SqT K H r.2.2.2 [.int r.1.2.1, .int r.1.2.2]) ∧ ps.length ≤ 4000 ∧
  ∀ (qs : List QR) (p : Addr), qs.Perm ps → QUp (qs.map (·.1)) → H p = none → Q (.ref p) (upd H p (.lst (qs.map fun p => .ref p.2.1)))
theorem cr_sortedPP (hu : X.A.units + 8 < cLine) (hc : X.calm = true) : CallR X (.builtin "sorted") (rSortedPP X.K) := by
  intro pins s σ H vs us Q I r h
  obtain ⟨a, ps, rfl, ha, hts, h64, q⟩ := h
  rw [Vals.ref1 r]
  have ht : ∀ p ∈ ps, QAt s.heap p := fun p hp => qat_of I (hts p hp).1 (hts p hp).2.1 (hts p hp).2.2
  obtain ⟨its, rv, hL, _⟩ := I.list ha
  rw [q_refs ps its rv] at hL
  obtain ⟨o, ho, hcl, n, hd⟩ := hL.isList
  have hlen : (ps.map fun p => Value.ref p.2.1).length = ps.length := List.length_map _
  have hle4 : (ps.map fun p => Value.ref p.2.1).length ≤ sizeLine := by rw [hlen]; exact Nat.le_trans h64 (by decide)
  refine KS.shellU (Out := fun out => ∃ qs : List QR, qs.Perm ps ∧ QUp (qs.map (·.1)) ∧ out = qs.map fun p => Value.ref p.2.1) ho hcl (.inl rfl) hd hle4 (fun A' E s2 b P hun hk hle hob hP => ?_) (I.ok.hd hc) (fun h2 p out e hk hle hop hout => ?_)
  · have kt : KeepsTups s.heap (sortHeap6 s2.heap b (ps.map fun p => Value.ref p.2.1)) := fun c oc e hcc => keeps_sort6 hob c oc (hk c oc e) hcc
    have ht6 : ∀ p ∈ ps, QAt (sortHeap6 s2.heap b (ps.map fun p => Value.ref p.2.1)) p := fun p hp => (ht p hp).keep kt
    have hi0 : ∀ i, i < ps.length → ps.getD i d0 ∈ ps ∧ (ps.map fun p => Value.ref p.2.1).getD i Value.none = .ref (ps.getD i d0).2.1 := fun i hi => by
      have e : ps.getD i d0 = ps[i] := by simp [List.getD_eq_getElem?_getD, hi]
      exact ⟨by rw [e]; exact List.getElem_mem hi, by rw [e]; simp [List.getD_eq_getElem?_getD, hi]⟩
    refine sort_any (kd := tuples' false) (rk := fun i => rank qlt (ps.map (·.1)) (ps.getD i d0).1) hob hle4 (fun h2 {Q'} hq => ?_) (fun i j C hi hj z => ?_) fun p B S => ?_
    · rw [hlen] at h2
      exact kind_pp ht6 (fun z => by rw [z] at h2; simp at h2) hq
    · rw [hlen] at hi hj
      obtain ⟨m1, g1⟩ := hi0 i hi
      obtain ⟨m2, g2⟩ := hi0 j hj
      rw [g1, g2]
      rw [tot_q.rank (List.mem_map_of_mem m1) (List.mem_map_of_mem m2)] at z
      exact key_pp (ht6 _ m1) (ht6 _ m2) (by omega) z
    · rw [hlen] at B S
      obtain ⟨qs, q1, q2, q3⟩ := out_any d0 B (rk := fun r => rank qlt (ps.map (·.1)) r.1) S fun p => Value.ref p.2.1
      refine hP _ ⟨qs, q1, ?_, q3⟩
      show (qs.map (·.1)).Pairwise _
      rw [List.pairwise_map]
      refine q2.imp_of_mem fun {x y} hx hy z => ?_
      exact tot_q.le (List.mem_map_of_mem (q1.mem_iff.mp hx)) (List.mem_map_of_mem (q1.mem_iff.mp hy)) z
  · obtain ⟨qs, q1, q2, q3⟩ := hout
    have hl2 : (qs.map fun p => V.ref p.2.1).length ≤ sizeLine := by rw [List.length_map, q1.length_eq]; exact Nat.le_trans h64 (by decide)
    exact ⟨.ref _, upd H p (.lst (qs.map fun p => .ref p.2.1)), I.laid (o := .lst (qs.map fun p => .ref p.2.1)) (t' := s.toks) hk hle ⟨hl2, out.toList, e, by rw [q3]; exact refs_q qs, hop⟩, rfl, q qs _ q1 q2 (I.hok.fresh hle)⟩
end
end L2

set_option Elab.async false
set_option linter.all false
set_option maxRecDepth 100000
set_option maxHeartbeats 4000000
/-! rooms made of rows of signs -/
namespace RM
open PySem LS KM
def RmT (n : Nat) (f : Nat → List Nat) : List Str := (List.range n).map fun j => (⟨(f j).toArray⟩ : Str)
theorem rmT_len {n : Nat} {f : Nat → List Nat} : (RmT n f).length = n := by simp [RmT]
theorem rmT_at {n : Nat} {f : Nat → List Nat} {j : Nat} (h : j < n) : (RmT n f)[j]? = some (⟨(f j).toArray⟩ : Str) := by simp [RmT, h]
theorem rom_T {n wide : Nat} {f : Nat → List Nat} (h0 : 1 ≤ n) (h6 : n ≤ 6) (w0 : 1 ≤ wide) (w6 : wide ≤ 6) (hf : ∀ j, j < n → (f j).length = wide ∧ ∀ c ∈ f j, c = 46 ∨ c = 35) : Rom wide (RmT n f) := by
  refine ⟨by rw [rmT_len]; exact h0, by rw [rmT_len]; exact h6, w0, w6, fun r hr => ?_, fun r hr => ?_⟩
  · obtain ⟨j, hj, rfl⟩ := List.mem_map.mp hr
    have := (hf j (List.mem_range.mp hj)).1
    simpa using this
  · obtain ⟨j, hj, rfl⟩ := List.mem_map.mp hr
    exact (hf j (List.mem_range.mp hj)).2
theorem sgn_T {n : Nat} {f : Nat → List Nat} {x y : Nat} (h : y < n) : sgn (RmT n f) x y = (f y)[x]? := by
  unfold sgn
  rw [rmT_at h]
  simp
/-- a row's signs -/
def sgs (rows : List Str) (j : Nat) : List Nat := ((rows[j]?).map fun r => r.cps.toList).getD []
theorem sgs_at {rows : List Str} {j : Nat} (h : j < rows.length) : sgs rows j = (rows[j]).cps.toList := by simp [sgs, h]
theorem sgs_get {rows : List Str} {x y : Nat} (h : y < rows.length) : (sgs rows y)[x]? = sgn rows x y := by
  rw [sgs_at h]
  unfold sgn
  rw [List.getElem?_eq_getElem h]
  simp
theorem sgs_ok {rows : List Str} {wide : Nat} (rom : Rom wide rows) {j : Nat} (h : j < rows.length) : (sgs rows j).length = wide ∧ ∀ c ∈ sgs rows j, c = 46 ∨ c = 35 := by
  rw [sgs_at h]
  exact ⟨by rw [Array.length_toList]; exact rom.len _ (List.getElem_mem h), rom.sg _ (List.getElem_mem h)⟩
/-- one sign put -/
def putS (rows : List Str) (x y k : Nat) (j : Nat) : List Nat := if j = y then (sgs rows j).set x k else sgs rows j
theorem put_ok {rows : List Str} {wide x y k : Nat} (rom : Rom wide rows) (hk : k = 46 ∨ k = 35) {j : Nat} (h : j < rows.length) : (putS rows x y k j).length = wide ∧ ∀ c ∈ putS rows x y k j, c = 46 ∨ c = 35 := by
  obtain ⟨a, b⟩ := sgs_ok rom h
  unfold putS
  split
  · refine ⟨by rw [List.length_set]; exact a, fun c hc => ?_⟩
    rcases List.mem_or_eq_of_mem_set hc with h | h
    · exact b c h
    · rw [h]; exact hk
  · exact ⟨a, b⟩
def putR (rows : List Str) (x y k : Nat) : List Str := RmT rows.length (putS rows x y k)
theorem putR_rom {rows : List Str} {wide x y k : Nat} (rom : Rom wide rows) (hk : k = 46 ∨ k = 35) : Rom wide (putR rows x y k) := rom_T rom.h0 rom.h6 rom.w0 rom.w6 fun j hj => put_ok rom hk hj
theorem putR_sgn {rows : List Str} {wide x y k : Nat} (rom : Rom wide rows) (hx : x < wide) {a b : Nat} (hb : b < rows.length) : sgn (putR rows x y k) a b = if a = x ∧ b = y then some k else sgn rows a b := by
  unfold putR
  rw [sgn_T hb]
  unfold putS
  have hl := (sgs_ok rom hb).1
  by_cases h : b = y
  · rw [if_pos h, List.getElem?_set]
    by_cases h2 : x = a
    · rw [if_pos h2, if_pos (by omega), if_pos ⟨h2.symm, h⟩]
    · rw [if_neg h2, if_neg (fun z => h2 z.1.symm), sgs_get hb]
  · rw [if_neg h, if_neg (fun z => h z.2), sgs_get hb]
theorem put_open {rows : List Str} {wide x y : Nat} (rom : Rom wide rows) (hx : x < wide) {p : P4} (h : p ∈ pairsM rows wide) : p ∈ pairsM (putR rows x y 46) wide := by
  have hl : (putR rows x y 46).length = rows.length := rmT_len
  refine pairs_more (fun p => ?_) (fun p => ?_) h
  · rintro ⟨a, b, ha, hb, hs, rfl⟩
    refine ⟨a, b, ha, by omega, ?_, rfl⟩
    rw [putR_sgn rom hx hb]
    split
    · rfl
    · exact hs
  · rintro ⟨a, b, ha, hb, hs, rfl⟩
    rw [hl] at hb
    rw [putR_sgn rom hx hb] at hs
    split at hs
    · cases hs
    · exact ⟨a, b, ha, hb, hs, rfl⟩
theorem put_shut {rows : List Str} {wide x y : Nat} (rom : Rom wide rows) (hx : x < wide) {p : P4} (h : p ∈ pairsM (putR rows x y 35) wide) : p ∈ pairsM rows wide := by
  have hl : (putR rows x y 35).length = rows.length := rmT_len
  refine pairs_more (fun p => ?_) (fun p => ?_) h
  · rintro ⟨a, b, ha, hb, hs, rfl⟩
    rw [hl] at hb
    rw [putR_sgn rom hx hb] at hs
    split at hs
    · cases hs
    · exact ⟨a, b, ha, hb, hs, rfl⟩
  · rintro ⟨a, b, ha, hb, hs, rfl⟩
    refine ⟨a, b, ha, by omega, ?_, rfl⟩
    rw [putR_sgn rom hx hb]
    split
    · rfl
    · exact hs
/-- mirrored -/
def mirR (rows : List Str) : List Str := RmT rows.length fun j => (sgs rows j).reverse
theorem mirR_rom {rows : List Str} {wide : Nat} (rom : Rom wide rows) : Rom wide (mirR rows) := rom_T rom.h0 rom.h6 rom.w0 rom.w6 fun j hj => by
  obtain ⟨a, b⟩ := sgs_ok rom hj
  exact ⟨by rw [List.length_reverse]; exact a, fun c hc => b c (List.mem_reverse.mp hc)⟩
theorem mir_on {rows : List Str} {wide : Nat} (rom : Rom wide rows) {k : Nat} {p : Cell} : On rows wide k p → On (mirR rows) wide k (mir wide p) := by
  rintro ⟨a, b, ha, hb, hs, rfl⟩
  have hl := (sgs_ok rom hb).1
  refine ⟨wide - 1 - a, b, by omega, by unfold mirR; rw [rmT_len]; exact hb, ?_, ?_⟩
  · unfold mirR
    rw [sgn_T hb, List.getElem?_reverse (by omega), hl, ← sgs_get hb] at *
    rw [show wide - 1 - (wide - 1 - a) = a by omega]; exact hs
  · unfold mir
    exact Prod.ext (by dsimp only; omega) rfl
theorem mir_on' {rows : List Str} {wide : Nat} (rom : Rom wide rows) {k : Nat} {p : Cell} : On (mirR rows) wide k p → On rows wide k (mir wide p) := by
  rintro ⟨a, b, ha, hb, hs, rfl⟩
  have hb : b < rows.length := by unfold mirR at hb; rw [rmT_len] at hb; exact hb
  have hl := (sgs_ok rom hb).1
  refine ⟨wide - 1 - a, b, by omega, hb, ?_, ?_⟩
  · unfold mirR at hs
    rw [sgn_T hb, List.getElem?_reverse (by omega), hl, sgs_get hb] at hs
    exact hs
  · unfold mir
    exact Prod.ext (by dsimp only; omega) rfl
theorem pairs_mir {rows : List Str} {wide : Nat} (rom : Rom wide rows) {l : List P4} (h1 : QUp l) (hp : l.Perm ((pairsM rows wide).map fun p => (mir wide p.1, mir wide p.2))) : l = pairsM (mirR rows) wide :=
  pairs_thru mir_mir mir_mir (fun _ _ _ => btw_mir) (fun _ _ => mir_on rom) (fun _ _ => mir_on' rom) h1 hp
/-- turned over -/
def ovrS (rows : List Str) (x : Nat) : List Nat := (List.range rows.length).map fun y => (sgn rows x y).getD 0
def ovrR (rows : List Str) (wide : Nat) : List Str := RmT wide (ovrS rows)
theorem sgn_in {rows : List Str} {wide : Nat} (rom : Rom wide rows) {x y : Nat} (hx : x < wide) (hy : y < rows.length) : ∃ c, sgn rows x y = some c ∧ (c = 46 ∨ c = 35) := by
  obtain ⟨a, b⟩ := sgs_ok rom hy
  rw [← sgs_get hy, List.getElem?_eq_getElem (by omega)]
  exact ⟨_, rfl, b _ (List.getElem_mem _)⟩
theorem ovrR_rom {rows : List Str} {wide : Nat} (rom : Rom wide rows) : Rom rows.length (ovrR rows wide) := rom_T rom.w0 rom.w6 rom.h0 rom.h6 fun x hx => by
  refine ⟨by simp [ovrS], fun c hc => ?_⟩
  obtain ⟨y, hy, rfl⟩ := List.mem_map.mp hc
  obtain ⟨c, e, h⟩ := sgn_in rom hx (List.mem_range.mp hy)
  rw [e]; exact h
theorem ovr_sgn {rows : List Str} {wide : Nat} (rom : Rom wide rows) {x y : Nat} (hx : x < wide) (hy : y < rows.length) : sgn (ovrR rows wide) y x = sgn rows x y := by
  unfold ovrR
  rw [sgn_T hx]
  obtain ⟨c, e, h⟩ := sgn_in rom hx hy
  unfold ovrS
  rw [List.getElem?_map, List.getElem?_range hy, Option.map_some, e]
  rfl
theorem ovr_on {rows : List Str} {wide : Nat} (rom : Rom wide rows) {k : Nat} {p : Cell} : On rows wide k p → On (ovrR rows wide) rows.length k (swp p) := by
  rintro ⟨a, b, ha, hb, hs, rfl⟩
  exact ⟨b, a, hb, by unfold ovrR; rw [rmT_len]; exact ha, by rw [ovr_sgn rom ha hb]; exact hs, rfl⟩
theorem ovr_on' {rows : List Str} {wide : Nat} (rom : Rom wide rows) {k : Nat} {p : Cell} : On (ovrR rows wide) rows.length k p → On rows wide k (swp p) := by
  rintro ⟨a, b, ha, hb, hs, rfl⟩
  have hb : b < wide := by unfold ovrR at hb; rw [rmT_len] at hb; exact hb
  exact ⟨b, a, hb, ha, by rw [← ovr_sgn rom hb ha]; exact hs, rfl⟩
theorem pairs_ovr {rows : List Str} {wide : Nat} (rom : Rom wide rows) {l : List P4} (h1 : QUp l) (hp : l.Perm ((pairsM rows wide).map fun p => (swp p.1, swp p.2))) : l = pairsM (ovrR rows wide) rows.length :=
  pairs_thru swp_swp swp_swp (fun _ _ _ => btw_swp) (fun _ _ => ovr_on rom) (fun _ _ => ovr_on' rom) h1 hp
/-- an empty room -/
def empR (wide n : Nat) : List Str := RmT n fun _ => List.replicate wide 46
theorem empR_rom {wide n : Nat} (h0 : 1 ≤ n) (h6 : n ≤ 6) (w0 : 1 ≤ wide) (w6 : wide ≤ 6) : Rom wide (empR wide n) := rom_T h0 h6 w0 w6 fun j _ => ⟨List.length_replicate, fun c hc => .inl (List.eq_of_mem_replicate hc)⟩
theorem emp_pairs {wide n : Nat} (h6 : n ≤ 6) (w6 : wide ≤ 6) : (pairsM (empR wide n) wide).length = wide * n * (wide * n - 1) := by
  have d : ∀ n, n ≤ 6 → ∀ wide, wide ≤ 6 → (pairsM (empR wide n) wide).length = wide * n * (wide * n - 1) := by decide +kernel
  exact d n h6 wide w6
end RM

set_option Elab.async false
set_option linter.all false
set_option maxRecDepth 100000
set_option maxHeartbeats 4000000
/-! {e for target in iter if ..}: sets of ints and texts -/
namespace L2
open PySem PySem.Spec PyProof.Rows
section
variable {X : Cx}
end
end L2

set_option Elab.async false
set_option linter.all false
set_option maxRecDepth 100000
set_option maxHeartbeats 4000000
/-! [..] == [], t * n of tuples, t[a:b] that may be the whole -/
namespace L2
open PySem PySem.Spec PyProof.Rows
section
variable {X : Cx}
end
end L2
namespace TR
open PySem PySem.Spec PyProof.Rows Builtin
theorem noFill_tuple_mul : fillsNumberSlot (.type "tuple") "mul" = pure false :=
  PySem.fillsNumberSlot_seq (id := "tuple.__mul__") (r := some (.builtin "tuple.__rmul__")) PySem.F.slot_tuple_mul.lookup (by decide +kernel) PySem.F.slot_tuple_rmul.lookup (by decide +kernel)
theorem repeat_tuple : seqRepeat? (.type "tuple") = pure (some (.builtin "tuple.__mul__")) := by
  unfold seqRepeat?
  rw [PySem.seqSlot_of (T := "tuple") (name := "__mul__") (id := "tuple.__mul__") PySem.F.slot_tuple_mul.lookup (by decide +kernel), PySem.seqSlot_of (T := "tuple") (name := "__rmul__") (id := "tuple.__rmul__") PySem.F.slot_tuple_rmul.lookup (by decide +kernel)]
  rfl
theorem int_rmul_tup (a : Int) (t : Tok) (l : Addr) (items : Array Value) (n : Nat) (d : Option Addr) (sl : Array (Option Value)) :
    Meets (Builtin.«int.__rmul__» ⟨[.int a t, .ref l], []⟩) (fun _ R s => s.heap.get? l = some { cls := .type "tuple", dict := d, data := .seq items n, slots := sl } ∧ R (.ok (.ret Value.notImplemented)) s) :=
  .of_wp fun prog w A R s h => by obtain ⟨hp, g, d, tk, os⟩ := s; obtain ⟨hl, h⟩ := h; wp_walk; exact ⟨_, rfl, h⟩
section
variable {prog : Program} {w : World} {A : Around} {E : Value → Shared → Prop} {s : Shared}
theorem tup_mul {t : Addr} {items : Array Value} {k : Int} {u : Tok} {Q : Value → Shared → Prop} (ht : PyProof.Rows.IsTup s.heap t items) (h1 : 1 < k) (h2 : k < 1000) (hne : items.isEmpty = false) (hz : items.size * k.toNat ≤ sizeLine)
    (h : Q (.ref s.heap.objs.size) { s with heap := s.heap.push { cls := .type "tuple", data := .seq ((List.replicate k.toNat items).foldl (· ++ ·) #[]) } }) :
    wpAny (model prog w) A (call (.builtin "tuple.__mul__") [.ref t, .int k u]) Q E s := by
  refine wpAny_call_entry PySem.F.slot_tuple_mul ht.typeIs PySem.F.entry_tuple_mul ?_ (PySem.F.args_tuple_mul_2 _ _)
  show wpAny _ _ (asIndex (.int k u) >>= _) _ _ s
  refine wpAny_bind (wpAny_of_eq (a := k) rfl ?_)
  have c1 : (decide (k < -(2 ^ 63)) || decide (k ≥ 2 ^ 63)) = false := by
    rw [decide_eq_false (by omega), decide_eq_false (by omega)]; rfl
  show wpAny _ _ (if (decide (k < -(2 ^ 63)) || decide (k ≥ 2 ^ 63)) = true then _ else _) _ _ s
  rw [c1, if_neg Bool.false_ne_true]
  refine wpAny_bind (tupleItemsOf_ ht ?_)
  have c2 : (items.isEmpty || k == 1) = false := by
    rw [hne, Bool.false_or]
    exact beq_eq_false_iff_ne.mpr (by omega)
  show wpAny _ _ (if (items.isEmpty || k == 1) = true then _ else _) _ _ s
  rw [c2, if_neg Bool.false_ne_true]
  have c3 : (decide (k ≤ 0) || items.isEmpty) = false := by rw [hne, decide_eq_false (by omega)]; rfl
  show wpAny _ _ (if (decide (k ≤ 0) || items.isEmpty) = true then _ else _) _ _ s
  rw [c3, if_neg Bool.false_ne_true]
  have hzz : ((items.size : Int)) * k ≤ (sizeLine : Int) := by
    have : (k.toNat : Int) = k := by omega
    rw [← this]
    exact_mod_cast hz
  have hsl : (sizeLine : Int) ≤ (2 ^ 63 - 1) / 8 := by decide
  show wpAny _ _ (if (items.size : Int) * k > (2 ^ 63 - 1) / 8 then _ else _) _ _ s
  rw [if_neg (by omega)]
  have c4 : Builtin.Tuple.tupleTooMany ((items.size : Int) * k) = false := by
    unfold Builtin.Tuple.tupleTooMany
    exact decide_eq_false (by omega)
  show wpAny _ _ (if Builtin.Tuple.tupleTooMany ((items.size : Int) * k) = true then _ else _) _ _ s
  rw [c4, if_neg Bool.false_ne_true]
  have hlen : ((List.replicate k.toNat items).foldl (· ++ ·) #[]).size ≤ sizeLine := by
    have f0 : ∀ (m : Nat) (acc : Array Value), ((List.replicate m items).foldl (· ++ ·) acc).size = acc.size + m * items.size := fun m => by
      induction m with
      | zero => intro acc; simp
      | succ m ih => intro acc; rw [List.replicate_succ, List.foldl_cons, ih, Array.size_append, Nat.succ_mul]; omega
    rw [f0, Nat.mul_comm]; simpa using hz
  first
    | exact wpAny_bind (m := Builtin.Tuple.tupleExact _) (wpAny_newObj_type (wpAny_pure ⟨_, rfl, h⟩) hlen)
    | exact wpAny_bind (m := Builtin.Tuple.tupleExact _) (wpAny_newObj_type (wpAny_pure (wpAny_pure ⟨_, rfl, h⟩)) hlen)
    | exact wpAny_bind (m := Builtin.Tuple.tupleExact _) (wpAny_newObj_type (wpAny_bind (wpAny_pure (wpAny_pure ⟨_, rfl, h⟩))) hlen)
end
end TR
namespace L2
open PySem PySem.Spec PyProof.Rows
section
variable {X : Cx}
theorem fold_rep (its : List Value) : ∀ (m : Nat) (acc : List Value), List.foldl (fun x1 x2 => x1 ++ x2) acc.toArray (List.replicate m its.toArray) = (acc ++ (List.replicate m its).flatten).toArray
  | 0, acc => by simp
  | m + 1, acc => by
    rw [List.replicate_succ, List.foldl_cons, List.replicate_succ, List.flatten_cons, ← List.append_assoc]
    have : acc.toArray ++ its.toArray = (acc ++ its).toArray := by simp
    rw [this]
    exact fold_rep its m (acc ++ its)
def rRepT (K : PySem.W.Frag) : R2 := fun x y H Q => ∃ a k xs, x = .ref a ∧ y = .int k ∧ SqT K H a xs ∧ 1 < k ∧ k < 1000 ∧ xs ≠ [] ∧ xs.length * k.toNat ≤ sizeLine ∧ ∀ p, H p = none → Q (.ref p) (upd H p (.tup (List.replicate k.toNat xs).flatten))
theorem op_repT : OpR X (binaryOp .Mult) (rRepT X.K) := by
  intro pins s σ H x y v u Q I rx ry h
  obtain ⟨a, k, xs, rfl, rfl, hH, h1, h2, hne, hz, q⟩ := h
  cases rx
  obtain ⟨t, rfl⟩ := ry
  obtain ⟨its, r, ht, hzz⟩ := I.tuple hH
  have hlen := r.length
  obtain ⟨o, ho, hc, n, hd⟩ := id ht
  obtain ⟨cls, dd, data, sl⟩ := o
  simp only at hc hd
  subst hc hd
  refine wpAny_binaryOp_repeat_ref (T := "tuple") (U := "int") (by decide) ⟨_, ho, rfl⟩ (fun s' => typeIs_int s' k t) TR.noFill_tuple_mul PySem.F.fills_int_mul PySem.F.slot_int_rmul TR.repeat_tuple PySem.F.slot_int_index.lookup
    (call_meets PySem.F.slot_int_rmul (typeIs_int s k t) PySem.F.entry_int_rmul (PySem.F.args_int_rmul_2 _ _) (TR.int_rmul_tup k t a its.toArray n dd sl)
      ⟨ho, rfl, ⟨_, ho, rfl⟩, TR.tup_mul ht h1 h2 ?_ (by rw [List.size_toArray, ← hlen]; exact hz) ?_⟩)
  · cases its with
    | nil => cases r; exact absurd rfl hne
    | cons _ _ => simp
  · have e := fold_rep its k.toNat []
    rw [List.nil_append] at e
    rw [show (List.foldl (fun x1 x2 => x1 ++ x2) #[] (List.replicate k.toNat its.toArray)) = (List.replicate k.toNat its).flatten.toArray from e]
    have hl : (List.replicate k.toNat xs).flatten.length ≤ sizeLine := by rw [len_rep, Nat.mul_comm]; exact hz
    exact ⟨.ref s.heap.objs.size, _, I.laid (t' := s.toks) (o := .tup (List.replicate k.toNat xs).flatten) (fun b ob q => Heap.get?_push_of_some _ q) (Nat.le_refl _) ⟨hl, _, r.rep _, IsTup.new _ _⟩, rfl, q _ (I.hok.fresh (Nat.le_refl _))⟩
end
end L2
namespace HT
open PySem PySem.Spec PyProof.Rows
section
variable {prog : Program} {w : World} {A : Around} {E : Value → Shared → Prop} {s : Shared}
end
end HT
namespace L2
open PySem PySem.Spec PyProof.Rows
section
variable {X : Cx}
end
end L2

set_option Elab.async false
set_option linter.all false
set_option maxRecDepth 100000
set_option maxHeartbeats 4000000
/-! texts turned over, list(text), text * n, tuple * n, sorted pairs of pairs -/
namespace L2
open PySem PySem.Spec PyProof.Rows
theorem rev_text (z : Str) : ((Builtin.Str.strSliceIndices none none (-1) z.length).filterMap (z.cps[·]?)).toArray = z.cps.toList.reverse.toArray := by
  have e : Builtin.Str.strSliceIndices none none (-1) z.length = sliceRange ((z.cps.size : Int) - 1) (-1) (-1) := rfl
  rw [e, PySem.W.krv_sliceRange, PySem.W.krv_range, List.filterMap_reverse, PySem.W.krv_all]
abbrev revT (z : Str) : Str := ⟨z.cps.toList.reverse.toArray⟩
def tRevS (te ts : TE) : TE := fun σ H Q => te σ H fun x H1 => ts σ H1 fun y H2 => y = .int (-1) ∧ ∃ z, x = .str z ∧ z.length ≤ sizeLine ∧ Q (.str (revT z)) H2
theorem pe_revS {X : Cx} {e st : Expr} {te ts : TE} {pos p2 : Pos} (he : PE X e te) (hst : PE X st ts) : PE X (.Subscript e (.Slice none none (some st) p2) pos) (tRevS te ts) := by
  intro pins s σ H Q I h
  refine Subscript_ (thn (he pins s σ H _ I h) fun v s1 ⟨x, H1, I1, r1, q1⟩ => ?_)
  refine wpAny_Slice ?_
  rw [evalPart_none]
  refine wpAny_pure (wpAny_pure ?_)
  rw [evalPart_some]
  refine thn (hst pins s1 σ H1 _ I1 q1) fun u s2 ⟨y, H2, I2, r2, q2⟩ => ?_
  obtain ⟨rfl, z, rfl, hz, q⟩ := q2
  obtain ⟨t, rfl⟩ := r2
  obtain ⟨tz, rfl⟩ := r1
  have I3 : Inv X pins σ H2 { s2 with heap := s2.heap.push { cls := .type "slice", data := .fields #[.none, .none, .int (-1) t] } } := I2.kept (t' := s2.toks) fun b ob q => Heap.get?_push_of_some _ q
  have hs : (s2.heap.push { cls := .type "slice", data := .fields #[.none, .none, .int (-1) t] }).IsSlice s2.heap.objs.size none none (some (-1, t)) := ⟨_, Heap.get?_push_size _ rfl, rfl, rfl⟩
  show wpAny (model X.prog X.w) X.A (subscriptTail e (.Slice none none (some st) p2) (.str z tz) (.ref s2.heap.objs.size)) (EP X pins σ Q) X.xe { s2 with heap := s2.heap.push { cls := .type "slice", data := .fields #[.none, .none, .int (-1) t] } }
  generalize hS : ({ s2 with heap := s2.heap.push { cls := .type "slice", data := .fields #[.none, .none, .int (-1) t] } } : Shared) = s3 at I3 ⊢
  have hs3 : s3.heap.IsSlice s2.heap.objs.size none none (some (-1, t)) := by rw [← hS]; exact hs
  refine tail_any (ops := [.str z tz, .ref s2.heap.objs.size]) (typeIs_str _ _ _) PySem.F.slot_str_getitem.lookup (wpAny_getItem_str_slice (l := none) (u := none) (st := some (-1, t)) hs3 rfl ?_) (by with_unfolding_all rfl)
  show Made.post (if ((-1 : Int) == 1 && (Builtin.Str.strSliceIndices none none (-1) z.length).length == z.length) = true then Made.val (.str z tz) else Made.str ⟨((Builtin.Str.strSliceIndices none none (-1) z.length).filterMap (z.cps[·]?)).toArray⟩) (EP X pins σ Q) s3
  rw [if_neg (by simp), rev_text]
  refine ⟨?_, .str _, H2, I3.tok _, ⟨_, rfl⟩, q⟩
  show (z.cps.toList.reverse.toArray).size ≤ sizeLine
  rw [List.size_toArray, List.length_reverse, Array.length_toList]
  exact hz
section
variable {X : Cx}
theorem signs_vals {z : Str} : ∀ {n : Nat} {acc : Array Value}, ItemsOf (SignAt z) acc n → n = z.cps.size → Vals (z.cps.toList.map fun c => V.str ⟨#[c]⟩) acc.toList := fun {n acc} h hn => by
  obtain ⟨h1, h2⟩ := h
  have key : ∀ (l : List Nat) (vs : List Value), l.length = vs.length → (∀ (i : Nat) (v : Value), vs[i]? = some v → ∃ (c : Nat) (u : Tok), l[i]? = some c ∧ v = Value.str ⟨#[c]⟩ u) → Vals (l.map fun c => V.str ⟨#[c]⟩) vs := fun l => by
    induction l with
    | nil =>
      intro vs hl _
      cases vs with
      | nil => exact .nil
      | cons _ _ => cases hl
    | cons c l ih =>
      intro vs hl hv
      cases vs with
      | nil => cases hl
      | cons v vs =>
        obtain ⟨c', u, hc, rfl⟩ := hv 0 v rfl
        cases hc
        exact .cons ⟨u, rfl⟩ (ih vs (by simpa using hl) fun i v hi => hv (i + 1) v hi)
  refine key _ _ (by rw [Array.length_toList, Array.length_toList, h1, hn]) fun i v hi => ?_
  rw [Array.getElem?_toList] at hi
  obtain ⟨c, u, hc, e⟩ := h2 i v hi
  exact ⟨c, u, by rw [Array.getElem?_toList]; exact hc, e⟩
theorem call_listS (hc : X.calm = true) : CallR X (.type "list") (fun xs H Q => ∃ z, xs = [.str z] ∧ z.length ≤ sizeLine ∧ ∀ p, H p = none → Q (.ref p) (upd H p (.lst (z.cps.toList.map fun c => V.str ⟨#[c]⟩)))) := by
  intro pins s σ H vs us Q I r h
  obtain ⟨z, rfl, hz, q⟩ := h
  obtain ⟨u, rfl, t, rfl⟩ := vals1 r
  refine call_list_str (I.ok.hd hc) z t (fun h' tk acc c' hk hS hacc => ?_) hz
  have hl : (z.cps.toList.map fun c => V.str ⟨#[c]⟩).length ≤ sizeLine := by rw [List.length_map, Array.length_toList]; exact hz
  exact ⟨.ref _, upd H s.heap.objs.size (.lst (z.cps.toList.map fun c => V.str ⟨#[c]⟩)), I.laid (t' := tk) hk (Nat.le_refl _) ⟨hl, acc.toList, c', signs_vals hacc rfl, hS⟩, rfl, q _ I.fresh⟩
abbrev repS (c k : Nat) : Str := ⟨(List.replicate k c).toArray⟩
theorem fold_one (c : Nat) : ∀ (m : Nat) (acc : List Nat), List.foldl (fun x1 x2 => x1 ++ x2) acc.toArray (List.replicate m #[c]) = (acc ++ List.replicate m c).toArray
  | 0, acc => by simp
  | m + 1, acc => by
    rw [List.replicate_succ, List.foldl_cons, List.replicate_succ]
    have : acc.toArray ++ #[c] = (acc ++ [c]).toArray := by simp
    rw [this, fold_one c m (acc ++ [c])]
    simp
theorem op_mulS : OpR X (binaryOp .Mult) (fun x y H Q => ∃ c k, x = .str ⟨#[c]⟩ ∧ y = .int k ∧ 1 ≤ k ∧ k ≤ 1000 ∧ Q (.str (repS c k.toNat)) H) := by
  intro pins s σ H x y v u Q I rx ry h
  obtain ⟨c, k, rfl, rfl, h1, h2, q⟩ := h
  obtain ⟨t, rfl⟩ := rx
  obtain ⟨t', rfl⟩ := ry
  have hlen : (⟨#[c]⟩ : Str).length = 1 := rfl
  refine PySem.P.mul_str (by rw [decide_eq_false (by omega), decide_eq_false (by omega)]; rfl) (fun _ _ => ?_) (fun _ _ => ?_) ?_
  · rw [hlen]
    have : (1 : Int) ≤ (2 ^ 63 - 1) / k := by
      rw [Int.le_ediv_iff_mul_le (by omega)]
      omega
    omega
  · rw [hlen]
    unfold Builtin.Str.tooLong
    rw [Nat.one_mul]
    exact decide_eq_false (by rw [sizeLine_eq]; omega)
  · rw [if_neg (by omega)]
    by_cases hk : k = 1
    · subst hk
      rw [if_pos (by rfl)]
      exact ⟨.str _, H, I, ⟨t, rfl⟩, q⟩
    · have c1 : (k == 1 || (⟨#[c]⟩ : Str).length == 0) = false := by
        rw [hlen, Bool.or_eq_false_iff]
        exact ⟨beq_eq_false_iff_ne.mpr hk, rfl⟩
      rw [c1, if_neg Bool.false_ne_true]
      have e := fold_one c k.toNat []
      rw [List.nil_append] at e
      rw [show (List.foldl (fun x1 x2 => x1 ++ x2) #[] (List.replicate k.toNat (⟨#[c]⟩ : Str).cps)) = (List.replicate k.toNat c).toArray from e]
      refine ⟨?_, .str _, H, I.tok _, ⟨_, rfl⟩, q⟩
      show (List.replicate k.toNat c).toArray.size ≤ sizeLine
      rw [List.size_toArray, List.length_replicate, sizeLine_eq]
      omega
/-- t * n, n at least 1 -/
def rRepU (K : PySem.W.Frag) : R2 := fun x y H Q => ∃ a k xs, x = .ref a ∧ y = .int k ∧ SqT K H a xs ∧ 1 ≤ k ∧ k < 1000 ∧ xs ≠ [] ∧ xs.length * k.toNat ≤ sizeLine ∧ (k = 1 → Q (.ref a) H) ∧ (1 < k → ∀ p, H p = none → Q (.ref p) (upd H p (.tup (List.replicate k.toNat xs).flatten)))
theorem op_repU : OpR X (binaryOp .Mult) (rRepU X.K) := by
  intro pins s σ H x y v u Q I rx ry h
  obtain ⟨a, k, xs, rfl, rfl, hH, h1, h2, hne, hz, q1, q2⟩ := h
  by_cases hk : k = 1
  · subst hk
    cases rx
    obtain ⟨t, rfl⟩ := ry
    obtain ⟨its, r, ht, hzz⟩ := I.tuple hH
    obtain ⟨o, ho, hc, n, hd⟩ := id ht
    obtain ⟨cls, dd, data, sl⟩ := o
    simp only at hc hd
    subst hc hd
    refine wpAny_binaryOp_repeat_ref (T := "tuple") (U := "int") (by decide) ⟨_, ho, rfl⟩ (fun s' => typeIs_int s' 1 t) TR.noFill_tuple_mul PySem.F.fills_int_mul PySem.F.slot_int_rmul TR.repeat_tuple PySem.F.slot_int_index.lookup
      (call_meets PySem.F.slot_int_rmul (typeIs_int s 1 t) PySem.F.entry_int_rmul (PySem.F.args_int_rmul_2 _ _) (TR.int_rmul_tup 1 t a its.toArray n dd sl)
        ⟨ho, rfl, ⟨_, ho, rfl⟩, ?_⟩)
    refine wpAny_call_entry PySem.F.slot_tuple_mul ht.typeIs PySem.F.entry_tuple_mul ?_ (PySem.F.args_tuple_mul_2 _ _)
    show wpAny _ _ (asIndex (.int 1 t) >>= _) _ _ s
    refine wpAny_bind (wpAny_of_eq (a := (1 : Int)) rfl ?_)
    show wpAny _ _ (if (decide ((1 : Int) < -(2 ^ 63)) || decide ((1 : Int) ≥ 2 ^ 63)) = true then _ else _) _ _ s
    rw [if_neg (by decide)]
    refine wpAny_bind (tupleItemsOf_ ht ?_)
    show wpAny _ _ (if (its.toArray.isEmpty || (1 : Int) == 1) = true then _ else _) _ _ s
    rw [if_pos (by simp)]
    unfold Builtin.Tuple.tupleIsExact
    refine wpAny_bind (wpAny_bind (wpAny_typeOf ht.typeIs (wpAny_pure ?_)))
    rw [if_pos (by decide)]
    exact wpAny_bind (wpAny_rule (wpAny_pure ⟨_, rfl, .ref a, H, I, rfl, q1 rfl⟩))
  · exact op_repT pins s σ H (.ref a) (.int k) v u Q I rx ry ⟨a, k, xs, rfl, rfl, hH, by omega, h2, hne, hz, q2 (by omega)⟩
end
end L2

set_option Elab.async false
set_option linter.all false
set_option maxRecDepth 100000
set_option maxHeartbeats 4000000
/-! xs[i] = v on a list -/
namespace L2
open PySem PySem.W PySem.Spec PyProof.Rows
section
variable {X : Cx} {pins : List (Addr × Obj)} {σ : St} {H : Hp} {s : Shared}
theorem l_setItem {A : Around} {E : Value → Shared → Prop} {Q : Unit → Shared → Prop} {l : Addr} {xs : List V} {i : Nat} {t : Tok} {v : V} {r : Value} (I : Inv X pins σ H s) (hH : H l = some (.lst xs)) (hi : i < xs.length) (rv : RelV v r) (h : ∀ s', Inv X pins σ (upd H l (.lst (xs.set i v))) s' → Q () s') :
    wpAny (model X.prog X.w) A (setItem (.ref l) (.int i t) r) Q E s := by
  obtain ⟨z, its, n, rl, hlen, e⟩ := I.lstM hH
  have hT : s.TypeIs (.ref l) "list" := ⟨_, e, rfl⟩
  have hk : (i : Int) < 2 ^ 63 := by
    have z0 := z
    rw [sizeLine_eq] at z0
    have z2 : (2 : Int) ^ 63 = 9223372036854775808 := by decide +kernel
    omega
  unfold setItem
  refine wpAny_holding (wpAny_bind (wpAny_sequenceKey hT rfl (wpAny_bind (wpAny_callSpecial?_slot hT PySem.slot_list_setitem (wpAny_call_entry PySem.slot_list_setitem hT PySem.entry_list_setitem ?_ (PySem.args_list_setitem _ _ _))))))
  unfold Builtin.«list.__setitem__»
  refine wpAny_bind ?_
  unfold Builtin.List.listBlankSlotArgs
  refine wpAny_pure ?_
  dsimp only
  have hf : Builtin.List.listFitsIndex (i : Int) = true := fitsIndex_of (Int.natCast_nonneg i) hk
  refine wpAny_bind ?_

  refine @wpAny_listSubscript_int _ _ _ _ (i : Int) t _ hf ?_
  have hi' : i < its.length := by omega
  dsimp only
  refine wpAny_bind ?_
  change wpAny _ _ (seqItemAt l i >>= fun r => pure (Option.map (fun x => (i, x)) r)) _ _ _
  refine wpAny_bind (wpAny_seqItemAt e rfl (wpAny_pure ?_))
  have g : its.toArray[i]? = some (its[i]) := by simp [hi']
  rw [g]
  refine wpAny_bind (wpAny_setSeqItemAt e rfl (wpAny_pure ⟨_, rfl, wpAny_pure (h _ ?_)⟩))
  exact I.lset (its' := its.set i r) (t' := s.toks) hH e (by simp) (Vals.set rv i rl) (by rw [List.length_set]; exact z)
def sLPut (td ty tv : TE) : TS := fun D σ H => tv σ H fun v H1 => td σ H1 fun x H2 => ty σ H2 fun y H3 => ∃ (a : Addr) (xs : List V) (i : Nat), x = .ref a ∧ y = .int i ∧ H3 a = some (.lst xs) ∧ i < xs.length ∧ D.nx σ (upd H3 a (.lst (xs.set i v)))
theorem ps_lput {o i value : Expr} {pos pos' : Pos} {td ty tv : TE} (ho : PE X o td) (hi : PE X i ty) (hv : PE X value tv) (hs : swapsWith value (some (.Subscript o i pos')) pos.line X.env = pure false) :
    PS X (.Assign [.Subscript o i pos'] value pos) (sLPut td ty tv) := by
  intro pins s σ H D I h
  refine wpAny_Assign_Subscript (thn (hv pins s σ H _ I h) fun r s1 ⟨v, H1, I1, rv, q1⟩ => thn (ho pins s1 σ H1 _ I1 q1) fun u s2 ⟨x, H2, I2, rx, q2⟩ => thn (hi pins s2 σ H2 _ I2 q2) fun iv s3 ⟨y, H3, I3, ry, a, xs, i, ex, ey, g, hl, q3⟩ => ?_) hs
  subst ex ey
  obtain rfl : u = Value.ref a := rx
  obtain ⟨t, rfl⟩ := ry
  exact l_setItem I3 g hl rv fun s4 I4 => ⟨σ, _, I4, q3⟩
end
end L2

set_option Elab.async false
set_option linter.all false
set_option maxRecDepth 100000
set_option maxHeartbeats 8000000
namespace RR
open PySem L2 Ry TH LS LC RM SR TL KM
open LB hiding spLow spLess spApart spTurn spMoved spMeet spTwo spCross spLL
/-- a pair of cells in the heap -/
def QL (H : Hp) (r : QR) : Prop := H r.2.1 = some (.tup [.ref r.2.2.1, .ref r.2.2.2]) ∧ H r.2.2.1 = some (.tup [.int r.1.1.1, .int r.1.1.2]) ∧ H r.2.2.2 = some (.tup [.int r.1.2.1, .int r.1.2.2])
theorem QL.mono {H H' : Hp} {r : QR} (e : Same H H') : QL H r → QL H' r := fun ⟨a, b, c⟩ => ⟨e _ _ a, e _ _ b, e _ _ c⟩
def PLs (H' : Hp) (l : Addr) (ps : List P4) : Prop := ∃ rs : List QR, H' l = some (.lst (rs.map fun r => .ref r.2.1)) ∧ (∀ r ∈ rs, QL H' r) ∧ rs.map (·.1) = ps
theorem PLs.mono {H H' : Hp} {l : Addr} {ps : List P4} (e : Same H H') : PLs H l ps → PLs H' l ps := fun ⟨rs, a, b, c⟩ => ⟨rs, e _ _ a, fun r hr => (b r hr).mono e, c⟩
def spPairs : Sp := fun vs H Q _ => ∃ (r : V) (wide : Nat) (rows : List Str), vs = [r] ∧ RmV H r rows ∧ Rom wide rows ∧ ∀ l H', Same H H' → PLs H' l (pairsM rows wide) → Q (.ref l) H'
def spSigned (K : PySem.W.Frag) : Sp := fun vs H Q _ => ∃ (r c : V) (wide x y k : Nat) (rows : List Str), vs = [r, c, .str (one1 k)] ∧ RmV H r rows ∧ Rom wide rows ∧ IP K H c x y ∧ x < wide ∧ y < rows.length ∧ (k = 46 ∨ k = 35) ∧ ∀ v H', Same H H' → RmV H' v (putR rows x y k) → Q v H'
/-- pairs laid so far in a list under way -/
def PQ (H0 : Hp) (D : Addr) (H' : Hp) (ps : List P4) : Prop := Same H0 H' ∧ ∃ rs : List QR, H' D = some (.lst (rs.map fun r => .ref r.2.1)) ∧ (∀ r ∈ rs, QL (blk (no D) H') r) ∧ rs.map (·.1) = ps
theorem PQ.same {H0 H H' : Hp} {D : Addr} {ps : List P4} (e : Same H H') : PQ H0 D H ps → PQ H0 D H' ps := fun ⟨g, rs, a, b, c⟩ => ⟨g.trans e, rs, e _ _ a, fun r hr => (b r hr).mono (blk_same e), c⟩
theorem PQ.new {H : Hp} {D : Addr} (hD : H D = none) : PQ H D (upd H D (.lst [])) [] := ⟨same_new hD _, [], upd_same, fun r hr => (by cases hr), rfl⟩
theorem PQ.step {H0 H : Hp} {D T a b : Addr} {ps : List P4} {c o : Cell} (hD : H0 D = none) (h : PQ H0 D H ps) (hT : H T = none) (ha : blk (no D) H a = some (.tup [.int c.1, .int c.2])) (hb : blk (no D) H b = some (.tup [.int o.1, .int o.2])) :
    ∃ xs, upd H T (.tup [.ref a, .ref b]) D = some (.lst xs) ∧ xs.length = ps.length ∧ PQ H0 D (upd (upd H T (.tup [.ref a, .ref b])) D (.lst (xs ++ [.ref T]))) (ps ++ [(c, o)]) := by
  obtain ⟨e, rs, h1, h2, h3⟩ := h
  have hTD : T ≠ D := fun z => by rw [z, h1] at hT; cases hT
  have g := same_new hT (.tup [.ref a, .ref b])
  have gb := (blk_same (B := no D) g).trans (no_upd (.lst ((rs.map fun r => V.ref r.2.1) ++ [.ref T])))
  refine ⟨_, g _ _ h1, by rw [List.length_map, ← h3, List.length_map], fun x ob hx => ?_, rs ++ [((c, o), T, a, b)], by rw [upd_same, List.map_append]; rfl, fun r hr => ?_, by rw [List.map_append, h3]; rfl⟩
  · rw [upd_ne (ne_of_none hx hD)]; exact (e.trans g) x ob hx
  · rcases List.mem_append.mp hr with hr | hr
    · exact (h2 r hr).mono gb
    · rw [List.mem_singleton] at hr
      subst hr
      exact ⟨blk_mk hTD (by rw [upd_ne hTD, upd_same]), gb _ _ ha, gb _ _ hb⟩
theorem PQ.all {H0 H : Hp} {D : Addr} {ps : List P4} (h : PQ H0 D H ps) : PLs H D ps := by
  obtain ⟨_, rs, a, b, c⟩ := h
  exact ⟨rs, a, fun r hr => (b r hr).mono no_sub, c⟩
theorem seen_len {rows : List Str} {wide : Nat} (rom : Rom wide rows) (c : Cell) : (seenM rows wide c).length ≤ 36 := by
  have := cells_len36 rom 46
  have := List.length_filter_le (seesM rows wide c) (cellsM rows wide 46)
  unfold seenM
  omega
theorem flat_len {α β : Type} (g : α → List β) (n : Nat) (h : ∀ c, (g c).length ≤ n) : ∀ l : List α, (l.flatMap g).length ≤ l.length * n
  | [] => Nat.zero_le _
  | c :: l => by
    rw [List.flatMap_cons, List.length_append, List.length_cons, Nat.succ_mul]
    have := flat_len g n h l
    have := h c
    omega
theorem join_T (cs : List Nat) : Txt.join "" (cs.map one1) = (⟨cs.toArray⟩ : Str) := by
  have h := join_signs cs
  have : (Txt.join "" (cs.map one1)).cps = cs.toArray := Array.toList_inj.mp (by rw [h])
  cases hx : Txt.join "" (cs.map one1) with
  | mk c => rw [hx] at this; rw [← this]
end RR
namespace KG
open PySem L2 Ry TH LS LC RM RR SR KM
open LB hiding spLow spLess spApart spTurn spMoved spMeet spTwo spCross spLL
section
variable {P : Program} {w : World} {K : PySem.W.Frag} {mg : Str → Option Value} {base : Heap} {f : Addr} {fd : FuncData}
abbrev sLP : Stmt := top 16
abbrev NLP : List Str := ["room", "found", "one", "other"]
theorem scLP : FnScope NLP ["room"] (defScope sLP) := ⟨rfl, rfl, rfl, by decide +kernel, rfl, by decide +kernel, by decide +kernel⟩
theorem cLP (D : Df K mg "_law_pairs" sLP ["room"]) (CC : Cal P w K mg base 2 "cells" ["room"] spCells) (CS : Cal P w K mg base 4 "seen_from" ["room", "cell"] (spSeen K)) : Cal P w K mg base 5 "_law_pairs" ["room"] spPairs := by
  obtain ⟨g1, gd1, C, bC, kC, mC⟩ := CC
  obtain ⟨g2, gd2, S, bS, kS, mS⟩ := CS
  refine D.cal fun f fd F' => F'.ok scLP (fun vs H Q E h => ?_) (fun cdv A outer s H vs Q E hr h => ?_)
  · obtain ⟨_, _, _, rfl, _⟩ := h
    rfl
  obtain ⟨_, wide, rows, rfl, hrm, rom, q⟩ := h
  have r2 : Room 2 _ := hr.mono (by decide)
  refine ⟨_, (pss_cons (ps_set (i := 1) scLP.nd rfl (Or.inl rfl) (pe_lst pa_nil))
    (pss_cons (ps_for PassesOwn.never rfl (pi_list (pe_call C r2 rfl mC kC bC .nil pass0 (pa_cons (pv 0) pa_nil))) (pg_name (i := 2) scLP.nd rfl (Or.inr rfl)) (pss_one (ps_set (i := 1) scLP.nd rfl (Or.inl rfl) (pe_op op_cat (pv 1) (pe_lc (own := [("other", 3)]) (g := gName 3) (by rfl) scLP.nd (pi_list (pe_call S hr rfl mS kS bS .nil pass0 (pa_cons (pv 0) (pa_cons (pv 2) pa_nil)))) (blkOk_by (own := [("other", 3)]) (N := ["room", "found", "one", "other"]) (sc := defScope sLP) (by decide +kernel)) (fun _ _ _ _ _ => (pg_name (i := 3) scLP.nd rfl (Or.inl rfl))) (fun _ _ _ _ _ => pts_nil) (fun _ _ _ _ _ => (pe_tup (pa_cons (pv 2) (pa_cons (pv 3) pa_nil)))))))))
    (pss_one (ps_ret (pv 1))))), ?_⟩
  refine ⟨Nat.zero_le _, fun fa hfa => ?_⟩
  have e0 := same_new hfa (.lst [])
  refine ⟨_, rfl, _, wide, rows, rfl, hrm.mono e0, rom, fun l H1 hcl => ?_⟩
  obtain ⟨vs, hl, hA⟩ := hcl.all2
  have e1 := e0.trans hcl.1
  have h36 := cells_len36 rom 46
  have hin : ∀ w ∈ cellsM rows wide 46, In6 w := fun w hw => cells_in6 rom hw
  have hfa1 := hcl.1 _ _ (upd_same (H := H) (a := fa) (o := .lst []))
  refine ⟨l, rfl, ⟨_, SqL.of hl⟩, for_list (K := K) (a := l) (xs := vs) (fun i σ H' => (∃ fa o2 o3 v, some v = some (V.ref fa) ∧ σ = [_, some v, o2, o3] ∧ Same H1 H' ∧ PLs H' fa (((cellsM rows wide 46).take i).flatMap fun c => (seenM rows wide c).map fun o => (c, o)))) ⟨fa, _, _, _, rfl, rfl, Same.refl _, [], hfa1, fun r hr => (by cases hr), rfl⟩ (fun i σ H' _ ⟨_, _, _, _, _, _, e, _⟩ => SqL.of (e _ _ hl)) ?_ ?_⟩
  · rintro i v σ H2 hv ⟨fa, o2, o3, _, e, rfl, e2, hp⟩
    cases e
    obtain ⟨c, hc, hcv⟩ := hA.get hv
    have c6 := hin c (List.mem_of_getElem? hc)
    refine ⟨_, rfl, _, rfl, _, rfl, _, v, wide, rows, c, rfl, hrm.mono (e1.trans e2), rom, (IT.ip hcv).mono e2, c6, fun l2 H3 hcl2 => ?_⟩
    obtain ⟨vs2, hl2, hA2⟩ := hcl2.all2
    have e3 := hcl2.1
    have hcv3 := hcv.mono (e2.trans e3)
    have h36b := seen_len rom c
    generalize hos : seenM rows wide c = os at *
    refine ⟨l2, rfl, ⟨_, SqL.of hl2⟩, fun D hD => lc_list (K := K) (a := l2) (xs := vs2) (fun j H' => PQ H3 D H' ((os.take j).map fun o => (c, o))) (PQ.new hD) (fun j H' _ ⟨e, _⟩ => SqL.of (e _ _ hl2)) ?_ ?_⟩
    · rintro j v2 H4 hv2 hP
      obtain ⟨o, ho, hov⟩ := hA2.get hv2
      have e4 := hP.1
      obtain ⟨a, rfl, ha⟩ := hcv3
      obtain ⟨b, rfl, hb⟩ := hov
      refine ⟨rfl, ?_⟩
      refine ⟨_, rfl, _, rfl, two, fun T hT => ?_⟩
      have na : a ≠ D := fun z => by rw [z, hD] at ha; cases ha
      have nb : b ≠ D := fun z => by rw [z, hD] at hb; cases hb
      obtain ⟨xs, x1, x2, x3⟩ := hP.step (a := a) (b := b) (c := c) (o := o) hD hT (blk_mk na (e4 _ _ ha)) (blk_mk nb (e4 _ _ hb))
      refine ⟨xs, x1, small6 ?_, ?_⟩
      · rw [x2, List.length_map]; have := List.length_take_le' j os; omega
      · rw [take_succ ho, List.map_append]; exact x3
    · rintro H4 hP
      rw [hA2.length, List.take_of_length_le (Nat.le_refl _)] at hP
      have e4 := hP.1
      obtain ⟨rs2, a1, a2, a3⟩ := hP.all
      obtain ⟨rs1, b1, b2, b3⟩ := hp.mono (e3.trans e4)
      have l1 : rs1.length ≤ 36 * 36 := by
        have := congrArg List.length b3
        rw [List.length_map] at this
        have h2 := flat_len (fun c => (seenM rows wide c).map fun o => (c, o)) 36 (fun c => by rw [List.length_map]; exact seen_len rom c) ((cellsM rows wide 46).take i)
        have h3 := List.length_take_le' i (cellsM rows wide 46)
        have h4 : ((cellsM rows wide 46).take i).length * 36 ≤ 36 * 36 := Nat.mul_le_mul (by omega) (Nat.le_refl _)
        rw [this]
        exact Nat.le_trans h2 h4
      have l2 : rs2.length ≤ 36 := by have := congrArg List.length a3; rw [List.length_map, List.length_map] at this; omega
      refine ⟨fa, D, _, _, rfl, rfl, b1, a1, small9 (by rw [List.length_map, List.length_map]; omega), fun L hL => ?_⟩
      have g := same_new hL (.lst ((rs1.map fun r => V.ref r.2.1) ++ rs2.map fun r => V.ref r.2.1))
      refine ⟨L, _, _, _, rfl, rfl, e2.trans (e3.trans (e4.trans g)), rs1 ++ rs2, by rw [upd_same, List.map_append], fun r hr => ?_, ?_⟩
      · rcases List.mem_append.mp hr with h | h
        · exact (b2 r h).mono g
        · exact (a2 r h).mono g
      · rw [List.map_append, b3, a3, take_succ hc, List.flatMap_append]
        simp [hos]
  · rintro σ H2 ⟨fa, o2, o3, _, e, rfl, e2, hp⟩
    cases e
    rw [hA.length, List.take_of_length_le (Nat.le_refl _)] at hp
    exact ⟨_, rfl, q fa H2 (e1.trans e2) hp⟩
end
end KG

set_option Elab.async false
set_option linter.all false
set_option maxRecDepth 100000
set_option maxHeartbeats 8000000
namespace L2
open PySem PySem.W PySem.Spec PyProof.Rows
theorem pe_joinK {X : Cx} {K : PySem.W.Frag} {o e : Expr} {to te : TE} {apos pos : Pos} (hK : X.K = K) (ho : PE X o to) (he : PE X e te) (hs : starEach [e] X.env = [(false, eval e X.env)] := by rfl) (hbase : attributeBase o "join" X.env (eval o X.env) = eval o X.env := by rfl) (hline : (apos.endLine == pos.line) = true := by rfl) :
    PE X (.Call (.Attribute o "join" apos) [e] [] pos) (tM1 (fun x xs H Q => ∃ a p, ∃ ys : List Str, x = .str a ∧ xs = [.ref p] ∧ (SqL K H p (ys.map V.str) ∨ SqT K H p (ys.map V.str)) ∧
      (ys.map (·.length)).sum + ys.length * a.length ≤ 16777216 ∧ Q (.str (Txt.join a ys)) H) to te) := by
  subst hK
  exact pe_join ho he hs hbase hline
end L2
namespace RR
open PySem L2 Ry TH LS LC RM SR TL KM
open LB hiding spLow spLess spApart spTurn spMoved spMeet spTwo spCross spLL
/-- lists of signs laid so far -/
def RwL (H0 : Hp) (D : Addr) (H' : Hp) (rows : List Str) (i : Nat) (ls : List Addr) : Prop := Same H0 H' ∧ H' D = some (.lst (ls.map V.ref)) ∧ ls.length = i ∧ ls.Nodup ∧ (∀ a ∈ ls, H0 a = none ∧ a ≠ D) ∧ ∀ (j : Nat) (a : Addr), ls[j]? = some a → H' a = some (.lst ((sgs rows j).map fun c => V.str (one1 c)))
end RR
namespace KG
open PySem L2 Ry TH LS LC RM RR SR KM
open LB hiding spLow spLess spApart spTurn spMoved spMeet spTwo spCross spLL
section
variable {P : Program} {w : World} {K : PySem.W.Frag} {mg : Str → Option Value} {base : Heap} {f : Addr} {fd : FuncData}
abbrev sSG : Stmt := top 15
abbrev NSG : List Str := ["room", "cell", "sign", "rows", "row"]
theorem scSG : FnScope NSG ["room", "cell", "sign"] (defScope sSG) := ⟨rfl, rfl, rfl, by decide +kernel, rfl, by decide +kernel, by decide +kernel⟩
theorem cSG (D : Df K mg "_law_signed" sSG ["room", "cell", "sign"]) (m_list : mg "list" = none) (m_tuple : mg "tuple" = none) : Cal P w K mg base 1 "_law_signed" ["room", "cell", "sign"] (spSigned K) := by
  refine D.cal fun f fd F' => F'.ok scSG (fun vs H Q E h => ?_) (fun cdv A outer s H vs Q E hr h => ?_)
  · obtain ⟨_, _, _, _, _, _, _, rfl, _⟩ := h
    rfl
  obtain ⟨_, cv, wide, x, y, k, rows, rfl, ⟨ra, rfl, hra⟩, rom, hcv, hx, hy, hk, q⟩ := h
  refine ⟨_, (pss_cons (ps_setLc (i := 3) (own := [("row", 4)]) (g := gName 4) (by rfl) scSG.nd rfl rfl (sw_true rfl rfl rfl (by decide +kernel)) (pi_tup (pv 0)) (blkOk_by (own := [("row", 4)]) (N := ["room", "cell", "sign", "rows", "row"]) (sc := defScope sSG) (by decide +kernel)) (fun _ _ _ _ _ => (pg_name (i := 4) scSG.nd rfl (Or.inl rfl))) (fun _ _ _ _ _ => pts_nil) (fun _ _ _ _ _ => (pe_callTy (call_listS rfl) (by rfl) m_list (by decide +kernel) (pa_cons (pv 4) pa_nil))))
    (pss_cons (ps_lput (pe_ix ix_list (pv 3) (pe_ix ix_tup (pv 1) pe_int (fun _ _ => rfl)) (fun _ _ => rfl)) (pe_ix ix_tup (pv 1) pe_int (fun _ _ => rfl)) (pv 2) rfl)
    (pss_one (ps_ret (pe_callTy call_tuple_of (by rfl) m_tuple (by decide +kernel) (pa_cons (pe_lc (own := [("row", 4)]) (g := gName 4) (by rfl) scSG.nd (pi_list (pv 3)) (blkOk_by (own := [("row", 4)]) (N := ["room", "cell", "sign", "rows", "row"]) (sc := defScope sSG) (by decide +kernel)) (fun _ _ _ _ _ => (pg_name (i := 4) scSG.nd rfl (Or.inl rfl))) (fun _ _ _ _ _ => pts_nil) (fun _ _ _ _ _ => (pe_joinK (K := K) rfl pe_str (pv 4)))) pa_nil)))))), ?_⟩
  have hh6 := rom.h6
  have hw6 := rom.w6
  obtain ⟨ca, rfl, hct⟩ := hcv
  refine ⟨_, rfl, ra, rfl, ⟨_, SqT.of hra⟩, fun D hD => lc_tup (K := K) (a := ra) (xs := rows.map V.str) (fun i H' => ∃ ls, RwL H D H' rows i ls) ⟨[], same_new hD _, upd_same, rfl, List.nodup_nil, fun a h => (by cases h), fun j a h => (by simp at h)⟩ (fun i H' _ ⟨_, e, _⟩ => SqT.of (e _ _ hra)) ?_ ?_⟩
  · rintro i v H1 hv ⟨ls, e1, hD1, hlen, hnd, hne, hcon⟩
    rw [List.getElem?_map] at hv
    obtain ⟨r, hr, rfl⟩ := Option.map_eq_some_iff.mp hv
    have hi : i < rows.length := (List.getElem?_eq_some_iff.mp hr).1
    have hsz := rom.len _ (List.mem_of_getElem? hr)
    have hsg : sgs rows i = r.cps.toList := by unfold sgs; rw [hr]; rfl
    refine ⟨rfl, ?_⟩
    refine ⟨_, rfl, r, rfl, small9 (by show r.cps.size ≤ _; omega), fun p hp => ?_⟩
    have g := same_new hp (.lst (r.cps.toList.map fun c => V.str ⟨#[c]⟩))
    have hpD : p ≠ D := fun z => by rw [z, hD1] at hp; cases hp
    have hpl : p ∉ ls := fun z => by
      obtain ⟨j, hj⟩ := List.mem_iff_getElem?.mp z
      rw [hcon j p hj] at hp; cases hp
    refine ⟨ls.map V.ref, g _ _ hD1, small6 (by rw [List.length_map]; omega), ls ++ [p], fun b ob hb => ?_, by rw [upd_same, List.map_append]; rfl, by rw [List.length_append, hlen]; rfl, ?_, fun a ha => ?_, fun j a ha => ?_⟩
    · rw [upd_ne (ne_of_none hb hD)]; exact (e1.trans g) b ob hb
    · exact List.nodup_append.mpr ⟨hnd, by simp, fun a ha b hb => by rw [List.mem_singleton] at hb; rw [hb]; exact fun z => hpl (z ▸ ha)⟩
    · rcases List.mem_append.mp ha with h | h
      · exact hne a h
      · rw [List.mem_singleton] at h
        subst h
        refine ⟨?_, hpD⟩
        cases hHp : H a with
        | none => rfl
        | some o => rw [e1 _ _ hHp] at hp; cases hp
    · by_cases hj : j < ls.length
      · rw [List.getElem?_append_left hj] at ha
        rw [upd_ne (hne a (List.mem_of_getElem? ha)).2]
        exact g _ _ (hcon j a ha)
      · have hj2 : j = ls.length := by
          have := (List.getElem?_eq_some_iff.mp ha).1
          rw [List.length_append, List.length_singleton] at this
          omega
        subst hj2
        rw [List.getElem?_append_right (Nat.le_refl _), Nat.sub_self] at ha
        cases ha
        rw [upd_ne hpD, upd_same, hlen, hsg]
  rintro H1 ⟨ls, e1, hD1, hlen, hnd, hne, hcon⟩
  rw [List.length_map] at hlen
  have hyl : y < ls.length := by omega
  have hly : ls[y]? = some ls[y] := List.getElem?_eq_getElem hyl
  have hla := hcon y _ hly
  have hct1 := same_tup e1 hct
  have hsy := (sgs_ok rom hy).1
  refine ⟨_, rfl, _, rfl, _, rfl, ca, _, _, _, rfl, rfl, hct1, rfl, D, _, _, _, rfl, rfl, SqL.of hD1, atI_nat (by rw [List.getElem?_map, hly]; rfl), _, rfl, ca, _, _, _, rfl, rfl, hct1, rfl, ls[y], _, x, rfl, rfl, hla, by rw [List.length_map]; omega, ?_⟩
  have hm := List.getElem_mem hyl
  generalize hla' : ls[y] = la at *
  have hlD := (hne la hm).2
  have e2 : Same H (upd H1 la (.lst (((sgs rows y).map fun c => V.str (one1 c)).set x (.str (one1 k))))) := fun b ob hb => by
    rw [upd_ne (fun z => by rw [z, (hne la hm).1] at hb; cases hb)]
    exact e1 b ob hb
  have hc2 : ∀ (j : Nat) (a : Addr), ls[j]? = some a → upd H1 la (.lst (((sgs rows y).map fun c => V.str (one1 c)).set x (.str (one1 k)))) a = some (.lst ((putS rows x y k j).map fun c => V.str (one1 c))) := fun j a ha => by
    unfold putS
    by_cases hj : j = y
    · subst hj
      rw [hly] at ha
      cases ha
      rw [upd_same, if_pos rfl, List.map_set]
    · have hane : a ≠ la := fun z => by
        subst z
        obtain ⟨h1, h2⟩ := List.getElem?_eq_some_iff.mp ha
        have hw := List.pairwise_iff_getElem.mp hnd
        rcases Nat.lt_or_gt_of_ne hj with z | z
        · exact hw j y h1 hyl z (by rw [h2, hla'])
        · exact hw y j hyl h1 z (by rw [h2, hla'])
      rw [upd_ne hane, if_neg hj]
      exact hcon j a ha
  have hD2 : upd H1 la (.lst (((sgs rows y).map fun c => V.str (one1 c)).set x (.str (one1 k)))) D = some (.lst (ls.map V.ref)) := by rw [upd_ne (Ne.symm hlD)]; exact hD1
  generalize upd H1 la (.lst (((sgs rows y).map fun c => V.str (one1 c)).set x (.str (one1 k)))) = H2 at *
  refine ⟨_, rfl, D, rfl, ⟨_, SqL.of hD2⟩, fun D2 hDn => lc_list (K := K) (a := D) (xs := ls.map V.ref) (fun i H' => Same H2 H' ∧ H' D2 = some (.lst (((putR rows x y k).take i).map V.str))) ⟨same_new hDn _, upd_same⟩ (fun i H' _ ⟨e, _⟩ => SqL.of (e _ _ hD2)) ?_ ?_⟩
  · rintro i v H3 hv ⟨e3, hD3⟩
    rw [List.getElem?_map] at hv
    obtain ⟨a, ha, rfl⟩ := Option.map_eq_some_iff.mp hv
    have hi : i < rows.length := by have := (List.getElem?_eq_some_iff.mp ha).1; omega
    obtain ⟨hp1, hp2⟩ := put_ok (x := x) (y := y) rom hk hi
    refine ⟨rfl, ?_⟩
    refine ⟨⟨_, rfl⟩, _, rfl, _, a, (putS rows x y k i).map one1, rfl, rfl, .inl (SqL.of (by rw [List.map_map]; exact e3 _ _ (hc2 i a ha))), ?_, _, hD3, small6 ?_, fun b ob hb => ?_, ?_⟩
    · rw [sum_ones, show (Str.ofString "").length = 0 from rfl, Nat.mul_zero]; omega
    · rw [List.length_map]
      have := List.length_take_le' i (putR rows x y k)
      have : (putR rows x y k).length = rows.length := rmT_len
      omega
    · rw [upd_ne (ne_of_none hb hDn)]; exact e3 b ob hb
    · rw [upd_same, take_succ (show (putR rows x y k)[i]? = some _ from rmT_at hi), List.map_append, join_T]; rfl
  · rintro H3 ⟨e3, hD3⟩
    rw [List.length_map, List.take_of_length_le (by unfold putR; rw [rmT_len]; omega)] at hD3
    refine ⟨D2, _, rfl, .inl ⟨SqL.of hD3, fun t ht => q _ _ ((e2.trans e3).trans (same_new ht _)) ⟨t, rfl, upd_same⟩⟩⟩
end
end KG

set_option Elab.async false
set_option linter.all false
set_option maxRecDepth 100000
set_option maxHeartbeats 8000000
namespace L2
open PySem LB
theorem pe_revK {X : Cx} {K : PySem.W.Frag} {e st : Expr} {te ts : TE} {pos p2 : Pos} (hK : X.K = K) (he : PE X e te) (hst : PE X st ts) : PE X (.Subscript e (.Slice none none (some st) p2) pos) (tRev K te ts) := by
  subst hK
  exact pe_rev he hst
end L2
namespace RR
open PySem L2 Ry TH LS LC RM SR TL KM
open LB hiding spLow spLess spApart spTurn spMoved spMeet spTwo spCross spLL
def cdD (c : Cell) : PyData := .tuple [.int c.1, .int c.2]
def ppD (p : P4) : PyData := .tuple [cdD p.1, cdD p.2]
theorem ql_dp {K : PySem.W.Frag} {H : Hp} {r : QR} (h : QL H r) : Dp K H (.ref r.2.1) (ppD r.1) :=
  .tup (SqT.of h.1) (.cons (.tup (SqT.of h.2.1) (.cons (.int _) (.cons (.int _) .nil))) (.cons (.tup (SqT.of h.2.2) (.cons (.int _) (.cons (.int _) .nil))) .nil))
theorem qls_dp {K : PySem.W.Frag} {H : Hp} : ∀ {rs : List QR}, (∀ r ∈ rs, QL H r) → DpAll K H (rs.map fun r => .ref r.2.1) ((rs.map (·.1)).map ppD)
  | [], _ => .nil
  | r :: rs, h => .cons (ql_dp (h r (by simp))) (qls_dp fun q hq => h q (List.mem_cons_of_mem _ hq))
theorem pp_l0 (p : P4) : (ppD p).canLay0 = true ∧ (ppD p).depth ≤ 4 := by
  constructor
  · simp [ppD, cdD, PyData.canLay0, PyData.canLayAll0]
  · simp [ppD, cdD, PyData.depth, PyData.depthAll]
theorem pps_all : ∀ (ps : List P4), PyData.canLayAll0 (ps.map ppD) = true ∧ PyData.depthAll (ps.map ppD) ≤ 4
  | [] => ⟨rfl, Nat.zero_le _⟩
  | p :: ps => by
    have b := pps_all ps
    have a := pp_l0 p
    refine ⟨?_, ?_⟩
    · show ((ppD p).canLay0 && PyData.canLayAll0 (ps.map ppD)) = true
      rw [b.1, a.1]; rfl
    · show max (ppD p).depth (PyData.depthAll (ps.map ppD)) ≤ 4
      omega
theorem pps_lay (ps : List P4) : SeqAt.shaped (.list (ps.map ppD)) = true := by
  have a := pps_all ps
  show (PyData.canLayAll0 (ps.map ppD) && decide (PyData.depthAll (ps.map ppD) + 1 ≤ 64)) = true
  rw [a.1, decide_eq_true (by omega)]; rfl
theorem pp_lay (p : P4) : SeqAt.shaped (ppD p) = true := by
  simp [SeqAt.shaped, ppD, cdD, PyData.canLay0, PyData.canLayAll0, PyData.depth, PyData.depthAll]
theorem cd_eqv' (c o : Cell) : PyData.eqv (cdD c) (cdD o) = decide (c = o) := cd_eqv c o
theorem pp_eqv (p q : P4) : PyData.eqv (ppD p) (ppD q) = decide (p = q) := by
  have : (p = q) ↔ (p.1 = q.1 ∧ p.2 = q.2) := ⟨fun h => by rw [h]; exact ⟨rfl, rfl⟩, fun h => Prod.ext h.1 h.2⟩
  rw [Bool.eq_iff_iff, decide_eq_true_eq, this]
  unfold ppD
  simp [PyData.eqv, PyData.eqvAll, cd_eqv']
theorem pps_eqvA : ∀ (l m : List P4), PyData.eqvAll (l.map ppD) (m.map ppD) = decide (l = m)
  | [], [] => by simp [PyData.eqvAll]
  | [], q :: m => by simp [PyData.eqvAll]
  | p :: l, [] => by simp [PyData.eqvAll]
  | p :: l, q :: m => by
    have ih := pps_eqvA l m
    rw [List.map_cons, List.map_cons]
    simp [PyData.eqvAll, ih, pp_eqv]
theorem pps_eqv (l m : List P4) : PyData.eqv (.list (l.map ppD)) (.list (m.map ppD)) = decide (l = m) := by
  rw [← pps_eqvA]
  simp [PyData.eqv]
theorem pps_any (ps : List P4) (p : P4) : ((ps.map ppD).any fun e => PyData.eqv e (ppD p)) = decide (p ∈ ps) := by
  rw [List.any_map, Bool.eq_iff_iff, List.any_eq_true, decide_eq_true_eq]
  constructor
  · rintro ⟨x, hx, h⟩
    have h : PyData.eqv (ppD x) (ppD p) = true := h
    rw [pp_eqv, decide_eq_true_eq] at h
    rw [← h]; exact hx
  · exact fun h => ⟨p, h, by show PyData.eqv (ppD p) (ppD p) = true; rw [pp_eqv]; simp⟩
theorem pairs_len {rows : List Str} {wide : Nat} (rom : Rom wide rows) : (pairsM rows wide).length ≤ 36 * 36 := by
  have h2 := flat_len (fun c => (seenM rows wide c).map fun o => (c, o)) 36 (fun c => by rw [List.length_map]; exact seen_len rom c) (cellsM rows wide 46)
  have h3 := cells_len36 rom 46
  exact Nat.le_trans h2 (Nat.mul_le_mul h3 (Nat.le_refl _))
theorem cds_dp {K : PySem.W.Frag} {H : Hp} : ∀ {vs : List V} {cs : List Cell}, All2 (CV H) vs cs → DpAll K H vs (cs.map cdD)
  | _, _, .nil => .nil
  | _, _, .cons h r => .cons (cd_dp (IT.ip h)) (cds_dp r)
theorem cds_any (cs : List Cell) (c : Cell) : ((cs.map cdD).any fun e => PyData.eqv e (cdD c)) = decide (c ∈ cs) := by
  rw [List.any_map, Bool.eq_iff_iff, List.any_eq_true, decide_eq_true_eq]
  constructor
  · rintro ⟨x, hx, h⟩
    have h : PyData.eqv (cdD x) (cdD c) = true := h
    rw [cd_eqv', decide_eq_true_eq] at h
    rw [← h]; exact hx
  · exact fun h => ⟨c, h, by show PyData.eqv (cdD c) (cdD c) = true; rw [cd_eqv']; simp⟩
theorem row_at {rows : List Str} {i : Nat} (h : i < rows.length) : atI (rows.map V.str) ((i : Nat) : Int) = some (.str rows[i]) := atI_nat (by rw [List.getElem?_map, List.getElem?_eq_getElem h]; rfl)
theorem cds_lay (cs : List Cell) : ∀ e ∈ cs.map cdD, SeqAt.shaped e = true := fun e he => by
  obtain ⟨x, _, rfl⟩ := List.mem_map.mp he
  exact cd_lay x
theorem pps_lays (ps : List P4) : ∀ e ∈ ps.map ppD, SeqAt.shaped e = true := fun e he => by
  obtain ⟨x, _, rfl⟩ := List.mem_map.mp he
  exact pp_lay x
theorem sum_wide {wide : Nat} : ∀ {rows : List Str}, (∀ r ∈ rows, r.cps.size = wide) → (rows.map (·.length)).sum = rows.length * wide
  | [], _ => by simp
  | r :: rows, h => by
    rw [List.map_cons, List.sum_cons, sum_wide fun q hq => h q (List.mem_cons_of_mem _ hq), List.length_cons, Nat.succ_mul]
    have : r.length = wide := h r (by simp)
    omega
theorem nil_ne {l : List P4} (h : l = []) : (!PyData.eqv (.list (l.map ppD)) (.list (([] : List P4).map ppD))) = false := by rw [pps_eqv, h]; rfl
theorem ifs_key {c : TT} {t u tb : TS} {D : Ends} {σ : St} {H : Hp} (R : St → Hp → Prop) (key : ∀ D' : Ends, (∀ σ' H', R σ' H' → D'.nx σ' H') → tIfS c t u D' σ H) (go : ∀ σ' H', R σ' H' → tb D σ' H') : tSeq (tIfS c t u) tb D σ H := key _ go
theorem repU_key {K : PySem.W.Frag} {H : Hp} {Q : VK} {a : Addr} {k : Int} {xs : List V} (hs : H a = some (.tup xs)) (h1 : 1 ≤ k) (h2 : k < 1000) (h3 : xs ≠ []) (h4 : xs.length * k.toNat ≤ sizeLine) (h : ∀ v H', Same H H' → (∃ b, v = .ref b ∧ H' b = some (.tup (List.replicate k.toNat xs).flatten)) → Q v H') : rRepU K (.ref a) (.int k) H Q := by
  refine ⟨a, k, xs, rfl, rfl, SqT.of hs, h1, h2, h3, h4, fun e => h _ H (Same.refl _) ⟨a, rfl, ?_⟩, fun e p hp => h _ _ (same_new hp _) ⟨p, rfl, upd_same⟩⟩
  subst e
  simpa using hs
theorem emp_flat (wide n : Nat) : (List.replicate n [V.str (repS 46 wide)]).flatten = (empR wide n).map V.str := by
  unfold empR RmT
  rw [List.map_map]
  induction n with
  | zero => rfl
  | succ n ih =>
    rw [List.replicate_succ', List.flatten_append, ih, List.range_succ, List.map_append]
    rfl
/-- a sorted list of pairs stands there -/
theorem pls_sorted {H : Hp} {l : Addr} {rs qs : List QR} (hl : H l = none) (hq : ∀ r ∈ rs, QL H r) (hp : qs.Perm rs) : PLs (upd H l (.lst (qs.map fun r => .ref r.2.1))) l (qs.map (·.1)) :=
  ⟨qs, upd_same, fun r hr => (hq r (hp.mem_iff.mp hr)).mono (same_new hl _), rfl⟩
end RR
namespace KG
open PySem L2 Ry TH LS LC RM RR SR KM
open LB hiding spLow spLess spApart spTurn spMoved spMeet spTwo spCross spLL
section
variable {P : Program} {w : World} {K : PySem.W.Frag} {mg : Str → Option Value} {base : Heap}
def spLaw (K : PySem.W.Frag) : Sp := fun vs H Q _ => ∃ (a : Addr) (ns : List Int), vs = [.ref a] ∧ SqL K H a (ns.map V.int) ∧ ns.length ≤ 63 ∧ ∀ H', Q (.bl true) H'
abbrev sL : Stmt := top 17
abbrev NL : List Str := ["script","at","draws","room","wide","pairs","mirrored","due","over","cell","opened","shut","more","x","y","other","empty","one","row","a","b","c","d","pair"]
theorem scL : FnScope NL ["script"] (defScope sL) := ⟨rfl, rfl, rfl, by decide +kernel, rfl, by decide +kernel, by decide +kernel⟩
/-- what the law calls -/
structure Calls (P : Program) (w : World) (K : PySem.W.Frag) (mg : Str → Option Value) (base : Heap) : Prop where
  dr : Cal P w K mg base 2 "_law_draws" ["script", "k", "many", "base"] (spDraws K)
  rm : Cal P w K mg base 1 "_law_room" ["draws"] spRoom
  ce : Cal P w K mg base 2 "cells" ["room"] spCells
  se : Cal P w K mg base 3 "sees" ["room", "cell", "other"] (spSees K)
  pr : Cal P w K mg base 5 "_law_pairs" ["room"] spPairs
  sg : Cal P w K mg base 1 "_law_signed" ["room", "cell", "sign"] (spSigned K)
  m_sorted : mg "sorted" = none
  m_tuple : mg "tuple" = none
  m_len : mg "len" = none
  m_range : mg "range" = none
theorem hu8 {n : Nat} {A : Around} (h : Room n A) : A.units + 8 < cLine := Nat.lt_of_le_of_lt (Nat.add_le_add_left (by decide) _) h.units
theorem fnL {f : Addr} {fd : FuncData} (F : Fun K "law" "law" sL f fd) (C : Calls P w K mg base) : FnOk P w K mg base CX0 6 f fd ["script"] (spLaw K) := by
  obtain ⟨⟨f1, d1, DR, bDR, kDR, mDR⟩, ⟨f2, d2, RM, bRM, kRM, mRM⟩, ⟨f3, d3, CE, bCE, kCE, mCE⟩, ⟨f5, d5, SE, bSE, kSE, mSE⟩, ⟨f6, d6, PR, bPR, kPR, mPR⟩, ⟨f7, d7, SG, bSG, kSG, mSG⟩, m_sorted, m_tuple, m_len, m_range⟩ := C
  refine F.ok scL (fun vs H Q E h => ?_) (fun cdv A outer s H vs Q E hr h => ?_)
  · obtain ⟨_, _, rfl, _⟩ := h
    rfl
  obtain ⟨a, ns, rfl, hS, h63, q⟩ := h
  have r1 : Room 1 _ := hr.mono (by decide)
  have r2 : Room 2 _ := hr.mono (by decide)
  have r3 : Room 3 _ := hr.mono (by decide)
  refine ⟨_, (pss_cons (ps_for PassesOwn.never rfl (pi_tup (@pe_tup _ _ _ _ _ (@PAs.out _ _ _ (qa_int (qa_int (qa_int qa_nil)))))) (pg_name (i := 1) scL.nd rfl (Or.inl rfl)) (pss_cons (ps_set (i := 2) scL.nd rfl (Or.inl rfl) (pe_call DR r2 rfl mDR kDR bDR .nil pass0 (pa_cons (pv 0) (pa_cons (pv 1) (pa_cons pe_int (pa_cons pe_int pa_nil))))))
    (pss_cons (ps_set (i := 3) scL.nd rfl (Or.inr rfl) (pe_call RM r1 rfl mRM kRM bRM .nil pass0 (pa_cons (pv 2) pa_nil)))
    (pss_cons (ps_asg (pe_tup (pa_cons (pe_callB call_len_str (by rfl) m_len (by decide +kernel) (pa_cons (pe_ix ix_tup (pv 3) pe_int (fun _ _ => rfl)) pa_nil)) (pa_cons (pe_call PR hr rfl mPR kPR bPR .nil pass0 (pa_cons (pv 3) pa_nil)) pa_nil))) (pg_tup (by rfl) (pgs_cons (pg_name (i := 4) scL.nd rfl (Or.inr rfl)) (pgs_cons (pg_name (i := 5) scL.nd rfl (Or.inr rfl)) pgs_nil))))
    (pss_cons (ps_if (pt_cmpR (op_neD hr.units) (pe_callB (cr_sortedPP (hu8 hr) rfl) (by rfl) m_sorted (by decide +kernel) (pa_cons (pe_lc (own := [("one", 17), ("other", 15)]) (g := (gTup K 2 (gCons (gName 17) (gCons (gName 15) gNil)))) (by rfl) scL.nd (pi_list (pv 5)) (blkOk_by (own := [("one", 17), ("other", 15)]) (N := ["script", "at", "draws", "room", "wide", "pairs", "mirrored", "due", "over", "cell", "opened", "shut", "more", "x", "y", "other", "empty", "one", "row", "a", "b", "c", "d", "pair"]) (sc := defScope sL) (by decide +kernel)) (fun _ _ _ _ _ => (pg_tup (by rfl) (pgs_cons (pg_name (i := 17) scL.nd rfl (Or.inl rfl)) (pgs_cons (pg_name (i := 15) scL.nd rfl (Or.inl rfl)) pgs_nil)))) (fun _ _ _ _ _ => pts_nil) (fun _ _ _ _ _ => (pe_tup (pa_cons (pv 15) (pa_cons (pv 17) pa_nil))))) pa_nil)) (pv 5) (nomark _)) (pss_one (ps_ret pe_bl)) pss_nil)
    (pss_cons (ps_set (i := 6) scL.nd rfl (Or.inl rfl) (pe_callTy call_tuple_of (by rfl) m_tuple (by decide +kernel) (pa_cons (pe_lc (own := [("row", 18)]) (g := gName 18) (by rfl) scL.nd (pi_tup (pv 3)) (blkOk_by (own := [("row", 18)]) (N := ["script", "at", "draws", "room", "wide", "pairs", "mirrored", "due", "over", "cell", "opened", "shut", "more", "x", "y", "other", "empty", "one", "row", "a", "b", "c", "d", "pair"]) (sc := defScope sL) (by decide +kernel)) (fun _ _ _ _ _ => (pg_name (i := 18) scL.nd rfl (Or.inl rfl))) (fun _ _ _ _ _ => pts_nil) (fun _ _ _ _ _ => (pe_revS (pv 18) (pe_un un_neg pe_int)))) pa_nil)))
    (pss_cons (ps_set (i := 7) scL.nd rfl (Or.inl rfl) (pe_callB (cr_sortedPP (hu8 hr) rfl) (by rfl) m_sorted (by decide +kernel) (pa_cons (pe_lc (own := [("a", 19), ("b", 20), ("c", 21), ("d", 22)]) (g := (gTup K 2 (gCons (gTup K 2 (gCons (gName 19) (gCons (gName 20) gNil))) (gCons (gTup K 2 (gCons (gName 21) (gCons (gName 22) gNil))) gNil)))) (by rfl) scL.nd (pi_list (pv 5)) (blkOk_by (own := [("a", 19), ("b", 20), ("c", 21), ("d", 22)]) (N := ["script", "at", "draws", "room", "wide", "pairs", "mirrored", "due", "over", "cell", "opened", "shut", "more", "x", "y", "other", "empty", "one", "row", "a", "b", "c", "d", "pair"]) (sc := defScope sL) (by decide +kernel)) (fun _ _ _ _ _ => (@pg_tup _ _ _ _ _ 2 (by rfl) (@pgs_cons _ _ _ _ _ (@pg_tup _ _ _ _ _ 2 (by rfl) (@pgs_cons _ _ _ _ _ (pg_name (i := 19) scL.nd rfl (Or.inl rfl)) (@pgs_cons _ _ _ _ _ (pg_name (i := 20) scL.nd rfl (Or.inl rfl)) pgs_nil (by rfl)) (by rfl)) (by rfl) (by rfl)) (@pgs_cons _ _ _ _ _ (@pg_tup _ _ _ _ _ 2 (by rfl) (@pgs_cons _ _ _ _ _ (pg_name (i := 21) scL.nd rfl (Or.inl rfl)) (@pgs_cons _ _ _ _ _ (pg_name (i := 22) scL.nd rfl (Or.inl rfl)) pgs_nil (by rfl)) (by rfl)) (by rfl) (by rfl)) pgs_nil (by rfl)) (by rfl)) (by rfl) (by rfl))) (fun _ _ _ _ _ => pts_nil) (fun _ _ _ _ _ => (pe_tup (pa_cons (pe_tup (pa_cons (pe_op op_sub (pe_op op_sub (pv 4) pe_int) (pv 19)) (pa_cons (pv 20) pa_nil))) (pa_cons (pe_tup (pa_cons (pe_op op_sub (pe_op op_sub (pv 4) pe_int) (pv 21)) (pa_cons (pv 22) pa_nil))) pa_nil))))) pa_nil)))
    (pss_cons (ps_if (pt_cmpR (op_neD hr.units) (pe_call PR hr rfl mPR kPR bPR .nil pass0 (pa_cons (pv 6) pa_nil)) (pv 7) (nomark _)) (pss_one (ps_ret pe_bl)) pss_nil)
    (pss_cons (ps_set (i := 8) scL.nd rfl (Or.inl rfl) (pe_callTy call_tuple_of (by rfl) m_tuple (by decide +kernel) (pa_cons (pe_lc (own := [("x", 13)]) (g := gName 13) (by rfl) scL.nd (pi_range1 rfl m_range (pa_cons (pv 4) pa_nil)) (blkOk_by (own := [("x", 13)]) (N := ["script", "at", "draws", "room", "wide", "pairs", "mirrored", "due", "over", "cell", "opened", "shut", "more", "x", "y", "other", "empty", "one", "row", "a", "b", "c", "d", "pair"]) (sc := defScope sL) (by decide +kernel)) (fun _ _ _ _ _ => (pg_name (i := 13) scL.nd rfl (Or.inr rfl))) (fun _ _ _ _ _ => pts_nil) (fun _ _ _ _ _ => (pe_joinK (K := K) rfl pe_str (pe_lc (own := [("row", 18)]) (g := gName 18) (by rfl) scL.nd (pi_tupK (K := K) rfl (pv 3)) (blkOk_by (own := [("row", 18)]) (N := ["script", "at", "draws", "room", "wide", "pairs", "mirrored", "due", "over", "cell", "opened", "shut", "more", "x", "y", "other", "empty", "one", "row", "a", "b", "c", "d", "pair"]) (sc := ({ kind := .function, names := [(".0", .local), ("x", .cell), ("room", .cell)], isGenerator := false, isCoroutine := false } : Scope)) (by decide +kernel)) (fun _ _ _ _ _ => (pg_name (i := 18) scL.nd rfl (Or.inl rfl))) (fun _ _ _ _ _ => pts_nil) (fun _ _ _ _ _ => (pe_ix ix_str (pv 18) (pv 13) (fun _ _ => rfl))))))) pa_nil)))
    (pss_cons (ps_if (pt_cmpR (op_neD hr.units) (pe_call PR hr rfl mPR kPR bPR .nil pass0 (pa_cons (pv 8) pa_nil)) (pe_callB (cr_sortedPP (hu8 hr) rfl) (by rfl) m_sorted (by decide +kernel) (pa_cons (pe_lc (own := [("one", 17), ("other", 15)]) (g := (gTup K 2 (gCons (gName 17) (gCons (gName 15) gNil)))) (by rfl) scL.nd (pi_list (pv 5)) (blkOk_by (own := [("one", 17), ("other", 15)]) (N := ["script", "at", "draws", "room", "wide", "pairs", "mirrored", "due", "over", "cell", "opened", "shut", "more", "x", "y", "other", "empty", "one", "row", "a", "b", "c", "d", "pair"]) (sc := defScope sL) (by decide +kernel)) (fun _ _ _ _ _ => (pg_tup (by rfl) (pgs_cons (pg_name (i := 17) scL.nd rfl (Or.inl rfl)) (pgs_cons (pg_name (i := 15) scL.nd rfl (Or.inl rfl)) pgs_nil)))) (fun _ _ _ _ _ => pts_nil) (fun _ _ _ _ _ => (pe_tup (pa_cons (pe_revK (K := K) rfl (pv 17) (pe_un un_neg pe_int)) (pa_cons (pe_revK (K := K) rfl (pv 15) (pe_un un_neg pe_int)) pa_nil))))) pa_nil)) (nomark _)) (pss_one (ps_ret pe_bl)) pss_nil)
    (pss_cons (ps_set (i := 9) scL.nd rfl (Or.inl rfl) (pe_tup (pa_cons (pe_op op_mod (pe_ix ix_list (pv 2) pe_int (fun _ _ => rfl)) (pv 4)) (pa_cons (pe_op op_mod (pe_ix ix_list (pv 2) pe_int (fun _ _ => rfl)) (pe_callB call_len_seq (by rfl) m_len (by decide +kernel) (pa_cons (pv 3) pa_nil))) pa_nil))))
    (pss_cons (ps_par (i := 10) (j := 11) (by rfl) scL.nd rfl rfl (by decide) rfl rfl (pa_cons (pe_call SG r1 rfl mSG kSG bSG .nil pass0 (pa_cons (pv 3) (pa_cons (pv 9) (pa_cons pe_str pa_nil)))) (pa_cons (pe_call SG r1 rfl mSG kSG bSG .nil pass0 (pa_cons (pv 3) (pa_cons (pv 9) (pa_cons pe_str pa_nil)))) pa_nil)) (by rfl))
    (pss_cons (ps_set (i := 12) scL.nd rfl (Or.inr rfl) (pe_call PR hr rfl mPR kPR bPR .nil pass0 (pa_cons (pv 10) pa_nil)))
    (pss_cons (ps_if (pt_cmpR (op_neD hr.units) (pe_lc (own := [("pair", 23)]) (g := gName 23) (by rfl) scL.nd (pi_list (pv 5)) (blkOk_by (own := [("pair", 23)]) (N := ["script", "at", "draws", "room", "wide", "pairs", "mirrored", "due", "over", "cell", "opened", "shut", "more", "x", "y", "other", "empty", "one", "row", "a", "b", "c", "d", "pair"]) (sc := defScope sL) (by decide +kernel)) (fun _ _ _ _ _ => (pg_name (i := 23) scL.nd rfl (Or.inl rfl))) (fun _ _ _ _ _ => (pts_one (pt_cmpR (r := rInD K true) (op_notInD hr.in1.units) (pv 23) (pv 12) (by rfl)))) (fun _ _ _ _ _ => (pv 23))) (@pe_lst _ _ _ _ (@PAs.out _ _ _ qa_nil)) (nomark _)) (pss_one (ps_ret pe_bl)) pss_nil)
    (pss_cons (ps_if (PW.pt (pw_and (pt_cmpR op_in_sign pe_str (pe_join pe_str (pv 11)) (by rfl)) (pw_and1 (pt_cmpR (op_neD hr.units) (pe_lc (own := [("pair", 23)]) (g := gName 23) (by rfl) scL.nd (pi_list (pe_call PR hr rfl mPR kPR bPR .nil pass0 (pa_cons (pv 11) pa_nil))) (blkOk_by (own := [("pair", 23)]) (N := ["script", "at", "draws", "room", "wide", "pairs", "mirrored", "due", "over", "cell", "opened", "shut", "more", "x", "y", "other", "empty", "one", "row", "a", "b", "c", "d", "pair"]) (sc := defScope sL) (by decide +kernel)) (fun _ _ _ _ _ => (pg_name (i := 23) scL.nd rfl (Or.inl rfl))) (fun _ _ _ _ _ => (pts_one (pt_cmpR (r := rInD K true) (op_notInD hr.in1.units) (pv 23) (pv 5) (by rfl)))) (fun _ _ _ _ _ => (pv 23))) (@pe_lst _ _ _ _ (@PAs.out _ _ _ qa_nil)) (nomark _))))) (pss_one (ps_ret pe_bl)) pss_nil)
    (pss_cons (ps_for PassesOwn.never rfl (pi_list (pe_call CE r2 rfl mCE kCE bCE .nil pass0 (pa_cons (pv 3) pa_nil))) (pg_tup (by rfl) (pgs_cons (pg_name (i := 13) scL.nd rfl (Or.inl rfl)) (pgs_cons (pg_name (i := 14) scL.nd rfl (Or.inl rfl)) pgs_nil))) (pss_one (ps_for PassesOwn.never rfl (pi_tup (pe_tup (pa_cons (pe_tup (pa_cons (pe_op op_add (pv 13) pe_int) (pa_cons (pv 14) pa_nil))) (pa_cons (pe_tup (pa_cons (pv 13) (pa_cons (pe_op op_add (pv 14) pe_int) pa_nil))) pa_nil)))) (pg_name (i := 15) scL.nd rfl (Or.inl rfl)) (pss_one (ps_if (PW.pt (pw_and (pt_cmpR (op_inD hr.in1.units) (pv 15) (pe_call CE r2 rfl mCE kCE bCE .nil pass0 (pa_cons (pv 3) pa_nil)) (by rfl)) (pw_and1 (pt_not (pt_val (pe_call SE r3 rfl mSE kSE bSE .nil pass0 (pa_cons (pv 3) (pa_cons (pe_tup (pa_cons (pv 13) (pa_cons (pv 14) pa_nil))) (pa_cons (pv 15) pa_nil))))))))) (pss_one (ps_ret pe_bl)) pss_nil)))))
    (pss_cons (ps_set (i := 16) scL.nd rfl (Or.inl rfl) (pe_op op_repU (pe_tup (pa_cons (pe_op op_mulS pe_str (pv 4)) pa_nil)) (pe_callB call_len_seq (by rfl) m_len (by decide +kernel) (pa_cons (pv 3) pa_nil))))
    (pss_one (ps_if (pt_cmpR op_ne (pe_callB call_len_seq (by rfl) m_len (by decide +kernel) (pa_cons (pe_call PR hr rfl mPR kPR bPR .nil pass0 (pa_cons (pv 16) pa_nil)) pa_nil)) (pe_op op_mul (pe_op op_mul (pv 4) (pe_callB call_len_seq (by rfl) m_len (by decide +kernel) (pa_cons (pv 3) pa_nil))) (pe_op op_sub (pe_op op_mul (pv 4) (pe_callB call_len_seq (by rfl) m_len (by decide +kernel) (pa_cons (pv 3) pa_nil))) pe_int)) (nomark _)) (pss_one (ps_ret pe_bl)) pss_nil)))))))))))))))))))
    (pss_one (ps_ret pe_bl))), ?_⟩
  refine ⟨(by show 3 ≤ sizeLine; decide), fun t ht => ?_⟩
  have e0 := same_new ht (.tup [.int 0, .int 2, .int 4])
  refine ⟨t, rfl, ⟨_, SqT.of upd_same⟩, for_tup (K := K) (a := t) (xs := [.int 0, .int 2, .int 4]) (fun i σ H' => (∃ o1 o2 o3 o4 o5 o6 o7 o8 o9 o10 o11 o12 o13 o14 o15 o16 o17 o18 o19 o20 o21 o22 o23, σ = [some (.ref a), o1, o2, o3, o4, o5, o6, o7, o8, o9, o10, o11, o12, o13, o14, o15, o16, o17, o18, o19, o20, o21, o22, o23]) ∧ Same (upd H t (.tup [.int 0, .int 2, .int 4])) H') ⟨⟨_, _, _, _, _, _, _, _, _, _, _, _, _, _, _, _, _, _, _, _, _, _, _, rfl⟩, Same.refl _⟩ (fun i σ H' _ ⟨_, e⟩ => same_tup e (SqT.of upd_same)) ?_ ?_⟩
  rotate_left
  · rintro σ H1 ⟨⟨o1, o2, o3, o4, o5, o6, o7, o8, o9, o10, o11, o12, o13, o14, o15, o16, o17, o18, o19, o20, o21, o22, o23, rfl⟩, e1⟩
    exact q _
  rintro i x σ H1 hx ⟨⟨o1, o2, o3, o4, o5, o6, o7, o8, o9, o10, o11, o12, o13, o14, o15, o16, o17, o18, o19, o20, o21, o22, o23, rfl⟩, e1⟩
  obtain ⟨n, rfl, n0, n1⟩ : ∃ n : Int, x = .int n ∧ 0 ≤ n ∧ n ≤ 6 := by
    match i, hx with
    | 0, hx => cases hx; exact ⟨_, rfl, by decide, by decide⟩
    | 1, hx => cases hx; exact ⟨_, rfl, by decide, by decide⟩
    | 2, hx => cases hx; exact ⟨_, rfl, by decide, by decide⟩
  refine ⟨_, rfl, _, rfl, a, ns, n, 60, rfl, by decide, (e0.trans e1).seq hS, h63, n0, by omega, fun l ds H2 e2 hl hdl dg => ?_⟩
  refine ⟨_, rfl, l, ds, rfl, hl, hdl, dg, fun rv H3 wide rows e3 hrm rom => ?_⟩
  obtain ⟨ra, rfl, hra⟩ := id hrm
  have hh0 := rom.h0
  have hh6 := rom.h6
  have hw0 := rom.w0
  have hw6 := rom.w6
  have hz0 : (rows[0]'(by omega)).length = wide := rom.len _ (List.getElem_mem _)
  refine ⟨_, rfl, ra, _, _, _, rfl, rfl, SqT.of hra, row_at (i := 0) (by omega), _, rfl, (by rw [hz0]; exact small9 (by omega)), _, rfl, _, wide, rows, rfl, hrm, rom, fun pl H4 e4 hpl => ?_⟩
  rw [hz0]
  have hlen := pairs_len rom
  have hps := hpl
  obtain ⟨rs, hp1, hp2, hp3⟩ := hps
  have hrl : rs.length ≤ 36 * 36 := by rw [← hp3, List.length_map] at hlen; exact hlen
  refine ⟨two, fun T hT => ?_⟩
  have g5 := same_new hT (.tup [.int (wide : Nat), .ref pl])
  refine ⟨T, _, rfl, SqT.of upd_same, rfl, _, _, rfl, _, _, rfl, rfl, ?_⟩
  have hra5 := (e4.trans g5) _ _ hra
  have hl5 := (e3.trans (e4.trans g5)) _ _ hl
  have hpl5 : H4 pl = _ := hp1
  have hp1 := g5 _ _ hp1
  have hp2 : ∀ r ∈ rs, QL _ r := fun r hr => (hp2 r hr).mono g5
  have K5 : Same H3 (upd H4 T (.tup [.int (wide : Nat), .ref pl])) := e4.trans g5
  clear hpl hpl5
  generalize upd H4 T (.tup [.int (wide : Nat), .ref pl]) = H5 at *
  have hget : ∀ {j : Nat} {v : V}, (rs.map fun r => V.ref r.2.1)[j]? = some v → ∃ r, rs[j]? = some r ∧ r ∈ rs ∧ v = .ref r.2.1 ∧ (pairsM rows wide)[j]? = some r.1 := fun {j v} hv => by
    rw [List.getElem?_map] at hv
    obtain ⟨r, hr, rfl⟩ := Option.map_eq_some_iff.mp hv
    refine ⟨r, hr, List.mem_of_getElem? hr, rfl, ?_⟩
    rw [← hp3, List.getElem?_map, hr]; rfl
  have hrs : (rs.map fun r => V.ref r.2.1).length = (pairsM rows wide).length := by rw [← hp3, List.length_map, List.length_map]
  -- looked at the other way
  refine ⟨_, rfl, pl, rfl, ⟨_, SqL.of hp1⟩, fun D hD => lc_list (K := K) (a := pl) (xs := rs.map fun r => V.ref r.2.1) (fun i H' => PQ H5 D H' (((pairsM rows wide).take i).map fun p => (p.2, p.1))) (PQ.new hD) (fun i H' _ ⟨e, _⟩ => SqL.of (e _ _ hp1)) ?_ ?_⟩
  · rintro j v H6 hv hP
    obtain ⟨r, hr, hrm, rfl, hr2⟩ := hget hv
    obtain ⟨q1, q2, q3⟩ := (hp2 r hrm).mono hP.1
    have nD : ∀ {b : Addr} {o : HO}, H5 b = some o → b ≠ D := fun {b o} h z => by rw [z, hD] at h; cases h
    refine ⟨r.2.1, _, rfl, SqT.of q1, rfl, _, _, rfl, _, _, rfl, rfl, rfl, ?_⟩
    refine ⟨_, rfl, _, rfl, two, fun T2 hT2 => ?_⟩
    obtain ⟨xs, x1, x2, x3⟩ := hP.step (a := r.2.2.2) (b := r.2.2.1) (c := r.1.2) (o := r.1.1) hD hT2 (blk_mk (nD (hp2 r hrm).2.2) q3) (blk_mk (nD (hp2 r hrm).2.1) q2)
    refine ⟨xs, x1, small6 ?_, ?_⟩
    · rw [x2, List.length_map]; have := List.length_take_le' j (pairsM rows wide); omega
    · rw [take_succ hr2, List.map_append]; exact x3
  rintro H6 hP
  rw [hrs, List.take_of_length_le (Nat.le_refl _)] at hP
  have k6 := hP.1
  obtain ⟨rs1, a1, a2, a3⟩ := hP.all
  clear hP
  refine ⟨D, rs1, rfl, SqL.of a1, fun r hr => ⟨SqT.of (a2 r hr).1, SqT.of (a2 r hr).2.1, SqT.of (a2 r hr).2.2⟩, by have := congrArg List.length a3; rw [List.length_map, List.length_map] at this; omega, fun qs l1 hq hu hl1 => ?_⟩
  have d1 : qs.map (·.1) = pairsM rows wide := pairs_sym hu (by rw [← a3]; exact hq.map _)
  have s1 := pls_sorted hl1 a2 hq
  have k7 := k6.trans (same_new hl1 (.lst (qs.map fun r => .ref r.2.1)))
  rw [d1] at s1
  generalize upd H6 l1 (.lst (qs.map fun r => V.ref r.2.1)) = H7 at *
  clear a1 a2 a3 hq hu hl1 k6
  obtain ⟨rs2, b1, b2, b3⟩ := s1
  refine ⟨_, rfl, .list ((rs2.map (·.1)).map ppD), .list ((rs.map (·.1)).map ppD), .lst (SqL.of b1) (qls_dp b2), .lst (SqL.of (k7 _ _ hp1)) (qls_dp fun r hr => (hp2 r hr).mono k7), pps_lay _, pps_lay _, _, rfl, iteF' (by rw [pps_eqv, b3, hp3, decide_eq_true rfl]; rfl) ?_⟩
  clear b1 b2 b3
  have hra7 := k7 _ _ hra5
  have hp1 := k7 _ _ hp1
  have hp2 : ∀ r ∈ rs, QL H7 r := fun r hr => (hp2 r hr).mono k7
  have hl7 := k7 _ _ hl5
  have K7 := K5.trans k7
  clear hra5 hl5 K5 k7 hD
  -- mirrored
  refine ⟨_, rfl, ra, rfl, ⟨_, SqT.of hra7⟩, fun D hD => lc_tup (K := K) (a := ra) (xs := rows.map V.str) (fun i H' => Same H7 H' ∧ H' D = some (.lst (((mirR rows).take i).map V.str))) ⟨same_new hD _, upd_same⟩ (fun i H' _ ⟨e, _⟩ => SqT.of (e _ _ hra7)) ?_ ?_⟩
  · rintro j v H8 hv ⟨e8, hD8⟩
    rw [List.getElem?_map] at hv
    obtain ⟨r, hr, rfl⟩ := Option.map_eq_some_iff.mp hv
    have hj : j < rows.length := (List.getElem?_eq_some_iff.mp hr).1
    have hsz := rom.len _ (List.mem_of_getElem? hr)
    have hsg : sgs rows j = r.cps.toList := by unfold sgs; rw [hr]; rfl
    refine ⟨rfl, ?_⟩
    refine ⟨_, rfl, _, rfl, rfl, r, rfl, small9 (by show r.cps.size ≤ _; omega), _, hD8, small6 ?_, fun b ob hb => ?_, ?_⟩
    · rw [List.length_map]
      have := List.length_take_le' j (mirR rows)
      have : (mirR rows).length = rows.length := rmT_len
      omega
    · rw [upd_ne (ne_of_none hb hD)]; exact e8 b ob hb
    · rw [upd_same, take_succ (show (mirR rows)[j]? = some _ from rmT_at hj), List.map_append, hsg]; rfl
  rintro H8 ⟨e8, hD8⟩
  rw [List.length_map, List.take_of_length_le (by unfold mirR; rw [rmT_len]; exact Nat.le_refl _)] at hD8
  refine ⟨D, _, rfl, .inl ⟨SqL.of hD8, fun mt hmt => ?_⟩⟩
  have k9 := e8.trans (same_new hmt (.tup ((mirR rows).map V.str)))
  have hmr : RmV (upd H8 mt (.tup ((mirR rows).map V.str))) (.ref mt) (mirR rows) := ⟨mt, rfl, upd_same⟩
  generalize upd H8 mt (.tup ((mirR rows).map V.str)) = H9 at *
  have hra9 := k9 _ _ hra7
  have hp1 := k9 _ _ hp1
  have hp2 : ∀ r ∈ rs, QL H9 r := fun r hr => (hp2 r hr).mono k9
  have hl9 := k9 _ _ hl7
  have K9 := K7.trans k9
  clear hra7 hl7 K7 k9 hD hD8 e8
  refine ⟨_, rfl, pl, rfl, ⟨_, SqL.of hp1⟩, fun D hD => lc_list (K := K) (a := pl) (xs := rs.map fun r => V.ref r.2.1) (fun i H' => PQ H9 D H' (((pairsM rows wide).take i).map fun p => (mir wide p.1, mir wide p.2))) (PQ.new hD) (fun i H' _ ⟨e, _⟩ => SqL.of (e _ _ hp1)) ?_ ?_⟩
  · rintro j v H10 hv hP
    obtain ⟨r, hr, hrm, rfl, hr2⟩ := hget hv
    obtain ⟨q1, q2, q3⟩ := (hp2 r hrm).mono hP.1
    refine ⟨r.2.1, _, rfl, SqT.of q1, rfl, _, _, rfl, r.2.2.1, _, rfl, SqT.of q2, rfl, _, _, rfl, _, _, rfl, rfl, _, _, rfl, r.2.2.2, _, rfl, SqT.of q3, rfl, _, _, rfl, _, _, rfl, rfl, rfl, rfl, ?_⟩
    refine ⟨_, rfl, _, _, rfl, rfl, _, rfl, _, _, rfl, rfl, _, rfl, two, fun Ta hTa => ⟨_, rfl, _, _, rfl, rfl, _, rfl, _, _, rfl, rfl, _, rfl, two, fun Tb hTb => ⟨two, fun T2 hT2 => ?_⟩⟩⟩
    have hDl : ∃ o, H10 D = some o := by obtain ⟨_, _, h, _⟩ := hP; exact ⟨_, h⟩
    obtain ⟨oD, hoD⟩ := hDl
    have ga := same_new hTa (.tup [.int ((wide : Int) - 1 - r.1.1.1), .int r.1.1.2])
    have gb := same_new hTb (.tup [.int ((wide : Int) - 1 - r.1.2.1), .int r.1.2.2])
    have na : Ta ≠ D := fun z => by rw [z, hoD] at hTa; cases hTa
    have nb : Tb ≠ D := fun z => by rw [z, ga _ _ hoD] at hTb; cases hTb
    obtain ⟨xs, x1, x2, x3⟩ := ((hP.same ga).same gb).step (a := Ta) (b := Tb) (c := mir wide r.1.1) (o := mir wide r.1.2) hD hT2 (blk_mk na (gb _ _ upd_same)) (blk_mk nb upd_same)
    refine ⟨xs, x1, small6 ?_, ?_⟩
    · rw [x2, List.length_map]; have := List.length_take_le' j (pairsM rows wide); omega
    · rw [take_succ hr2, List.map_append]; exact x3
  rintro H10 hP
  rw [hrs, List.take_of_length_le (Nat.le_refl _)] at hP
  have k10 := hP.1
  obtain ⟨rs1, a1, a2, a3⟩ := hP.all
  clear hP
  refine ⟨D, rs1, rfl, SqL.of a1, fun r hr => ⟨SqT.of (a2 r hr).1, SqT.of (a2 r hr).2.1, SqT.of (a2 r hr).2.2⟩, by have := congrArg List.length a3; rw [List.length_map, List.length_map] at this; omega, fun qs l1 hq hu hl1 => ?_⟩
  have d1 : qs.map (·.1) = pairsM (mirR rows) wide := pairs_mir rom hu (by rw [← a3]; exact hq.map _)
  have s1 := pls_sorted hl1 a2 hq
  have k11 := k10.trans (same_new hl1 (.lst (qs.map fun r => .ref r.2.1)))
  rw [d1] at s1
  generalize upd H10 l1 (.lst (qs.map fun r => V.ref r.2.1)) = H11 at *
  clear a1 a2 a3 hq hu hl1 k10
  refine ⟨_, rfl, _, wide, mirR rows, rfl, hmr.mono k11, mirR_rom rom, fun l2 H12 k12 hl2 => ?_⟩
  obtain ⟨rs2, b1, b2, b3⟩ := s1.mono k12
  obtain ⟨rs3, c1, c2, c3⟩ := hl2
  refine ⟨_, rfl, .list ((rs3.map (·.1)).map ppD), .list ((rs2.map (·.1)).map ppD), .lst (SqL.of c1) (qls_dp c2), .lst (SqL.of b1) (qls_dp b2), pps_lay _, pps_lay _, _, rfl, iteF' (by rw [pps_eqv, b3, c3, decide_eq_true rfl]; rfl) ?_⟩
  clear b1 b2 b3 c1 c2 c3
  have k12 := k11.trans k12
  have hra12 := k12 _ _ hra9
  have hp1 := k12 _ _ hp1
  have hp2 : ∀ r ∈ rs, QL H12 r := fun r hr => (hp2 r hr).mono k12
  have hl12 := k12 _ _ hl9
  have K12 := K9.trans k12
  clear hra9 hl9 K9 k12 k11 hD s1 d1 hmr
  have hlr : (rows.map V.str).length = rows.length := List.length_map _
  -- turned over
  refine ⟨_, rfl, _, rfl, by omega, by omega, fun D hD => ?_⟩
  rw [show ((wide : Nat) : Int).toNat = wide by omega]
  refine lc_range (n := wide) (fun i H' => Same H12 H' ∧ H' D = some (.lst (((ovrR rows wide).take i).map V.str))) ⟨same_new hD _, upd_same⟩ ?_ ?_
  · rintro j H13 hj ⟨e13, hD13⟩
    have hra13 := e13 _ _ hra12
    refine ⟨rfl, ?_⟩
    refine ⟨⟨_, rfl⟩, _, rfl, ra, rfl, ⟨_, SqT.of hra13⟩, fun D2 hD2 => lc_tup (K := K) (a := ra) (xs := rows.map V.str) (fun i H' => Same H13 H' ∧ H' D2 = some (.lst (((ovrS rows j).take i).map fun c => V.str (one1 c)))) ⟨same_new hD2 _, upd_same⟩ (fun i H' _ ⟨e, _⟩ => SqT.of (e _ _ hra13)) ?_ ?_⟩
    · rintro y v H14 hv ⟨e14, hD14⟩
      rw [List.getElem?_map] at hv
      obtain ⟨r, hr, rfl⟩ := Option.map_eq_some_iff.mp hv
      have hy : y < rows.length := (List.getElem?_eq_some_iff.mp hr).1
      have hsz := rom.len _ (List.mem_of_getElem? hr)
      obtain ⟨c, hc, _⟩ := sgn_in rom hj hy
      have hcc : r.cps.toList[j]? = some c := by
        have := hc
        unfold sgn at this
        rw [hr] at this
        simpa using this
      have ho : (ovrS rows j)[y]? = some c := by
        unfold ovrS
        rw [List.getElem?_map, List.getElem?_range hy, Option.map_some, hc]; rfl
      refine ⟨rfl, ?_⟩
      refine ⟨_, rfl, _, rfl, r, _, c, rfl, rfl, small9 (by show r.cps.size ≤ _; omega), (by rw [Int.zero_add]; exact atI_nat hcc), _, hD14, small6 ?_, fun b ob hb => ?_, ?_⟩
      · rw [List.length_map]
        have := List.length_take_le' y (ovrS rows j)
        have : (ovrS rows j).length = rows.length := by simp [ovrS]
        omega
      · rw [upd_ne (ne_of_none hb hD2)]; exact e14 b ob hb
      · rw [upd_same, take_succ ho, List.map_append]; rfl
    · rintro H14 ⟨e14, hD14⟩
      have hol : (ovrS rows j).length = rows.length := by simp [ovrS]
      rw [hlr, List.take_of_length_le (by omega)] at hD14
      refine ⟨_, D2, (ovrS rows j).map one1, rfl, rfl, .inl (SqL.of (by rw [List.map_map]; exact hD14)), ?_, _, e14 _ _ hD13, small6 ?_, fun b ob hb => ?_, ?_⟩
      · rw [sum_ones, show (Str.ofString "").length = 0 from rfl, Nat.mul_zero]; omega
      · rw [List.length_map]
        have := List.length_take_le' j (ovrR rows wide)
        have : (ovrR rows wide).length = wide := rmT_len
        omega
      · rw [upd_ne (ne_of_none hb hD)]; exact (e13.trans e14) b ob hb
      · rw [upd_same, take_succ (show (ovrR rows wide)[j]? = some _ from rmT_at hj), List.map_append, join_T]; rfl
  rintro H13 ⟨e13, hD13⟩
  rw [List.take_of_length_le (by unfold ovrR; rw [rmT_len]; exact Nat.le_refl _)] at hD13
  refine ⟨D, _, rfl, .inl ⟨SqL.of hD13, fun ot hot => ?_⟩⟩
  have k14 := e13.trans (same_new hot (.tup ((ovrR rows wide).map V.str)))
  have hor : RmV (upd H13 ot (.tup ((ovrR rows wide).map V.str))) (.ref ot) (ovrR rows wide) := ⟨ot, rfl, upd_same⟩
  generalize upd H13 ot (.tup ((ovrR rows wide).map V.str)) = H14 at *
  have hra14 := k14 _ _ hra12
  have hp1 := k14 _ _ hp1
  have hp2 : ∀ r ∈ rs, QL H14 r := fun r hr => (hp2 r hr).mono k14
  have hl14 := k14 _ _ hl12
  have K14 := K12.trans k14
  clear hra12 hl12 K12 k14 hD hD13 e13
  refine ⟨_, rfl, _, rows.length, ovrR rows wide, rfl, hor, ovrR_rom rom, fun l2 H15 k15 hl2 => ?_⟩
  have hra15 := k15 _ _ hra14
  have hp1 := k15 _ _ hp1
  have hp2 : ∀ r ∈ rs, QL H15 r := fun r hr => (hp2 r hr).mono k15
  have hl15 := k15 _ _ hl14
  have K15 := K14.trans k15
  clear hra14 hl14 K14 k15 hor
  refine ⟨_, rfl, pl, rfl, ⟨_, SqL.of hp1⟩, fun D hD => lc_list (K := K) (a := pl) (xs := rs.map fun r => V.ref r.2.1) (fun i H' => PQ H15 D H' (((pairsM rows wide).take i).map fun p => (swp p.1, swp p.2))) (PQ.new hD) (fun i H' _ ⟨e, _⟩ => SqL.of (e _ _ hp1)) ?_ ?_⟩
  · rintro j v H16 hv hP
    obtain ⟨r, hr, hrm, rfl, hr2⟩ := hget hv
    obtain ⟨q1, q2, q3⟩ := (hp2 r hrm).mono hP.1
    refine ⟨r.2.1, _, rfl, SqT.of q1, rfl, _, _, rfl, _, _, rfl, rfl, rfl, ?_⟩
    refine ⟨_, rfl, _, rfl, rfl, r.2.2.1, _, rfl, .inr ⟨SqT.of q2, fun Ta hTa => ?_⟩⟩
    have ga := same_new hTa (.tup [.int r.1.1.1, .int r.1.1.2].reverse)
    refine ⟨_, rfl, _, rfl, rfl, r.2.2.2, _, rfl, .inr ⟨SqT.of (ga _ _ q3), fun Tb hTb => ⟨two, fun T2 hT2 => ?_⟩⟩⟩
    have hDl : ∃ o, H16 D = some o := by obtain ⟨_, _, h, _⟩ := hP; exact ⟨_, h⟩
    obtain ⟨oD, hoD⟩ := hDl
    have gb := same_new hTb (.tup [.int r.1.2.1, .int r.1.2.2].reverse)
    have na : Ta ≠ D := fun z => by rw [z, hoD] at hTa; cases hTa
    have nb : Tb ≠ D := fun z => by rw [z, ga _ _ hoD] at hTb; cases hTb
    obtain ⟨xs, x1, x2, x3⟩ := ((hP.same ga).same gb).step (a := Ta) (b := Tb) (c := swp r.1.1) (o := swp r.1.2) hD hT2 (blk_mk na (gb _ _ upd_same)) (blk_mk nb upd_same)
    refine ⟨xs, x1, small6 ?_, ?_⟩
    · rw [x2, List.length_map]; have := List.length_take_le' j (pairsM rows wide); omega
    · rw [take_succ hr2, List.map_append]; exact x3
  rintro H16 hP
  rw [hrs, List.take_of_length_le (Nat.le_refl _)] at hP
  have k16 := hP.1
  obtain ⟨rs1, a1, a2, a3⟩ := hP.all
  clear hP
  refine ⟨D, rs1, rfl, SqL.of a1, fun r hr => ⟨SqT.of (a2 r hr).1, SqT.of (a2 r hr).2.1, SqT.of (a2 r hr).2.2⟩, by have := congrArg List.length a3; rw [List.length_map, List.length_map] at this; omega, fun qs l1 hq hu hl1 => ?_⟩
  have d1 : qs.map (·.1) = pairsM (ovrR rows wide) rows.length := pairs_ovr rom hu (by rw [← a3]; exact hq.map _)
  have s1 := pls_sorted hl1 a2 hq
  have k17 := k16.trans (same_new hl1 (.lst (qs.map fun r => .ref r.2.1)))
  rw [d1] at s1
  generalize upd H16 l1 (.lst (qs.map fun r => V.ref r.2.1)) = H17 at *
  clear a1 a2 a3 hq hu hl1 k16
  obtain ⟨rs2, b1, b2, b3⟩ := s1
  obtain ⟨rs3, c1, c2, c3⟩ := hl2.mono k17
  refine ⟨.list ((rs3.map (·.1)).map ppD), .list ((rs2.map (·.1)).map ppD), .lst (SqL.of c1) (qls_dp c2), .lst (SqL.of b1) (qls_dp b2), pps_lay _, pps_lay _, _, rfl, iteF' (by rw [pps_eqv, b3, c3, decide_eq_true rfl]; rfl) ?_⟩
  clear b1 b2 b3 c1 c2 c3 hl2
  have hra17 := k17 _ _ hra15
  have hp1 := k17 _ _ hp1
  have hp2 : ∀ r ∈ rs, QL H17 r := fun r hr => (hp2 r hr).mono k17
  have hl17 := k17 _ _ hl15
  have K17 := K15.trans k17
  clear hra15 hl15 K15 k17 hD d1
  -- one cell opened, one shut
  obtain ⟨d50, hd50, _, _⟩ := at_dr hdl dg (k := 50) (by decide) (by decide)
  obtain ⟨d51, hd51, _, _⟩ := at_dr hdl dg (k := 51) (by decide) (by decide)
  refine ⟨_, rfl, l, _, _, _, rfl, rfl, SqL.of hl17, hd50, _, rfl, _, _, rfl, rfl, (by show (0 : Int) < wide; omega), _, rfl, l, _, _, _, rfl, rfl, SqL.of hl17, hd51, _, rfl, ra, _, rfl, .inr (SqT.of hra17), _, _, rfl, rfl, (by show (0 : Int) < ((rows.map V.str).length : Nat); omega), two, fun cT hcT => ?_⟩
  obtain ⟨x, ex, hx⟩ : ∃ x : Nat, d50 % ((wide : Nat) : Int) = x ∧ x < wide := ⟨(d50 % (wide : Int)).toNat, by have := Int.emod_nonneg d50 (show (wide : Int) ≠ 0 by omega); omega, by have := Int.emod_nonneg d50 (show (wide : Int) ≠ 0 by omega); have := Int.emod_lt_of_pos d50 (show (0 : Int) < wide by omega); omega⟩
  obtain ⟨y, ey, hy⟩ : ∃ y : Nat, d51 % (((rows.map V.str).length : Nat) : Int) = y ∧ y < rows.length := ⟨(d51 % (((rows.map V.str).length : Nat) : Int)).toNat, by have := Int.emod_nonneg d51 (show (((rows.map V.str).length : Nat) : Int) ≠ 0 by omega); omega, by have := Int.emod_nonneg d51 (show (((rows.map V.str).length : Nat) : Int) ≠ 0 by omega); have := Int.emod_lt_of_pos d51 (show (0 : Int) < ((rows.map V.str).length : Nat) by omega); omega⟩
  have hct : IP K (upd H17 cT (.tup [.int (d50 % ((wide : Nat) : Int)), .int (d51 % (((rows.map V.str).length : Nat) : Int))])) (.ref cT) x y := ⟨cT, rfl, by rw [← ex, ← ey]; exact SqT.of upd_same⟩
  have k18 := same_new hcT (.tup [.int (d50 % ((wide : Nat) : Int)), .int (d51 % (((rows.map V.str).length : Nat) : Int))])
  generalize upd H17 cT (.tup [.int (d50 % ((wide : Nat) : Int)), .int (d51 % (((rows.map V.str).length : Nat) : Int))]) = H18 at *
  refine ⟨_, rfl, _, rfl, .ref ra, .ref cT, wide, x, y, 46, rows, rfl, ⟨ra, rfl, k18 _ _ hra17⟩, rom, hct, hx, hy, .inl rfl, fun ov H19 k19 hov => ⟨_, rfl, _, rfl, .ref ra, .ref cT, wide, x, y, 35, rows, rfl, ⟨ra, rfl, (k18.trans k19) _ _ hra17⟩, rom, hct.mono k19, hx, hy, .inr rfl, fun sv H20 k20 hsv => ⟨_, _, rfl, ?_⟩⟩⟩
  refine ⟨_, rfl, ov, wide, putR rows x y 46, rfl, hov.mono k20, putR_rom rom (.inl rfl), fun ml H21 k21 hml => ?_⟩
  have k21a := k18.trans (k19.trans (k20.trans k21))
  have hsv := hsv.mono k21
  have hra21 := k21a _ _ hra17
  have hp1 := k21a _ _ hp1
  have hp2 : ∀ r ∈ rs, QL H21 r := fun r hr => (hp2 r hr).mono k21a
  have K21 := K17.trans k21a
  clear hra17 hl17 K17 k21a k21 k20 k19 k18 hov hct hcT hd50 hd51 ex ey
  obtain ⟨rm, m1, m2, m3⟩ := hml
  refine ⟨_, rfl, pl, rfl, ⟨_, SqL.of hp1⟩, fun D hD => lc_list (K := K) (a := pl) (xs := rs.map fun r => V.ref r.2.1) (fun i H' => Same H21 H' ∧ H' D = some (.lst [])) ⟨same_new hD _, upd_same⟩ (fun i H' _ ⟨e, _⟩ => SqL.of (e _ _ hp1)) ?_ ?_⟩
  · rintro j v H22 hv ⟨e22, hD22⟩
    obtain ⟨r, hr, hrm, rfl, hr2⟩ := hget hv
    have hin : r.1 ∈ rm.map (·.1) := by rw [m3]; exact put_open rom hx (List.mem_of_getElem? hr2)
    refine ⟨rfl, ?_⟩
    refine ⟨_, rfl, _, rfl, ml, _, ppD r.1, (rm.map (·.1)).map ppD, rfl, .inl (SqL.of (e22 _ _ m1)), ql_dp ((hp2 r hrm).mono e22), qls_dp (fun q hq => (m2 q hq).mono e22), pp_lay _, pps_lays _, _, rfl, iteF' (by rw [if_pos rfl, pps_any, decide_eq_true hin]; rfl) ⟨e22, hD22⟩⟩
  rintro H22 ⟨e22, hD22⟩
  refine ⟨Nat.zero_le _, fun L hL => ?_⟩
  refine ⟨.list (([] : List P4).map ppD), .list (([] : List P4).map ppD), .lst (SqL.of ((same_new hL _) _ _ hD22)) .nil, .lst (SqL.of upd_same) .nil, pps_lay [], pps_lay [], _, rfl, iteF' (nil_ne rfl) ?_⟩
  have k23 := e22.trans (same_new hL (.lst []))
  generalize upd H22 L (.lst []) = H23 at *
  have hsv := hsv.mono k23
  have hra23 := k23 _ _ hra21
  have hp1 := k23 _ _ hp1
  have hp2 : ∀ r ∈ rs, QL H23 r := fun r hr => (hp2 r hr).mono k23
  have K23 := K21.trans k23
  clear hra21 K21 k23 hD hD22 hL e22 m1 m2 m3
  obtain ⟨sa, rfl, hsa⟩ := id hsv
  have rom35 := putR_rom (x := x) (y := y) rom (.inr rfl : 35 = 46 ∨ 35 = 35)
  have hpl35 : (putR rows x y 35).length = rows.length := rmT_len
  -- the rest, once what is shut has been looked at
  dsimp only [tNext]
  refine ifs_key (fun σ' H' => (∃ o2 o5 o6 o7 o8 o9 o10 o11 o12 o13 o14 o15 o16 o17 o18 o19 o20 o21 o22 o23, σ' = [some (.ref a), some (.int n), o2, some (.ref ra), some (.int (wide : Nat)), o5, o6, o7, o8, o9, o10, o11, o12, o13, o14, o15, o16, o17, o18, o19, o20, o21, o22, o23]) ∧ Same H23 H') (fun D' hD' => ?_) (fun σ' H24 hR => ?_)
  · refine ⟨⟨_, rfl⟩, _, rfl, _, sa, putR rows x y 35, rfl, rfl, .inr (SqT.of hsa), ?_, 46, _, rfl, rfl, _, rfl, ?_⟩
    · rw [sum_wide rom35.len, show (Str.ofString "").length = 0 from rfl, Nat.mul_zero, hpl35]
      have : rows.length * wide ≤ 6 * 6 := Nat.mul_le_mul hh6 hw6
      omega
    by_cases hd : decide (46 ∈ (Txt.join "" (putR rows x y 35)).cps.toList) = true
    · refine iteT' hd ⟨_, rfl, .ref sa, wide, putR rows x y 35, rfl, hsv, rom35, fun sl H24 k24 hsl => ?_⟩
      obtain ⟨rq, s1, s2, s3⟩ := hsl
      refine ⟨sl, rfl, ⟨_, SqL.of s1⟩, fun D hD => lc_list (K := K) (a := sl) (xs := rq.map fun r => V.ref r.2.1) (fun i H' => Same H24 H' ∧ H' D = some (.lst [])) ⟨same_new hD _, upd_same⟩ (fun i H' _ ⟨e, _⟩ => SqL.of (e _ _ s1)) ?_ ?_⟩
      · rintro j v H25 hv ⟨e25, hD25⟩
        rw [List.getElem?_map] at hv
        obtain ⟨r, hr, rfl⟩ := Option.map_eq_some_iff.mp hv
        have hrq := List.mem_of_getElem? hr
        have hin : r.1 ∈ rs.map (·.1) := by rw [hp3]; exact put_shut rom hx (by rw [← s3]; exact List.mem_map_of_mem hrq)
        have k25 := k24.trans e25
        refine ⟨rfl, ?_⟩
        refine ⟨_, rfl, _, rfl, pl, _, ppD r.1, (rs.map (·.1)).map ppD, rfl, .inl (SqL.of (k25 _ _ hp1)), ql_dp ((s2 r hrq).mono e25), qls_dp (fun q hq => (hp2 q hq).mono k25), pp_lay _, pps_lays _, _, rfl, iteF' (by rw [if_pos rfl, pps_any, decide_eq_true hin]; rfl) ⟨e25, hD25⟩⟩
      · rintro H25 ⟨e25, hD25⟩
        refine ⟨Nat.zero_le _, fun L hL => ?_⟩
        exact ⟨.list (([] : List P4).map ppD), .list (([] : List P4).map ppD), .lst (SqL.of ((same_new hL _) _ _ hD25)) .nil, .lst (SqL.of upd_same) .nil, pps_lay [], pps_lay [], _, rfl, iteF' (nil_ne rfl) (hD' _ _ ⟨⟨_, _, _, _, _, _, _, _, _, _, _, _, _, _, _, _, _, _, _, _, rfl⟩, k24.trans (e25.trans (same_new hL _))⟩)⟩
    · exact iteF' (Bool.eq_false_iff.mpr hd) (iteF (hD' _ _ ⟨⟨_, _, _, _, _, _, _, _, _, _, _, _, _, _, _, _, _, _, _, _, rfl⟩, Same.refl _⟩))
  obtain ⟨⟨o2, o5, o6, o7, o8, o9, o10, o11, o12, o13, o14, o15, o16, o17, o18, o19, o20, o21, o22, o23, rfl⟩, k24⟩ := hR
  have hra24 := k24 _ _ hra23
  have K24 := K23.trans k24
  clear hra23 K23 hsv hsa hp1 hp2
  refine ⟨_, rfl, .ref ra, wide, rows, rfl, ⟨ra, rfl, hra24⟩, rom, fun cl H25 hcl => ?_⟩
  obtain ⟨vs, hcl1, hA⟩ := hcl.all2
  have e25 := hcl.1
  have hra25 := e25 _ _ hra24
  have hin : ∀ w ∈ cellsM rows wide 46, In6 w := fun w hw => cells_in6 rom hw
  refine ⟨cl, rfl, ⟨_, SqL.of hcl1⟩, for_list (K := K) (a := cl) (xs := vs) (fun i σ H' => (∃ o2 o5 o6 o7 o8 o9 o10 o11 o12 o13 o14 o15 o16 o17 o18 o19 o20 o21 o22 o23, σ = [some (.ref a), some (.int n), o2, some (.ref ra), some (.int (wide : Nat)), o5, o6, o7, o8, o9, o10, o11, o12, o13, o14, o15, o16, o17, o18, o19, o20, o21, o22, o23]) ∧ Same H25 H') ⟨⟨_, _, _, _, _, _, _, _, _, _, _, _, _, _, _, _, _, _, _, _, rfl⟩, Same.refl _⟩ (fun i σ H' _ ⟨_, e⟩ => SqL.of (e _ _ hcl1)) ?_ ?_⟩
  · rintro j v σ H26 hv ⟨⟨o2, o5, o6, o7, o8, o9, o10, o11, o12, o13, o14, o15, o16, o17, o18, o19, o20, o21, o22, o23, rfl⟩, e26⟩
    obtain ⟨c, hc, hcv⟩ := hA.get hv
    have c6 := hin c (List.mem_of_getElem? hc)
    have hra26 := e26 _ _ hra25
    obtain ⟨va, rfl, hva⟩ := hcv.mono e26
    refine ⟨va, _, rfl, SqT.of hva, rfl, _, _, rfl, _, _, rfl, rfl, ?_⟩
    refine ⟨_, rfl, _, _, rfl, rfl, _, rfl, two, fun Ta hTa => ⟨_, rfl, _, rfl, _, _, rfl, rfl, two, fun Tb hTb => ⟨two, fun T3 hT3 => ?_⟩⟩⟩
    have ga := same_new hTa (.tup [.int (c.1 + 1), .int c.2])
    have gb := same_new hTb (.tup [.int c.1, .int (c.2 + 1)])
    have gt := same_new hT3 (.tup [.ref Ta, .ref Tb])
    have hTa3 := (gb.trans gt) _ _ (upd_same (H := H26) (a := Ta) (o := .tup [.int (c.1 + 1), .int c.2]))
    have hTb3 := gt _ _ (upd_same (H := upd H26 Ta (.tup [.int (c.1 + 1), .int c.2])) (a := Tb) (o := .tup [.int c.1, .int (c.2 + 1)]))
    have hT33 := upd_same (H := upd (upd H26 Ta (.tup [.int (c.1 + 1), .int c.2])) Tb (.tup [.int c.1, .int (c.2 + 1)])) (a := T3) (o := .tup [.ref Ta, .ref Tb])
    have k27 := ga.trans (gb.trans gt)
    clear ga gb gt
    generalize upd (upd (upd H26 Ta (.tup [.int (c.1 + 1), .int c.2])) Tb (.tup [.int c.1, .int (c.2 + 1)])) T3 (.tup [.ref Ta, .ref Tb]) = H27 at *
    have hra27 := k27 _ _ hra26
    refine ⟨T3, rfl, ⟨_, SqT.of hT33⟩, for_tup (K := K) (a := T3) (xs := [.ref Ta, .ref Tb]) (fun i σ H' => (∃ o2 o5 o6 o7 o8 o9 o10 o11 o12 o15 o16 o17 o18 o19 o20 o21 o22 o23, σ = [some (.ref a), some (.int n), o2, some (.ref ra), some (.int (wide : Nat)), o5, o6, o7, o8, o9, o10, o11, o12, some (.int c.1), some (.int c.2), o15, o16, o17, o18, o19, o20, o21, o22, o23]) ∧ Same H27 H') ⟨⟨_, _, _, _, _, _, _, _, _, _, _, _, _, _, _, _, _, _, rfl⟩, Same.refl _⟩ (fun i σ H' _ ⟨_, e⟩ => SqT.of (e _ _ hT33)) ?_ ?_⟩
    · rintro i2 v2 σ H28 hv2 ⟨⟨o2, o5, o6, o7, o8, o9, o10, o11, o12, o15, o16, o17, o18, o19, o20, o21, o22, o23, rfl⟩, e28⟩
      obtain ⟨o, ho, hside⟩ : ∃ o : Cell, IP K H28 v2 o.1 o.2 ∧ ((o.1 = c.1 + 1 ∧ o.2 = c.2) ∨ (o.1 = c.1 ∧ o.2 = c.2 + 1)) := by
        match i2, hv2 with
        | 0, hv2 => cases hv2; exact ⟨(c.1 + 1, c.2), ⟨Ta, rfl, SqT.of (e28 _ _ hTa3)⟩, .inl ⟨rfl, rfl⟩⟩
        | 1, hv2 => cases hv2; exact ⟨(c.1, c.2 + 1), ⟨Tb, rfl, SqT.of (e28 _ _ hTb3)⟩, .inr ⟨rfl, rfl⟩⟩
      have hra28 := e28 _ _ hra27
      refine ⟨_, rfl, _, rfl, .ref ra, wide, rows, rfl, ⟨ra, rfl, hra28⟩, rom, fun cl2 H29 hcl2 => ?_⟩
      obtain ⟨vs2, hcl22, hA2⟩ := hcl2.all2
      have e29 := hcl2.1
      refine ⟨cl2, vs2, cdD o, (cellsM rows wide 46).map cdD, rfl, .inl (SqL.of hcl22), cd_dp (ho.mono e29), cds_dp hA2, cd_lay o, cds_lay _, _, rfl, ?_⟩
      by_cases hino : o ∈ cellsM rows wide 46
      · refine iteT' (by rw [if_neg Bool.false_ne_true, cds_any]; exact decide_eq_true hino) ?_
        have hs : seesM rows wide c o = true := sees_side (mem_cells.mp (List.mem_of_getElem? hc)) (mem_cells.mp hino) hside
        refine ⟨_, rfl, _, rfl, _, rfl, two, fun Tc hTc => ?_⟩
        have gc := same_new hTc (.tup [.int c.1, .int c.2])
        refine ⟨_, rfl, .ref ra, .ref Tc, v2, wide, rows, c, o, rfl, ⟨ra, rfl, (e29.trans gc) _ _ hra28⟩, rom, IP.new, ho.mono (e29.trans gc), c6, hin o hino, fun H30 e30 => ⟨_, rfl, iteF' (by rw [hs]; rfl) ?_⟩⟩
        exact ⟨⟨_, _, _, _, _, _, _, _, _, _, _, _, _, _, _, _, _, _, rfl⟩, e28.trans (e29.trans (gc.trans e30))⟩
      · exact iteF' (by rw [if_neg Bool.false_ne_true, cds_any]; exact decide_eq_false hino) (iteF ⟨⟨_, _, _, _, _, _, _, _, _, _, _, _, _, _, _, _, _, _, rfl⟩, e28.trans e29⟩)
    · rintro σ H28 ⟨⟨o2, o5, o6, o7, o8, o9, o10, o11, o12, o15, o16, o17, o18, o19, o20, o21, o22, o23, rfl⟩, e28⟩
      exact ⟨⟨_, _, _, _, _, _, _, _, _, _, _, _, _, _, _, _, _, _, _, _, rfl⟩, e26.trans (k27.trans e28)⟩
  rintro σ H26 ⟨⟨o2, o5, o6, o7, o8, o9, o10, o11, o12, o13, o14, o15, o16, o17, o18, o19, o20, o21, o22, o23, rfl⟩, e26⟩
  have hra26 := e26 _ _ hra25
  refine ⟨_, rfl, 46, wide, rfl, rfl, by omega, by omega, (by show 1 ≤ sizeLine; decide), fun Te hTe => ?_⟩
  have ge := same_new hTe (.tup [.str (repS 46 ((wide : Nat) : Int).toNat)])
  refine ⟨_, rfl, ra, _, rfl, .inr (SqT.of (ge _ _ hra26)), ?_⟩
  refine repU_key (xs := [.str (repS 46 ((wide : Nat) : Int).toNat)]) upd_same (by omega) (by omega) (by simp) (by rw [List.length_singleton]; exact small9 (by omega)) fun ev H27 e27 hev => ?_
  rw [show ((((rows.map V.str).length : Nat) : Int)).toNat = rows.length by omega, show ((wide : Nat) : Int).toNat = wide by omega, emp_flat] at hev
  have k27 := ge.trans e27
  have hra27 := k27 _ _ hra26
  refine ⟨_, rfl, ev, wide, empR wide rows.length, rfl, hev, empR_rom hh0 hh6 hw0 hw6, fun l9 H28 e28 hl9 => ?_⟩
  obtain ⟨r9, z1, z2, z3⟩ := hl9
  have hra28 := e28 _ _ hra27
  have hz : (((r9.map fun r => V.ref r.2.1).length : Nat) : Int) = (wide : Int) * ((rows.map V.str).length : Nat) * ((wide : Int) * ((rows.map V.str).length : Nat) - 1) := by
    have h1 := emp_pairs (wide := wide) (n := rows.length) hh6 hw6
    rw [← z3, List.length_map] at h1
    rw [List.length_map, h1, hlr]
    have h2 : 1 ≤ wide * rows.length := Nat.mul_pos hw0 hh0
    rw [Int.natCast_mul, Int.natCast_mul, Int.natCast_sub h2, Int.natCast_mul]
    rfl
  have b1 : CMul (wide : Int) ((rows.map V.str).length : Nat) := .inl ⟨by omega, by omega⟩
  have b2 : CMul ((wide : Int) * ((rows.map V.str).length : Nat)) ((wide : Int) * ((rows.map V.str).length : Nat) - 1) := by
    have h3 : wide * rows.length ≤ 6 * 6 := Nat.mul_le_mul hw6 hh6
    have h4 : (wide : Int) * ((rows.map V.str).length : Nat) = ((wide * rows.length : Nat) : Int) := by rw [hlr, Int.natCast_mul]
    rw [h4]
    exact .inl ⟨by omega, by omega⟩
  refine ⟨l9, _, rfl, .inl (SqL.of z1), _, rfl, _, rfl, ra, _, rfl, .inr (SqT.of hra28), _, _, rfl, rfl, b1, _, rfl, _, rfl, ra, _, rfl, .inr (SqT.of hra28), _, _, rfl, rfl, b1, _, _, rfl, rfl, _, _, rfl, rfl, b2, rfl, _, rfl, iteF' (by rw [hz, decide_eq_true rfl]; rfl) ?_⟩
  exact ⟨⟨_, _, _, _, _, _, _, _, _, _, _, _, _, _, _, _, _, _, _, _, _, _, _, rfl⟩, e1.trans (e2.trans (e3.trans (K24.trans (e25.trans (e26.trans (k27.trans e28))))))⟩
end
end KG

set_option Elab.async false
set_option linter.all false
set_option maxRecDepth 100000
set_option maxHeartbeats 8000000
namespace KG
open PySem L2 Ry TH LS LC RM RR SR KM
open LB hiding spLow spLess spApart spTurn spMoved spMeet spTwo spCross spLL
theorem df_mk {K : PySem.W.Frag} {h : Heap} {mg : Str → Option Value} {x : Str} {st : Stmt} {ps : List Str} {f : Addr} {oc : Value} {od an : Option Addr} {osl : Array (Option Value)} {kV doc pm cdv ct : Value} (X : K.In h) (G : h.Ns mainGlobals mg)
    (a : PySem.W.nsIn K mainGlobals x = some (some (.ref f))) (l : K.lookup f = some ⟨oc, od, .func (PySem.W.fnOf x x (defArgs st) (defBody st) (defScope st) .none kV doc pm an cdv ct), osl⟩) (c : PySem.W.codeIn K cdv x = true) (k : PySem.W.keepIn K (.ref f) = true)
    (hb : ∀ (kV doc pm : Value) (an : Option Addr) (cdv ct : Value) (us : List Value), us.length = ps.length → bindArgs (PySem.W.fnOf x x (defArgs st) (defBody st) (defScope st) .none kV doc pm an cdv ct) ⟨us, []⟩ = pure (ps.zip us)) : Df K mg x st ps :=
  ⟨f, _, fun_mk l c k, (fun_mk l c k).binds hb, PySem.W.mg_of X G a⟩
theorem all_mk {l : PySem.W.OpenLaw} {w : World} {K : PySem.W.Frag} {h : Heap} {mg : Str → Option Value} {fa : Addr} (X : K.In h) (G : h.Ns mainGlobals mg) (hfa : mg "law" = some (.ref fa))
    {f1 : Addr} {od1 an1 : Option Addr} {sl1 : Array (Option Value)} {oc1 kV1 dc1 pm1 cd1 ct1 : Value}
    {f5 : Addr} {od5 an5 : Option Addr} {sl5 : Array (Option Value)} {oc5 kV5 dc5 pm5 cd5 ct5 : Value}
    {f6 : Addr} {od6 an6 : Option Addr} {sl6 : Array (Option Value)} {oc6 kV6 dc6 pm6 cd6 ct6 : Value}
    {f7 : Addr} {od7 an7 : Option Addr} {sl7 : Array (Option Value)} {oc7 kV7 dc7 pm7 cd7 ct7 : Value}
    {f8 : Addr} {od8 an8 : Option Addr} {sl8 : Array (Option Value)} {oc8 kV8 dc8 pm8 cd8 ct8 : Value}
    {f9 : Addr} {od9 an9 : Option Addr} {sl9 : Array (Option Value)} {oc9 kV9 dc9 pm9 cd9 ct9 : Value}
    {f10 : Addr} {od10 an10 : Option Addr} {sl10 : Array (Option Value)} {oc10 kV10 dc10 pm10 cd10 ct10 : Value}
    {f12 : Addr} {od12 an12 : Option Addr} {sl12 : Array (Option Value)} {oc12 kV12 dc12 pm12 cd12 ct12 : Value}
    {f13 : Addr} {od13 an13 : Option Addr} {sl13 : Array (Option Value)} {oc13 kV13 dc13 pm13 cd13 ct13 : Value}
    {f14 : Addr} {od14 an14 : Option Addr} {sl14 : Array (Option Value)} {oc14 kV14 dc14 pm14 cd14 ct14 : Value}
    {f15 : Addr} {od15 an15 : Option Addr} {sl15 : Array (Option Value)} {oc15 kV15 dc15 pm15 cd15 ct15 : Value}
    {f16 : Addr} {od16 an16 : Option Addr} {sl16 : Array (Option Value)} {oc16 kV16 dc16 pm16 cd16 ct16 : Value}
    {f17 : Addr} {od17 an17 : Option Addr} {sl17 : Array (Option Value)} {oc17 kV17 dc17 pm17 cd17 ct17 : Value}
    {tk_WALL : Tok}
    {tk_FREE : Tok}
    (a1 : PySem.W.nsIn K mainGlobals "turn" = some (some (.ref f1))) (l1 : K.lookup f1 = some ⟨oc1, od1, .func (PySem.W.fnOf "turn" "turn" (defArgs (top 1)) (defBody (top 1)) (defScope (top 1)) .none kV1 dc1 pm1 an1 cd1 ct1), sl1⟩) (y1 : PySem.W.codeIn K cd1 "turn" = true) (k1 : PySem.W.keepIn K (.ref f1) = true)
    (a5 : PySem.W.nsIn K mainGlobals "cells" = some (some (.ref f5))) (l5 : K.lookup f5 = some ⟨oc5, od5, .func (PySem.W.fnOf "cells" "cells" (defArgs (top 5)) (defBody (top 5)) (defScope (top 5)) .none kV5 dc5 pm5 an5 cd5 ct5), sl5⟩) (y5 : PySem.W.codeIn K cd5 "cells" = true) (k5 : PySem.W.keepIn K (.ref f5) = true)
    (a6 : PySem.W.nsIn K mainGlobals "sees" = some (some (.ref f6))) (l6 : K.lookup f6 = some ⟨oc6, od6, .func (PySem.W.fnOf "sees" "sees" (defArgs (top 6)) (defBody (top 6)) (defScope (top 6)) .none kV6 dc6 pm6 an6 cd6 ct6), sl6⟩) (y6 : PySem.W.codeIn K cd6 "sees" = true) (k6 : PySem.W.keepIn K (.ref f6) = true)
    (a7 : PySem.W.nsIn K mainGlobals "seen_from" = some (some (.ref f7))) (l7 : K.lookup f7 = some ⟨oc7, od7, .func (PySem.W.fnOf "seen_from" "seen_from" (defArgs (top 7)) (defBody (top 7)) (defScope (top 7)) .none kV7 dc7 pm7 an7 cd7 ct7), sl7⟩) (y7 : PySem.W.codeIn K cd7 "seen_from" = true) (k7 : PySem.W.keepIn K (.ref f7) = true)
    (a8 : PySem.W.nsIn K mainGlobals "cells_of" = some (some (.ref f8))) (l8 : K.lookup f8 = some ⟨oc8, od8, .func (PySem.W.fnOf "cells_of" "cells_of" (defArgs (top 8)) (defBody (top 8)) (defScope (top 8)) .none kV8 dc8 pm8 an8 cd8 ct8), sl8⟩) (y8 : PySem.W.codeIn K cd8 "cells_of" = true) (k8 : PySem.W.keepIn K (.ref f8) = true)
    (a9 : PySem.W.nsIn K mainGlobals "is_between" = some (some (.ref f9))) (l9 : K.lookup f9 = some ⟨oc9, od9, .func (PySem.W.fnOf "is_between" "is_between" (defArgs (top 9)) (defBody (top 9)) (defScope (top 9)) .none kV9 dc9 pm9 an9 cd9 ct9), sl9⟩) (y9 : PySem.W.codeIn K cd9 "is_between" = true) (k9 : PySem.W.keepIn K (.ref f9) = true)
    (a10 : PySem.W.nsIn K mainGlobals "gap" = some (some (.ref f10))) (l10 : K.lookup f10 = some ⟨oc10, od10, .func (PySem.W.fnOf "gap" "gap" (defArgs (top 10)) (defBody (top 10)) (defScope (top 10)) .none kV10 dc10 pm10 an10 cd10 ct10), sl10⟩) (y10 : PySem.W.codeIn K cd10 "gap" = true) (k10 : PySem.W.keepIn K (.ref f10) = true)
    (a12 : PySem.W.nsIn K mainGlobals "_law_cell" = some (some (.ref f12))) (l12 : K.lookup f12 = some ⟨oc12, od12, .func (PySem.W.fnOf "_law_cell" "_law_cell" (defArgs (top 12)) (defBody (top 12)) (defScope (top 12)) .none kV12 dc12 pm12 an12 cd12 ct12), sl12⟩) (y12 : PySem.W.codeIn K cd12 "_law_cell" = true) (k12 : PySem.W.keepIn K (.ref f12) = true)
    (a13 : PySem.W.nsIn K mainGlobals "_law_draws" = some (some (.ref f13))) (l13 : K.lookup f13 = some ⟨oc13, od13, .func (PySem.W.fnOf "_law_draws" "_law_draws" (defArgs (top 13)) (defBody (top 13)) (defScope (top 13)) .none kV13 dc13 pm13 an13 cd13 ct13), sl13⟩) (y13 : PySem.W.codeIn K cd13 "_law_draws" = true) (k13 : PySem.W.keepIn K (.ref f13) = true)
    (a14 : PySem.W.nsIn K mainGlobals "_law_room" = some (some (.ref f14))) (l14 : K.lookup f14 = some ⟨oc14, od14, .func (PySem.W.fnOf "_law_room" "_law_room" (defArgs (top 14)) (defBody (top 14)) (defScope (top 14)) .none kV14 dc14 pm14 an14 cd14 ct14), sl14⟩) (y14 : PySem.W.codeIn K cd14 "_law_room" = true) (k14 : PySem.W.keepIn K (.ref f14) = true)
    (a15 : PySem.W.nsIn K mainGlobals "_law_signed" = some (some (.ref f15))) (l15 : K.lookup f15 = some ⟨oc15, od15, .func (PySem.W.fnOf "_law_signed" "_law_signed" (defArgs (top 15)) (defBody (top 15)) (defScope (top 15)) .none kV15 dc15 pm15 an15 cd15 ct15), sl15⟩) (y15 : PySem.W.codeIn K cd15 "_law_signed" = true) (k15 : PySem.W.keepIn K (.ref f15) = true)
    (a16 : PySem.W.nsIn K mainGlobals "_law_pairs" = some (some (.ref f16))) (l16 : K.lookup f16 = some ⟨oc16, od16, .func (PySem.W.fnOf "_law_pairs" "_law_pairs" (defArgs (top 16)) (defBody (top 16)) (defScope (top 16)) .none kV16 dc16 pm16 an16 cd16 ct16), sl16⟩) (y16 : PySem.W.codeIn K cd16 "_law_pairs" = true) (k16 : PySem.W.keepIn K (.ref f16) = true)
    (a17 : PySem.W.nsIn K mainGlobals "law" = some (some (.ref f17))) (l17 : K.lookup f17 = some ⟨oc17, od17, .func (PySem.W.fnOf "law" "law" (defArgs (top 17)) (defBody (top 17)) (defScope (top 17)) .none kV17 dc17 pm17 an17 cd17 ct17), sl17⟩) (y17 : PySem.W.codeIn K cd17 "law" = true) (k17 : PySem.W.keepIn K (.ref f17) = true)
    (z_len : PySem.W.nsIn K mainGlobals "len" = some none)
    (z_range : PySem.W.nsIn K mainGlobals "range" = some none)
    (z_enumerate : PySem.W.nsIn K mainGlobals "enumerate" = some none)
    (z_sorted : PySem.W.nsIn K mainGlobals "sorted" = some none)
    (z_tuple : PySem.W.nsIn K mainGlobals "tuple" = some none)
    (z_list : PySem.W.nsIn K mainGlobals "list" = some none)
    (z_int : PySem.W.nsIn K mainGlobals "int" = some none)
    (z_min : PySem.W.nsIn K mainGlobals "min" = some none)
    (z_max : PySem.W.nsIn K mainGlobals "max" = some none)
    (z_any : PySem.W.nsIn K mainGlobals "any" = some none)
    (z_WALL : PySem.W.nsIn K mainGlobals "WALL" = some (some (.str "#" tk_WALL)))
    (z_FREE : PySem.W.nsIn K mainGlobals "FREE" = some (some (.str "." tk_FREE))) :
    ∃ fd : FuncData, (∀ (s : Shared) (v : Value), BindsTo s fd ⟨[v], []⟩ [("script", v)]) ∧ ∀ base : Heap, K.In base → base.Ns mainGlobals mg → FnOk l.prog w K mg base CX0 6 fa fd ["script"] (spLaw K) := by
  have e := hfa.symm.trans (PySem.W.mg_of X G a17)
  cases e
  have D1 : Df K mg "turn" (top 1) ["one", "other"] := df_mk X G a1 l1 y1 k1 fun _ _ _ _ _ _ us hl => match us, hl with | [_, _], _ => rfl
  have D5 : Df K mg "cells" (top 5) ["room"] := df_mk X G a5 l5 y5 k5 fun _ _ _ _ _ _ us hl => match us, hl with | [_], _ => rfl
  have D6 : Df K mg "sees" (top 6) ["room", "cell", "other"] := df_mk X G a6 l6 y6 k6 fun _ _ _ _ _ _ us hl => match us, hl with | [_, _, _], _ => rfl
  have D7 : Df K mg "seen_from" (top 7) ["room", "cell"] := df_mk X G a7 l7 y7 k7 fun _ _ _ _ _ _ us hl => match us, hl with | [_, _], _ => rfl
  have D8 : Df K mg "cells_of" (top 8) ["room", "sign"] := df_mk X G a8 l8 y8 k8 fun _ _ _ _ _ _ us hl => match us, hl with | [_, _], _ => rfl
  have D9 : Df K mg "is_between" (top 9) ["wall", "one", "other"] := df_mk X G a9 l9 y9 k9 fun _ _ _ _ _ _ us hl => match us, hl with | [_, _, _], _ => rfl
  have D10 : Df K mg "gap" (top 10) ["one", "other"] := df_mk X G a10 l10 y10 k10 fun _ _ _ _ _ _ us hl => match us, hl with | [_, _], _ => rfl
  have D12 : Df K mg "_law_cell" (top 12) ["script", "k"] := df_mk X G a12 l12 y12 k12 fun _ _ _ _ _ _ us hl => match us, hl with | [_, _], _ => rfl
  have D13 : Df K mg "_law_draws" (top 13) ["script", "k", "many", "base"] := df_mk X G a13 l13 y13 k13 fun _ _ _ _ _ _ us hl => match us, hl with | [_, _, _, _], _ => rfl
  have D14 : Df K mg "_law_room" (top 14) ["draws"] := df_mk X G a14 l14 y14 k14 fun _ _ _ _ _ _ us hl => match us, hl with | [_], _ => rfl
  have D15 : Df K mg "_law_signed" (top 15) ["room", "cell", "sign"] := df_mk X G a15 l15 y15 k15 fun _ _ _ _ _ _ us hl => match us, hl with | [_, _, _], _ => rfl
  have D16 : Df K mg "_law_pairs" (top 16) ["room"] := df_mk X G a16 l16 y16 k16 fun _ _ _ _ _ _ us hl => match us, hl with | [_], _ => rfl
  have m_len := PySem.W.mg_none_of X G z_len
  have m_range := PySem.W.mg_none_of X G z_range
  have m_enumerate := PySem.W.mg_none_of X G z_enumerate
  have m_sorted := PySem.W.mg_none_of X G z_sorted
  have m_tuple := PySem.W.mg_none_of X G z_tuple
  have m_list := PySem.W.mg_none_of X G z_list
  have m_int := PySem.W.mg_none_of X G z_int
  have m_min := PySem.W.mg_none_of X G z_min
  have m_max := PySem.W.mg_none_of X G z_max
  have m_any := PySem.W.mg_none_of X G z_any
  have m_WALL := PySem.W.mg_of X G z_WALL
  have m_FREE := PySem.W.mg_of X G z_FREE
  refine ⟨_, fun s v => .of_eq rfl, fun base _ _ => fnL (fun_mk (st := sL) l17 y17 k17) ?_⟩
  have C9 : Cal l.prog w K mg base 1 "turn" ["one", "other"] (LC.spTurn K) := c9 D1
  have C13 : Cal l.prog w K mg base 1 "_law_cell" ["script", "k"] (spCell K) := c13 D12 m_len
  have C14 := c14 D13 C13 m_range
  have GP : Cal l.prog w K mg base 1 "gap" ["one", "other"] (spGap K) := cGP D10
  have BT := cBT D9 GP C9 m_min m_max
  have CO : Cal l.prog w K mg base 1 "cells_of" ["room", "sign"] spCellsOf := cCO D8 m_sorted m_enumerate
  have CE := cCE D5 CO m_FREE
  have SE := cSE D6 CO BT m_WALL m_any
  have SF := cSF D7 CE SE
  have LR : Cal l.prog w K mg base 1 "_law_room" ["draws"] spRoom := cLR D14 m_range m_int m_tuple
  have SG : Cal l.prog w K mg base 1 "_law_signed" ["room", "cell", "sign"] (spSigned K) := cSG D15 m_list m_tuple
  have LP := cLP D16 CE SF
  exact ⟨C14, LR, CE, SE, LP, SG, m_sorted, m_tuple, m_len, m_range⟩
theorem walk {l : PySem.W.OpenLaw} {q : Program} {loose : List Str} {XP : (Str → Option Value) → Heap → Prop} {YP : World → Heap → Prop} {d : DefRec} {K : Params → PySem.W.Frag} (hn : l.most = some 63) (hdf : d.params.defaults = [])
    (hY : ∀ (w : World) (h : Heap), YP w h → (K w.params).In h)
    (F : ∀ (w : World) (mg : Str → Option Value) (fa : Addr) (h : Heap), (K w.params).In h → h.Ns mainGlobals mg → mg d.name = some (.ref fa) →
      ∃ fd : FuncData, (∀ (s : Shared) (u : Value), BindsTo s fd ⟨[u], []⟩ [("script", u)]) ∧ ∀ base : Heap, (K w.params).In base → base.Ns mainGlobals mg → FnOk l.prog w (K w.params) mg base CX0 6 fa fd ["script"] (spLaw (K w.params))) :
    PySem.W.WalkO q loose XP YP l.row.toRowW d [] (fun f vs => PySem.call f vs) :=
  L2.walk_of (n := 63) (k := 6) (x := "script") (CX := fun _ => CX0) (sp := fun w => spLaw (K w.params)) hn (by decide) hdf ⟨rfl, by decide, by decide⟩ hY F (fun _ _ a ns hl _ hS => ⟨a, ns, rfl, hS, hl, fun _ => rfl⟩) fun _ _ _ _ _ z => z
end KG
open PySem PySem.W PyProof.Rows
set_option maxRecDepth 100000 in
set_option maxHeartbeats 0 in
theorem PySem.Challenge.cw_rigeyes_k17_whole_sight_holds : PySem.Challenge.rw_rigeyes_k17_whole_sight.Holds := by
  w_on; o_law; k_head; (case hw => w_witness2)
  k_fill
  refine KG.walk (l := PySem.Challenge.rw_rigeyes_k17_whole_sight) rfl rfl (fun w h Y => PySem.W.kIn_of Y) ?F
  case F =>
    intro w mg fa h KX G hmg
    refine' KG.all_mk KX G hmg ?a1 ?l1 ?y1 ?k1 ?a5 ?l5 ?y5 ?k5 ?a6 ?l6 ?y6 ?k6 ?a7 ?l7 ?y7 ?k7 ?a8 ?l8 ?y8 ?k8 ?a9 ?l9 ?y9 ?k9 ?a10 ?l10 ?y10 ?k10 ?a12 ?l12 ?y12 ?k12 ?a13 ?l13 ?y13 ?k13 ?a14 ?l14 ?y14 ?k14 ?a15 ?l15 ?y15 ?k15 ?a16 ?l16 ?y16 ?k16 ?a17 ?l17 ?y17 ?k17 ?z_len ?z_range ?z_enumerate ?z_sorted ?z_tuple ?z_list ?z_int ?z_min ?z_max ?z_any ?z_WALL ?z_FREE
    (case a1 => k_is); (case l1 => k_is); (case y1 => k_is); (case k1 => k_is)
    (case a5 => k_is); (case l5 => k_is); (case y5 => k_is); (case k5 => k_is)
    (case a6 => k_is); (case l6 => k_is); (case y6 => k_is); (case k6 => k_is)
    (case a7 => k_is); (case l7 => k_is); (case y7 => k_is); (case k7 => k_is)
    (case a8 => k_is); (case l8 => k_is); (case y8 => k_is); (case k8 => k_is)
    (case a9 => k_is); (case l9 => k_is); (case y9 => k_is); (case k9 => k_is)
    (case a10 => k_is); (case l10 => k_is); (case y10 => k_is); (case k10 => k_is)
    (case a12 => k_is); (case l12 => k_is); (case y12 => k_is); (case k12 => k_is)
    (case a13 => k_is); (case l13 => k_is); (case y13 => k_is); (case k13 => k_is)
    (case a14 => k_is); (case l14 => k_is); (case y14 => k_is); (case k14 => k_is)
    (case a15 => k_is); (case l15 => k_is); (case y15 => k_is); (case k15 => k_is)
    (case a16 => k_is); (case l16 => k_is); (case y16 => k_is); (case k16 => k_is)
    (case a17 => k_is); (case l17 => k_is); (case y17 => k_is); (case k17 => k_is)
    (case z_len => k_is); (case z_range => k_is); (case z_enumerate => k_is); (case z_sorted => k_is); (case z_tuple => k_is); (case z_list => k_is); (case z_int => k_is); (case z_min => k_is); (case z_max => k_is); (case z_any => k_is); (case z_WALL => k_is); (case z_FREE => k_is)
#print axioms PySem.Challenge.cw_rigeyes_k17_whole_sight_holds
