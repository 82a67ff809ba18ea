import PyProof.Rows.All
import Wide.All
import OpenK.AllK
import Wide.FinOn
import PyProof.EqAt
import PyProof.EqKinds
import PyProof.TupleCall
import KE.BitLaws
import Open.SpecLaws
import KE.OsHead
import KE.OsGo
import PyProof.Rows.SortShellAny
import PySem.Challenge.RW_cutorders_s01_answers
set_option Elab.async false
set_option linter.all false
set_option maxRecDepth 100000
/-! THE HAND LAYER, for ints, bools, texts, own classes, lists, tuples, dicts, comprehensions, walks over dicts, enumerate, zip, reversed, texts, calls, loops. Paste it whole ahead of your own text; what your proof does not reach may be deleted. -/
namespace L2
open PySem PySem.Spec PyProof.Rows

/-- a key: an int or a str -/
abbrev Key := Sum Int Str
def keyIs : Key → Value → Bool
  | .inl k, v => Value.isInt k v
  | .inr x, v => Value.isStrOf x v
def keyH (w : World) : Key → Int
  | .inl k => hashInt k
  | .inr x => hashStr w x
theorem keyIs_shape : ∀ {k : Key} {v : Value}, keyIs k v = true → (∃ i t, k = Sum.inl i ∧ v = Value.int i t) ∨ (∃ x t, k = Sum.inr x ∧ v = Value.str x t)
  | .inl i, v, h => by
    obtain ⟨t, e⟩ := Value.isInt_shape (k := i) (v := v) h
    exact .inl ⟨i, t, rfl, e⟩
  | .inr x, v, h => by
    obtain ⟨t, e⟩ := Value.isStrOf_shape (x := x) (v := v) h
    exact .inr ⟨x, t, rfl, e⟩
theorem key_ll (a b : Int) : decide ((Sum.inl a : Key) = Sum.inl b) = (a == b) := by
  by_cases e : a = b
  · subst e; simp
  · have h : ¬ (Sum.inl a : Key) = Sum.inl b := fun q => e (Sum.inl.inj q)
    rw [decide_eq_false h]
    exact (beq_eq_false_iff_ne.mpr e).symm
theorem key_rr (a b : Str) : decide ((Sum.inr a : Key) = Sum.inr b) = decide (a = b) := by
  by_cases e : a = b
  · subst e; simp
  · have h : ¬ (Sum.inr a : Key) = Sum.inr b := fun q => e (Sum.inr.inj q)
    rw [decide_eq_false h, decide_eq_false e]
theorem key_lr (a : Int) (b : Str) : decide ((Sum.inl a : Key) = Sum.inr b) = false := decide_eq_false (fun q => nomatch q)
theorem key_rl (a : Str) (b : Int) : decide ((Sum.inr a : Key) = Sum.inl b) = false := decide_eq_false (fun q => nomatch q)

def mixKind (prog : Program) (w : World) : PySem.KeyKind prog w Key where
  is := keyIs
  hash := keyH w
  inj := fun v a b ha hb => by
    rcases keyIs_shape ha with ⟨i, t, rfl, rfl⟩ | ⟨x, t, rfl, rfl⟩
    · rcases keyIs_shape hb with ⟨j, u, rfl, e⟩ | ⟨y, u, rfl, e⟩
      · injection e with e1 _; rw [e1]
      · exact nomatch e
    · rcases keyIs_shape hb with ⟨j, u, rfl, e⟩ | ⟨y, u, rfl, e⟩
      · exact nomatch e
      · injection e with e1 _; rw [e1]
  byValue := fun k v h => by
    rcases keyIs_shape h with ⟨i, t, rfl, rfl⟩ | ⟨x, t, rfl, rfl⟩ <;> rfl
  pyHash := fun hv h => by
    rcases keyIs_shape hv with ⟨i, t, rfl, rfl⟩ | ⟨x, t, rfl, rfl⟩
    · exact wpAny_pyHash_int h
    · exact wpAny_pyHash_str h
  eqBool := fun hu hv h => by
    rcases keyIs_shape hu with ⟨i, t, rfl, rfl⟩ | ⟨x, t, rfl, rfl⟩
    · rcases keyIs_shape hv with ⟨j, u, rfl, rfl⟩ | ⟨y, u, rfl, rfl⟩
      · rw [key_ll] at h; exact wpAny_eqBool_int h
      · rw [key_lr] at h; exact SeqAt.EqAt.int_str i t y u _ _ _ _ h
    · rcases keyIs_shape hv with ⟨j, u, rfl, rfl⟩ | ⟨y, u, rfl, rfl⟩
      · rw [key_rl] at h; exact SeqAt.EqAt.str_int x t j u _ _ _ _ h
      · rw [key_rr] at h; exact wpAny_eqBool_str h
  «strs» := fun k x t v h => by
    rcases keyIs_shape h with ⟨i, u, rfl, e⟩ | ⟨y, u, rfl, e⟩
    · exact nomatch e
    · injection e with e1 _
      subst e1
      cases v <;> rfl

end L2

namespace L2
open PySem PySem.Spec PyProof.Rows

/-- a value, without the heap -/
inductive V where
  | non | bl (b : Bool) | int (i : Int) | str (x : Str) | byt (b : Array UInt8) | flt (b : UInt64) | ref (a : Addr) | ty (n : String)
  deriving DecidableEq

def RelV : V → Value → Prop
  | .non, u => u = Value.none
  | .bl b, u => u = Value.bool b
  | .int i, u => ∃ t, u = Value.int i t
  | .str x, u => ∃ t, u = Value.str x t
  | .byt b, u => ∃ t, u = Value.bytes b t
  | .flt b, u => ∃ t, u = Value.float b t
  | .ref a, u => u = Value.ref a
  | .ty n, u => u = Value.type n

abbrev Vals : List V → List Value → Prop := Paired RelV
theorem Vals.length {xs : List V} {us : List Value} (r : Vals xs us) : xs.length = us.length := Paired.length r
theorem Vals.get : ∀ {xs : List V} {us : List Value} {i : Nat} {x : V}, Vals xs us → xs[i]? = some x → ∃ u, us[i]? = some u ∧ RelV x u
  | _, _, _, _, .nil, e => by simp at e
  | _, _, 0, _, .cons r _, e => by simp at e; subst e; exact ⟨_, rfl, r⟩
  | _, _, i + 1, x, .cons _ t, e => by
    obtain ⟨u, h1, h2⟩ := Vals.get (i := i) (x := x) t (by simpa using e)
    exact ⟨u, by simpa using h1, h2⟩
theorem Vals.set {x : V} {u : Value} (r : RelV x u) : ∀ {xs : List V} {us : List Value} (i : Nat), Vals xs us → Vals (xs.set i x) (us.set i u)
  | _, _, _, .nil => .nil
  | _, _, 0, .cons _ t => .cons r t
  | _, _, i + 1, .cons q t => .cons q (Vals.set r i t)
theorem Vals.append : ∀ {xs ys : List V} {us ws : List Value}, Vals xs us → Vals ys ws → Vals (xs ++ ys) (us ++ ws)
  | _, _, _, _, .nil, s => s
  | _, _, _, _, .cons r t, s => .cons r (Vals.append t s)
theorem Vals.take : ∀ {xs : List V} {us : List Value} (n : Nat), Vals xs us → Vals (xs.take n) (us.take n)
  | _, _, 0, _ => .nil
  | _, _, _ + 1, .nil => .nil
  | _, _, n + 1, .cons r t => .cons r (Vals.take n t)
theorem Vals.drop : ∀ {xs : List V} {us : List Value} (n : Nat), Vals xs us → Vals (xs.drop n) (us.drop n)
  | _, _, 0, r => r
  | _, _, _ + 1, .nil => .nil
  | _, _, n + 1, .cons _ t => Vals.drop n t

def RelO : Option V → Option Value → Prop
  | some v, some u => RelV v u
  | none, none => True
  | _, _ => False
def KV {κ : Type} : List (κ × V) → List (κ × Value) → Prop := Paired fun (p : κ × V) (q : κ × Value) => p.1 = q.1 ∧ RelV p.2 q.2

/-- a key of a dict (00_mix): an int or a text -/
def kV : Key → V
  | .inl i => .int i
  | .inr x => .str x

/-- what stands at a tracked address -/
inductive HO where
  /-- a list -/
  | lst (xs : List V)
  /-- a tuple (never changes) -/
  | tup (xs : List V)
  /-- a dict whose keys are ints and texts; one whose keys are tuples of ints and texts (the empty one is both) -/
  | dK (kvs : List (Key × V)) | dT (kvs : List (List Key × V))
  /-- a set of ints: its members, its size -/
  | set (S : Int → Bool) (n : Nat)
  /-- an instance of the class at C, its dict at dx, its attributes -/
  | ins (C dx : Addr) (fs : List (Str × V))
  /-- the dict of the instance at x -/
  | own (x : Addr)
  /-- the dict of an exception -/
  | xd (fs : List (Str × V))
  /-- a bound method, f of x -/
  | met (f x : Addr)
  /-- a range object lo, lo + 1, .. below hi -/
  | rng (lo hi : Int)
  /-- a thing that is known to the object (the script; a dict while a loop walks it): read, never written while it is so -/
  | frz (o : Obj) (u : HO)
  /-- a code object's table -/
  | tbl (ps : Array Value)
  /-- any other thing, by what is true of its one object (a def of one's own: SetO a S n := HO.ext fun h => ..) -/
  | ext (φ : Heap → Prop)

abbrev Hp := Addr → Option HO
def upd (H : Hp) (a : Addr) (o : HO) : Hp := fun b => if b = a then some o else H b
theorem upd_same {H : Hp} {a : Addr} {o : HO} : upd H a o a = some o := by unfold upd; rw [if_pos rfl]
theorem upd_ne {H : Hp} {a b : Addr} {o : HO} (h : b ≠ a) : upd H a o b = H b := by unfold upd; rw [if_neg h]
theorem upd_upd {H : Hp} {a : Addr} {o u : HO} : upd (upd H a o) a u = upd H a u := by
  funext b; unfold upd; split <;> rfl
/-- two objects of different content stand apart -/
theorem ne_of {H : Hp} {a b : Addr} {o u : HO} (h : H a = some o) (h' : H b = some u) (d : o ≠ u) : a ≠ b := by
  intro e; subst e; rw [h] at h'; exact d (Option.some.inj h')
theorem ne_of_none {H : Hp} {a b : Addr} {o : HO} (h : H a = some o) (h' : H b = none) : a ≠ b := by
  intro e; subst e; rw [h] at h'; cases h'

section
variable (P : Program) (w : World)
def ObjOk (H : Hp) (h : Heap) (a : Addr) : HO → Prop
  | .lst xs => xs.length ≤ sizeLine ∧ ∃ (its : List Value) (n : Nat), Vals xs its ∧ h.get? a = some { cls := .type "list", data := .seq its.toArray n }
  | .tup xs => xs.length ≤ sizeLine ∧ ∃ its : List Value, Vals xs its ∧ IsTup h a its.toArray
  | .dK kvs => kvs.length ≤ sizeLine ∧ (a == sysModules) = false ∧ ∃ vs, KV kvs vs ∧ h.DictOf (mixKind P w) a vs
  | .dT kvs => kvs.length ≤ sizeLine ∧ (a == sysModules) = false ∧ ∃ xs : List (List Key × Addr × Value),
      Paired (fun (p : List Key × V) (q : List Key × Addr × Value) => p.1 = q.1 ∧ H q.2.1 = some (.tup (p.1.map kV)) ∧ RelV p.2 q.2.2) kvs xs ∧
      ∃ o es ep, h.get? a = some o ∧ o.ExactDict ∧ o.data = .dict es ep ∧ es.toList = xs.map (entryOfKey (tupleKind (mixKind P w))) ∧ (xs.map (·.1)).Nodup
  | .set S n => h.SetOf (intKind P w) a S n
  | .ins C dx fs => H dx = some (.own a) ∧ fs.length ≤ 1000 ∧ dx ≠ a ∧ h.get? a = some (PySem.W.instObj C dx) ∧
      ∃ mA, h.Ns1 dx mA ∧ (∀ f, RelO (fs.lookup f) (mA f)) ∧ PySem.Within mA (fs.map (·.1))
  | .own _ => ∃ o, h.get? a = some o
  | .xd fs => ∃ mA, h.Ns1 a mA ∧ ∀ f, RelO (fs.lookup f) (mA f)
  | .rng lo hi => ∃ t u v, h.get? a = some { cls := .type "range", data := .fields #[.int lo t, .int hi u, .int 1 v] }
  | .frz o u => h.get? a = some o ∧ ObjOk H h a u
  | .tbl ps => h.get? a = some { cls := .none, data := .fields ps }
  | .met f x => h.get? a = some (PySem.W.methodObj (.ref f) (.ref x))
  | .ext φ => φ h ∧ (∃ o, h.get? a = some o) ∧ ∀ h1 h2 : Heap, φ h1 → (∀ o, h1.get? a = some o → h2.get? a = some o) → φ h2
/-- the abstract heap is held -/
def HOk (H : Hp) (h : Heap) : Prop := ∀ a o, H a = some o → ObjOk P w H h a o
end

section
variable {P : Program} {w : World} {H H' : Hp} {h h' : Heap} {a : Addr} {o : HO}
theorem ObjOk.lt (x : ObjOk P w H h a o) : a < h.objs.size := by
  cases o with
  | lst xs => obtain ⟨_, _, _, _, e⟩ := x; exact Heap.lt_size e
  | tup xs => obtain ⟨_, _, _, p⟩ := x; exact p.lt
  | dK kvs => obtain ⟨_, _, _, _, o, _, _, e, _⟩ := x; exact Heap.lt_size e
  | dT kvs => obtain ⟨_, _, _, _, o, _, _, e, _⟩ := x; exact Heap.lt_size e
  | set S n => obtain ⟨o, _, _, _, e, _⟩ := x; exact Heap.lt_size e
  | ins C dx fs => obtain ⟨_, _, _, e, _⟩ := x; exact Heap.lt_size e
  | own y => obtain ⟨_, e⟩ := x; exact Heap.lt_size e
  | xd fs => obtain ⟨_, ⟨_, _, _, e, _⟩, _⟩ := x; exact Heap.lt_size e
  | rng lo hi => obtain ⟨_, _, _, e⟩ := x; exact Heap.lt_size e
  | frz ob u => obtain ⟨e, _⟩ := x; exact Heap.lt_size e
  | tbl ps => exact Heap.lt_size (show h.get? a = some _ from x)
  | met f y => exact Heap.lt_size (show h.get? a = some _ from x)
  | ext φ => obtain ⟨_, ⟨_, e⟩, _⟩ := x; exact Heap.lt_size e
theorem Paired.mapP {α β : Type} {F G : α → β → Prop} : ∀ {l₁ : List α} {l₂ : List β}, Paired F l₁ l₂ → (∀ a b, F a b → G a b) → Paired G l₁ l₂
  | _, _, .nil, _ => .nil
  | _, _, .cons r t, f => .cons (f _ _ r) (Paired.mapP t f)
/-- what an object's description leans on: its own object, its own dict, the tuples -/
theorem ObjOk.stay (x : ObjOk P w H h a o) (k : ∀ b u, (b = a ∨ H b = some (.own a)) → h.get? b = some u → h'.get? b = some u)
    (ho : ∀ b, H b = some (.own a) → H' b = some (.own a)) (ht : ∀ b xs, H b = some (.tup xs) → H' b = some (.tup xs)) : ObjOk P w H' h' a o := by
  induction o with
  | lst xs => obtain ⟨z, its, n, r, e⟩ := x; exact ⟨z, its, n, r, k _ _ (.inl rfl) e⟩
  | tup xs => obtain ⟨z, its, r, ob, e, c⟩ := x; exact ⟨z, its, r, ob, k _ _ (.inl rfl) e, c⟩
  | dK kvs => obtain ⟨z, y, vs, r, ob, es, ep, e, c⟩ := x; exact ⟨z, y, vs, r, ob, es, ep, k _ _ (.inl rfl) e, c⟩
  | dT kvs =>
    obtain ⟨z, y, xs, r, ob, es, ep, e, c⟩ := x
    exact ⟨z, y, xs, Paired.mapP r fun p q z => ⟨z.1, ht _ _ z.2.1, z.2.2⟩, ob, es, ep, k _ _ (.inl rfl) e, c⟩
  | set S n => obtain ⟨ob, es, ep, t, e, c⟩ := x; exact ⟨ob, es, ep, t, k _ _ (.inl rfl) e, c⟩
  | ins C dx fs =>
    obtain ⟨d, z, ne, e, mA, ⟨od, es, ep, e2, c⟩, r⟩ := x
    exact ⟨ho _ d, z, ne, k _ _ (.inl rfl) e, mA, ⟨od, es, ep, k _ _ (.inr d) e2, c⟩, r⟩
  | own y => obtain ⟨ob, e⟩ := x; exact ⟨ob, k _ _ (.inl rfl) e⟩
  | xd fs => obtain ⟨mA, ⟨od, es, ep, e, c⟩, r⟩ := x; exact ⟨mA, ⟨od, es, ep, k _ _ (.inl rfl) e, c⟩, r⟩
  | rng lo hi => obtain ⟨t, u, v, e⟩ := x; exact ⟨t, u, v, k _ _ (.inl rfl) e⟩
  | frz ob u ih => obtain ⟨e, q⟩ := x; exact ⟨k _ _ (.inl rfl) e, ih q⟩
  | tbl ps =>
    have e : h.get? a = some { cls := .none, data := .fields ps } := x
    show h'.get? a = some { cls := .none, data := .fields ps }
    exact k a _ (.inl rfl) e
  | met f y =>
    have e : h.get? a = some (PySem.W.methodObj (.ref f) (.ref y)) := x
    show h'.get? a = some (PySem.W.methodObj (.ref f) (.ref y))
    exact k a _ (.inl rfl) e
  | ext φ => obtain ⟨p, ⟨o, e⟩, st⟩ := x; exact ⟨st _ _ p fun o q => k _ _ (.inl rfl) q, ⟨o, k _ _ (.inl rfl) e⟩, st⟩
theorem HOk.lt (x : HOk P w H h) (e : H a = some o) : a < h.objs.size := (x a o e).lt
theorem HOk.fresh (x : HOk P w H h) (e : h.objs.size ≤ a) : H a = none := by
  cases q : H a with
  | none => rfl
  | some u => exact absurd (Nat.lt_of_lt_of_le (x.lt q) e) (Nat.lt_irrefl _)
/-- every object of the heap is kept -/
theorem HOk.kept (x : HOk P w H h) (k : ∀ b u, h.get? b = some u → h'.get? b = some u) : HOk P w H h' := fun a o e =>
  (x a o e).stay (fun b u _ q => k b u q) (fun _ q => q) fun _ _ q => q
/-- a new object is laid and tracked -/
theorem HOk.laid (x : HOk P w H h) (k : ∀ b u, h.get? b = some u → h'.get? b = some u) (hp : h.objs.size ≤ a) (new : ObjOk P w (upd H a o) h' a o) : HOk P w (upd H a o) h' := fun b u e => by
  have hn := x.fresh hp
  by_cases hb : b = a
  · subst hb; rw [upd_same] at e; cases e; exact new
  · rw [upd_ne hb] at e
    exact (x b u e).stay (fun c v _ q => k c v q) (fun c q => by rw [upd_ne (ne_of_none q hn)]; exact q) fun c xs q => by rw [upd_ne (ne_of_none q hn)]; exact q
end

/-- what may be read as u: it is u, or a known u -/
def Rd (H : Hp) (a : Addr) (u : HO) : Prop := H a = some u ∨ ∃ o, H a = some (.frz o u)
theorem Rd.ok {P : Program} {w : World} {H : Hp} {h : Heap} {a : Addr} {u : HO} (r : Rd H a u) (x : HOk P w H h) : ObjOk P w H h a u := by
  rcases r with r | ⟨o, r⟩
  · exact x a u r
  · obtain ⟨_, q⟩ := x a _ r
    exact q
/-- what may be written -/
def Mut : Option HO → Prop
  | some (.lst _) => True
  | some (.dK _) => True
  | some (.dT _) => True
  | some (.set _ _) => True
  | some (.ins _ _ _) => True
  | some (.ext _) => True
  | _ => False
section
variable {P : Program} {w : World} {H : Hp} {h h' : Heap} {x e : Addr} {o' : HO}
/-- the object at e is changed: x itself, or the dict of the instance x -/
theorem HOk.write (ok : HOk P w H h) (mu : Mut (H x)) (he : e = x ∨ H e = some (.own x)) (k : ∀ b u, b ≠ e → h.get? b = some u → h'.get? b = some u) (heo : ∃ u, h'.get? e = some u)
    (new : ObjOk P w (upd H x o') h' x o') : HOk P w (upd H x o') h' := fun b u q => by
  have nown : ∀ c y, H c = some (.own y) → c ≠ x := fun c y r z => by subst z; rw [r] at mu; exact mu
  have ntup : ∀ c xs, H c = some (.tup xs) → c ≠ x := fun c xs r z => by subst z; rw [r] at mu; exact mu
  by_cases hb : b = x
  · subst hb; rw [upd_same] at q; cases q; exact new
  · rw [upd_ne hb] at q
    by_cases hbe : b = e
    · have q' : H b = some (.own x) := by
        rcases he with z | z
        · exact absurd (hbe.trans z) hb
        · rw [hbe]; exact z
      rw [q] at q'; cases q'
      obtain ⟨v, hv⟩ := heo
      exact ⟨v, by rw [hbe]; exact hv⟩
    · refine (ok b u q).stay (fun c v hc r => k c v ?_ r) (fun c r => by rw [upd_ne (nown c b r)]; exact r) fun c xs r => by rw [upd_ne (ntup c xs r)]; exact r
      rcases hc with rfl | hc
      · exact hbe
      · rintro rfl
        rcases he with z | z
        · exact nown c b hc z
        · rw [hc] at z; cases z; exact hb rfl
end

/-! ### kept unless tracked; of the frames at fs (the callers') the slots may change (an exception that passes writes there); of the records at ex (iterators) nothing is said -/
structure Un (fs ex : List Addr) (H H' : Hp) (h h' : Heap) : Prop where
  keep : ∀ b o, h.get? b = some o → H b = none → b ∉ fs → b ∉ ex → h'.get? b = some o
  slot : ∀ b o, h.get? b = some o → H b = none → b ∈ fs → b ∉ ex → ∃ sl, h'.get? b = some { o with slots := sl }
  free : ∀ b o, h.get? b = some o → H b = none → b ∉ ex → H' b = none
  there : ∀ b o, h.get? b = some o → b ∉ ex → ∃ o', h'.get? b = some o'
  tups : ∀ b xs, H b = some (.tup xs) → H' b = some (.tup xs)
  frzs : ∀ b o u, H b = some (.frz o u) → H' b = some (.frz o u)
  tbls : ∀ b ps, H b = some (.tbl ps) → ∃ more, H' b = some (.tbl (ps ++ more))
section
variable {fs fs' ex ex' : List Addr} {H H1 H2 : Hp} {h h1 h2 h' : Heap} {a x e : Addr} {o : HO}
theorem Un.any (u : Un fs ex H H1 h h1) {b : Addr} {ob : Obj} (q : h.get? b = some ob) (n : H b = none) (hx : b ∉ ex) : ∃ sl, h1.get? b = some { ob with slots := sl } := by
  by_cases hb : b ∈ fs
  · exact u.slot b ob q n hb hx
  · exact ⟨ob.slots, u.keep b ob q n hb hx⟩
theorem Un.kept (k : ∀ b u, h.get? b = some u → h'.get? b = some u) : Un fs ex H H h h' :=
  ⟨fun b ob q _ _ _ => k b ob q, fun b ob q _ _ _ => ⟨ob.slots, k b ob q⟩, fun _ _ _ n _ => n, fun b ob q _ => ⟨ob, k b ob q⟩, fun _ _ q => q, fun _ _ _ q => q, fun _ ps q => ⟨#[], by rw [q]; simp⟩⟩
theorem Un.refl : Un fs ex H H h h := Un.kept fun _ _ q => q
theorem Un.laid (k : ∀ b u, h.get? b = some u → h'.get? b = some u) (hp : h.objs.size ≤ a) (hn : H a = none) : Un fs ex H (upd H a o) h h' where
  keep := fun b u q _ _ _ => k b u q
  slot := fun b u q _ _ _ => ⟨u.slots, k b u q⟩
  free := fun b u q n _ => by rw [upd_ne (Nat.ne_of_lt (Nat.lt_of_lt_of_le (Heap.lt_size q) hp))]; exact n
  there := fun b u q _ => ⟨u, k b u q⟩
  tups := fun b xs q => by rw [upd_ne (ne_of_none q hn)]; exact q
  frzs := fun b u xs q => by rw [upd_ne (ne_of_none q hn)]; exact q
  tbls := fun b ps q => ⟨#[], by rw [upd_ne (ne_of_none q hn), q]; simp⟩
theorem Un.write (mu : Mut (H x)) (he : e = x ∨ H e = some (.own x)) (k : ∀ b u, b ≠ e → h.get? b = some u → h'.get? b = some u) (heo : ∃ u, h'.get? e = some u) : Un fs ex H (upd H x o) h h' := by
  have hx : ∀ b, H b = none → b ≠ x := fun b n z => by subst z; rw [n] at mu; exact mu
  have hb : ∀ b, H b = none → b ≠ e := fun b n z => by
    subst z
    rcases he with r | r
    · exact hx b n r
    · rw [n] at r; cases r
  have hm : ∀ b u, H b = some u → ¬ Mut (some u) → b ≠ x := fun b u q nm z => by subst z; rw [q] at mu; exact nm mu
  refine ⟨fun b u q n _ _ => k b u (hb b n) q, fun b u q n _ _ => ⟨u.slots, k b u (hb b n) q⟩, fun b u q n _ => by rw [upd_ne (hx b n)]; exact n, fun b u q _ => ?_,
    fun b xs q => by rw [upd_ne (hm b _ q fun z => z)]; exact q, fun b u xs q => by rw [upd_ne (hm b _ q fun z => z)]; exact q, fun b ps q => ⟨#[], by rw [upd_ne (hm b _ q fun z => z), q]; simp⟩⟩
  by_cases hbe : b = e
  · subst hbe; exact heo
  · exact ⟨u, k b u hbe q⟩
end

/-! ### the heap without what is tracked -/
def trk (h : Heap) (H : Hp) : List Addr := (List.range h.objs.size).filter fun a => (H a).isSome
def hidT (h : Heap) (H : Hp) : Heap := PySem.W.hideAll h (trk h H)
theorem hidT_size (h : Heap) (H : Hp) : (hidT h H).objs.size = h.objs.size := PySem.W.hideAll_size _ _
theorem hidT_get {h : Heap} {H : Hp} {b : Addr} {o : Obj} (e : h.get? b = some o) (n : H b = none) : (hidT h H).get? b = some o :=
  PySem.W.hideAll_get _ e fun hm => by
    have q : (H b).isSome = true := (List.mem_filter.mp hm).2
    rw [n] at q; simp at q
theorem of_hidT {h : Heap} {H : Hp} {b : Addr} {o : Obj} (e : (hidT h H).get? b = some o) : h.get? b = some o ∧ H b = none := by
  have e' : h.get? b = some o := PySem.W.of_hideAll (trk h H) e
  refine ⟨e', ?_⟩
  cases q : H b with
  | none => rfl
  | some x =>
    have hm : b ∈ trk h H := List.mem_filter.mpr ⟨List.mem_range.mpr (Heap.lt_size e'), by simp [q]⟩
    have z : (hidT h H).get? b = none := PySem.W.hideAll_none (trk h H) hm
    rw [z] at e; cases e

/-! ### OpenK's ledger, filled with every new object but one -/
def allNews (g h : Heap) (L : Addr) : List (Addr × Obj) := (List.range h.objs.size).filterMap fun a => if a = L ∨ (g.get? a).isSome = true then none else (h.get? a).map fun o => (a, o)
def rest (g h : Heap) (L d : Addr) : List (Addr × Obj) := (allNews g h L).filter fun p => decide (p.1 ≠ d)
end L2

namespace L2
open PySem PySem.Spec PyProof.Rows

/-- the module's facts, over the base: the heap at the law's entry without what is tracked there -/
structure Mod (K : PySem.W.Frag) (mg : Str → Option Value) (base : Heap) : Prop where
  kin : K.In base
  glob : base.Ns mainGlobals mg
  blt : ∃ mb, base.Ns builtinsNs mb ∧ ∀ x : Str, x ≠ "__name__" → mb x = bootBuiltins x
  nolimit : base.NoLimit

/-- the context: a def's body (or a comprehension's block) running. base: fixed through the whole law; s₀, H₀: the entry; outer: the frames whose slots others may change (a def's callers); stack: all frames that run;
   ex: iterators that were made ahead of the entry and are walked here (a comprehension's); fn: the names whose cells were made at the entry (a def: all; a comprehension's block: its own); calm: not within an except suite; pn: pins that every state bears; xe: what is wanted of an exception that leaves the code -/
structure Cx where
  prog : Program
  w : World
  K : PySem.W.Frag
  mg : Str → Option Value
  base : Heap
  A : Around
  N : List Str
  s_0 : Shared
  H_0 : Hp
  env : Env
  outer : List Env
  stack : List Env
  ex : List Addr
  fn : Str → Bool
  calm : Bool
  pn : List (Addr × Obj)
  xe : Value → Shared → Prop
/-- the callers' frames -/
def frs (l : List Env) : List Addr := l.filterMap (·.frame)
abbrev Cx.fs (X : Cx) : List Addr := frs X.outer

def Vis (sc : Scope) (x : Str) : Prop := sc.names.lookup x = some .local ∨ sc.names.lookup x = some .cell ∨ sc.names.lookup x = some .free
def Loc (sc : Scope) (x : Str) : Prop := sc.names.lookup x = some .local ∨ sc.names.lookup x = some .cell
def Look (env : Env) (h : Heap) (m : Str → Option Value) (x : Str) (u : Value) : Prop :=
  (env.kindOf x = some .local ∧ m x = some u) ∨ ((env.kindOf x = some .cell ∨ env.kindOf x = some .free) ∧ ∃ c, env.cells.lookup x = some c ∧ h.IsCell c (some u))

structure Cx.Ok (X : Cx) : Prop where
  mod : Mod X.K X.mg X.base
  kind : X.env.scope.kind = .function
  glob : X.env.globals = mainGlobals
  blt : X.env.builtins = builtinsNs
  above : X.s_0.heap.objs.size ≤ X.env.locals
  inj : ∀ x y c, X.env.cells.lookup x = some c → X.env.cells.lookup y = some c → x = y
  has : ∀ x, (X.env.kindOf x = some .cell ∨ X.env.kindOf x = some .free) → ∃ c, X.env.cells.lookup x = some c
  cab : ∀ x c, X.fn x = true → X.env.cells.lookup x = some c → X.s_0.heap.objs.size ≤ c
  hd : X.calm = true → X.A.handled = none
  frames : X.A.frames = some X.stack
  stk : X.stack = X.outer ∨ (X.stack = X.env :: X.outer ∧ X.env.frame = some X.env.locals)
  exf : ∀ b ∈ X.ex, b ≠ X.env.locals ∧ ∀ x c, X.env.cells.lookup x = some c → c ≠ b
  bs : ∀ b o, X.base.get? b = some o → X.s_0.heap.get? b = some o ∧ X.H_0 b = none
  bsz : X.base.objs.size ≤ X.s_0.heap.objs.size
  noex : ∀ b o, X.base.get? b = some o → b ∉ X.ex
  exfs : ∀ b ∈ X.ex, b ∉ X.fs
  funs : X.s_0.heap.FunFrames X.base X.outer
  frf : ∀ b ∈ X.fs, X.H_0 b = none

structure Inv (X : Cx) (pins : List (Addr × Obj)) (σ : List (Option V)) (H : Hp) (s : Shared) : Prop where
  ok : X.Ok
  os : s.os = X.s_0.os
  bare : AllBare s.gens
  base : Un X.fs X.ex X.H_0 H X.s_0.heap s.heap
  loc : ∃ m, s.heap.Ns X.env.locals m ∧ ∀ (i : Nat) (x : Str) (v : V), X.N[i]? = some x → σ[i]? = some (some v) → Vis X.env.scope x → ∃ u, RelV v u ∧ Look X.env s.heap m x u
  cell : ∀ x c, X.env.cells.lookup x = some c → ∃ v, s.heap.IsCell c v
  free : H X.env.locals = none
  freeC : ∀ x c, X.env.cells.lookup x = some c → H c = none
  pin : ∀ p ∈ X.pn ++ pins, s.heap.get? p.1 = some p.2 ∧ H p.1 = none ∧ p.1 ≠ X.env.locals ∧ p.1 ∉ X.fs ∧ ∀ v, p.2.data ≠ .cell v
  hok : HOk X.prog X.w H s.heap
  len : σ.length = X.N.length

section
variable {X : Cx} {pins : List (Addr × Obj)} {σ : List (Option V)} {H H' : Hp} {s : Shared} {h' : Heap}

theorem Cx.Ok.nofr (ok : X.Ok) {b : Addr} {o : Obj} (e : X.base.get? b = some o) : b ∉ X.fs := fun hb => by
  have := (ok.funs.mem hb).1
  rw [e] at this; cases this
theorem Inv.bs (I : Inv X pins σ H s) : ∀ b o, X.base.get? b = some o → s.heap.get? b = some o ∧ H b = none := fun b o e =>
  ⟨I.base.keep b o (I.ok.bs b o e).1 (I.ok.bs b o e).2 (I.ok.nofr e) (I.ok.noex b o e), I.base.free b o (I.ok.bs b o e).1 (I.ok.bs b o e).2 (I.ok.noex b o e)⟩
theorem Inv.bk (I : Inv X pins σ H s) : ∀ b o, X.base.get? b = some o → s.heap.get? b = some o := fun b o e => (I.bs b o e).1
theorem Inv.mod (I : Inv X pins σ H s) : Mod X.K X.mg X.base := I.ok.mod
theorem Inv.kIn (I : Inv X pins σ H s) : X.K.In s.heap := I.ok.mod.kin.keeps I.bk
theorem Inv.lt (I : Inv X pins σ H s) : X.env.locals < s.heap.objs.size := let ⟨_, hn, _⟩ := I.loc; hn.lt
theorem Inv.sz (I : Inv X pins σ H s) : X.s_0.heap.objs.size ≤ s.heap.objs.size := Nat.le_trans I.ok.above (Nat.le_of_lt I.lt)
theorem Inv.nofs (I : Inv X pins σ H s) {a : Addr} (h : s.heap.objs.size ≤ a) : a ∉ X.fs := fun hb => by
  obtain ⟨_, o, ho, _⟩ := I.ok.funs.mem hb
  exact absurd (Nat.lt_of_lt_of_le (Heap.lt_size ho) (Nat.le_trans I.sz h)) (Nat.lt_irrefl _)
theorem Inv.cne (I : Inv X pins σ H s) : ∀ x c, X.env.cells.lookup x = some c → c ≠ X.env.locals := fun x c e z => by
  obtain ⟨v, o, ho, hd⟩ := I.cell x c e
  obtain ⟨m, ⟨o', es, ep, ho', hd', _⟩, _⟩ := I.loc
  rw [z, ho'] at ho; cases ho; rw [hd'] at hd; cases hd
theorem Inv.funs (I : Inv X pins σ H s) : s.heap.FunFrames X.base X.outer := by
  have all : ∀ (l : List Env), (∀ b ∈ frs l, b ∈ X.fs) → X.s_0.heap.FunFrames X.base l → s.heap.FunFrames X.base l := by
    intro l
    induction l with
    | nil => intro _ _; trivial
    | cons env r ih =>
      intro hs hl
      obtain ⟨hk, ⟨L, o, hf, hn, ho, hd⟩, hr⟩ := hl
      have hL : L ∈ X.fs := hs L (by unfold frs; rw [List.filterMap_cons, hf]; exact List.mem_cons_self)
      obtain ⟨sl, e⟩ := I.base.slot L o ho (I.ok.frf L hL) hL fun z => I.ok.exfs L z hL
      exact ⟨hk, ⟨L, _, hf, hn, e, hd⟩, ih (fun b hb => hs b (by unfold frs; rw [List.filterMap_cons, hf]; exact List.mem_cons_of_mem _ hb)) hr⟩
  exact all X.outer (fun _ hb => hb) I.ok.funs

/-- the frames that run, for a call -/
theorem Inv.stack (I : Inv X pins σ H s) : s.heap.FunFrames X.base X.stack := by
  rcases I.ok.stk with e | ⟨e, hf⟩
  · rw [e]; exact I.funs
  · rw [e]
    obtain ⟨m, hn, _⟩ := I.loc
    refine .cons (by rw [I.ok.kind]; decide) hf hn ?_ I.funs
    exact Heap.get?_none_of_le (Nat.le_trans I.ok.bsz I.ok.above)
theorem Inv.stkSub (I : Inv X pins σ H s) : ∀ b ∈ frs X.stack, b ∈ X.env.locals :: X.fs := fun b hb => by
  rcases I.ok.stk with e | ⟨e, hf⟩
  · rw [e] at hb; exact List.mem_cons_of_mem _ hb
  · rw [e] at hb
    unfold frs at hb
    rw [List.filterMap_cons, hf] at hb
    exact hb
theorem Inv.stkFree (I : Inv X pins σ H s) : ∀ b ∈ frs X.stack, H b = none := fun b hb => by
  rcases List.mem_cons.mp (I.stkSub b hb) with e | hb
  · rw [e]; exact I.free
  · obtain ⟨_, o, ho, _⟩ := I.ok.funs.mem hb
    exact I.base.free b o ho (I.ok.frf b hb) fun z => I.ok.exfs b z hb

/-- THE STEP: the untracked objects but the frame and the records at ch are kept (the callers' frames up to slots), the frame's map is kept, the new abstract heap is held -/
theorem Inv.step {g' : Array GenState} {t' : Nat} {d' : Drawn} {ch : List Addr} (I : Inv X pins σ H s)
    (hch : ∀ b ∈ ch, (b ∈ X.ex ∨ X.s_0.heap.objs.size ≤ b) ∧ b ≠ X.env.locals ∧ (∀ x c, X.env.cells.lookup x = some c → c ≠ b) ∧ ∀ p ∈ X.pn ++ pins, p.1 ≠ b)
    (keep : ∀ b o, b ≠ X.env.locals → b ∉ X.fs → b ∉ ch → s.heap.get? b = some o → H b = none → h'.get? b = some o)
    (slot : ∀ b o, b ≠ X.env.locals → b ∈ X.fs → b ∉ ch → s.heap.get? b = some o → H b = none → ∃ sl, h'.get? b = some { o with slots := sl }) (free : ∀ b o, b ∉ ch → s.heap.get? b = some o → H b = none → H' b = none)
    (there : ∀ b o, b ∉ ch → s.heap.get? b = some o → ∃ o', h'.get? b = some o')
    (tups : ∀ b xs, H b = some (.tup xs) → H' b = some (.tup xs)) (frzs : ∀ b o u, H b = some (.frz o u) → H' b = some (.frz o u)) (tbls : ∀ b ps, H b = some (.tbl ps) → ∃ more, H' b = some (.tbl (ps ++ more)))
    (ns : ∀ m, s.heap.Ns X.env.locals m → h'.Ns X.env.locals m) (hok : HOk X.prog X.w H' h') (hg : AllBare g') :
    Inv X pins σ H' { s with heap := h', gens := g', drawn := d', toks := t' } := by
  have neL : ∀ b o, X.s_0.heap.get? b = some o → b ≠ X.env.locals := fun b o e => Nat.ne_of_lt (Nat.lt_of_lt_of_le (Heap.lt_size e) I.ok.above)
  have neC : ∀ b o, X.s_0.heap.get? b = some o → b ∉ X.ex → b ∉ ch := fun b o e hx hb => by
    rcases (hch b hb).1 with z | z
    · exact hx z
    · exact absurd (Nat.lt_of_lt_of_le (Heap.lt_size e) z) (Nat.lt_irrefl _)
  have cellK : ∀ x c, X.env.cells.lookup x = some c → ∀ v, s.heap.IsCell c v → h'.IsCell c v := fun x c e v ⟨o, ho, hd⟩ => by
    have nch : c ∉ ch := fun z => (hch c z).2.2.1 x c e rfl
    by_cases hc : c ∈ X.fs
    · obtain ⟨sl, q⟩ := slot c o (I.cne x c e) hc nch ho (I.freeC x c e)
      exact ⟨_, q, hd⟩
    · exact ⟨o, keep c o (I.cne x c e) hc nch ho (I.freeC x c e), hd⟩
  refine ⟨I.ok, I.os, hg, ⟨fun b o e n hb hx => ?_, fun b o e n hb hx => ?_, fun b o e n hx => ?_, fun b o e hx => ?_, fun b xs e => tups b xs (I.base.tups b xs e), fun b o xs e => frzs b o xs (I.base.frzs b o xs e), fun b ps e => ?_⟩, ?_, fun x c e => ?_, ?_, fun x c e => ?_, fun p hp => ?_, hok, I.len⟩
  · exact keep b o (neL b o e) hb (neC b o e hx) (I.base.keep b o e n hb hx) (I.base.free b o e n hx)
  · obtain ⟨sl, e1⟩ := I.base.slot b o e n hb hx
    obtain ⟨sl', e2⟩ := slot b _ (neL b o e) hb (neC b o e hx) e1 (I.base.free b o e n hx)
    exact ⟨sl', e2⟩
  · obtain ⟨o', e1⟩ := I.base.there b o e hx
    exact free b o' (neC b o e hx) e1 (I.base.free b o e n hx)
  · obtain ⟨o', e1⟩ := I.base.there b o e hx
    exact there b o' (neC b o e hx) e1
  · obtain ⟨m1, e1⟩ := I.base.tbls b ps e
    obtain ⟨m2, e2⟩ := tbls b _ e1
    exact ⟨m1 ++ m2, by rw [e2, Array.append_assoc]⟩
  · obtain ⟨m, hn, hl⟩ := I.loc
    refine ⟨m, ns m hn, fun i x v e1 e2 e3 => ?_⟩
    obtain ⟨u, r, l⟩ := hl i x v e1 e2 e3
    refine ⟨u, r, ?_⟩
    rcases l with l | ⟨k, c, e, z⟩
    · exact .inl l
    · exact .inr ⟨k, c, e, cellK x c e _ z⟩
  · obtain ⟨v, z⟩ := I.cell x c e
    exact ⟨v, cellK x c e v z⟩
  · obtain ⟨m, ⟨o, _, _, ho, _⟩, _⟩ := I.loc
    exact free _ o (fun z => (hch _ z).2.1 rfl) ho I.free
  · obtain ⟨v, o, ho, hd⟩ := I.cell x c e
    exact free c o (fun z => (hch c z).2.2.1 x c e rfl) ho (I.freeC x c e)
  · obtain ⟨e, n, ne, nf, d⟩ := I.pin p hp
    have nch : p.1 ∉ ch := fun z => (hch p.1 z).2.2.2 p hp rfl
    exact ⟨keep p.1 p.2 ne nf nch e n, free p.1 p.2 nch e n, ne, nf, d⟩
/-- .. where the frame's own object is kept too -/
theorem Inv.un {t' : Nat} (I : Inv X pins σ H s) (u : Un X.fs [] H H' s.heap h') (hok : HOk X.prog X.w H' h') : Inv X pins σ H' { s with heap := h', toks := t' } := by
  obtain ⟨m, ⟨o, es, ep, ho, r⟩, _⟩ := id I.loc
  obtain ⟨sl, hL⟩ := u.any ho I.free (by simp)
  exact I.step (g' := s.gens) (d' := s.drawn) (ch := []) (fun _ z => nomatch z) (fun b o _ hb _ e n => u.keep b o e n hb (by simp)) (fun b o _ hb _ e n => u.slot b o e n hb (by simp)) (fun b o _ e n => u.free b o e n (by simp)) (fun b o _ e => u.there b o e (by simp)) u.tups u.frzs u.tbls (fun m' hm => by
    obtain ⟨o', es', ep', ho', r'⟩ := hm
    rw [ho] at ho'; cases ho'
    exact ⟨_, es', ep', hL, r'⟩) hok I.bare
/-- behind a call (or a comprehension's block): the slots of this frame may have changed too, the records at ch may have turned -/
theorem Inv.call {g' : Array GenState} {t' : Nat} {d' : Drawn} {ch : List Addr} (I : Inv X pins σ H s) (u : Un (frs X.stack) ch H H' s.heap h') (hok : HOk X.prog X.w H' h') (hg : AllBare g')
    (hch : ∀ b ∈ ch, (b ∈ X.ex ∨ X.s_0.heap.objs.size ≤ b) ∧ b ≠ X.env.locals ∧ (∀ x c, X.env.cells.lookup x = some c → c ≠ b) ∧ ∀ p ∈ X.pn ++ pins, p.1 ≠ b) :
    Inv X pins σ H' { s with heap := h', gens := g', drawn := d', toks := t' } := by
  obtain ⟨m, ⟨o, es, ep, ho, r⟩, _⟩ := id I.loc
  obtain ⟨sl, hL⟩ := u.any ho I.free fun z => (hch _ z).2.1 rfl
  exact I.step (ch := ch) hch (fun b o hL hb hc e n => u.keep b o e n (fun z => (List.mem_cons.mp (I.stkSub b z)).elim hL hb) hc) (fun b o _ _ hc e n => u.any e n hc) (fun b o hc e n => u.free b o e n hc) (fun b o hc e => u.there b o e hc) u.tups u.frzs u.tbls (fun m' hm => by
    obtain ⟨o', es', ep', ho', r'⟩ := hm
    rw [ho] at ho'; cases ho'
    exact ⟨_, es', ep', hL, r'⟩) hok hg
/-- an untracked record of ours (an iterator) has turned -/
theorem Inv.turned {t' : Nat} {it : Addr} (I : Inv X pins σ H s) (k : ∀ b o, b ≠ it → s.heap.get? b = some o → h'.get? b = some o) (hn : H it = none) (hL : it ≠ X.env.locals)
    (h1 : it ∈ X.ex ∨ X.s_0.heap.objs.size ≤ it) (h2 : ∀ x c, X.env.cells.lookup x = some c → c ≠ it) (h3 : ∀ p ∈ X.pn ++ pins, p.1 ≠ it) : Inv X pins σ H { s with heap := h', toks := t' } := by
  have nit : ∀ b u, H b = some u → b ≠ it := fun b u e z => by rw [z, hn] at e; cases e
  refine I.step (g' := s.gens) (d' := s.drawn) (ch := [it]) (fun b hb => ?_) (fun b o _ _ hc e _ => k b o (fun z => hc (by simp [z])) e) (fun b o _ _ hc e _ => ⟨o.slots, k b o (fun z => hc (by simp [z])) e⟩) (fun _ _ _ _ n => n)
    (fun b o hc e => ⟨o, k b o (fun z => hc (by simp [z])) e⟩) (fun _ _ e => e) (fun _ _ _ e => e) (fun b ps e => ⟨#[], by rw [e]; simp⟩) (fun m hm => ?_) (fun b u e => ?_) I.bare
  · have e : b = it := by simpa using hb
    subst e
    exact ⟨h1, hL, h2, h3⟩
  · obtain ⟨o, es, ep, ho, r⟩ := hm
    exact ⟨o, es, ep, k _ o (Ne.symm hL) ho, r⟩
  · refine (I.hok b u e).stay (fun c v hc q => k c v ?_ q) (fun _ q => q) fun _ _ q => q
    rcases hc with z | z
    · rw [z]; exact nit b u e
    · exact nit c _ z
theorem Inv.tok (I : Inv X pins σ H s) (t : Nat) : Inv X pins σ H { s with toks := t } := I.un (h' := s.heap) (t' := t) Un.refl I.hok
/-- all objects kept -/
theorem Inv.kept {t' : Nat} (I : Inv X pins σ H s) (k : ∀ b u, s.heap.get? b = some u → h'.get? b = some u) : Inv X pins σ H { s with heap := h', toks := t' } := I.un (Un.kept k) (I.hok.kept k)
/-- a new object laid and tracked -/
theorem Inv.laid {a : Addr} {o : HO} {t' : Nat} (I : Inv X pins σ H s) (k : ∀ b u, s.heap.get? b = some u → h'.get? b = some u) (hp : s.heap.objs.size ≤ a) (new : ObjOk X.prog X.w (upd H a o) h' a o) :
    Inv X pins σ (upd H a o) { s with heap := h', toks := t' } := I.un (Un.laid k hp (I.hok.fresh hp)) (I.hok.laid k hp new)
/-- an object written -/
theorem Inv.write {x e : Addr} {o : HO} {t' : Nat} (I : Inv X pins σ H s) (mu : Mut (H x)) (he : e = x ∨ H e = some (.own x)) (k : ∀ b u, b ≠ e → s.heap.get? b = some u → h'.get? b = some u) (heo : ∃ u, h'.get? e = some u)
    (new : ObjOk X.prog X.w (upd H x o) h' x o) : Inv X pins σ (upd H x o) { s with heap := h', toks := t' } := I.un (Un.write mu he k heo) (I.hok.write mu he k heo new)
/-- forgetting slots, pins -/
theorem Inv.weak {σ' : List (Option V)} (I : Inv X pins σ H s) (hl : σ'.length = σ.length) (w : ∀ (i : Nat) v, σ'[i]? = some (some v) → σ[i]? = some (some v)) : Inv X pins σ' H s :=
  ⟨I.ok, I.os, I.bare, I.base, let ⟨m, hn, hl'⟩ := I.loc; ⟨m, hn, fun i x v e1 e2 e3 => hl' i x v e1 (w i v e2) e3⟩, I.cell, I.free, I.freeC, I.pin, I.hok, hl.trans I.len⟩
theorem Inv.pins_of {pins' : List (Addr × Obj)} (I : Inv X pins σ H s) (h : ∀ p ∈ pins', s.heap.get? p.1 = some p.2 ∧ H p.1 = none ∧ p.1 ≠ X.env.locals ∧ p.1 ∉ X.fs ∧ ∀ v, p.2.data ≠ .cell v) : Inv X pins' σ H s :=
  ⟨I.ok, I.os, I.bare, I.base, I.loc, I.cell, I.free, I.freeC, fun p hp => (List.mem_append.mp hp).elim (fun z => I.pin p (List.mem_append_left _ z)) (h p), I.hok, I.len⟩

theorem nodup_ix {N : List Str} (hN : N.Nodup) {i j : Nat} {x : Str} (a : N[i]? = some x) (b : N[j]? = some x) : i = j := by
  obtain ⟨h1, e1⟩ := List.getElem?_eq_some_iff.mp a
  obtain ⟨h2, e2⟩ := List.getElem?_eq_some_iff.mp b
  exact (List.getElem_inj hN).mp (e1.trans e2.symm)

/-- a name is stored; what changed -/
theorem store_ok2 {M : Model} {A : Around} {E : Value → Shared → Prop} {i : Nat} {x : Str} {v : V} {u : Value} {Q : Unit → Shared → Prop} (I : Inv X pins σ H s) (hN : X.N.Nodup) (hi : X.N[i]? = some x) (hx : Loc X.env.scope x) (r : RelV v u)
    (h : ∀ s', Inv X pins (σ.set i (some v)) H s' → (∃ a, Heap.SameBut a s.heap s'.heap ∧ (a = X.env.locals ∨ X.env.cells.lookup x = some a)) → Q () s') (hf : X.fn x = true ∨ X.env.scope.names.lookup x = some .local := by first | exact .inl rfl | exact .inr rfl | assumption) : wpAny M A (storeName X.env x u) Q E s := by
  obtain ⟨m, hn, hl⟩ := id I.loc
  have hcls : (X.env.scope.kind == .class || (X.env.scope.kind == .module && X.env.locals != X.env.globals)) = false := by rw [I.ok.kind]; rfl
  have hiσ : i < σ.length := by rw [I.len]; exact (List.getElem?_eq_some_iff.mp hi).1
  have cne := I.cne
  have tracked : ∀ {a : Addr} {h' : Heap}, (∃ o, s.heap.get? a = some o ∧ H a = none) → Heap.SameBut a s.heap h' → HOk X.prog X.w H h' := fun {a h'} ha hs b ob e => by
    obtain ⟨_, _, hfree⟩ := ha
    refine (I.hok b ob e).stay (fun c w' hc q => (hs.2 c ?_).trans q) (fun _ q => q) fun _ _ q => q
    rintro rfl
    rcases hc with rfl | hc
    · rw [hfree] at e; cases e
    · rw [hfree] at hc; cases hc
  rcases hx with hk | hk
  · refine wpAny_storeName_local hk hn (fun h' hn' hs => ?_) hcls
    obtain ⟨oL, _, _, hoL, _⟩ := id hn
    refine h _ ⟨I.ok, I.os, I.bare, ⟨fun b o e n hb hx => ?_, fun b o e n hb hx => ?_, I.base.free, fun b o e hx => ?_, I.base.tups, I.base.frzs, I.base.tbls⟩, ⟨_, hn', fun j y v' e1 e2 e3 => ?_⟩, fun y c e => ?_, I.free, I.freeC, fun p hp => ?_, tracked ⟨oL, hoL, I.free⟩ hs, by simpa using I.len⟩ ⟨_, hs, .inl rfl⟩
    · exact (hs.2 b (Nat.ne_of_lt (Nat.lt_of_lt_of_le (Heap.lt_size e) I.ok.above))).trans (I.base.keep b o e n hb hx)
    · obtain ⟨sl, e1⟩ := I.base.slot b o e n hb hx
      exact ⟨sl, (hs.2 b (Nat.ne_of_lt (Nat.lt_of_lt_of_le (Heap.lt_size e) I.ok.above))).trans e1⟩
    · obtain ⟨o', e1⟩ := I.base.there b o e hx
      exact ⟨o', (hs.2 b (Nat.ne_of_lt (Nat.lt_of_lt_of_le (Heap.lt_size e) I.ok.above))).trans e1⟩
    · by_cases hj : j = i
      · subst hj
        rw [hi] at e1; cases e1
        rw [List.getElem?_set_self hiσ] at e2
        cases e2
        exact ⟨u, r, .inl ⟨hk, by simp⟩⟩
      · rw [List.getElem?_set_ne (Ne.symm hj)] at e2
        obtain ⟨u', r', q⟩ := hl j y v' e1 e2 e3
        refine ⟨u', r', ?_⟩
        rcases q with ⟨k, e⟩ | ⟨k, c, e, z⟩
        · refine .inl ⟨k, ?_⟩
          have : y ≠ x := fun e => hj (nodup_ix hN e1 (e ▸ hi))
          simp [this, e]
        · exact .inr ⟨k, c, e, z.sameBut hs (cne y c e)⟩
    · obtain ⟨w', z⟩ := I.cell y c e
      exact ⟨w', z.sameBut hs (cne y c e)⟩
    · obtain ⟨e, n, ne, nf, d⟩ := I.pin p hp
      exact ⟨(hs.2 p.1 ne).trans e, n, ne, nf, d⟩
  · have hfn : X.fn x = true := by
      rcases hf with z | z
      · exact z
      · rw [z] at hk; cases hk
    obtain ⟨c, hc⟩ := I.ok.has x (.inl hk)
    obtain ⟨w', z⟩ := I.cell x c hc
    refine wpAny_storeName_cell I.ok.kind hk hc z (fun h' hc' hs => ?_)
    obtain ⟨oc, hoc, hocd⟩ := id z
    refine h { s with heap := h' } ⟨I.ok, I.os, I.bare, ⟨fun b o e n hb hx => ?_, fun b o e n hb hx => ?_, I.base.free, fun b o e hx => ?_, I.base.tups, I.base.frzs, I.base.tbls⟩, ⟨m, hn.sameBut hs (Ne.symm (cne x c hc)), fun j y v' e1 e2 e3 => ?_⟩, fun y c' e => ?_, I.free, I.freeC, fun p hp => ?_, tracked ⟨oc, hoc, I.freeC x c hc⟩ hs, by simpa using I.len⟩ ⟨c, hs, .inr hc⟩
    · exact (hs.2 b (Nat.ne_of_lt (Nat.lt_of_lt_of_le (Heap.lt_size e) (I.ok.cab x c hfn hc)))).trans (I.base.keep b o e n hb hx)
    · obtain ⟨sl, e1⟩ := I.base.slot b o e n hb hx
      exact ⟨sl, (hs.2 b (Nat.ne_of_lt (Nat.lt_of_lt_of_le (Heap.lt_size e) (I.ok.cab x c hfn hc)))).trans e1⟩
    · obtain ⟨o', e1⟩ := I.base.there b o e hx
      exact ⟨o', (hs.2 b (Nat.ne_of_lt (Nat.lt_of_lt_of_le (Heap.lt_size e) (I.ok.cab x c hfn hc)))).trans e1⟩
    · by_cases hj : j = i
      · subst hj
        rw [hi] at e1; cases e1
        rw [List.getElem?_set_self hiσ] at e2
        cases e2
        exact ⟨u, r, .inr ⟨.inl hk, c, hc, hc'⟩⟩
      · rw [List.getElem?_set_ne (Ne.symm hj)] at e2
        obtain ⟨u', r', q⟩ := hl j y v' e1 e2 e3
        refine ⟨u', r', ?_⟩
        rcases q with q | ⟨k, c', e, z'⟩
        · exact .inl q
        · refine .inr ⟨k, c', e, z'.sameBut hs ?_⟩
          rintro rfl
          exact hj (nodup_ix hN e1 (I.ok.inj _ _ _ e hc ▸ hi))
    · by_cases hcc : c' = c
      · subst hcc; exact ⟨_, hc'⟩
      · obtain ⟨w2, z2⟩ := I.cell y c' e
        exact ⟨w2, z2.sameBut hs hcc⟩
    · obtain ⟨e, n, ne, nf, d⟩ := I.pin p hp
      refine ⟨(hs.2 p.1 ?_).trans e, n, ne, nf, d⟩
      intro q
      rw [q, hoc] at e
      have q' : oc = p.2 := Option.some.inj e
      exact d w' (by rw [← q']; exact hocd)
theorem store_ok {M : Model} {A : Around} {E : Value → Shared → Prop} {i : Nat} {x : Str} {v : V} {u : Value} {Q : Unit → Shared → Prop} (I : Inv X pins σ H s) (hN : X.N.Nodup) (hi : X.N[i]? = some x) (hx : Loc X.env.scope x) (r : RelV v u)
    (h : ∀ s', Inv X pins (σ.set i (some v)) H s' → Q () s') (hf : X.fn x = true ∨ X.env.scope.names.lookup x = some .local := by first | exact .inl rfl | exact .inr rfl | assumption) : wpAny M A (storeName X.env x u) Q E s :=
  store_ok2 I hN hi hx r (fun s' I' _ => h s' I') hf
/-- behind a call or a block, the state as it is -/
theorem Inv.call' {s' : Shared} {ch : List Addr} (I : Inv X pins σ H s) (ho : s'.os = s.os) (u : Un (frs X.stack) ch H H' s.heap s'.heap) (hok : HOk X.prog X.w H' s'.heap) (hg : AllBare s'.gens)
    (hch : ∀ b ∈ ch, (b ∈ X.ex ∨ X.s_0.heap.objs.size ≤ b) ∧ b ≠ X.env.locals ∧ (∀ x c, X.env.cells.lookup x = some c → c ≠ b) ∧ ∀ p ∈ X.pn ++ pins, p.1 ≠ b) : Inv X pins σ H' s' := by
  obtain ⟨h', g', d', t', o'⟩ := s'
  have e : o' = s.os := ho
  subst e
  exact I.call (g' := g') (t' := t') (d' := d') u hok hg hch
end

/-! ### the judgements -/
/-- an exception: its class, its own dict's address (where it has one), the abstract heap behind it -/
abbrev XK := Value → Option Addr → Hp → Prop
abbrev St := List (Option V)
abbrev VK := V → Hp → Prop
/-- an expression's reading; a test's; an argument list's -/
abbrev TE := St → Hp → VK → Prop
abbrev TT := St → Hp → (Bool → Hp → Prop) → Prop
abbrev TA := St → Hp → (List V → Hp → Prop) → Prop
/-- what is wanted behind a statement -/
structure Ends where
  nx : St → Hp → Prop
  rt : VK
  bk : St → Hp → Prop := fun _ _ => False
  ct : St → Hp → Prop := fun _ _ => False
abbrev TS := Ends → St → Hp → Prop

def EP (X : Cx) (pins : List (Addr × Obj)) (σ : St) (Q : VK) (u : Value) (s' : Shared) : Prop := ∃ v H', Inv X pins σ H' s' ∧ RelV v u ∧ Q v H'
def TP (X : Cx) (pins : List (Addr × Obj)) (σ : St) (Q : Bool → Hp → Prop) (b : Bool) (s' : Shared) : Prop := ∃ H', Inv X pins σ H' s' ∧ Q b H'
def AP (X : Cx) (pins : List (Addr × Obj)) (σ : St) (Q : List V → Hp → Prop) (us : List Value) (s' : Shared) : Prop := ∃ vs H', Inv X pins σ H' s' ∧ Vals vs us ∧ Q vs H'
def SP (X : Cx) (pins : List (Addr × Obj)) (D : Ends) (f : Flow) (s' : Shared) : Prop :=
  match f with
  | .next => ∃ σ' H', Inv X pins σ' H' s' ∧ D.nx σ' H'
  | .brk => ∃ σ' H', Inv X pins σ' H' s' ∧ D.bk σ' H'
  | .cont => ∃ σ' H', Inv X pins σ' H' s' ∧ D.ct σ' H'
  | .ret u => ∃ v σ' H', Inv X pins σ' H' s' ∧ RelV v u ∧ D.rt v H'

def PE (X : Cx) (e : Expr) (t : TE) : Prop :=
  ∀ (pins : List (Addr × Obj)) (s : Shared) (σ : St) (H : Hp) (Q : VK), Inv X pins σ H s → t σ H Q → wpAny (model X.prog X.w) X.A (eval e X.env) (EP X pins σ Q) X.xe s
def PT (X : Cx) (e : Expr) (t : TT) : Prop :=
  ∀ (pins : List (Addr × Obj)) (s : Shared) (σ : St) (H : Hp) (Q : Bool → Hp → Prop), Inv X pins σ H s → t σ H Q → wpAny (model X.prog X.w) X.A (isTrue e X.env (eval e X.env)) (TP X pins σ Q) X.xe s
/-- a test whatever its 'whole' is (and, or) -/
def PW (X : Cx) (e : Expr) (t : TT) : Prop :=
  ∀ (whole : Sem Value) (pins : List (Addr × Obj)) (s : Shared) (σ : St) (H : Hp) (Q : Bool → Hp → Prop), Inv X pins σ H s → t σ H Q → wpAny (model X.prog X.w) X.A (isTrue e X.env whole) (TP X pins σ Q) X.xe s
theorem PW.pt {X : Cx} {e : Expr} {t : TT} (h : PW X e t) : PT X e t := h _
/-- an argument list (no star), from the left -/
def PA (X : Cx) (es : List Expr) (t : TA) : Prop :=
  ∀ (pos : Pos) (pins : List (Addr × Obj)) (s : Shared) (σ : St) (H : Hp) (Q : List V → Hp → Prop), Inv X pins σ H s → t σ H Q → wpAny (model X.prog X.w) X.A (spliced (backTo pos (starEach es X.env))) (AP X pins σ Q) X.xe s
def PS (X : Cx) (st : Stmt) (t : TS) : Prop :=
  ∀ (pins : List (Addr × Obj)) (s : Shared) (σ : St) (H : Hp) (D : Ends), Inv X pins σ H s → t D σ H → wpAny (model X.prog X.w) X.A (exec st X.env) (SP X pins D) X.xe s
def PSs (X : Cx) (st : List Stmt) (t : TS) : Prop :=
  ∀ (pins : List (Addr × Obj)) (s : Shared) (σ : St) (H : Hp) (D : Ends), Inv X pins σ H s → t D σ H → wpAny (model X.prog X.w) X.A (execs st X.env) (SP X pins D) X.xe s
/-- weaken the end -/
theorem thn {α : Type} {t : Sem α} {Q Q' : α → Shared → Prop} {M : Model} {A : Around} {E : Value → Shared → Prop} {s : Shared} (h : wpAny M A t Q E s) (hQ : ∀ a s, Q a s → Q' a s) : wpAny M A t Q' E s := wpAny_mono h hQ fun _ _ x => x
end L2

namespace L2
open PySem PySem.Spec PyProof.Rows
section
variable {X : Cx}


/-! ### names and constants -/
def tVar (i : Nat) : TE := fun σ H Q => ∃ v, σ[i]? = some (some v) ∧ Q v H
def tC (v : V) : TE := fun _ H Q => Q v H
theorem pe_var {i : Nat} {x : Str} {pos : Pos} (hN : X.N[i]? = some x) (hv : Vis X.env.scope x) (hd : (x == ("__debug__" : Str)) = false := by decide) (hcd : (x == ("__classdict__" : Str)) = false := by decide) : PE X (.Name x pos) (tVar i) := by
  intro pins s σ H Q I h
  obtain ⟨v, e, h⟩ := h
  obtain ⟨m, hn, hl⟩ := I.loc
  obtain ⟨u, r, l⟩ := hl i x v hN e hv
  have fin : EP X pins σ Q u s := ⟨v, H, I, r, h⟩
  rcases l with ⟨hk, hm⟩ | ⟨hk, c, hc, hcell⟩
  · exact wpAny_Name (wpAny_loadName_local I.ok.kind hk hn hm fin) hd
  · rcases hk with hk | hk
    · exact wpAny_Name (wpAny_loadName_cell I.ok.kind hk hc hcell fin) hd
    · exact wpAny_Name (wpAny_loadName_free I.ok.kind hk hc hcell fin hcd) hd
theorem pe_int {i j pos} : PE X (.Constant (.int i) j pos) (tC (.int i)) := fun _ _ _ H _ I h => wpAny_Constant_int ⟨.int i, H, I.tok _, ⟨_, rfl⟩, h⟩
theorem pe_bl {b j pos} : PE X (.Constant (.bool b) j pos) (tC (.bl b)) := fun _ _ _ H _ I h => Constant_bool ⟨.bl b, H, I, rfl, h⟩

/-- a global name of the def -/
def Gl (X : Cx) (x : Str) : Prop := X.env.kindOf x = some .globalImplicit
theorem ld_glob {E : Value → Shared → Prop} {pins : List (Addr × Obj)} {s : Shared} {σ : St} {H : Hp} {x : Str} {u : Value} {pos : Pos} {Q : Value → Shared → Prop} (I : Inv X pins σ H s) (hg : Gl X x) (hm : X.mg x = some u) (h : Q u s)
    (hd : (x == ("__debug__" : Str)) = false := by decide) : wpAny (model X.prog X.w) X.A (eval (.Name x pos) X.env) Q E s :=
  Calls.Name_function_global I.ok.kind hg (Calls.loadGlobal_global (by rw [I.ok.glob]; exact I.mod.glob.keeps I.bk) hm h) hd
theorem ld_blt {E : Value → Shared → Prop} {pins : List (Addr × Obj)} {s : Shared} {σ : St} {H : Hp} {x : Str} {u : Value} {pos : Pos} {Q : Value → Shared → Prop} (I : Inv X pins σ H s) (hg : Gl X x) (hm : X.mg x = none) (hv : bootBuiltins x = some u) (h : Q u s)
    (hn : x ≠ "__name__" := by decide) (hd : (x == ("__debug__" : Str)) = false := by decide) : wpAny (model X.prog X.w) X.A (eval (.Name x pos) X.env) Q E s := by
  obtain ⟨mb, h1, h2⟩ := I.mod.blt
  exact Calls.Name_function_global I.ok.kind hg (Calls.loadGlobal_builtin (by rw [I.ok.glob]; exact I.mod.glob.keeps I.bk) hm (by rw [I.ok.blt]; exact h1.keeps I.bk) ((h2 x hn).trans hv) h) hd
/-- a module's constant, a class, a function, as a value -/
theorem pe_glob {x : Str} {v : V} {u : Value} {pos : Pos} (hg : Gl X x) (hm : X.mg x = some u) (r : RelV v u) (hd : (x == ("__debug__" : Str)) = false := by decide) : PE X (.Name x pos) (tC v) :=
  fun _ _ _ H _ I h => ld_glob I hg hm ⟨v, H, I, r, h⟩ hd

/-! ### arithmetic -/
variable {a b : Expr} {ta tb : TE} {pos : Pos}

/-! ### comparisons -/
/-- a comparison as a value, as a test -/
def tB (t : TE) : TT := fun σ H Q => t σ H fun x H1 => ∃ c, x = .bl c ∧ Q c H1
/-- an expression whose value is a bool, as a test -/
theorem pt_val {e : Expr} {t : TE} (h : PE X e t) (he : ∀ whole, isTrue e X.env whole = (do let v ← whole; standAt e.pos; holding [v] (truthy v)) := by intro _; rfl) : PT X e (tB t) := by
  intro pins s σ H Q I hw
  refine isTrue_plain (thn (h pins s σ H _ I hw) fun v s1 ⟨x, H1, I1, r1, q1⟩ => ?_) (he _)
  obtain ⟨d, rfl, q⟩ := q1
  cases r1
  exact wpAny_truthy_bool ⟨H1, I1, q⟩

/-! ### and, or, not -/
variable {tA tB' : TT} {rest : List Expr}
def tAnd (t u : TT) : TT := fun σ H Q => t σ H fun c H1 => if c = true then u σ H1 Q else Q false H1
def tOr (t u : TT) : TT := fun σ H Q => t σ H fun c H1 => if c = true then Q true H1 else u σ H1 Q
def tNot (t : TT) : TT := fun σ H Q => t σ H fun c H1 => Q (!c) H1
theorem pw_and1 (ha : PT X a tA) : PW X (.BoolOp .And [a] pos) tA := by
  intro wh pins s σ H Q I h
  refine isTrue_and (thn (ha pins s σ H Q I h) fun c s1 e => ?_)
  cases c with
  | true => exact isTrue_and_nil e
  | false => exact e
theorem pw_or1 (ha : PT X a tA) : PW X (.BoolOp .Or [a] pos) tA := by
  intro wh pins s σ H Q I h
  refine isTrue_or (thn (ha pins s σ H Q I h) fun c s1 e => ?_)
  cases c with
  | false => exact isTrue_or_nil e
  | true => exact e
theorem pw_and (ha : PT X a tA) (hb : PW X (.BoolOp .And (b :: rest) pos) tB') : PW X (.BoolOp .And (a :: b :: rest) pos) (tAnd tA tB') := by
  intro wh pins s σ H Q I h
  refine isTrue_and (thn (ha pins s σ H _ I h) fun c s1 ⟨H1, I1, q1⟩ => ?_)
  cases c with
  | true => exact hb wh pins s1 σ H1 Q I1 q1
  | false => exact ⟨H1, I1, q1⟩
theorem pw_or (ha : PT X a tA) (hb : PW X (.BoolOp .Or (b :: rest) pos) tB') : PW X (.BoolOp .Or (a :: b :: rest) pos) (tOr tA tB') := by
  intro wh pins s σ H Q I h
  refine isTrue_or (thn (ha pins s σ H _ I h) fun c s1 ⟨H1, I1, q1⟩ => ?_)
  cases c with
  | true => exact ⟨H1, I1, q1⟩
  | false => exact hb wh pins s1 σ H1 Q I1 q1
theorem pt_not (ha : PT X a tA) : PT X (.UnaryOp .Not a pos) (tNot tA) := by
  intro pins s σ H Q I h
  exact isTrue_not (ha pins s σ H (fun c H1 => Q (!c) H1) I h)
/-- .. as values (bools) -/
def tAndV (ta tb : TE) : TE := fun σ H Q => ta σ H fun x H1 => ∃ c, x = .bl c ∧ if c = true then tb σ H1 Q else Q (.bl false) H1
theorem pe_one {op} {t : TE} (h : PE X a t) : PE X (.BoolOp op [a] pos) t := fun pins s σ H Q I hw => BoolOp_one (h pins s σ H Q I hw)
theorem pe_and (ha : PE X a ta) (hb : PE X (.BoolOp .And (b :: rest) pos) tb) : PE X (.BoolOp .And (a :: b :: rest) pos) (tAndV ta tb) := by
  intro pins s σ H Q I h
  refine BoolOp_and (thn (ha pins s σ H _ I h) fun v s1 ⟨x, H1, I1, r1, q1⟩ => ?_)
  obtain ⟨c, rfl, q1⟩ := q1
  cases r1
  refine wpAny_truthy_bool ?_
  cases c with
  | true => exact hb pins s1 σ H1 Q I1 q1
  | false => exact ⟨.bl false, H1, I1, rfl, q1⟩
/-- a if t else b -/
def tIf (t : TT) (ta tb : TE) : TE := fun σ H Q => t σ H fun c H1 => if c = true then ta σ H1 Q else tb σ H1 Q
theorem pe_ifExp {c : Expr} (hc : PT X c tA) (ha : PE X a ta) (hb : PE X b tb) : PE X (.IfExp c a b pos) (tIf tA ta tb) := by
  intro pins s σ H Q I h
  refine wpAny_IfExp (thn (hc pins s σ H _ I h) fun d s1 ⟨H1, I1, q1⟩ => ?_)
  cases d with
  | true => exact ha pins s1 σ H1 Q I1 q1
  | false => exact hb pins s1 σ H1 Q I1 q1
end
end L2

namespace L2
open PySem PySem.Spec PyProof.Rows

/-! ### a list, a tuple that is read: tracked, frozen, or an object of the module -/
def SqL (K : PySem.W.Frag) (H : Hp) (a : Addr) (xs : List V) : Prop :=
  Rd H a (.lst xs) ∨
    ∃ (o : Obj) (its : Array Value) (n : Nat), K.lookup a = some o ∧ o.cls = .type "list" ∧ o.dict = none ∧ o.data = .seq its n ∧ its.size ≤ sizeLine ∧ Vals xs its.toList
def SqT (K : PySem.W.Frag) (H : Hp) (a : Addr) (xs : List V) : Prop :=
  Rd H a (.tup xs) ∨
    ∃ (o : Obj) (its : Array Value) (n : Nat), K.lookup a = some o ∧ o.cls = .type "tuple" ∧ o.data = .seq its n ∧ its.size ≤ sizeLine ∧ Vals xs its.toList
def absV : Value → Option V
  | .none => some .non
  | .bool b => some (.bl b)
  | .int i _ => some (.int i)
  | .str x _ => some (.str x)
  | .bytes b _ => some (.byt b)
  | .float b _ => some (.flt b)
  | .ref a => some (.ref a)
  | .type n => some (.ty n)
  | _ => none
theorem RelV.abs {x : V} {u : Value} (r : RelV x u) : absV u = some x := by
  cases x with
  | non => cases r; rfl
  | bl _ => cases r; rfl
  | int _ => obtain ⟨t, rfl⟩ := r; rfl
  | str _ => obtain ⟨t, rfl⟩ := r; rfl
  | byt _ => obtain ⟨t, rfl⟩ := r; rfl
  | flt _ => obtain ⟨t, rfl⟩ := r; rfl
  | ref _ => cases r; rfl
  | ty _ => cases r; rfl
theorem RelV.inj {x y : V} {u : Value} (r : RelV x u) (q : RelV y u) : x = y := Option.some.inj (r.abs.symm.trans q.abs)
theorem Vals.inj : ∀ {xs ys : List V} {us : List Value}, Vals xs us → Vals ys us → xs = ys
  | _, _, _, .nil, .nil => rfl
  | _, _, _, .cons r t, .cons r' t' => by rw [r.inj r', Vals.inj t t']
section
variable {X : Cx} {pins : List (Addr × Obj)} {σ : St} {H : Hp} {s : Shared} {a : Addr} {xs ys : List V}
theorem SqL.of {K : PySem.W.Frag} (h : H a = some (.lst xs)) : SqL K H a xs := .inl (.inl h)
theorem SqT.of {K : PySem.W.Frag} (h : H a = some (.tup xs)) : SqT K H a xs := .inl (.inl h)
theorem Inv.list (I : Inv X pins σ H s) (h : SqL X.K H a xs) : ∃ its : List Value, Vals xs its ∧ PlainL s.heap a its.toArray ∧ xs.length ≤ sizeLine := by
  rcases h with h | ⟨o, its, n, hk, hc, hd, hs, hz, r⟩
  · obtain ⟨z, its, n, r, e⟩ := h.ok I.hok
    exact ⟨its, r, ⟨_, n, e, rfl, rfl, rfl⟩, z⟩
  · refine ⟨its.toList, r, ⟨o, n, I.kIn a o hk, hc, hd, by simpa using hs⟩, ?_⟩
    have e := r.length
    simp only [Array.length_toList] at e
    omega
theorem Inv.tuple (I : Inv X pins σ H s) (h : SqT X.K H a xs) : ∃ its : List Value, Vals xs its ∧ IsTup s.heap a its.toArray ∧ xs.length ≤ sizeLine := by
  rcases h with h | ⟨o, its, n, hk, hc, hs, hz, r⟩
  · obtain ⟨z, its, r, p⟩ := h.ok I.hok
    exact ⟨its, r, p, z⟩
  · refine ⟨its.toList, r, ⟨o, I.kIn a o hk, hc, n, by simpa using hs⟩, ?_⟩
    have e := r.length
    simp only [Array.length_toList] at e
    omega
theorem Inv.list_inj (I : Inv X pins σ H s) (h : SqL X.K H a xs) (h' : SqL X.K H a ys) : xs = ys := by
  obtain ⟨its, r, ⟨o, n, e, _, _, d⟩, _⟩ := I.list h
  obtain ⟨its', r', ⟨o', n', e', _, _, d'⟩, _⟩ := I.list h'
  rw [e] at e'; cases e'
  rw [d] at d'
  injection d' with d1 _
  have : its = its' := by simpa using congrArg Array.toList d1
  subst this
  exact r.inj r'
end

/-! ### another wish about exceptions -/
abbrev Cx.wish (X : Cx) (E : Value → Shared → Prop) : Cx := { X with xe := E }
/-- no exception leaves -/
abbrev Cx.nox (X : Cx) : Cx := X.wish fun _ _ => False
theorem Cx.Ok.wish {X : Cx} (ok : X.Ok) (E : Value → Shared → Prop) : (X.wish E).Ok :=
  ⟨ok.mod, ok.kind, ok.glob, ok.blt, ok.above, ok.inj, ok.has, ok.cab, ok.hd, ok.frames, ok.stk, ok.exf, ok.bs, ok.bsz, ok.noex, ok.exfs, ok.funs, ok.frf⟩
theorem Cx.Ok.unwish {X : Cx} {E : Value → Shared → Prop} (ok : (X.wish E).Ok) : X.Ok :=
  ⟨ok.mod, ok.kind, ok.glob, ok.blt, ok.above, ok.inj, ok.has, ok.cab, ok.hd, ok.frames, ok.stk, ok.exf, ok.bs, ok.bsz, ok.noex, ok.exfs, ok.funs, ok.frf⟩
section
variable {X : Cx} {pins : List (Addr × Obj)} {σ : St} {H : Hp} {s : Shared} {E : Value → Shared → Prop}
theorem Inv.wish (I : Inv X pins σ H s) (E : Value → Shared → Prop) : Inv (X.wish E) pins σ H s := ⟨I.ok.wish E, I.os, I.bare, I.base, I.loc, I.cell, I.free, I.freeC, I.pin, I.hok, I.len⟩
theorem Inv.unwish (I : Inv (X.wish E) pins σ H s) : Inv X pins σ H s := ⟨I.ok.unwish, I.os, I.bare, I.base, I.loc, I.cell, I.free, I.freeC, I.pin, I.hok, I.len⟩
theorem SP.unwish {D : Ends} {f : Flow} {s' : Shared} (h : SP (X.wish E) pins D f s') : SP X pins D f s' := by
  cases f with
  | next => obtain ⟨σ', H', I, q⟩ := h; exact ⟨σ', H', I.unwish, q⟩
  | brk => obtain ⟨σ', H', I, q⟩ := h; exact ⟨σ', H', I.unwish, q⟩
  | cont => obtain ⟨σ', H', I, q⟩ := h; exact ⟨σ', H', I.unwish, q⟩
  | ret u => obtain ⟨v, σ', H', I, r, q⟩ := h; exact ⟨v, σ', H', I.unwish, r, q⟩
theorem PSs.nox {st : List Stmt} {t : TS} (h : PSs X.nox st t) : PSs X st t := fun pins s σ H D I hw =>
  wpAny_mono (h pins s σ H D (I.wish _) hw) (fun _ _ q => q.unwish) fun _ _ z => False.elim z
end

/-! ### blocks and small statements -/
section
variable {X : Cx} {st : Stmt} {rest : List Stmt} {t u : TS} {e : Expr} {te : TE} {pos : Pos}
def tNext : TS := fun D σ H => D.nx σ H
def tSeq (t u : TS) : TS := fun D σ H => t { D with nx := u D } σ H
theorem pss_nil : PSs X [] tNext := fun _ _ σ H _ I h => wpAny_execs_nil ⟨σ, H, I, h⟩
theorem pss_cons (h1 : PS X st t) (h2 : PSs X rest u) : PSs X (st :: rest) (tSeq t u) := by
  intro pins s σ H D I h
  refine wpAny_execs_cons (thn (h1 pins s σ H { D with nx := u D } I h) fun f s1 q => ?_)
  cases f with
  | next =>
    obtain ⟨σ', H', I', q⟩ := q
    exact h2 pins s1 σ' H' D I' q
  | ret v => exact q
  | brk => exact q
  | cont => exact q
theorem pss_one (h1 : PS X st t) : PSs X [st] t := by
  intro pins s σ H D I h
  refine wpAny_execs_cons (thn (h1 pins s σ H D I h) fun f s1 q => ?_)
  cases f with
  | next => exact wpAny_execs_nil q
  | ret v => exact q
  | brk => exact q
  | cont => exact q
/-- in a def's body nothing is shown -/
theorem Inv.quiet {pins : List (Addr × Obj)} {σ : St} {H : Hp} {s : Shared} (I : Inv X pins σ H s) : interactive X.env = false := by simp [interactive, I.ok.kind]
/-- an expression whose value is dropped -/
def tDrop (te : TE) : TS := fun D σ H => te σ H fun _ H1 => D.nx σ H1
theorem ps_expr (he : PE X e te) (hs : swapsWith e none pos.line X.env = pure false := by rfl) : PS X (.Expr e pos) (tDrop te) := by
  intro pins s σ H D I h
  exact wpAny_Expr_any (thn (he pins s σ H _ I h) fun v s1 ⟨x, H1, I1, r1, q1⟩ => ⟨σ, H1, I1, q1⟩) I.quiet hs
def tRet (te : TE) : TS := fun D σ H => te σ H D.rt
theorem ps_ret (he : PE X e te) : PS X (.Return (some e) pos) (tRet te) := by
  intro pins s σ H D I h
  exact wpAny_Return_some (thn (he pins s σ H _ I h) fun v s1 ⟨x, H1, I1, r1, q1⟩ => ⟨x, σ, H1, I1, r1, q1⟩)
def tIfS (c : TT) (t u : TS) : TS := fun D σ H => c σ H fun b H1 => if b = true then t D σ H1 else u D σ H1
theorem ps_if {c : Expr} {a b : List Stmt} {tc : TT} (hc : PT X c tc) (ha : PSs X a t) (hb : PSs X b u) : PS X (.If c a b pos) (tIfS tc t u) := by
  intro pins s σ H D I h
  refine wpAny_If (thn (hc pins s σ H _ I h) fun d s1 ⟨H1, I1, q1⟩ => ?_)
  cases d with
  | true => exact ha pins s1 σ H1 D I1 q1
  | false => exact hb pins s1 σ H1 D I1 q1
end

/-! ### targets -/
abbrev TG := V → St → Hp → (St → Hp → Prop) → Prop
abbrev TGs := List V → St → Hp → (St → Hp → Prop) → Prop
def PG (X : Cx) (target : Expr) (t : TG) : Prop :=
  ∀ (pins : List (Addr × Obj)) (s : Shared) (σ : St) (H : Hp) (v : V) (u : Value) (Q : St → Hp → Prop), Inv X pins σ H s → RelV v u → t v σ H Q →
    wpAny (model X.prog X.w) X.A (assign target X.env u) (fun _ s' => ∃ σ' H', Inv X pins σ' H' s' ∧ Q σ' H') X.xe s
/-- several targets, one after another -/
def PGs (X : Cx) (ts : List Expr) (t : TGs) : Prop :=
  ∀ (pins : List (Addr × Obj)) (s : Shared) (σ : St) (H : Hp) (vs : List V) (us : List Value) (Q : St → Hp → Prop), Inv X pins σ H s → Vals vs us → t vs σ H Q →
    wpAny (model X.prog X.w) X.A (assignInOrder ((assignEach ts X.env).map (·.2)) us) (fun _ s' => ∃ σ' H', Inv X pins σ' H' s' ∧ Q σ' H') X.xe s
/-- o[i] = v, by values -/
abbrev TSet := V → V → V → Hp → (Hp → Prop) → Prop
def PSet (X : Cx) (t : TSet) : Prop :=
  ∀ (pins : List (Addr × Obj)) (s : Shared) (σ : St) (H : Hp) (o i v : V) (ov iv u : Value) (Q : Hp → Prop), Inv X pins σ H s → RelV o ov → RelV i iv → RelV v u → t o i v H Q →
    wpAny (model X.prog X.w) X.A (setItem ov iv u) (fun _ s' => ∃ H', Inv X pins σ H' s' ∧ Q H') X.xe s
section
variable {X : Cx} {pos : Pos}
def gName (i : Nat) : TG := fun v σ H Q => Q (σ.set i (some v)) H
theorem pg_name {i : Nat} {x : Str} (hN : X.N.Nodup) (hi : X.N[i]? = some x) (hx : Loc X.env.scope x) (hf : X.fn x = true ∨ X.env.scope.names.lookup x = some .local := by first | exact .inl rfl | exact .inr rfl | assumption) : PG X (.Name x pos) (gName i) := by
  intro pins s σ H v u Q I r h
  exact wpAny_assign_Name (store_ok I hN hi hx r (fun s' I' => ⟨_, H, I', h⟩) hf)
def gNil : TGs := fun vs σ H Q => vs = [] ∧ Q σ H
def gCons (t : TG) (u : TGs) : TGs := fun vs σ H Q => ∃ v r, vs = v :: r ∧ t v σ H fun σ' H' => u r σ' H' Q
theorem pgs_nil : PGs X [] gNil := by
  intro pins s σ H vs us Q I r h
  obtain ⟨e, h⟩ := h
  subst e
  cases r
  exact assignInOrder_nil ⟨σ, H, I, h⟩
theorem pgs_cons {e : Expr} {es : List Expr} {t : TG} {u : TGs} (h1 : PG X e t) (h2 : PGs X es u)
    (hs : (assignEach (e :: es) X.env).map (·.2) = assign e X.env :: (assignEach es X.env).map (·.2) := by rfl) : PGs X (e :: es) (gCons t u) := by
  intro pins s σ H vs us Q I r h
  obtain ⟨v, vr, e1, h⟩ := h
  subst e1
  cases r with
  | cons r rr =>
    rw [hs]
    refine assignInOrder_cons (thn (h1 pins s σ H _ _ _ I r h) fun _ s1 ⟨σ1, H1, I1, q1⟩ => ?_)
    exact h2 pins s1 σ1 H1 _ _ Q I1 rr q1
/-- (a, b, ..) = a tuple of that length -/
def gTup (K : PySem.W.Frag) (n : Nat) (t : TGs) : TG := fun v σ H Q => ∃ a xs, v = .ref a ∧ SqT K H a xs ∧ xs.length = n ∧ t xs σ H Q
theorem pg_tup {es : List Expr} {k : Nat} {t : TGs} {n : Nat} (hc : X.calm = true) (h : PGs X es t)
    (hn : (assignEach es X.env).length = n := by rfl) (hst : (assignEach es X.env).findIdx? (·.1) = none := by rfl) : PG X (.Tuple es k pos) (gTup X.K n t) := by
  intro pins s σ H v u Q I r hw
  obtain ⟨a, xs, e1, hq, hl, hw⟩ := hw
  subst e1
  cases r
  obtain ⟨its, rv, ht, hz⟩ := I.tuple hq
  refine assign_Tuple_tuple (I.ok.hd hc) ht (by simp [hn, ← hl, rv.length]) hst fun h' hx => ?_
  have I1 : Inv X pins σ H { s with heap := h' } := I.kept (t' := s.toks) fun b o e => hx b o (Nat.ne_of_lt (Heap.lt_size e)) e
  exact h pins _ σ H xs _ Q I1 (by simpa using rv) hw
/-- o[i] = .. -/
def gSub (to ti : TE) (t : TSet) : TG := fun v σ H Q => to σ H fun o H1 => ti σ H1 fun i H2 => t o i v H2 fun H3 => Q σ H3
theorem pg_sub {o i : Expr} {to ti : TE} {t : TSet} (ho : PE X o to) (hi : PE X i ti) (hs : PSet X t)
    (ha : ∀ v, assign (.Subscript o i pos) X.env v = (do
      let ov ← holding [v] (eval o X.env)
      let iv ← holding [v, ov] (eval i X.env)
      standAt pos
      holding [v, ov, iv] (setItem ov iv v)
      release [v, ov, iv] []) := by intro _; rfl) : PG X (.Subscript o i pos) (gSub to ti t) := by
  intro pins s σ H v u Q I r h
  rw [ha]
  refine wpAny_bind (wpAny_holding (thn (ho pins s σ H _ I h) fun ov s1 ⟨x, H1, I1, r1, q1⟩ => ?_))
  refine wpAny_bind (wpAny_holding (thn (hi pins s1 σ H1 _ I1 q1) fun iv s2 ⟨y, H2, I2, r2, q2⟩ => ?_))
  refine wpAny_bind (wpAny_standAt (wpAny_bind (wpAny_holding (thn (hs pins s2 σ H2 x y v ov iv u _ I2 r1 r2 r q2) fun _ s3 ⟨H3, I3, q3⟩ => ?_))))
  exact wpAny_release ⟨σ, H3, I3, q3⟩
/-- target = value -/
def tAsg (te : TE) (g : TG) : TS := fun D σ H => te σ H fun x H1 => g x σ H1 D.nx
theorem ps_asg {tg e : Expr} {te : TE} {g : TG} (he : PE X e te) (hg : PG X tg g) (hs : swapsWithSole [tg] e pos.line X.env = pure false := by rfl) (hw : swappedStores [tg] e X.env = pure none := by rfl)
    (h1 : (assignEach [tg] X.env).map (·.2) = [assign tg X.env] := by rfl) : PS X (.Assign [tg] e pos) (tAsg te g) := by
  intro pins s σ H D I h
  refine wpAny_Assign_stores (thn (he pins s σ H _ I h) fun v s1 ⟨x, H1, I1, r1, q1⟩ => ?_) hs hw
  rw [h1]
  exact thn (hg pins s1 σ H1 x v _ I1 r1 q1) fun _ s2 q => q
/-- name = value -/
theorem ps_set {i : Nat} {x : Str} {e : Expr} {te : TE} {pos' : Pos} (hN : X.N.Nodup) (hi : X.N[i]? = some x) (hx : Loc X.env.scope x) (he : PE X e te) (hs : swapsWith e (some (.Name x pos')) pos.line X.env = pure false := by rfl) (hf : X.fn x = true ∨ X.env.scope.names.lookup x = some .local := by first | exact .inl rfl | exact .inr rfl | assumption) :
    PS X (.Assign [.Name x pos'] e pos) (tAsg te (gName i)) := by
  intro pins s σ H D I h
  refine wpAny_Assign_Name (thn (he pins s σ H _ I h) fun v s1 ⟨y, H1, I1, r1, q1⟩ => ?_) hs
  exact store_ok I1 hN hi hx r1 (fun s2 I2 => ⟨_, H1, I2, q1⟩) hf
end

/-! ### while -/
section
variable {X : Cx} {pos : Pos}
/-- the invariant W with its measure -/
def tWhile (c : TT) (tb : TS) : TS := fun D σ H => ∃ W : Nat → St → Hp → Prop, (∃ m, W m σ H) ∧ ∀ m σ H, W m σ H →
  c σ H fun b H1 => if b = true then ∃ N : St → Hp → Prop, (∀ σ' H', N σ' H' → ∃ m', m' < m ∧ W m' σ' H') ∧ tb { D with nx := N, ct := N, bk := D.nx } σ H1 else D.nx σ H1
theorem ps_while {c : Expr} {body : List Stmt} {tc : TT} {tb : TS} (hp : PassesOwn (model X.prog X.w) X.A X.env X.xe) (hc : PT X c tc) (hb : PSs X body tb) : PS X (.While c body [] pos) (tWhile tc tb) := by
  intro pins s σ H D I h
  obtain ⟨W, ⟨m0, w0⟩, turn⟩ := h
  refine wpAny_While (codeAny_whileLoop (fun n s' => ∃ σ' H', Inv X pins σ' H' s' ∧ W n σ' H') ?_ m0 ⟨σ, H, I, w0⟩)
  rintro n s1 ⟨σ1, H1, I1, w1⟩
  refine wpAny_passesOwn hp (thn (hc pins s1 σ1 H1 _ I1 (turn n σ1 H1 w1)) fun b s2 ⟨H2, I2, q2⟩ => ?_)
  cases b with
  | true =>
    obtain ⟨N, hN, q2⟩ := q2
    rw [if_pos rfl]
    refine wpAny_passesOwn hp (thn (hb pins s2 σ1 H2 _ I2 q2) fun f s3 q3 => ?_)
    cases f with
    | next =>
      obtain ⟨σ3, H3, I3, n3⟩ := q3
      obtain ⟨m', hm, w3⟩ := hN σ3 H3 n3
      exact ⟨m', hm, σ3, H3, I3, w3⟩
    | cont =>
      obtain ⟨σ3, H3, I3, n3⟩ := q3
      obtain ⟨m', hm, w3⟩ := hN σ3 H3 n3
      exact ⟨m', hm, σ3, H3, I3, w3⟩
    | brk => exact q3
    | ret v => exact q3
  | false =>
    rw [if_neg Bool.false_ne_true]
    exact wpAny_execs_nil ⟨σ1, H2, I2, q2⟩
end

/-! ### what a loop or a comprehension walks -/
/-- at turn i: it yields x (the heap may grow), or it stops -/
structure It where
  go : Nat → Hp → Prop
  yld : Nat → Hp → V → Hp → Prop
  stop : Nat → Hp → Prop
/-- the iterator's own objects may turn: they are not the frame's, not pinned, younger than the entry (or a comprehension's own) -/
def FpOk (X : Cx) (pins : List (Addr × Obj)) (H : Hp) (b : Addr) : Prop :=
  H b = none ∧ b ≠ X.env.locals ∧ b ∉ X.fs ∧ (b ∈ X.ex ∨ X.s_0.heap.objs.size ≤ b) ∧ (∀ x c, X.env.cells.lookup x = some c → c ≠ b) ∧ ∀ p ∈ X.pn ++ pins, p.1 ≠ b
theorem Inv.fpOk {X : Cx} {pins : List (Addr × Obj)} {σ : St} {H H' : Hp} {s : Shared} {b : Addr} (I : Inv X pins σ H s) (hb : s.heap.objs.size ≤ b) (hn : H' b = none) : FpOk X pins H' b := by
  refine ⟨hn, Nat.ne_of_gt (Nat.lt_of_lt_of_le I.lt hb), I.nofs hb, .inr (Nat.le_trans I.sz hb), fun x c e z => ?_, fun p hp z => ?_⟩
  · obtain ⟨v, q⟩ := I.cell x c e
    exact absurd (Nat.lt_of_lt_of_le q.lt (by rw [z]; exact hb)) (Nat.lt_irrefl _)
  · exact absurd (Nat.lt_of_lt_of_le (Heap.lt_size (I.pin p hp).1) (by rw [z]; exact hb)) (Nat.lt_irrefl _)
structure Turn (P : Program) (w : World) (K : PySem.W.Frag) (tg : Expr) (J : It) (fp : List Addr) (it : Addr) (tn : Nat → Heap → Prop) : Prop where
  mem : it ∈ fp
  obj : ∀ i h, tn i h → ∀ b ∈ fp, ∃ o, h.get? b = some o ∧ ∀ v, o.data ≠ .cell v
  keep : ∀ i h h', tn i h → (∀ b ∈ fp, ∀ o, h.get? b = some o → h'.get? b = some o) → tn i h'
  item : ∀ (X : Cx), X.prog = P → X.w = w → X.K = K → X.calm = true → ∀ (i : Nat) (pins : List (Addr × Obj)) (s : Shared) (σ : St) (H : Hp) (E : Value → Shared → Prop), Inv X pins σ H s → (∀ b ∈ fp, FpOk X pins H b) → tn i s.heap → J.go i H →
    wpAny (model P w) X.A (pyNext (.ref it)) (fun r s1 => ∃ u, r = some u ∧
      wpAny (model P w) X.A (letOwnedTupleGo tg (.ref it) u) (fun _ s2 => ∃ x H', Inv X pins σ H' s2 ∧ RelV x u ∧ J.yld i H x H' ∧ tn (i + 1) s2.heap ∧ ∀ b ∈ fp, H' b = none) E s1) E s
  done : ∀ (X : Cx), X.prog = P → X.w = w → X.K = K → X.calm = true → ∀ (i : Nat) (pins : List (Addr × Obj)) (s : Shared) (σ : St) (H : Hp) (E : Value → Shared → Prop), Inv X pins σ H s → (∀ b ∈ fp, FpOk X pins H b) → tn i s.heap → J.stop i H →
    wpAny (model P w) X.A (pyNext (.ref it)) (fun r s1 => r = none ∧ Inv X pins σ H s1) E s
  self : ∀ (A : Around) (i : Nat) (s : Shared) (Q : Value → Shared → Prop) (E : Value → Shared → Prop), tn i s.heap → Q (.ref it) s → wpAny (model P w) A (pyIter (.ref it)) Q E s
abbrev TI := St → Hp → (It → Hp → Prop) → Prop
/-- an iterator has come -/
def PIE (X : Cx) (pins : List (Addr × Obj)) (σ : St) (tg : Expr) (R : It → Hp → Prop) (itv : Value) (s2 : Shared) : Prop :=
  ∃ (it : Addr) (fp : List Addr) (tn : Nat → Heap → Prop) (J : It) (H' : Hp), itv = .ref it ∧ Inv X pins σ H' s2 ∧ Turn X.prog X.w X.K tg J fp it tn ∧ tn 0 s2.heap ∧ (∀ b ∈ fp, FpOk X pins H' b) ∧ R J H'
def PI (X : Cx) (tg iter : Expr) (wi : TI) : Prop :=
  ∀ (pins : List (Addr × Obj)) (s : Shared) (σ : St) (H : Hp) (R : It → Hp → Prop), Inv X pins σ H s → wi σ H R →
    wpAny (model X.prog X.w) X.A (eval iter X.env) (fun v s1 => wpAny (model X.prog X.w) X.A (pyIter v) (PIE X pins σ tg R) X.xe s1) X.xe s

/-- the step ahead of the store is nothing for an iterator that keeps no tuple -/
theorem go_of {M : Model} {A : Around} {E : Value → Shared → Prop} {s : Shared} {tg : Expr} {it : Addr} {u : Value} {o : Obj} {n : String} {vs : Array Value} {Q : Unit → Shared → Prop} (ho : s.heap.get? it = some o) (hc : o.cls = .type n) (hd : o.data = .fields vs)
    (hn : ["enumerate", "zip", "dict_itemiterator", "dict_reverseitemiterator", "odict_iterator", "itertools.zip_longest", "itertools.pairwise"].contains n = false) (hQ : Q () s) : wpAny M A (letOwnedTupleGo tg (.ref it) u) Q E s := by
  unfold letOwnedTupleGo
  cases tg <;> first
    | exact wpAny_pure hQ
    | (cases u <;> first
        | exact wpAny_pure hQ
        | (refine wpAny_bind (wpAny_load ho ?_)
           rw [hc, hd]
           show wpAny M A (if (["enumerate", "zip", "dict_itemiterator", "dict_reverseitemiterator", "odict_iterator", "itertools.zip_longest", "itertools.pairwise"].contains n && vs[0]? == some (rawInt _)) = true then _ else _) Q E s
           rw [if_neg (by intro h; rw [hn, Bool.false_and] at h; cases h)]
           exact wpAny_pure hQ))

/-- the list at a, as it stands at each turn (a loop may append to it) -/
def Itl (K : PySem.W.Frag) (a : Addr) : It :=
  ⟨fun i H => ∃ xs x, SqL K H a xs ∧ xs[i]? = some x, fun i H x H' => H' = H ∧ ∀ xs, SqL K H a xs → xs[i]? = some x, fun i H => ∃ xs, SqL K H a xs ∧ xs.length ≤ i⟩
/-- lo, lo + 1, .. (n of them) -/
def Itr (lo : Int) (n : Nat) : It := ⟨fun i _ => i < n, fun i H x H' => H' = H ∧ x = .int (lo + i), fun i _ => n ≤ i⟩
theorem turn_list {P : Program} {w : World} {K : PySem.W.Frag} {tg : Expr} (a it : Addr) : Turn P w K tg (Itl K a) [it] it (fun i h => h.IsListIter it a i) where
  mem := by simp
  obj := fun i h st b hb => by
    have e : b = it := by simpa using hb
    subst e
    obtain ⟨o, e, c, d⟩ := st
    exact ⟨o, e, fun v z => by rw [d] at z; cases z⟩
  keep := fun i h h' st k => st.at fun o e => k it (by simp) o e
  item := by
    intro X hP hw hK hc i pins s σ H E I hf st hg
    subst hP hw hK
    obtain ⟨xs, x, hq, hx⟩ := hg
    obtain ⟨its, rv, p, hz⟩ := I.list hq
    obtain ⟨u, hu, ru⟩ := rv.get hx
    obtain ⟨f0, f1, f2, f3, f4, f5⟩ := hf it (by simp)
    refine wpAny_pyNext_list_item st p.isList (x := u) (by simpa using hu) fun h' st' sb => ?_
    have I1 : Inv X pins σ H { s with heap := h' } := I.turned (t' := s.toks) (fun b o hb e => (sb.2 b hb).trans e) f0 f1 f3 f4 f5
    obtain ⟨o, e, c, d⟩ := id st'
    exact ⟨u, rfl, go_of (s := { s with heap := h' }) e c d (by decide) ⟨x, H, I1, ru, ⟨rfl, fun ys hy => by rw [I.list_inj hy hq]; exact hx⟩, st', fun b hb => (hf b hb).1⟩⟩
  done := by
    intro X hP hw hK hc i pins s σ H E I hf st hg
    subst hP hw hK
    obtain ⟨xs, hq, hx⟩ := hg
    obtain ⟨its, rv, p, hz⟩ := I.list hq
    obtain ⟨f0, f1, f2, f3, f4, f5⟩ := hf it (by simp)
    have hl := rv.length
    exact wpAny_pyNext_list_end (I.ok.hd hc) st p.isList (by simp; omega) fun h' eb => ⟨rfl, I.turned (t' := s.toks) (fun b o hb e => eb b o hb e) f0 f1 f3 f4 f5⟩
  self := fun _ _ _ _ _ st h => wpAny_pyIter_listiter st h
theorem turn_range {P : Program} {w : World} {K : PySem.W.Frag} {tg : Expr} (it : Addr) (lo : Int) (n : Nat) : Turn P w K tg (Itr lo n) [it] it (fun i h => IsRangeIter h it (lo + (i : Nat) * 1) ((n : Int) - (i : Nat)) 1) where
  mem := by simp
  obj := fun i h st b hb => by
    have e : b = it := by simpa using hb
    subst e
    exact ⟨_, st, fun v z => by
      have z' : Data.fields _ = Data.cell v := z
      cases z'⟩
  keep := fun i h h' st k => k it (by simp) _ st
  item := by
    intro X hP hw hK hc i pins s σ H E I hf st hg
    subst hP hw hK
    obtain ⟨f0, f1, f2, f3, f4, f5⟩ := hf it (by simp)
    have W := Walks.range (prog := X.prog) (w := X.w) (I.ok.hd hc) it lo 1 n
    refine W.item i s _ _ hg st fun v h' tk hv st' kk => ?_
    obtain ⟨t, rfl⟩ := hv
    have I1 : Inv X pins σ H { s with heap := h', toks := tk } := I.turned (fun b o hb e => kk b o (by simpa using hb) e) f0 f1 f3 f4 f5
    refine ⟨_, rfl, go_of (s := { s with heap := h', toks := tk }) (n := "range_iterator") st' rfl rfl (by decide) ⟨.int (lo + i), H, I1, ⟨t, ?_⟩, ⟨rfl, rfl⟩, st', fun b hb => (hf b hb).1⟩⟩
    rw [Int.mul_one]
  done := by
    intro X hP hw hK hc i pins s σ H E I hf st hg
    subst hP hw hK
    obtain ⟨f0, f1, f2, f3, f4, f5⟩ := hf it (by simp)
    exact wpAny_pyNext_range_end (I.ok.hd hc) st (by have : n ≤ i := hg; omega) fun h' eb => ⟨rfl, I.turned (t' := s.toks) (fun b o hb e => eb b o hb e) f0 f1 f3 f4 f5⟩
  self := fun _ _ _ _ _ st h => wpAny_pyIter_rangeiter st h
end L2

namespace L2
open PySem PySem.Spec PyProof.Rows
section
variable {X : Cx} {tg : Expr}
def iList (K : PySem.W.Frag) (tl : TE) : TI := fun σ H R => tl σ H fun x H1 => ∃ a, x = .ref a ∧ (∃ xs, SqL K H1 a xs) ∧ R (Itl K a) H1
theorem pi_list {l : Expr} {tl : TE} (hl : PE X l tl) : PI X tg l (iList X.K tl) := by
  intro pins s σ H R I h
  refine thn (hl pins s σ H _ I h) fun v s1 ⟨x, H1, I1, r1, q1⟩ => ?_
  obtain ⟨a, e, ⟨xs, hq⟩, q⟩ := q1
  subst e
  cases r1
  obtain ⟨its, rv, p, hz⟩ := I1.list hq
  refine wpAny_pyIter_list p.isList ?_
  refine ⟨s1.heap.objs.size, [s1.heap.objs.size], _, _, H1, rfl, I1.kept (t' := s1.toks) fun b o e => Heap.get?_push_of_some _ e, turn_list a _, ⟨_, Heap.get?_push_size _ rfl, rfl, rfl⟩, fun b hb => ?_, q⟩
  have e : b = s1.heap.objs.size := by simpa using hb
  subst e
  exact I1.fpOk (Nat.le_refl _) (I1.hok.fresh (Nat.le_refl _))
/-- a range object just made, walked -/
theorem range_it {pins : List (Addr × Obj)} {σ : St} {H : Hp} {s : Shared} {R : It → Hp → Prop} {E : Value → Shared → Prop} {lo hi : Int} {t u v : Tok} {tk : Nat} (I : Inv X pins σ H s) (h1 : -(2 ^ 62) ≤ lo) (h2 : lo < 2 ^ 62) (h3 : -(2 ^ 62) ≤ hi) (h4 : hi < 2 ^ 62)
    (q : R (Itr lo (hi - lo).toNat) H) : wpAny (model X.prog X.w) X.A (pyIter (.ref s.heap.objs.size)) (PIE X pins σ tg R) E { s with heap := s.heap.push { cls := .type "range", data := .fields #[.int lo t, .int hi u, .int 1 v] }, toks := tk } := by
  refine wpAny_pyIter_range (IsRange.new ..) (small_one h1 h2 h3 h4) ?_
  have I1 : Inv X pins σ H { s with heap := s.heap.push { cls := .type "range", data := .fields #[.int lo t, .int hi u, .int 1 v] }, toks := tk } := I.kept fun b o e => Heap.get?_push_of_some _ e
  refine ⟨(s.heap.push { cls := .type "range", data := .fields #[.int lo t, .int hi u, .int 1 v] }).objs.size, [(s.heap.push { cls := .type "range", data := .fields #[.int lo t, .int hi u, .int 1 v] }).objs.size], _, _, H, rfl,
    I1.kept (t' := tk) fun b o e => Heap.get?_push_of_some _ e, turn_range _ lo (hi - lo).toNat, ?_, fun b hb => ?_, q⟩
  · have e1 : lo + ((0 : Nat) : Int) * 1 = lo := by simp
    have e2 : (((hi - lo).toNat : Nat) : Int) - ((0 : Nat) : Int) = Builtin.Range.rangeSize lo hi 1 := by rw [rangeSize_one]; split <;> omega
    show IsRangeIter _ _ (lo + ((0 : Nat) : Int) * 1) ((((hi - lo).toNat : Nat) : Int) - ((0 : Nat) : Int)) 1
    rw [e1, e2]
    exact Heap.get?_push_size _ rfl
  · have e : b = (s.heap.push { cls := .type "range", data := .fields #[.int lo t, .int hi u, .int 1 v] }).objs.size := by simpa using hb
    subst e
    exact I1.fpOk (Nat.le_refl _) (I1.hok.fresh (Nat.le_refl _))
def iRng1 (ta : TA) : TI := fun σ H R => ta σ H fun vs H1 => ∃ j : Int, vs = [.int j] ∧ -(2 ^ 62) ≤ j ∧ j < 2 ^ 62 ∧ R (Itr 0 j.toNat) H1
theorem pi_range1 {a : Expr} {ta : TA} {p pos : Pos} (hg : Gl X "range") (hm : X.mg "range" = none) (ha : PA X [a] ta) (hs : starEach [a] X.env = [(false, eval a X.env)] := by rfl) : PI X tg (.Call (.Name "range" p) [a] [] pos) (iRng1 ta) := by
  intro pins s σ H R I h
  refine Call_ (ld_blt I hg hm boot_range (PyProof.Rows.callWith_type1 (thn (ha pos pins s σ H _ I h) fun us s1 ⟨vs, H1, I1, r1, q1⟩ => ?_) hs rfl))
  obtain ⟨j, e, q1, q2, q⟩ := q1
  subst e
  cases r1 with
  | cons r rr =>
    cases rr
    obtain ⟨t, rfl⟩ := r
    exact call_range_1 (range_it I1 (by omega) (by omega) q1 q2 (by simpa using q))

/-! ### for -/
/-- W: the invariant by the turn and a measure; N: what the body is to reach -/
def tFor (wi : TI) (g : TG) (tb : TS) : TS := fun D σ H => wi σ H fun J H1 => ∃ W : Nat → Nat → St → Hp → Prop, (∃ m, W 0 m σ H1) ∧ ∀ i m σ H, W i m σ H →
  (J.stop i H ∧ D.nx σ H) ∨ (J.go i H ∧ ∃ N : St → Hp → Prop, (∀ σ' H', N σ' H' → ∃ m', m' < m ∧ W (i + 1) m' σ' H') ∧ ∀ x H', J.yld i H x H' → g x σ H' fun σ2 H2 => tb { D with nx := N, ct := N, bk := D.nx } σ2 H2)
/-- the records at fp as they stand -/
def pinsAt (fp : List Addr) (h : Heap) : List (Addr × Obj) := fp.filterMap fun b => (h.get? b).map fun o => (b, o)
theorem mem_pinsAt {fp : List Addr} {h : Heap} {b : Addr} {o : Obj} (hb : b ∈ fp) (e : h.get? b = some o) : (b, o) ∈ pinsAt fp h := List.mem_filterMap.mpr ⟨b, hb, by rw [e]; rfl⟩
theorem of_pinsAt {fp : List Addr} {h : Heap} {p : Addr × Obj} (hp : p ∈ pinsAt fp h) : p.1 ∈ fp ∧ h.get? p.1 = some p.2 := by
  obtain ⟨b, hb, e⟩ := List.mem_filterMap.mp hp
  cases q : h.get? b with
  | none => rw [q] at e; cases e
  | some o =>
    rw [q] at e
    have e' : (b, o) = p := Option.some.inj e
    subst e'
    exact ⟨hb, q⟩
theorem Inv.pinned {pins : List (Addr × Obj)} {σ : St} {H : Hp} {s : Shared} {fp : List Addr} (I : Inv X pins σ H s) (hf : ∀ b ∈ fp, FpOk X pins H b) (ho : ∀ b ∈ fp, ∃ o, s.heap.get? b = some o ∧ ∀ v, o.data ≠ .cell v) : Inv X (pins ++ pinsAt fp s.heap) σ H s :=
  I.pins_of fun p hp => (List.mem_append.mp hp).elim (fun z => I.pin p (List.mem_append_right _ z)) fun z => by
    obtain ⟨hb, e⟩ := of_pinsAt z
    obtain ⟨f0, f1, f2, _⟩ := hf p.1 hb
    obtain ⟨o, e', d⟩ := ho p.1 hb
    rw [e] at e'; cases e'
    exact ⟨e, f0, f1, f2, d⟩
theorem Inv.unpinned {pins pl : List (Addr × Obj)} {σ : St} {H : Hp} {s : Shared} (I : Inv X (pins ++ pl) σ H s) : Inv X pins σ H s := I.pins_of fun p hp => I.pin p (List.mem_append_right _ (List.mem_append_left _ hp))
theorem ps_for {iter : Expr} {body : List Stmt} {wi : TI} {g : TG} {tb : TS} {pos : Pos} (hp : PassesOwn (model X.prog X.w) X.A X.env X.xe) (hc : X.calm = true) (hi : PI X tg iter wi) (hg : PG X tg g) (hb : PSs X body tb)
    (hs : ∀ x, foldedSetIterable iter X.env x = pure x := by intro _; rfl) : PS X (.For tg iter body [] pos) (tFor wi g tb) := by
  intro pins s σ H D I h
  refine wpAny_For (thn (hi pins s σ H _ I h) fun v s1 h1 => thn h1 fun itv s2 h2 => ?_) hs
  obtain ⟨it, fp, tn, J, H2, e, I2, T, st2, f2, W, ⟨m0, w0⟩, turn⟩ := h2
  subst e
  -- what stays true of the iterator's objects through the loop
  have stat : ∀ {H' : Hp}, (∀ b ∈ fp, H' b = none) → ∀ b ∈ fp, FpOk X pins H' b := fun hn b hb => ⟨hn b hb, (f2 b hb).2⟩
  refine codeAny_forLoop_any (fun n s' => ∃ i σ' H', Inv X pins σ' H' s' ∧ tn i s'.heap ∧ (∀ b ∈ fp, H' b = none) ∧ W i n σ' H') ?_ m0 ⟨0, σ, H2, I2, st2, fun b hb => (f2 b hb).1, w0⟩
  rintro n s3 ⟨i, σ3, H3, I3, st3, fr3, w3⟩
  rcases turn i n σ3 H3 w3 with ⟨stop, qn⟩ | ⟨go, N, hN, step⟩
  · refine wpAny_passesOwn hp (thn (T.done X rfl rfl rfl hc i pins s3 σ3 H3 X.xe I3 (stat fr3) st3 stop) fun r s4 ⟨hr, I4⟩ => ?_)
    subst hr
    exact wpAny_execs_nil ⟨σ3, H3, I4, qn⟩
  · refine wpAny_passesOwn hp (thn (T.item X rfl rfl rfl hc i pins s3 σ3 H3 X.xe I3 (stat fr3) st3 go) fun r s4 ⟨u, hr, h4⟩ => ?_)
    subst hr
    refine wpAny_passesOwn hp (thn h4 fun _ s5 ⟨x, H5, I5, r5, y5, st5, fr5⟩ => ?_)
    have I5' := I5.pinned (stat fr5) (T.obj _ _ st5)
    refine wpAny_passesOwn hp (thn (hg _ s5 σ3 H5 x u _ I5' r5 (step x H5 y5)) fun _ s6 ⟨σ6, H6, I6, q6⟩ => ?_)
    refine wpAny_passesOwn hp (thn (hb _ s6 σ6 H6 _ I6 q6) fun f s7 q7 => ?_)
    have again : ∀ {σ7 : St} {H7 : Hp}, Inv X (pins ++ pinsAt fp s5.heap) σ7 H7 s7 → N σ7 H7 → ∃ m, m < n ∧ ∃ i σ' H', Inv X pins σ' H' s7 ∧ tn i s7.heap ∧ (∀ b ∈ fp, H' b = none) ∧ W i m σ' H' := fun {σ7 H7} I7 n7 => by
      obtain ⟨m', hm, w7⟩ := hN σ7 H7 n7
      refine ⟨m', hm, i + 1, σ7, H7, I7.unpinned, T.keep _ _ _ st5 fun b hb o e => (I7.pin (b, o) (List.mem_append_right _ (List.mem_append_right _ (mem_pinsAt hb e)))).1, fun b hb => ?_, w7⟩
      obtain ⟨o, e, d⟩ := T.obj _ _ st5 b hb
      exact (I7.pin (b, o) (List.mem_append_right _ (List.mem_append_right _ (mem_pinsAt hb e)))).2.1
    cases f with
    | next => obtain ⟨σ7, H7, I7, n7⟩ := q7; exact again I7 n7
    | cont => obtain ⟨σ7, H7, I7, n7⟩ := q7; exact again I7 n7
    | brk => obtain ⟨σ7, H7, I7, q7⟩ := q7; exact ⟨σ7, H7, I7.unpinned, q7⟩
    | ret v => obtain ⟨x7, σ7, H7, I7, r7, q7⟩ := q7; exact ⟨x7, σ7, H7, I7.unpinned, r7, q7⟩
end

/-! ### the forms one uses -/
/-- over a list that the body leaves as it is -/
theorem for_list {K : PySem.W.Frag} {a : Addr} {xs : List V} {g : TG} {tb : TS} {D : Ends} {σ : St} {H : Hp} (Pv : Nat → St → Hp → Prop) (h0 : Pv 0 σ H) (hl : ∀ i σ H, i ≤ xs.length → Pv i σ H → SqL K H a xs)
    (hs : ∀ i x σ H, xs[i]? = some x → Pv i σ H → g x σ H fun σ2 H2 => tb { D with nx := Pv (i + 1), ct := Pv (i + 1), bk := D.nx } σ2 H2) (hd : ∀ σ H, Pv xs.length σ H → D.nx σ H) :
    ∃ W : Nat → Nat → St → Hp → Prop, (∃ m, W 0 m σ H) ∧ ∀ i m σ H, W i m σ H →
      ((Itl K a).stop i H ∧ D.nx σ H) ∨ ((Itl K a).go i H ∧ ∃ N : St → Hp → Prop, (∀ σ' H', N σ' H' → ∃ m', m' < m ∧ W (i + 1) m' σ' H') ∧ ∀ x H', (Itl K a).yld i H x H' → g x σ H' fun σ2 H2 => tb { D with nx := N, ct := N, bk := D.nx } σ2 H2) := by
  refine ⟨fun i m σ H => m = xs.length - i ∧ i ≤ xs.length ∧ Pv i σ H, ⟨xs.length, by simp, Nat.zero_le _, h0⟩, ?_⟩
  rintro i m σ H ⟨rfl, hi, p⟩
  have q := hl i σ H hi p
  by_cases hlt : i < xs.length
  · refine .inr ⟨⟨xs, xs[i], q, by simp [hlt]⟩, Pv (i + 1), fun σ' H' p' => ⟨xs.length - (i + 1), by omega, rfl, hlt, p'⟩, fun x H' y => ?_⟩
    obtain ⟨e, y⟩ := y
    subst e
    exact hs i x σ _ (y xs q) p
  · have e : i = xs.length := by omega
    subst e
    exact .inl ⟨⟨xs, q, Nat.le_refl _⟩, hd σ H p⟩
theorem for_range {lo : Int} {n : Nat} {g : TG} {tb : TS} {D : Ends} {σ : St} {H : Hp} (Pv : Nat → St → Hp → Prop) (h0 : Pv 0 σ H)
    (hs : ∀ i σ H, i < n → Pv i σ H → g (.int (lo + i)) σ H fun σ2 H2 => tb { D with nx := Pv (i + 1), ct := Pv (i + 1), bk := D.nx } σ2 H2) (hd : ∀ σ H, Pv n σ H → D.nx σ H) :
    ∃ W : Nat → Nat → St → Hp → Prop, (∃ m, W 0 m σ H) ∧ ∀ i m σ H, W i m σ H →
      ((Itr lo n).stop i H ∧ D.nx σ H) ∨ ((Itr lo n).go i H ∧ ∃ N : St → Hp → Prop, (∀ σ' H', N σ' H' → ∃ m', m' < m ∧ W (i + 1) m' σ' H') ∧ ∀ x H', (Itr lo n).yld i H x H' → g x σ H' fun σ2 H2 => tb { D with nx := N, ct := N, bk := D.nx } σ2 H2) := by
  refine ⟨fun i m σ H => m = n - i ∧ i ≤ n ∧ Pv i σ H, ⟨n, by simp, Nat.zero_le _, h0⟩, ?_⟩
  rintro i m σ H ⟨rfl, hi, p⟩
  by_cases hlt : i < n
  · refine .inr ⟨hlt, Pv (i + 1), fun σ' H' p' => ⟨n - (i + 1), by omega, rfl, hlt, p'⟩, fun x H' y => ?_⟩
    obtain ⟨e, y⟩ := y
    subst e y
    exact hs i σ _ hlt p
  · have e : i = n := by omega
    subst e
    exact .inl ⟨Nat.le_refl _, hd σ H p⟩
/-- while, by a word and a measure of the state -/
theorem while_by {c : TT} {tb : TS} {D : Ends} {σ : St} {H : Hp} (Pv : St → Hp → Prop) (μ : St → Hp → Nat) (h0 : Pv σ H)
    (hs : ∀ σ H, Pv σ H → c σ H fun b H1 => if b = true then tb { D with nx := fun σ' H' => Pv σ' H' ∧ μ σ' H' < μ σ H, ct := fun σ' H' => Pv σ' H' ∧ μ σ' H' < μ σ H, bk := D.nx } σ H1 else D.nx σ H1)
    (mono : ∀ σ H Q Q', (∀ b H1, Q b H1 → Q' b H1) → c σ H Q → c σ H Q') : tWhile c tb D σ H := by
  refine ⟨fun m σ H => m = μ σ H ∧ Pv σ H, ⟨_, rfl, h0⟩, ?_⟩
  rintro m σ H ⟨rfl, p⟩
  refine mono σ H _ _ (fun b H1 q => ?_) (hs σ H p)
  cases b with
  | true => exact ⟨_, fun σ' H' ⟨p', l⟩ => ⟨_, l, rfl, p'⟩, q⟩
  | false => exact q
end L2

namespace L2
open PySem PySem.Spec PyProof.Rows

abbrev R2 := V → V → Hp → VK → Prop
/-- a two-place operation on values: f is binaryOp op, inplaceOp op or compareOp op -/
def OpR (X : Cx) (f : Value → Value → Sem Value) (r : R2) : Prop :=
  ∀ (pins : List (Addr × Obj)) (s : Shared) (σ : St) (H : Hp) (x y : V) (v u : Value) (Q : VK), Inv X pins σ H s → RelV x v → RelV y u → r x y H Q →
    wpAny (model X.prog X.w) X.A (f v u) (EP X pins σ Q) X.xe s
/-- a call of a value that is known (a builtin, a type) with values -/
def CallR (X : Cx) (f : Value) (r : List V → Hp → VK → Prop) : Prop :=
  ∀ (pins : List (Addr × Obj)) (s : Shared) (σ : St) (H : Hp) (xs : List V) (us : List Value) (Q : VK), Inv X pins σ H s → Vals xs us → r xs H Q →
    wpAny (model X.prog X.w) X.A (call f us) (EP X pins σ Q) X.xe s

def tOp (r : R2) (ta tb : TE) : TE := fun σ H Q => ta σ H fun x H1 => tb σ H1 fun y H2 => r x y H2 Q
/-- ints in, under C, and a value out -/
def rI (C : Int → Int → Prop) (g : Int → Int → V) : R2 := fun x y H Q => ∃ i j, x = .int i ∧ y = .int j ∧ C i j ∧ Q (g i j) H
def rI0 (g : Int → Int → V) : R2 := fun x y H Q => ∃ i j, x = .int i ∧ y = .int j ∧ Q (g i j) H

section
variable {X : Cx} {a b c : Expr} {ta tb tc : TE} {pos : Pos}

theorem binT (ha : PE X a ta) (hb : PE X b tb) {pins : List (Addr × Obj)} {s : Shared} {σ : St} {H : Hp} {R : V → V → Hp → Prop} (I : Inv X pins σ H s)
    (h : ta σ H fun x H1 => tb σ H1 fun y H2 => R x y H2) {Q : Value → Shared → Prop} {f : Value → Value → Sem Value}
    (hf : ∀ v u s2 x y H2, Inv X pins σ H2 s2 → RelV x v → RelV y u → R x y H2 → wpAny (model X.prog X.w) X.A (f v u) Q X.xe s2) :
    wpAny (model X.prog X.w) X.A (eval a X.env) (fun v s₁ => wpAny (model X.prog X.w) X.A (eval b X.env) (fun u s₂ => wpAny (model X.prog X.w) X.A (f v u) Q X.xe s₂) X.xe s₁) X.xe s := by
  refine thn (ha pins s σ H _ I h) fun v s1 ⟨x, H1, I1, r1, q1⟩ => ?_
  refine thn (hb pins s1 σ H1 _ I1 q1) fun u s2 ⟨y, H2, I2, r2, q2⟩ => ?_
  exact hf v u s2 x y H2 I2 r1 r2 q2

theorem pe_op {op : Operator} {r : R2} (ho : OpR X (binaryOp op) r) (ha : PE X a ta) (hb : PE X b tb) : PE X (.BinOp a op b pos) (tOp r ta tb) := by
  intro pins s σ H Q I h
  exact wpAny_BinOp (binT ha hb I h fun v u s2 x y H2 I2 rx ry q => ho pins s2 σ H2 x y v u Q I2 rx ry q)

/-! ### ints -/
theorem opI {f : Value → Value → Sem Value} {C : Int → Int → Prop} {g : Int → Int → Int}
    (rule : ∀ (i j : Int) (t u : Tok) (s : Shared) (Q : Value → Shared → Prop) (E : Value → Shared → Prop), C i j → Q (.int (g i j) s.toks) { s with toks := s.toks + 1 } → wpAny (model X.prog X.w) X.A (f (.int i t) (.int j u)) Q E s) :
    OpR X f (rI C fun i j => .int (g i j)) := by
  intro pins s σ H x y v u Q I rx ry h
  obtain ⟨i, j, rfl, rfl, hc, q⟩ := h
  obtain ⟨t, rfl⟩ := rx
  obtain ⟨t', rfl⟩ := ry
  exact rule i j t t' s _ _ hc ⟨.int (g i j), H, I.tok _, ⟨_, rfl⟩, q⟩
theorem opI0 {f : Value → Value → Sem Value} {g : Int → Int → Int}
    (rule : ∀ (i j : Int) (t u : Tok) (s : Shared) (Q : Value → Shared → Prop) (E : Value → Shared → Prop), Q (.int (g i j) s.toks) { s with toks := s.toks + 1 } → wpAny (model X.prog X.w) X.A (f (.int i t) (.int j u)) Q E s) :
    OpR X f (rI0 fun i j => .int (g i j)) := by
  intro pins s σ H x y v u Q I rx ry h
  obtain ⟨i, j, rfl, rfl, q⟩ := h
  obtain ⟨t, rfl⟩ := rx
  obtain ⟨t', rfl⟩ := ry
  exact rule i j t t' s _ _ ⟨.int (g i j), H, I.tok _, ⟨_, rfl⟩, q⟩
theorem opB0 {f : Value → Value → Sem Value} {g : Int → Int → Bool}
    (rule : ∀ (i j : Int) (t u : Tok) (s : Shared) (Q : Value → Shared → Prop) (E : Value → Shared → Prop), Q (.bool (g i j)) s → wpAny (model X.prog X.w) X.A (f (.int i t) (.int j u)) Q E s) :
    OpR X f (rI0 fun i j => .bl (g i j)) := by
  intro pins s σ H x y v u Q I rx ry h
  obtain ⟨i, j, rfl, rfl, q⟩ := h
  obtain ⟨t, rfl⟩ := rx
  obtain ⟨t', rfl⟩ := ry
  exact rule i j t t' s _ _ ⟨.bl (g i j), H, I, rfl, q⟩

theorem two_pow_nn (k : Nat) : (0 : Int) ≤ 2 ^ k := by
  rw [two_pow_cast]
  exact Int.natCast_nonneg _

theorem op_add : OpR X (binaryOp .Add) (rI0 fun i j => .int (i + j)) := opI0 fun _ _ _ _ _ _ _ q => add_int q
theorem op_sub : OpR X (binaryOp .Sub) (rI0 fun i j => .int (i - j)) := opI0 fun _ _ _ _ _ _ _ q => sub_int q
theorem op_shr : OpR X (binaryOp .RShift) (rI (fun _ j => 0 ≤ j) fun i j => .int (i / 2 ^ j.toNat)) := opI fun i j _ _ _ _ _ hc q =>
  rshift_int hc (by rw [Int.fdiv_eq_ediv_of_nonneg i (two_pow_nn _)]; exact q)
theorem op_and : OpR X (binaryOp .BitAnd) (rI0 fun i j => .int (Builtin.bitAnd i j)) := opI0 fun _ _ _ _ _ _ _ q => and_int q



/-! ### bools among ints: n += (a < b) -/
end

/-! ### comparisons -/
/-- the scalars that == tells apart as data does -/
def scal : V → V → Bool
  | .non, .non => true | .non, .int _ => true | .int _, .non => true | .non, .bl _ => true | .bl _, .non => true | .non, .str _ => true | .str _, .non => true
  | .int _, .int _ => true | .bl _, .bl _ => true | .str _, .str _ => true | .byt _, .byt _ => true
  | .int _, .str _ => true | .str _, .int _ => true | .bl _, .str _ => true | .str _, .bl _ => true
  | _, _ => false
def rEq : R2 := fun x y H Q => scal x y = true ∧ Q (.bl (decide (x = y))) H
def rNe : R2 := fun x y H Q => scal x y = true ∧ Q (.bl (!decide (x = y))) H

theorem dec_int {i j : Int} : decide (V.int i = V.int j) = (i == j) := by
  rw [Bool.eq_iff_iff]
  simp
theorem dec_bl {i j : Bool} : decide (V.bl i = V.bl j) = (i == j) := by
  rw [Bool.eq_iff_iff]
  simp
theorem dec_str {i j : Str} : decide (V.str i = V.str j) = (i == j) := by
  rw [Bool.eq_iff_iff]
  simp
theorem dec_byt {i j : Array UInt8} : decide (V.byt i = V.byt j) = (i.toList == j.toList) := by
  rw [Bool.eq_iff_iff]
  cases i
  cases j
  simp

section
variable {X : Cx} {a b c : Expr} {ta tb tc : TE} {pos : Pos}
theorem fin_bl {pins : List (Addr × Obj)} {σ : St} {H : Hp} {s : Shared} {Q : VK} {k k' : Bool} (I : Inv X pins σ H s) (q : Q (.bl k) H) (e : k = k') : EP X pins σ Q (.bool k') s := by
  subst e
  exact ⟨.bl k, H, I, rfl, q⟩
theorem op_eq : OpR X (compareOp .Eq) rEq := by
  intro pins s σ H x y v u Q I rx ry h
  obtain ⟨hs, q⟩ := h
  cases x with
  | non =>
    cases rx
    cases y with
    | non => cases ry; exact PySem.EqNone.eq_none_none (fin_bl I q (by simp))
    | bl j => cases ry; exact PySem.EqNone.eq_none_bool (fin_bl I q (by simp))
    | int j => obtain ⟨t', rfl⟩ := ry; exact PySem.EqNone.eq_none_int (fin_bl I q (by simp))
    | str j => obtain ⟨t', rfl⟩ := ry; exact PySem.EqNone.eq_none_str (fin_bl I q (by simp))
    | _ => exact absurd (show false = true from hs) Bool.false_ne_true
  | bl i =>
    cases rx
    cases y with
    | non => cases ry; exact PySem.EqNone.eq_bool_none (fin_bl I q (by simp))
    | bl j => cases ry; exact eq_bool (fin_bl I q dec_bl)
    | str j => obtain ⟨t', rfl⟩ := ry; exact PySem.EqMixed.eq_bool_str (fin_bl I q (by simp))
    | _ => exact absurd (show false = true from hs) Bool.false_ne_true
  | int i =>
    obtain ⟨t, rfl⟩ := rx
    cases y with
    | non => cases ry; exact PySem.EqNone.eq_int_none (fin_bl I q (by simp))
    | int j => obtain ⟨t', rfl⟩ := ry; exact eq_int (fin_bl I q dec_int)
    | str j => obtain ⟨t', rfl⟩ := ry; exact PySem.EqMixed.eq_int_str (fin_bl I q (by simp))
    | _ => exact absurd (show false = true from hs) Bool.false_ne_true
  | str i =>
    obtain ⟨t, rfl⟩ := rx
    cases y with
    | non => cases ry; exact PySem.EqNone.eq_str_none (fin_bl I q (by simp))
    | bl j => cases ry; exact PySem.EqMixed.eq_str_bool (fin_bl I q (by simp))
    | int j => obtain ⟨t', rfl⟩ := ry; exact PySem.EqMixed.eq_str_int (fin_bl I q (by simp))
    | str j => obtain ⟨t', rfl⟩ := ry; exact eq_str (fin_bl I q dec_str)
    | _ => exact absurd (show false = true from hs) Bool.false_ne_true
  | byt i =>
    obtain ⟨t, rfl⟩ := rx
    cases y with
    | byt j => obtain ⟨t', rfl⟩ := ry; exact PySem.W.eq_bytes (fin_bl I q dec_byt)
    | _ => exact absurd (show false = true from hs) Bool.false_ne_true
  | _ => cases y <;> exact absurd (show false = true from hs) Bool.false_ne_true
theorem op_ne : OpR X (compareOp .NotEq) rNe := by
  intro pins s σ H x y v u Q I rx ry h
  obtain ⟨hs, q⟩ := h
  cases x with
  | non =>
    cases rx
    cases y with
    | non => cases ry; exact PySem.EqNone.ne_none_none (fin_bl I q (by simp))
    | bl j => cases ry; exact PySem.EqNone.ne_none_bool (fin_bl I q (by simp))
    | int j => obtain ⟨t', rfl⟩ := ry; exact PySem.EqNone.ne_none_int (fin_bl I q (by simp))
    | str j => obtain ⟨t', rfl⟩ := ry; exact PySem.EqNone.ne_none_str (fin_bl I q (by simp))
    | _ => exact absurd (show false = true from hs) Bool.false_ne_true
  | bl i =>
    cases rx
    cases y with
    | non => cases ry; exact PySem.EqNone.ne_bool_none (fin_bl I q (by simp))
    | bl j => cases ry; exact ne_bool (fin_bl I q (congrArg not dec_bl))
    | str j => obtain ⟨t', rfl⟩ := ry; exact PySem.EqMixed.ne_bool_str (fin_bl I q (by simp))
    | _ => exact absurd (show false = true from hs) Bool.false_ne_true
  | int i =>
    obtain ⟨t, rfl⟩ := rx
    cases y with
    | non => cases ry; exact PySem.EqNone.ne_int_none (fin_bl I q (by simp))
    | int j => obtain ⟨t', rfl⟩ := ry; exact ne_int (fin_bl I q (congrArg not dec_int))
    | str j => obtain ⟨t', rfl⟩ := ry; exact PySem.EqMixed.ne_int_str (fin_bl I q (by simp))
    | _ => exact absurd (show false = true from hs) Bool.false_ne_true
  | str i =>
    obtain ⟨t, rfl⟩ := rx
    cases y with
    | non => cases ry; exact PySem.EqNone.ne_str_none (fin_bl I q (by simp))
    | bl j => cases ry; exact PySem.EqMixed.ne_str_bool (fin_bl I q (by simp))
    | int j => obtain ⟨t', rfl⟩ := ry; exact PySem.EqMixed.ne_str_int (fin_bl I q (by simp))
    | str j => obtain ⟨t', rfl⟩ := ry; exact ne_str (fin_bl I q (congrArg not dec_str))
    | _ => exact absurd (show false = true from hs) Bool.false_ne_true
  | byt i =>
    obtain ⟨t, rfl⟩ := rx
    cases y with
    | byt j => obtain ⟨t', rfl⟩ := ry; exact PySem.W.ne_bytes (fin_bl I q (congrArg not dec_byt))
    | _ => exact absurd (show false = true from hs) Bool.false_ne_true
  | _ => cases y <;> exact absurd (show false = true from hs) Bool.false_ne_true

theorem op_lt : OpR X (compareOp .Lt) (rI0 fun i j => .bl (decide (i < j))) := opB0 fun _ _ _ _ _ _ _ q => lt_int q
theorem op_le : OpR X (compareOp .LtE) (rI0 fun i j => .bl (decide (i ≤ j))) := opB0 fun _ _ _ _ _ _ _ q => le_int q
theorem op_gt : OpR X (compareOp .Gt) (rI0 fun i j => .bl (decide (j < i))) := opB0 fun _ _ _ _ _ _ _ q => gt_int q
theorem op_ge : OpR X (compareOp .GtE) (rI0 fun i j => .bl (decide (j ≤ i))) := opB0 fun _ _ _ _ _ _ _ q => ge_int q




theorem nomark (b : Expr) {op : CmpOp} (h : op ≠ .In := by decide) (h2 : op ≠ .NotIn := by decide) : behindInMarks op b = false := by
  have e1 : (op == CmpOp.In) = false := by cases op <;> first | rfl | exact absurd rfl h
  have e2 : (op == CmpOp.NotIn) = false := by cases op <;> first | rfl | exact absurd rfl h2
  cases b <;> simp [behindInMarks, e1, e2]
/-- a comparison as a value; hm: nomark b, or (for in, not in) by with_unfolding_all rfl -/
theorem pe_cmpR {op : CmpOp} {r : R2} (ho : OpR X (compareOp op) r) (ha : PE X a ta) (hb : PE X b tb) (hm : behindInMarks op b = false) : PE X (.Compare a [op] [b] pos) (tOp r ta tb) := by
  intro pins s σ H Q I h
  exact wpAny_Compare1 (binT ha hb I h fun v u s2 x y H2 I2 rx ry q => ho pins s2 σ H2 x y v u Q I2 rx ry q) hm
/-- a reading of a value as a test -/
def tTest (t : TE) : TT := fun σ H Q => t σ H fun x H' => ∃ k, x = .bl k ∧ Q k H'
theorem pt_cmpR {op : CmpOp} {r : R2} (ho : OpR X (compareOp op) r) (ha : PE X a ta) (hb : PE X b tb) (hm : behindInMarks op b = false) : PT X (.Compare a [op] [b] pos) (tTest (tOp r ta tb)) := by
  intro pins s σ H Q I h
  refine wpAny_isTrue_Compare1 (thn (ha pins s σ H _ I h) fun v s1 ⟨x, H1, I1, r1, q1⟩ => thn (hb pins s1 σ H1 _ I1 q1) fun u s2 ⟨y, H2, I2, r2, q2⟩ =>
    thn (ho pins s2 σ H2 x y v u _ I2 r1 r2 q2) fun c s3 ⟨z, H3, I3, r3, k, e, q3⟩ => ?_) hm
  subst e
  cases r3
  exact wpAny_truthy_bool ⟨H3, I3, q3⟩

/-! ### truth -/
theorem line63 : (sizeLine : Nat) < 2 ^ 63 := by rw [sizeLine_eq]; decide

/-! ### strs and bytes -/


/-! ### scalar builtins, by CallR -/
theorem vals1 {x : V} {us : List Value} (r : Vals [x] us) : ∃ u, us = [u] ∧ RelV x u := by
  cases r with
  | cons r1 r2 => cases r2; exact ⟨_, rfl, r1⟩
theorem vals2 {x y : V} {us : List Value} (r : Vals [x, y] us) : ∃ u w', us = [u, w'] ∧ RelV x u ∧ RelV y w' := by
  cases r with
  | cons r1 r2 =>
    cases r2 with
    | cons r3 r4 => cases r4; exact ⟨_, _, rfl, r1, r3⟩
theorem call_max2 (hc : X.calm = true) : CallR X (.builtin "max") (fun xs H Q => ∃ i j, xs = [.int i, .int j] ∧ Q (.int (if j > i then j else i)) H) := by
  intro pins s σ H xs us Q I r h
  obtain ⟨i, j, rfl, q⟩ := h
  obtain ⟨u, w', rfl, ⟨t, rfl⟩, ⟨t', rfl⟩⟩ := vals2 r
  refine max_two_ints (I.ok.hd hc) fun h' tk k => ⟨_, H, I.kept k, ?_, q⟩
  by_cases hj : j > i
  · rw [if_pos hj, if_pos hj]; exact ⟨_, rfl⟩
  · rw [if_neg hj, if_neg hj]; exact ⟨_, rfl⟩
theorem call_min2 (hc : X.calm = true) : CallR X (.builtin "min") (fun xs H Q => ∃ i j, xs = [.int i, .int j] ∧ Q (.int (if j < i then j else i)) H) := by
  intro pins s σ H xs us Q I r h
  obtain ⟨i, j, rfl, q⟩ := h
  obtain ⟨u, w', rfl, ⟨t, rfl⟩, ⟨t', rfl⟩⟩ := vals2 r
  refine min_two_ints (I.ok.hd hc) fun h' tk k => ⟨_, H, I.kept k, ?_, q⟩
  by_cases hj : j < i
  · rw [if_pos hj, if_pos hj]; exact ⟨_, rfl⟩
  · rw [if_neg hj, if_neg hj]; exact ⟨_, rfl⟩
end
end L2

namespace L2
open PySem PySem.Spec PyProof.Rows

/-! ### an instance, its attributes a map -/
structure ObjM (h : Heap) (x dx C : Addr) (mA : Str → Option Value) : Prop where
  obj : h.get? x = some (PySem.W.instObj C dx)
  ns : h.Ns1 dx mA
  ne : dx ≠ x

theorem lookIn_ns {h : Heap} {dx : Addr} {mA : Str → Option Value} (n : h.Ns1 dx mA) : ∃ od, h.get? dx = some od ∧ ∀ name, PySem.W.lookIn name od = some (mA name) := by
  obtain ⟨o, es, ep, ho, hd, hk, _, hm⟩ := n
  refine ⟨o, ho, fun name => ?_⟩
  have e := hm name
  unfold nsFind findBy at e
  rw [← Array.find?_toList] at e
  unfold PySem.W.lookIn
  rw [hd]
  dsimp only
  split
  · rename_i y q
    rw [q] at e
    exact congrArg some e
  · rename_i q
    rw [q] at e
    have a : es.toList.any (·.refKey) = false := by
      rw [List.any_eq_false]
      intro y hy
      obtain ⟨z, t, hkey⟩ := hk y (Array.mem_toList_iff.mp hy)
      simp [DictEntry.refKey, hkey]
    have a' : ¬ es.toList.any (·.refKey) = true := by rw [a]; exact Bool.false_ne_true
    rw [if_neg a']
    exact congrArg some e

theorem ObjM.look {h : Heap} {x dx C : Addr} {mA : Str → Option Value} (I : ObjM h x dx C mA) : ∃ od, PySem.W.InstAt h x (PySem.W.instObj C dx) C (some od) ∧ ∀ name, PySem.W.lookIn name od = some (mA name) :=
  let ⟨od, ho, hl⟩ := lookIn_ns I.ns
  ⟨od, ⟨I.obj, rfl, rfl, ho⟩, hl⟩

section
variable {prog : Program} {w : World} {A : Around} {E : Value → Shared → Prop} {s : Shared} {K : PySem.W.Frag} {x dx C f : Addr} {mA : Str → Option Value} {name : Str} {v : Value}

theorem get_map {expr : Bool} {Q : Value → Shared → Prop} (X : K.In s.heap) (I : ObjM s.heap x dx C mA) (hg : PySem.W.plainGet K C name = true) (hh : PySem.W.hasDictIn K C = true)
    (ha : PySem.W.findIn K (.ref C) name = some none) (hv : mA name = some v) (hv' : PySem.W.handedIn v = true) (h : Q v { s with toks := s.toks + 1 }) :
    wpAny (model prog w) A (getAttr (.ref x) name expr) Q E s := by
  obtain ⟨od, J, hl⟩ := I.look
  exact PySem.W.get_value X J (PySem.W.plainGet_of hg).1 (PySem.W.findObj_own hh ha rfl (by rw [hl, hv])) hv' h



theorem set_map {ns : List Str} {Q : Unit → Shared → Prop} (X : K.In s.heap) (I : ObjM s.heap x dx C mA)
    (hs : PySem.W.findIn K (.ref C) "__setattr__" = some (some (.builtin "object.__setattr__"))) (hp : PySem.W.plainOver K C = true) (ht : PySem.W.takerIn K C name = some none) (hh : PySem.W.hasDictIn K C = true)
    (hw : PySem.Within mA ns) (hsz : ns.length ≤ sizeLine)
    (h : ∀ h', ObjM h' x dx C (fun y => if y = name then some v else mA y) → Heap.SameBut dx s.heap h' → Q () { s with heap := h', toks := s.toks + 2 }) :
    wpAny (model prog w) A (setAttr (.ref x) name v) Q E s := by
  obtain ⟨od, J, hl⟩ := I.look
  refine PySem.W.set_plain X J hs (PySem.W.osa_open (s := { s with toks := s.toks + 1 }) (r := none) X J hp ht fun b => ?_)
  obtain ⟨cd, hc, hd'⟩ := PySem.W.any_some hh
  have hx : s.heap.get? x = some ⟨.ref C, some dx, .plain, #[]⟩ := I.obj
  refine wpAny_bind (wpAny_pure (wpAny_bind (wpAny_bind (wpAny_loadPart hx (wpAny_bind (PySem.W.Looks.here (s := { s with toks := s.toks + 1 }) (PySem.W.looks_clsIn X hc) ?_))))))
  rw [hd']
  refine wpAny_pure (a := some dx) (wpAny_bind (wpAny_pure (wpAny_bind ?_)))
  refine wpAny_nsSet1 (s := { s with toks := s.toks + 1 }) I.ns fun h' hn2 hs2 => ?_
  obtain ⟨oD, esD, epD, hoD, hdD, hcD⟩ := hn2.count (PySem.Within.cons name v hw)
  refine wpAny_bind (wpAny_lookBehind hoD (by rw [hdD]; exact pastItsLine_dict (Nat.le_trans hcD (by rw [List.length_cons]; omega))) ?_)
  exact wpAny_pure (h _ ⟨(hs2.2 _ (Ne.symm I.ne)).trans I.obj, hn2, I.ne⟩ hs2)

/-- C(..): the dict at the heap's end, the instance behind it; then its __init__ -/
theorem make_map {R : Result → Shared → Prop} {vs : List Value} {kw : List (Str × Value)} (X : K.In s.heap) (hm : PySem.W.makesIn K C = true)
    (hi : PySem.W.findIn K (.ref C) "__init__" = some (some (.ref f))) (hf : PySem.W.typeIn K (.ref f) = some (.type "function"))
    (h : codeAny (model prog w) (A.under (.builtin "type.__call__" ⟨.ref C :: vs, kw⟩)) (.call (.ref f) ⟨.ref (s.heap.objs.size + 1) :: vs, kw⟩) (PySem.W.InitBack (s.heap.objs.size + 1) R)
      { s with heap := (s.heap.push PySem.W.emptyDict).push (PySem.W.instObj C s.heap.objs.size) }) :
    codeAny (model prog w) A (.call (.ref C) ⟨vs, kw⟩) R s := by
  obtain ⟨hh, g, d, t, os⟩ := s
  exact PySem.W.make_core (PySem.W.makes_of X hm) (PySem.W.looks_findIn X hi) (fun self => PySem.W.bind_fn X self hf) (.inl rfl) h
end

/-! ### the attributes as a list of pairs -/
def putF (f : Str) (v : V) : List (Str × V) → List (Str × V)
  | [] => [(f, v)]
  | (g, x) :: r => if g = f then (g, v) :: r else (g, x) :: putF f v r
theorem lookup_putF (f g : Str) (v : V) : ∀ fs : List (Str × V), (putF f v fs).lookup g = if g = f then some v else fs.lookup g
  | [] => by
    show List.lookup g [(f, v)] = _
    by_cases h : g = f
    · have hb : (g == f) = true := beq_iff_eq.mpr h
      simp only [List.lookup, hb, if_pos h]
    · have hb : (g == f) = false := beq_eq_false_iff_ne.mpr h
      simp only [List.lookup, hb, if_neg h]
  | (k, x) :: r => by
    have ih := lookup_putF f g v r
    rw [show putF f v ((k, x) :: r) = (if k = f then (k, v) :: r else (k, x) :: putF f v r) from rfl]
    by_cases hk : k = f
    · rw [if_pos hk]
      by_cases h : g = k
      · have hb : (g == k) = true := beq_iff_eq.mpr h
        simp only [List.lookup, hb, if_pos (h.trans hk)]
      · have hb : (g == k) = false := beq_eq_false_iff_ne.mpr h
        simp only [List.lookup, hb, if_neg (fun e : g = f => h (e.trans hk.symm))]
    · rw [if_neg hk]
      by_cases h : g = k
      · have hb : (g == k) = true := beq_iff_eq.mpr h
        simp only [List.lookup, hb, if_neg (fun e : g = f => hk (h.symm.trans e))]
      · have hb : (g == k) = false := beq_eq_false_iff_ne.mpr h
        simp only [List.lookup, hb]
        exact ih
theorem keys_putF (f : Str) (v : V) : ∀ fs : List (Str × V), f ∈ (putF f v fs).map (·.1) ∧ ∀ g, g ∈ fs.map (·.1) → g ∈ (putF f v fs).map (·.1)
  | [] => ⟨by simp [putF], fun g h => by simp at h⟩
  | (k, x) :: r => by
    obtain ⟨i1, i2⟩ := keys_putF f v r
    rw [show putF f v ((k, x) :: r) = (if k = f then (k, v) :: r else (k, x) :: putF f v r) from rfl]
    by_cases hk : k = f
    · rw [if_pos hk]
      subst hk
      exact ⟨by simp, fun g h => by simpa using h⟩
    · rw [if_neg hk]
      refine ⟨?_, fun g h => ?_⟩
      · rw [List.map_cons]
        exact List.mem_cons_of_mem _ i1
      · rw [List.map_cons] at h ⊢
        rcases List.mem_cons.mp h with e | e
        · exact List.mem_cons.mpr (.inl e)
        · exact List.mem_cons_of_mem _ (i2 g e)
theorem length_putF (f : Str) (v : V) : ∀ fs : List (Str × V), (putF f v fs).length ≤ fs.length + 1
  | [] => by simp [putF]
  | (k, x) :: r => by
    have ih := length_putF f v r
    rw [show putF f v ((k, x) :: r) = (if k = f then (k, v) :: r else (k, x) :: putF f v r) from rfl]
    by_cases hk : k = f
    · rw [if_pos hk, List.length_cons, List.length_cons]; omega
    · rw [if_neg hk, List.length_cons, List.length_cons]; omega

theorem RelO.some_of {v : V} {o : Option Value} (r : RelO (some v) o) : ∃ u, o = some u ∧ RelV v u := by
  cases o with
  | none => exact (show False from r).elim
  | some u => exact ⟨u, rfl, r⟩
theorem handed_of {v : V} {u : Value} (r : RelV v u) : PySem.W.handedIn u = true := by
  cases v with
  | non => cases (show u = Value.none from r); rfl
  | bl b => cases (show u = Value.bool b from r); rfl
  | int i => obtain ⟨t, e⟩ := (show ∃ t, u = Value.int i t from r); cases e; rfl
  | str x => obtain ⟨t, e⟩ := (show ∃ t, u = Value.str x t from r); cases e; rfl
  | byt b => obtain ⟨t, e⟩ := (show ∃ t, u = Value.bytes b t from r); cases e; rfl
  | flt b => obtain ⟨t, e⟩ := (show ∃ t, u = Value.float b t from r); cases e; rfl
  | ref a => cases (show u = Value.ref a from r); rfl
  | ty n => cases (show u = Value.type n from r); rfl

section
variable {P : Program} {w : World} {H H' : Hp} {h h' : Heap} {a C dx : Addr} {fs fs' : List (Str × V)}
theorem ins_get (hok : HOk P w H h) (e : H a = some (.ins C dx fs)) : ∃ mA, ObjM h a dx C mA ∧ (∀ f, RelO (fs.lookup f) (mA f)) ∧ PySem.Within mA (fs.map (·.1)) ∧ fs.length ≤ 1000 ∧ H dx = some (.own a) := by
  obtain ⟨d, z, ne, ob, mA, n, r, q⟩ := (show ObjOk P w H h a (.ins C dx fs) from hok a _ e)
  exact ⟨mA, ⟨ob, n, ne⟩, r, q, z, d⟩
end

/-! ### what of the text a class must have -/
structure Cls (K : PySem.W.Frag) (C : Addr) : Prop where
  pg : PySem.W.plainGet K C Str.empty = true
  hd : PySem.W.hasDictIn K C = true
  po : PySem.W.plainOver K C = true
  sa : PySem.W.findIn K (.ref C) "__setattr__" = some (some (.builtin "object.__setattr__"))
theorem Cls.get {K : PySem.W.Frag} {C : Addr} (c : Cls K C) (f : Str) : PySem.W.plainGet K C f = true := c.pg
/-- no class of it has the name -/
def NoAttr (K : PySem.W.Frag) (C : Addr) (f : Str) : Prop := PySem.W.findIn K (.ref C) f = some none
theorem NoAttr.taker {K : PySem.W.Frag} {C : Addr} {f : Str} (n : NoAttr K C f) : PySem.W.takerIn K C f = some none := by
  unfold PySem.W.takerIn
  rw [show PySem.W.findIn K (.ref C) f = some none from n]
  rfl

section
variable {X : Cx} {pins : List (Addr × Obj)} {σ : St} {H : Hp} {s : Shared} {a C dx : Addr} {fs : List (Str × V)} {f : Str} {v : V} {A : Around} {E : Value → Shared → Prop}

theorem getattr_ok {b : Bool} {Q : Value → Shared → Prop} (I : Inv X pins σ H s) (e : H a = some (.ins C dx fs)) (c : Cls X.K C) (n : NoAttr X.K C f) (l : fs.lookup f = some v)
    (h : ∀ u s', Inv X pins σ H s' → RelV v u → Q u s') : wpAny (model X.prog X.w) A (getAttr (.ref a) f b) Q E s := by
  obtain ⟨mA, O, r, _, _, _⟩ := ins_get I.hok e
  obtain ⟨u, hu, ru⟩ := RelO.some_of (v := v) (o := mA f) (by rw [← l]; exact r f)
  exact get_map I.kIn O (c.get f) c.hd n hu (handed_of ru) (h u _ (I.tok _) ru)



theorem setattr_ok {y : V} {u : Value} {Q : Unit → Shared → Prop} (I : Inv X pins σ H s) (e : H a = some (.ins C dx fs)) (c : Cls X.K C) (n : NoAttr X.K C f) (hl : fs.length < 1000) (ry : RelV y u)
    (h : ∀ s', Inv X pins σ (upd H a (.ins C dx (putF f y fs))) s' → Q () s') : wpAny (model X.prog X.w) A (setAttr (.ref a) f u) Q E s := by
  obtain ⟨mA, O, r, wi, _, ho⟩ := ins_get I.hok e
  have hz : (fs.map (·.1)).length ≤ sizeLine := by rw [List.length_map, sizeLine_eq]; omega
  refine set_map I.kIn O c.sa c.po n.taker c.hd wi hz fun h' O' sb => h _ ?_
  have hd : ∃ o, h'.get? dx = some o := let ⟨o, _, _, e', _⟩ := O'.ns; ⟨o, e'⟩
  refine I.write (x := a) (e := dx) (by rw [e]; exact True.intro) (.inr ho) (fun b q hb z => (sb.2 b hb).trans z) hd ?_
  refine ⟨by rw [upd_ne O.ne]; exact ho, ?_, O.ne, O'.obj, _, O'.ns, fun g => ?_, fun g hg => ?_⟩
  · have := length_putF f y fs; omega
  · show RelO ((putF f y fs).lookup g) (if g = f then some u else mA g)
    rw [lookup_putF]
    by_cases q : g = f
    · rw [if_pos q, if_pos q]; exact ry
    · rw [if_neg q, if_neg q]; exact r g
  · by_cases q : g = f
    · rw [q]; exact (keys_putF f y fs).1
    · refine (keys_putF f y fs).2 g (wi g fun z => hg ?_)
      show (if g = f then some u else mA g) = none
      rw [if_neg q]; exact z

/-- a new instance, tracked, without attributes -/
theorem Inv.made (I : Inv X pins σ H s) : Inv X pins σ (upd (upd H s.heap.objs.size (.own (s.heap.objs.size + 1))) (s.heap.objs.size + 1) (.ins C s.heap.objs.size []))
    { s with heap := (s.heap.push PySem.W.emptyDict).push (PySem.W.instObj C s.heap.objs.size) } := by
  have e1 : (s.heap.push PySem.W.emptyDict).get? s.heap.objs.size = some PySem.W.emptyDict := Heap.get?_push_size s.heap rfl
  have e2 : ((s.heap.push PySem.W.emptyDict).push (PySem.W.instObj C s.heap.objs.size)).get? (s.heap.objs.size + 1) = some (PySem.W.instObj C s.heap.objs.size) := by
    have := Heap.get?_push_size (s.heap.push PySem.W.emptyDict) (o := PySem.W.instObj C s.heap.objs.size) rfl
    rwa [Heap.size_push] at this
  have e3 : (s.heap.push PySem.W.emptyDict).Ns s.heap.objs.size (fun _ => none) := ⟨PySem.W.emptyDict, #[], _, e1, rfl, (fun e he => absurd he (by simp)), fun _ => rfl⟩
  have I1 := I.laid (a := s.heap.objs.size) (o := .own (s.heap.objs.size + 1)) (h' := s.heap.push PySem.W.emptyDict) (t' := s.toks) (fun b u q => Heap.get?_push_of_some _ q) (Nat.le_refl _) ⟨_, e1⟩
  refine I1.laid (a := s.heap.objs.size + 1) (o := .ins C s.heap.objs.size []) (t' := s.toks) (fun b u q => Heap.get?_push_of_some _ q) (Nat.le_of_eq (Heap.size_push _ _)) ?_
  have ne : s.heap.objs.size ≠ s.heap.objs.size + 1 := Nat.ne_of_lt (Nat.lt_succ_self _)
  refine ⟨by rw [upd_ne ne, upd_same], Nat.zero_le _, ne, e2, fun _ => none, (Heap.Ns1.of_empty e3).at fun o q => Heap.get?_push_of_some _ q, fun _ => True.intro, fun y hy => absurd rfl hy⟩

/-- e.f where nothing but the object is asked: through attributeBase (super) and the last hold -/
theorem attr_of {prog : Program} {w : World} {env : Env} {e : Expr} {f : Str} {pos : Pos} {s : Shared} {Q : Value → Shared → Prop} (hb : attributeBase e f env (eval e env) = eval e env)
    (h : wpAny (model prog w) A (eval e env) (fun o s₁ => wpAny (model prog w) A (getAttr o f true) Q E s₁) E s) : wpAny (model prog w) A (eval (.Attribute e f pos) env) Q E s :=
  Attribute_any_ h (by rw [arm_eval_Attribute, hb])
end

/-! ### readings and rules -/
/-- e.f, an attribute of the instance -/
def tFld (K : PySem.W.Frag) (ta : TE) (f : Str) : TE := fun σ H Q => ta σ H fun x H1 => ∃ a C dx fs v, x = .ref a ∧ H1 a = some (.ins C dx fs) ∧ Cls K C ∧ NoAttr K C f ∧ fs.lookup f = some v ∧ Q v H1
/-- e.f = value -/
def sFld (K : PySem.W.Frag) (ta tv : TE) (f : Str) : TS := fun D σ H => tv σ H fun y H1 => ta σ H1 fun x H2 => ∃ a C dx fs, x = .ref a ∧ H2 a = some (.ins C dx fs) ∧ Cls K C ∧ NoAttr K C f ∧ fs.length < 1000 ∧
  D.nx σ (upd H2 a (.ins C dx (putF f y fs)))

section
variable {X : Cx} {o e value : Expr} {f : Str} {pos pos' tpos : Pos} {ta tv : TE}
theorem pe_fld (he : PE X e ta) (hb : attributeBase e f X.env (eval e X.env) = eval e X.env) : PE X (.Attribute e f pos) (tFld X.K ta f) := by
  intro pins s σ H Q I h
  refine attr_of hb (thn (he pins s σ H _ I h) fun u s1 ⟨x, H1, I1, rx, a, C, dx, fs, v, ex, ea, c, n, l, q⟩ => ?_)
  subst ex
  obtain rfl : u = Value.ref a := rx
  exact getattr_ok I1 ea c n l fun u' s2 I2 ru => ⟨v, H1, I2, ru, q⟩
theorem ps_fld (ha : PE X o ta) (hv : PE X value tv) (hs : swapsWith value (some (.Attribute o f pos')) pos.line X.env = pure false) : PS X (.Assign [.Attribute o f pos'] value pos) (sFld X.K ta tv f) := by
  intro pins s σ H D I h
  refine plainObj_wpAny_Assign_Attribute (thn (hv pins s σ H _ I h) fun u s1 ⟨y, H1, I1, ry, q⟩ => thn (ha pins s1 σ H1 _ I1 q) fun ov s2 ⟨x, H2, I2, rx, a, C, dx, fs, ex, ea, c, n, l, q2⟩ => ?_) hs
  subst ex
  obtain rfl : ov = Value.ref a := rx
  exact setattr_ok I2 ea c n l ry fun s3 I3 => ⟨σ, _, I3, q2⟩

end

/-! ### isinstance -/
section
variable {X : Cx} {pins : List (Addr × Obj)} {σ : St} {H : Hp} {s : Shared} {A : Around} {E : Value → Shared → Prop} {Q : Value → Shared → Prop} {c : Value} {b : Bool}
end
end L2

namespace L2
open PySem PySem.Spec PyProof.Rows

/-! ### room -/
structure Room (k : Nat) (A : Around) : Prop where
  hd : A.handled = none
  dp : A.depth + 3 * k + 5 < recursionLimit
  un : A.units + 16 * k + 200 < cLine
theorem Room.mono {j k : Nat} {A : Around} (r : Room k A) (h : j ≤ k) : Room j A := ⟨r.hd, by have := r.dp; omega, by have := r.un; omega⟩
theorem Room.deeper {k : Nat} {A : Around} (r : Room (k + 1) A) (env : Env) : Room k (A.deeper env) :=
  ⟨r.hd, by have := r.dp; show A.depth + 1 + 3 * k + 5 < _; omega, by have := r.un; show A.units + 3 + 16 * k + 200 < _; omega⟩
theorem make_depth {A : Around} {C : Addr} {us : List Value} {kw : List (Str × Value)} : (A.under (.builtin "type.__call__" ⟨.ref C :: us, kw⟩)).depth = A.depth + 1 := by
  first | rfl | simp [Around.under, Code.weight, Code.isCreation, Code.isGuard, Code.isCaller, Code.frames, Code.isFrame, guardIds]
theorem make_units {A : Around} {C : Addr} {us : List Value} {kw : List (Str × Value)} : (A.under (.builtin "type.__call__" ⟨.ref C :: us, kw⟩)).units = A.units + 1 := by
  first | rfl | simp [Around.under, Code.cUnits, Code.frames, Code.isFrame]
theorem Room.make {k : Nat} {A : Around} (r : Room (k + 1) A) (C : Addr) (us : List Value) (kw : List (Str × Value)) : Room k (A.under (.builtin "type.__call__" ⟨.ref C :: us, kw⟩)) :=
  ⟨r.hd, by have := r.dp; rw [make_depth]; omega, by have := r.un; rw [make_units]; omega⟩
theorem Room.depth {k : Nat} {A : Around} (r : Room k A) : A.depth < recursionLimit := by have := r.dp; omega

/-! ### argument lists and displays -/
def tNil : TA := fun _ H Q => Q [] H
def tCons (ta : TE) (tr : TA) : TA := fun σ H Q => ta σ H fun x H1 => tr σ H1 fun xs H2 => Q (x :: xs) H2
section
variable {X : Cx} {e : Expr} {es : List Expr} {te : TE} {t : TA} {pos : Pos}
theorem pa_nil : PA X [] tNil := fun _ _ _ _ H Q I h => Calls.spliced_nil ⟨[], H, I, .nil, h⟩
theorem pa_cons (ha : PE X e te) (hr : PA X es t) (hs : starEach (e :: es) X.env = (false, eval e X.env) :: starEach es X.env := by rfl) : PA X (e :: es) (tCons te t) := by
  intro pos pins s σ H Q I h
  rw [hs]
  show wpAny _ _ (spliced ((false, eval e X.env) :: backTo pos (starEach es X.env))) _ _ s
  refine Calls.spliced_cons (thn (ha pins s σ H _ I h) fun u s1 ⟨x, H1, I1, r1, q1⟩ => ?_)
  exact thn (hr pos pins s1 σ H1 _ I1 q1) fun us s2 ⟨xs, H2, I2, r2, q2⟩ => ⟨x :: xs, H2, I2, .cons r1 r2, q2⟩

/-- a tuple, a list of written items -/
def tTup (t : TA) : TE := fun σ H Q => t σ H fun xs H1 => xs.length ≤ sizeLine ∧ ∀ p, H1 p = none → Q (.ref p) (upd H1 p (.tup xs))
def tLst (t : TA) : TE := fun σ H Q => t σ H fun xs H1 => xs.length ≤ sizeLine ∧ ∀ p, H1 p = none → Q (.ref p) (upd H1 p (.lst xs))
theorem pe_tup {x1} (h : PA X es t) : PE X (.Tuple es x1 pos) (tTup t) := by
  intro pins s σ H Q I hq
  refine wpAny_Tuple_spliced (thn (h pos pins s σ H _ I hq) fun us s1 ⟨xs, H1, I1, r, z, q⟩ => ⟨by rw [← r.length]; exact z, ?_⟩)
  have hf : H1 s1.heap.objs.size = none := I1.hok.fresh (Nat.le_refl _)
  refine ⟨.ref s1.heap.objs.size, upd H1 s1.heap.objs.size (.tup xs), I1.laid (t' := s1.toks) (fun b u e => Heap.get?_push_of_some _ e) (Nat.le_refl _) ?_, rfl, q _ hf⟩
  exact ⟨z, us, r, ⟨_, Heap.get?_push_size _ rfl, rfl, _, rfl⟩⟩
theorem pe_lst (h : PA X es t) : PE X (.List es pos) (tLst t) := by
  intro pins s σ H Q I hq
  refine wpAny_List_spliced (thn (h pos pins s σ H _ I hq) fun us s1 ⟨xs, H1, I1, r, z, q⟩ => ⟨by rw [← r.length]; exact z, ?_⟩)
  have hf : H1 s1.heap.objs.size = none := I1.hok.fresh (Nat.le_refl _)
  refine ⟨.ref s1.heap.objs.size, upd H1 s1.heap.objs.size (.lst xs), I1.laid (t' := s1.toks) (fun b u e => Heap.get?_push_of_some _ e) (Nat.le_refl _) ?_, rfl, q _ hf⟩
  exact ⟨z, us, 0, r, Heap.get?_push_size _ rfl⟩
end

/-! ### what a def promises -/
/-- a def's promise: the bound arguments in the parameters' order, the heap, the wanted end, the wanted exception -/
abbrev Sp := List V → Hp → VK → XK → Prop
/-- how an exception lies behind a call (file 08 gives it): the callers' frames, abstract heap and state ahead of the call, the wish, the exception, the state -/
abbrev CXT := List Env → Hp → Shared → XK → Value → Shared → Prop

/-- the state at a call -/
structure Env0 (P : Program) (w : World) (K : PySem.W.Frag) (mg : Str → Option Value) (base : Heap) (A : Around) (outer : List Env) (s : Shared) (H : Hp) : Prop where
  frames : A.frames = some outer
  mod : Mod K mg base
  bs : ∀ b o, base.get? b = some o → s.heap.get? b = some o ∧ H b = none
  bsz : base.objs.size ≤ s.heap.objs.size
  funs : s.heap.FunFrames base outer
  frf : ∀ b ∈ frs outer, H b = none
  hok : HOk P w H s.heap
  bare : AllBare s.gens
/-- a call's end -/
def CE (outer : List Env) (P : Program) (w : World) (H : Hp) (s : Shared) (Q : VK) (u : Value) (s' : Shared) : Prop :=
  ∃ v H', s'.os = s.os ∧ AllBare s'.gens ∧ Un (frs outer) [] H H' s.heap s'.heap ∧ HOk P w H' s'.heap ∧ RelV v u ∧ Q v H'
def CR (CX : CXT) (outer : List Env) (P : Program) (w : World) (H : Hp) (s : Shared) (Q : VK) (E : XK) (r : Result) (s' : Shared) : Prop :=
  match r with
  | .ok (.ret u) => CE outer P w H s Q u s'
  | .ok _ => False
  | .error e => CX outer H s E e s'
structure FnOk (P : Program) (w : World) (K : PySem.W.Frag) (mg : Str → Option Value) (base : Heap) (CX : CXT) (k : Nat) (f : Addr) (fd : FuncData) (ps : List Str) (sp : Sp) : Prop where
  len : ∀ vs H Q E, sp vs H Q E → vs.length = ps.length
  run : ∀ (A : Around) (outer : List Env) (s : Shared) (H : Hp) (args : Args) (us : List Value) (vs : List V) (Q : VK) (E : XK), Room k A → Env0 P w K mg base A outer s H → BindsTo s fd args (ps.zip us) → Vals vs us → sp vs H Q E →
    codeAny (model P w) A (.call (.ref f) args) (CR CX outer P w H s Q E) s

theorem Env0.make {P : Program} {w : World} {K : PySem.W.Frag} {mg : Str → Option Value} {base : Heap} {A : Around} {outer : List Env} {s : Shared} {H : Hp} (e : Env0 P w K mg base A outer s H) (C : Addr) (us : List Value) (kw : List (Str × Value)) :
    Env0 P w K mg base (A.under (.builtin "type.__call__" ⟨.ref C :: us, kw⟩)) outer s H := ⟨by first | exact e.frames | (simpa [Around.under, Code.envs, Code.isFrame, pushEnvs] using e.frames), e.mod, e.bs, e.bsz, e.funs, e.frf, e.hok, e.bare⟩

section
variable {X : Cx} {pins : List (Addr × Obj)} {σ : St} {H : Hp} {s s' : Shared}
/-- from a body: what a callee wants -/
theorem Inv.env0 (I : Inv X pins σ H s) : Env0 X.prog X.w X.K X.mg X.base X.A X.stack s H :=
  ⟨I.ok.frames, I.ok.mod, I.bs, Nat.le_trans I.ok.bsz I.sz, I.stack, I.stkFree, I.hok, I.bare⟩
/-- behind a call -/
theorem Inv.after {Q : VK} {u : Value} (I : Inv X pins σ H s) (h : CE X.stack X.prog X.w H s Q u s') : EP X pins σ Q u s' := by
  obtain ⟨v, H', os, bare, un, hok, r, q⟩ := h
  obtain ⟨hh, g, d, t, os'⟩ := s'
  obtain rfl : os' = s.os := os
  exact ⟨v, H', I.call (h' := hh) (g' := g) (d' := d) (t' := t) (ch := []) un hok bare (fun b z => absurd z (by simp)), r, q⟩
end

/-! ### calls -/
/-- f(..): the written arguments, then the defaults dvs; E: what is wanted of an exception -/
def tCall (sp : Sp) (dvs : List V) (E : XK) (t : TA) : TE := fun σ H Q => t σ H fun vs H1 => sp (vs ++ dvs) H1 Q E
/-- C(..): a new instance and its dict, then __init__ -/
def tMake (C : Addr) (sp : Sp) (dvs : List V) (E : XK) (t : TA) : TE := fun σ H Q => t σ H fun vs H1 => ∀ x dx, H1 x = none → H1 dx = none → dx ≠ x →
  sp (.ref x :: (vs ++ dvs)) (upd (upd H1 dx (.own x)) x (.ins C dx [])) (fun v H2 => v = .non ∧ Q (.ref x) H2) E

/-- how the parameters are bound: us the positional arguments, kw the keywords' values by name, ds the defaults that fill up -/
def Binds (K : PySem.W.Frag) (fd : FuncData) (ps : List Str) (ds : List Value) : Prop :=
  ∀ (s : Shared) (us : List Value), K.In s.heap → (us ++ ds).length = ps.length → BindsTo s fd ⟨us, []⟩ (ps.zip (us ++ ds))
/-- every parameter is given -/
theorem Binds.all {K : PySem.W.Frag} {fd : FuncData} {ps : List Str} (h : ∀ us : List Value, us.length = ps.length → bindArgs fd ⟨us, []⟩ = pure (ps.zip us)) : Binds K fd ps [] := fun s us _ hl => by
  rw [List.append_nil] at hl ⊢
  exact .of_eq (h us hl)

/-- an exception of a callee reaches what this body wants of exceptions -/
def Passes (CX : CXT) (X : Cx) (E : XK) : Prop := ∀ (pins : List (Addr × Obj)) (σ : St) (H : Hp) (s : Shared) (e : Value) (s' : Shared), Inv X pins σ H s → CX X.stack H s E e s' → X.xe e s'

section
variable {X : Cx} {CX : CXT} {k : Nat} {f C : Addr} {fd : FuncData} {ps : List Str} {sp : Sp} {dvs : List V} {ds : List Value} {E : XK} {x m : Str} {p pos apos : Pos} {e o : Expr} {es : List Expr} {ta : TE} {t : TA}

/-- the callee runs -/
theorem run_fn {pins : List (Addr × Obj)} {σ : St} {H : Hp} {s : Shared} {Q : VK} {us : List Value} {vs : List V} (F : FnOk X.prog X.w X.K X.mg X.base CX k f fd ps sp) (hr : Room k X.A) (hb : Binds X.K fd ps ds) (hd : Vals dvs ds) (hx : Passes CX X E)
    (I : Inv X pins σ H s) (r : Vals vs us) (h : sp (vs ++ dvs) H Q E) : wpAny (model X.prog X.w) X.A (call (.ref f) us) (EP X pins σ Q) X.xe s := by
  have r2 : Vals (vs ++ dvs) (us ++ ds) := r.append hd
  have hl : (us ++ ds).length = ps.length := by rw [← r2.length]; exact F.len _ _ _ _ h
  refine wpAny_call (codeAny_mono (F.run X.A X.stack s H ⟨us, []⟩ (us ++ ds) (vs ++ dvs) Q E hr I.env0 (hb s us I.kIn hl) r2 h) fun r s' hq => ?_)
  cases r with
  | error e => exact hx pins σ H s e s' I hq
  | ok fl =>
    cases fl with
    | ret u => exact I.after hq
    | next => exact False.elim hq
    | brk => exact False.elim hq
    | cont => exact False.elim hq

theorem pe_call (F : FnOk X.prog X.w X.K X.mg X.base CX k f fd ps sp) (hr : Room k X.A) (hg : Gl X x) (hm : X.mg x = some (.ref f)) (hk : PySem.W.keepIn X.K (.ref f) = true) (hb : Binds X.K fd ps ds) (hd : Vals dvs ds) (hx : Passes CX X E)
    (ha : PA X (e :: es) t) (hdb : (x == ("__debug__" : Str)) = false := by decide) (he : starEach (e :: es) X.env = (false, eval e X.env) :: starEach es X.env := by rfl) (hpl : (backTo pos (starEach es X.env)).any (·.1) = false := by rfl) :
    PE X (.Call (.Name x p) (e :: es) [] pos) (tCall sp dvs E t) := by
  intro pins s σ H Q I h
  refine wpAny_Call_Name_kw (ld_glob I hg hm ?_ hdb)
  refine PySem.W.callWith_K (h₀ := X.base) I.ok.mod.kin hk (thn (ha pos pins s σ H _ I h) fun us s1 ⟨vs, H1, I1, r, q⟩ => ⟨I1.kIn, ?_⟩) he hpl
  exact run_fn F hr hb hd hx I1 r q


/-- what a class must have to be made -/
structure Mk (K : PySem.W.Frag) (C f : Addr) : Prop where
  makes : PySem.W.makesIn K C = true
  init : PySem.W.findIn K (.ref C) "__init__" = some (some (.ref f))
  fn : PySem.W.isFn K (.ref f) = true
  kp : PySem.W.keepIn K (.ref C) = true

theorem run_make {pins : List (Addr × Obj)} {σ : St} {H : Hp} {s : Shared} {Q : VK} {us : List Value} {vs : List V} (M : Mk X.K C f) (F : FnOk X.prog X.w X.K X.mg X.base CX k f fd ps sp) (hr : Room (k + 1) X.A) (hb : Binds X.K fd ps ds) (hd : Vals dvs ds)
    (hx : Passes CX X E) (I : Inv X pins σ H s) (r : Vals vs us)
    (h : ∀ x dx, H x = none → H dx = none → dx ≠ x → sp (.ref x :: (vs ++ dvs)) (upd (upd H dx (.own x)) x (.ins C dx [])) (fun v H2 => v = .non ∧ Q (.ref x) H2) E) :
    wpAny (model X.prog X.w) X.A (call (.ref C) us) (EP X pins σ Q) X.xe s := by
  have hq := h (s.heap.objs.size + 1) s.heap.objs.size (I.hok.fresh (Nat.le_succ _)) (I.hok.fresh (Nat.le_refl _)) (Nat.ne_of_lt (Nat.lt_succ_self _))
  have I2 := Inv.made (C := C) I
  have r2 : Vals (V.ref (s.heap.objs.size + 1) :: (vs ++ dvs)) (Value.ref (s.heap.objs.size + 1) :: (us ++ ds)) := .cons rfl (r.append hd)
  have hl : (Value.ref (s.heap.objs.size + 1) :: us ++ ds).length = ps.length := by
    have e := r2.length
    rw [F.len _ _ _ _ hq] at e
    exact e.symm
  refine wpAny_call (make_map (f := f) I.kIn M.makes M.init (beq_iff_eq.mp M.fn) (codeAny_mono (F.run _ X.stack _ _ ⟨Value.ref (s.heap.objs.size + 1) :: us, []⟩ (Value.ref (s.heap.objs.size + 1) :: (us ++ ds)) _ _ E (hr.make C us [])
    (I2.env0.make C us []) (hb _ (Value.ref (s.heap.objs.size + 1) :: us) I2.kIn hl) r2 hq) fun r s' hq' => ?_))
  cases r with
  | error e => exact hx pins σ _ _ e s' I2 hq'
  | ok fl =>
    cases fl with
    | ret u =>
      obtain ⟨v, H', I3, rv, ev, q3⟩ := I2.after hq'
      subst ev
      exact ⟨rv, ⟨V.ref (s.heap.objs.size + 1), H', I3, rfl, q3⟩⟩
    | next => exact False.elim hq'
    | brk => exact False.elim hq'
    | cont => exact False.elim hq'
theorem pe_make (M : Mk X.K C f) (F : FnOk X.prog X.w X.K X.mg X.base CX k f fd ps sp) (hr : Room (k + 1) X.A) (hg : Gl X x) (hm : X.mg x = some (.ref C)) (hb : Binds X.K fd ps ds) (hd : Vals dvs ds) (hx : Passes CX X E)
    (ha : PA X (e :: es) t) (hdb : (x == ("__debug__" : Str)) = false := by decide) (he : starEach (e :: es) X.env = (false, eval e X.env) :: starEach es X.env := by rfl) (hpl : (backTo pos (starEach es X.env)).any (·.1) = false := by rfl) :
    PE X (.Call (.Name x p) (e :: es) [] pos) (tMake C sp dvs E t) := by
  intro pins s σ H Q I h
  refine wpAny_Call_Name_kw (ld_glob I hg hm ?_ hdb)
  refine PySem.W.callWith_K (h₀ := X.base) I.ok.mod.kin M.kp (thn (ha pos pins s σ H _ I h) fun us s1 ⟨vs, H1, I1, r, q⟩ => ⟨I1.kIn, ?_⟩) he hpl
  exact run_make M F hr hb hd hx I1 r q
theorem pe_make0 (M : Mk X.K C f) (F : FnOk X.prog X.w X.K X.mg X.base CX k f fd ps sp) (hr : Room (k + 1) X.A) (hg : Gl X x) (hm : X.mg x = some (.ref C)) (hb : Binds X.K fd ps ds) (hd : Vals dvs ds) (hx : Passes CX X E)
    (hdb : (x == ("__debug__" : Str)) = false := by decide) : PE X (.Call (.Name x p) [] [] pos) (tMake C sp dvs E tNil) := by
  intro pins s σ H Q I h
  refine wpAny_Call_Name_kw (ld_glob I hg hm ?_ hdb)
  exact PySem.W.callWith_K0 I.kIn M.kp (run_make (us := []) M F hr hb hd hx I .nil h)
end

/-! ### keywords -/
/-- the values of the keywords, from the left -/
def PK (X : Cx) (kws : List Keyword) (t : TA) : Prop :=
  ∀ (pos : Pos) (pins : List (Addr × Obj)) (s : Shared) (σ : St) (H : Hp) (Q : List V → Hp → Prop), Inv X pins σ H s → t σ H Q → wpAny (model X.prog X.w) X.A (evalAll ((backToKw pos (keywordEach kws X.env)).map (·.2))) (AP X pins σ Q) X.xe s
section
variable {X : Cx} {CX : CXT} {k : Nat} {f C : Addr} {fd : FuncData} {ps ks : List Str} {sp : Sp} {E : XK} {x m : Str} {p pos apos kpos : Pos} {e o : Expr} {es : List Expr} {kws : List Keyword} {te ta : TE} {t tk : TA} {nm : Option Str}
theorem pk_nil : PK X [] tNil := fun _ _ _ _ H Q I h => wpAny_evalAll_nil ⟨[], H, I, .nil, h⟩
theorem pk_cons (ha : PE X e te) (hr : PK X kws t) : PK X (⟨nm, e, kpos⟩ :: kws) (tCons te t) := by
  intro pos pins s σ H Q I h
  show wpAny _ _ (evalAll ((do let v ← eval e X.env; standAt pos; pure v) :: (backToKw pos (keywordEach kws X.env)).map (·.2))) _ _ s
  refine wpAny_evalAll_cons (wpAny_bind (thn (ha pins s σ H _ I h) fun u s1 ⟨x, H1, I1, r1, q1⟩ => wpAny_bind (wpAny_standAt (wpAny_pure ?_))))
  exact thn (hr pos pins s1 σ H1 _ I1 q1) fun us s2 ⟨xs, H2, I2, r2, q2⟩ => ⟨x :: xs, H2, I2, .cons r1 r2, q2⟩

variable {g : List Value → List Value → List Value} {gV : List V → List V → List V}
end

/-! ### a def's body keeps its promise -/
/-- names: the parameters first -/
structure FnScope (N P : List Str) (sc : Scope) : Prop where
  kind : sc.kind = .function
  co : sc.isCoroutine = false
  gen : sc.isGenerator = false
  nd : N.Nodup
  pre : N.take P.length = P
  par : ∀ x ∈ P, sc.names.lookup x = some .local ∨ sc.names.lookup x = some .cell
  nofree : ∀ y ∈ sc.names, y.2 ≠ .free

theorem bindL_out {kindOf : Str → Option NameKind} {x : Str} : ∀ {binds : List (Str × Value)} {m : Str → Option Value}, (∀ v, (x, v) ∉ binds) → bindL kindOf binds m x = m x
  | [], _, _ => rfl
  | (n, v) :: r, m, h => by
    unfold bindL
    rw [bindL_out fun w hw => h w (List.mem_cons_of_mem _ hw)]
    split
    · have : x ≠ n := by rintro rfl; exact h v List.mem_cons_self
      simp [this]
    · rfl
theorem bindC_out {kindOf : Str → Option NameKind} {x : Str} : ∀ {binds : List (Str × Value)} {m : Str → Option Value}, (∀ v, (x, v) ∉ binds) → bindC kindOf binds m x = m x
  | [], _, _ => rfl
  | (n, v) :: r, m, h => by
    unfold bindC
    rw [bindC_out fun w hw => h w (List.mem_cons_of_mem _ hw)]
    split
    · rfl
    · have : x ≠ n := by rintro rfl; exact h v List.mem_cons_self
      simp [this]
theorem bindL_get {kindOf : Str → Option NameKind} {x : Str} {v : Value} : ∀ {P : List Str} {vs : List Value} {i : Nat} {m : Str → Option Value}, P.Nodup → P[i]? = some x → vs[i]? = some v → kindOf x = some .local →
    bindL kindOf (P.zip vs) m x = some v
  | [], _, _, _, _, h, _, _ => by simp at h
  | _ :: _, [], _, _, _, _, h, _ => by simp at h
  | p :: P, w :: vs, 0, m, nd, h1, h2, hk => by
    simp at h1 h2; subst h1; subst h2
    show bindL kindOf ((p, w) :: P.zip vs) m p = _
    unfold bindL
    rw [bindL_out fun v hv => (List.nodup_cons.mp nd).1 (List.of_mem_zip hv).1, if_pos hk]
    simp
  | p :: P, w :: vs, i + 1, m, nd, h1, h2, hk => by
    show bindL kindOf ((p, w) :: P.zip vs) m x = _
    unfold bindL
    exact bindL_get (i := i) (List.nodup_cons.mp nd).2 (by simpa using h1) (by simpa using h2) hk
theorem bindC_get {kindOf : Str → Option NameKind} {x : Str} {v : Value} : ∀ {P : List Str} {vs : List Value} {i : Nat} {m : Str → Option Value}, P.Nodup → P[i]? = some x → vs[i]? = some v → kindOf x ≠ some .local →
    bindC kindOf (P.zip vs) m x = some v
  | [], _, _, _, _, h, _, _ => by simp at h
  | _ :: _, [], _, _, _, _, h, _ => by simp at h
  | p :: P, w :: vs, 0, m, nd, h1, h2, hk => by
    simp at h1 h2; subst h1; subst h2
    show bindC kindOf ((p, w) :: P.zip vs) m p = _
    unfold bindC
    rw [bindC_out fun v hv => (List.nodup_cons.mp nd).1 (List.of_mem_zip hv).1, if_neg hk]
    simp
  | p :: P, w :: vs, i + 1, m, nd, h1, h2, hk => by
    show bindC kindOf ((p, w) :: P.zip vs) m x = _
    unfold bindC
    exact bindC_get (i := i) (List.nodup_cons.mp nd).2 (by simpa using h1) (by simpa using h2) hk

/-- the names' values at the entry -/
def start (N : List Str) (vs : List V) : St := vs.map some ++ List.replicate (N.length - vs.length) none

/-- the context of a def's body, at its entry; an exception leaves the frame, then lies as CX says -/
def cxOf (CX : CXT) (P : Program) (w : World) (K : PySem.W.Frag) (mg : Str → Option Value) (base : Heap) (N : List Str) (qual : Str) (scope : Scope) (f : Addr) (cd : Value) (A : Around) (outer : List Env) (s : Shared) (H : Hp) (E : XK) : Cx where
  prog := P
  w := w
  K := K
  mg := mg
  base := base
  A := A.deeper (envOfC qual scope s.heap.objs.size f cd)
  N := N
  s_0 := s
  H_0 := H
  env := envOfC qual scope s.heap.objs.size f cd
  outer := outer
  stack := envOfC qual scope s.heap.objs.size f cd :: outer
  ex := []
  calm := true
  fn := fun _ => true
  pn := []
  xe := fun e s' => wpAny (model P w) (A.deeper (envOfC qual scope s.heap.objs.size f cd)) (leaving (envOfC qual scope s.heap.objs.size f cd) e) (fun _ s'' => CX outer H s E e s'') (fun e' s'' => CX outer H s E e' s'') s'

theorem cell_has {sc : Scope} {n : Nat} {x : Str} (h : sc.names.lookup x = some .cell) : ∃ c, (cellsFrom n sc.names []).lookup x = some c := by
  have q := PySem.W.cellsFrom_some sc.names n [] (.inl h)
  exact Option.isSome_iff_exists.mp q

theorem inv_start {CX : CXT} {P : Program} {w : World} {K : PySem.W.Frag} {mg : Str → Option Value} {base : Heap} {N ps : List Str} {qual : Str} {scope : Scope} {f : Addr} {cd : Value} {A : Around} {outer : List Env} {s s1 : Shared} {H : Hp} {E : XK} {us : List Value} {vs : List V}
    (S : FnScope N ps scope) (hd : A.handled = none) (e0 : Env0 P w K mg base A outer s H) (hl : vs.length = ps.length) (r : Vals vs us)
    (x : InCallC s s.heap.objs.size (bindL (envOfC qual scope s.heap.objs.size f cd).kindOf (ps.zip us) fun _ => none) (cellsFrom (s.heap.objs.size + 1) scope.names []) (bindC (envOfC qual scope s.heap.objs.size f cd).kindOf (ps.zip us) fun _ => none) s1) :
    Inv (cxOf CX P w K mg base N qual scope f cd A outer s H E) [] (start N vs) H s1 := by
  have hpl : ps.length ≤ N.length := by have := congrArg List.length S.pre; rw [List.length_take] at this; omega
  obtain ⟨h1, tk, rfl, hk⟩ := x.done
  have noA : ∀ b : Addr, b ∉ (cxOf CX P w K mg base N qual scope f cd A outer s H E).ex := fun b z => absurd (show b ∈ ([] : List Addr) from z) (by simp)
  refine ⟨⟨e0.mod, S.kind, rfl, rfl, Nat.le_refl _, fun y z c h1 h2 => ?_, fun y hy => ?_, fun y c _ h => ?_, fun _ => hd, Around.frames_deeper e0.frames, .inr ⟨rfl, rfl⟩, fun b z => absurd z (noA b), e0.bs, e0.bsz, fun b _ _ => noA b, fun b z => absurd z (noA b), e0.funs, e0.frf⟩,
    rfl, e0.bare, Un.kept hk, ⟨_, x.toInCall.ns, fun i y v h1 h2 h3 => ?_⟩, fun y c h => ⟨_, x.cell y c h⟩, e0.hok.fresh (Nat.le_refl _), fun y c h => ?_, fun p hp => absurd (show p ∈ ([] : List (Addr × Obj)) from hp) (by simp), e0.hok.kept hk, ?_⟩
  · exact name_of_addr x.apart (PySem.mem_of_lookup h1) (PySem.mem_of_lookup h2)
  · have hy : scope.names.lookup y = some .cell ∨ scope.names.lookup y = some .free := hy
    rcases hy with hy | hy
    · exact cell_has hy
    · exact absurd rfl (S.nofree _ (PySem.mem_of_lookup hy))
  · exact Nat.le_of_lt (x.above y c (PySem.mem_of_lookup h))
  · have hi : i < vs.length := by
      unfold start at h2
      by_cases hi : i < vs.length
      · exact hi
      · rw [List.getElem?_append_right (by simpa using hi)] at h2
        rw [List.getElem?_replicate] at h2
        split at h2 <;> cases h2
    have ha : vs[i]? = some v := by
      unfold start at h2
      rw [List.getElem?_append_left (by simpa using hi), List.getElem?_map] at h2
      cases e : vs[i]? with
      | none => rw [e] at h2; cases h2
      | some a => rw [e] at h2; cases h2; rfl
    obtain ⟨u, hu, rv⟩ := r.get ha
    have hp : ps[i]? = some y := by
      rw [← S.pre, List.getElem?_take_of_lt (by omega)]; exact h1
    have ndP : ps.Nodup := by rw [← S.pre]; exact S.nd.sublist (List.take_sublist _ _)
    refine ⟨u, rv, ?_⟩
    rcases S.par y (List.mem_of_getElem? hp) with k | k
    · exact .inl ⟨k, bindL_get ndP hp hu k⟩
    · obtain ⟨c, e⟩ := cell_has (n := s.heap.objs.size + 1) k
      refine .inr ⟨.inl k, c, e, ?_⟩
      have q := x.cell y c e
      rw [bindC_get ndP hp hu (by show scope.names.lookup y ≠ _; rw [k]; decide)] at q
      exact q
  · exact e0.hok.fresh (Nat.le_of_lt (x.above y c (PySem.mem_of_lookup h)))
  · unfold start
    show _ = N.length
    rw [List.length_append, List.length_map, List.length_replicate]
    omega

/-- THE RULE: a def (or a method) of the text, by its body. The body's reading t is chosen for each entry; it is run at the parameters' values -/
theorem fn_of {CX : CXT} {P : Program} {w : World} {K : PySem.W.Frag} {mg : Str → Option Value} {base : Heap} {k : Nat} {f : Addr} {name qual : Str} {params : Arguments} {body : List Stmt} {scope : Scope} {dV kV doc pm cdv ct oc : Value} {an od : Option Addr}
    {osl : Array (Option Value)} {N ps : List Str} {sp : Sp} (lk : K.lookup f = some ⟨oc, od, .func (PySem.W.fnOf name qual params body scope dV kV doc pm an cdv ct), osl⟩) (hcd : PySem.W.codeIn K cdv qual = true) (S : FnScope N ps scope)
    (len : ∀ vs H Q E, sp vs H Q E → vs.length = ps.length)
    (hbody : ∀ (A : Around) (outer : List Env) (s : Shared) (H : Hp) (vs : List V) (Q : VK) (E : XK), Room k (A.deeper (envOfC qual scope s.heap.objs.size f cdv)) → sp vs H Q E →
      ∃ t, PSs (cxOf CX P w K mg base N qual scope f cdv A outer s H E) body t ∧ t { nx := fun _ H' => Q .non H', rt := Q } (start N vs) H) :
    FnOk P w K mg base CX (k + 1) f (PySem.W.fnOf name qual params body scope dV kV doc pm an cdv ct) ps sp := by
  refine ⟨len, fun A outer s H args us vs Q E hr e0 hb r hsp => ?_⟩
  have hl := len _ _ _ _ hsp
  have KX : K.In s.heap := e0.mod.kin.keeps fun b o e => (e0.bs b o e).1
  have lim : s.heap.NoLimit := e0.mod.nolimit.keeps fun b o e => (e0.bs b o e).1
  have hkind : ∀ y ∈ ps.zip us, scope.names.lookup y.1 = some .local ∨ (scope.names.lookup y.1 = some .cell ∧ ((cellsFrom (s.heap.objs.size + 1) scope.names []).lookup y.1).isSome = true) := fun ⟨n, v⟩ hy => by
    rcases S.par n (List.of_mem_zip hy).1 with q | q
    · exact .inl q
    · exact .inr ⟨q, PySem.W.cellsFrom_some _ _ _ (.inl q)⟩
  refine codeAny_call_function hr.depth (KX _ _ lk) rfl S.co S.gen rfl (PySem.W.codeRec_of KX hcd) (hb _ _ _ _ ?_)
  refine wpAny_newFunctionEnv_cells S.kind hkind fun env he s1 x => ?_
  subst he
  refine ⟨lim.keeps x.toInCall.keep, codeAny_func ?_⟩
  obtain ⟨t, ht, hq⟩ := hbody A outer s H vs Q E (hr.deeper _) hsp
  have I : Inv (cxOf CX P w K mg base N qual scope f cdv A outer s H E) [] (start N vs) H s1 := inv_start S hr.hd e0 hl r x
  refine wpAny_mono (ht [] s1 (start N vs) H _ I hq) (fun fl s' hs => ?_) fun e s' hs => hs
  have fin : ∀ {σ' : St} {H' : Hp} {v : V} {u : Value}, Inv (cxOf CX P w K mg base N qual scope f cdv A outer s H E) [] σ' H' s' → RelV v u → Q v H' → CE outer P w H s Q u s' :=
    fun {σ' H' v u} J rv q => ⟨v, H', J.os, J.bare, J.base, J.hok, rv, q⟩
  cases fl with
  | ret u =>
    obtain ⟨v, σ', H', J, rv, q⟩ := hs
    exact fin J rv q
  | next =>
    obtain ⟨σ', H', J, q⟩ := hs
    exact fin (v := V.non) (u := Value.none) J rfl q
  | brk =>
    obtain ⟨_, _, _, q⟩ := hs
    exact False.elim q
  | cont =>
    obtain ⟨_, _, _, q⟩ := hs
    exact False.elim q
end L2

namespace L2
open PySem PySem.Spec PyProof.Rows
section
variable {X : Cx} {x : Str} {p pos : Pos} {e : Expr} {es : List Expr} {t : TA} {id T : String} {r : List V → Hp → VK → Prop}

def tCB (r : List V → Hp → VK → Prop) (t : TA) : TE := fun σ H Q => t σ H fun vs H1 => r vs H1 Q
/-- f(e, ..), f a built-in function -/
theorem pe_callB (hc : CallR X (.builtin id) r) (hg : Gl X x) (hm : X.mg x = none) (hv : bootBuiltins x = some (.builtin id)) (ha : PA X (e :: es) t) (hn : x ≠ "__name__" := by decide) (hdb : (x == ("__debug__" : Str)) = false := by decide)
    (he : starEach (e :: es) X.env = (false, eval e X.env) :: starEach es X.env := by rfl) (hpl : (backTo pos (starEach es X.env)).any (·.1) = false := by rfl) : PE X (.Call (.Name x p) (e :: es) [] pos) (tCB r t) := by
  intro pins s σ H Q I h
  refine wpAny_Call_Name_kw (ld_blt I hg hm hv ?_ hn hdb)
  exact PyProof.Rows.callWith_builtin1 (thn (ha pos pins s σ H _ I h) fun us s1 ⟨vs, H1, I1, r1, q1⟩ => hc pins s1 σ H1 vs us Q I1 r1 q1) he hpl
/-- T(e, ..), T a built-in type -/
theorem pe_callTy (hc : CallR X (.type T) r) (hg : Gl X x) (hm : X.mg x = none) (hv : bootBuiltins x = some (.type T)) (ha : PA X (e :: es) t) (hn : x ≠ "__name__" := by decide) (hdb : (x == ("__debug__" : Str)) = false := by decide)
    (he : starEach (e :: es) X.env = (false, eval e X.env) :: starEach es X.env := by rfl) (hpl : (backTo pos (starEach es X.env)).any (·.1) = false := by rfl) : PE X (.Call (.Name x p) (e :: es) [] pos) (tCB r t) := by
  intro pins s σ H Q I h
  refine wpAny_Call_Name_kw (ld_blt I hg hm hv ?_ hn hdb)
  exact PyProof.Rows.callWith_type1 (thn (ha pos pins s σ H _ I h) fun us s1 ⟨vs, H1, I1, r1, q1⟩ => hc pins s1 σ H1 vs us Q I1 r1 q1) he hpl
end
end L2

namespace HT
open PySem PyProof.Rows



section
open PySem.SeqAt
open PySem.AutoSeq1 (wpAny_loadPart')
open PySem.MeetsSeq PySem.MeetsSeq2 PySem.MeetsSeq3

end

section
variable {prog : Program} {w : World} {A : Around} {E : Value → Shared → Prop} {s : Shared}



/-! ### t[a:b], not the whole -/
/-- a slice's bound as a place among n (d where it is left out) -/
def sIx (n d : Nat) : Option Int → Nat
  | none => d
  | some v => if v < 0 then (v + (n : Int)).toNat else min v.toNat n
theorem sIx_none (n d : Nat) : sIx n d none = d := rfl
theorem sIx_nat (n d k : Nat) : sIx n d (some (k : Int)) = min k n := by
  show (if (k : Int) < 0 then ((k : Int) + (n : Int)).toNat else min (k : Int).toNat n) = min k n
  rw [if_neg (by omega), Int.toNat_natCast]

end
end HT

namespace L2
open PySem PySem.Spec PyProof.Rows

/-! ### the parts of a slice -/
abbrev TO := St → Hp → (Option Int → Hp → Prop) → Prop
/-- a slice's part (left out, or an int) -/
def PO (X : Cx) (e : Option Expr) (t : TO) : Prop :=
  ∀ (pins : List (Addr × Obj)) (s : Shared) (σ : St) (H : Hp) (Q : Option Int → Hp → Prop), Inv X pins σ H s → t σ H Q →
    wpAny (model X.prog X.w) X.A (evalPart e X.env) (fun u s' => ∃ o H', Inv X pins σ H' s' ∧ IsPart u o ∧ Q o H') X.xe s
def tNoPart : TO := fun _ H Q => Q none H
def tPart (t : TE) : TO := fun σ H Q => t σ H fun x H1 => ∃ i, x = .int i ∧ Q (some i) H1


section
variable {X : Cx} {e : Expr} {te : TE} {lo hi : Option Expr} {tl th : TO} {pos p2 : Pos}

theorem po_none : PO X none tNoPart := by
  intro pins s σ H Q I h
  rw [evalPart_none]
  exact wpAny_pure ⟨none, H, I, .none, h⟩
theorem po_some (h : PE X e te) : PO X (some e) (tPart te) := by
  intro pins s σ H Q I hw
  rw [evalPart_some]
  refine thn (h pins s σ H _ I hw) fun u s1 ⟨x, H1, I1, r1, q1⟩ => ?_
  obtain ⟨i, rfl, q⟩ := q1
  obtain ⟨t, rfl⟩ := r1
  exact ⟨some i, H1, I1, .int i t, q⟩

/-- what a slice of a value is, by values: the slice object stands at sl -/
def SlR (X : Cx) (r : V → Option Int → Option Int → Hp → VK → Prop) : Prop :=
  ∀ (pins : List (Addr × Obj)) (s : Shared) (σ : St) (H : Hp) (x : V) (v vl vu : Value) (lo hi : Option Int) (sl : Addr) (Q : VK), Inv X pins σ H s → RelV x v → s.heap.IsSliceOf sl vl vu .none → IsPart vl lo → IsPart vu hi → r x lo hi H Q →
    ∃ T id, typeLookup (.type T) "__getitem__" = pure (some (.builtin id)) ∧ s.TypeIs v T ∧ wpAny (model X.prog X.w) X.A (getItem v (.ref sl)) (EP X pins σ Q) X.xe s
def tSl (r : V → Option Int → Option Int → Hp → VK → Prop) (te : TE) (tl th : TO) : TE := fun σ H Q => te σ H fun x H1 => tl σ H1 fun l H2 => th σ H2 fun u H3 => r x l u H3 Q
/-- a[lo:hi], any a -/
theorem pe_slice {r : V → Option Int → Option Int → Hp → VK → Prop} (hr : SlR X r) (he : PE X e te) (hl : PO X lo tl) (hu : PO X hi th) : PE X (.Subscript e (.Slice lo hi none p2) pos) (tSl r te tl th) := by
  intro pins s σ H Q I h
  refine Subscript_ (thn (he pins s σ H _ I h) fun v s1 ⟨x, H1, I1, r1, q1⟩ => ?_)
  refine wpAny_Slice (thn (hl pins s1 σ H1 _ I1 q1) fun vl s2 ⟨l, H2, I2, pl, q2⟩ => thn (hu pins s2 σ H2 _ I2 q2) fun vu s3 ⟨u, H3, I3, pu, q3⟩ => ?_)
  rw [evalPart_none]
  refine wpAny_pure ?_
  have I4 : Inv X pins σ H3 { s3 with heap := s3.heap.push { cls := .type "slice", data := .fields #[vl, vu, .none] } } := I3.kept (t' := s3.toks) fun b ob q => Heap.get?_push_of_some _ q
  obtain ⟨T, id, hT, ht, hg⟩ := hr pins { s3 with heap := s3.heap.push { cls := .type "slice", data := .fields #[vl, vu, .none] } } σ H3 x v vl vu l u s3.heap.objs.size Q I4 r1 (Heap.IsSliceOf.new ..) pl pu q3
  show wpAny (model X.prog X.w) X.A (subscriptTail e (.Slice lo hi none p2) v (.ref s3.heap.objs.size)) (EP X pins σ Q) X.xe { s3 with heap := s3.heap.push { cls := .type "slice", data := .fields #[vl, vu, .none] } }
  exact tail_any (ops := [.ref s3.heap.objs.size, v]) ht hT hg (by with_unfolding_all rfl)

/-- the items of xs[lo:hi] -/
def cutV (xs : List V) (lo hi : Option Int) : List V := (xs.drop (HT.sIx xs.length 0 lo)).take (HT.sIx xs.length xs.length hi - HT.sIx xs.length 0 lo)
theorem cutV_length (xs : List V) (lo hi : Option Int) : (cutV xs lo hi).length ≤ xs.length := by
  unfold cutV
  rw [List.length_take, List.length_drop]
  omega

/-! ### t < u, t + u -/
end
end L2

namespace L2
open PySem PySem.Spec PyProof.Rows

/-! ### places -/
/-- the place that an index of any sign means -/
def ixN (n : Nat) (i : Int) : Option Nat := if 0 ≤ i then (if i < n then some i.toNat else none) else if -(n : Int) ≤ i then some (i + n).toNat else none
def atI {α : Type} (xs : List α) (i : Int) : Option α := (ixN xs.length i).bind fun j => xs[j]?
theorem ixN_seq {n : Nat} {i : Int} {j : Nat} (h : ixN n i = some j) : seqIndex? i n = some j ∧ j < n ∧ -(n : Int) ≤ i ∧ i < n := by
  unfold ixN at h
  by_cases h0 : 0 ≤ i
  · rw [if_pos h0] at h
    by_cases h1 : i < n
    · rw [if_pos h1] at h
      have e : i.toNat = j := Option.some.inj h
      exact ⟨by rw [seqIndex_of h0 h1, e], by omega, by omega, h1⟩
    · rw [if_neg h1] at h; cases h
  · rw [if_neg h0] at h
    by_cases h1 : -(n : Int) ≤ i
    · rw [if_pos h1] at h
      have e : (i + n).toNat = j := Option.some.inj h
      exact ⟨by rw [seqIndex_neg (by omega) h1, e], by omega, h1, by omega⟩
    · rw [if_neg h1] at h; cases h
theorem atI_get {α : Type} {xs : List α} {i : Int} {v : α} (h : atI xs i = some v) : ∃ j, seqIndex? i xs.length = some j ∧ xs[j]? = some v ∧ j < xs.length ∧ -(xs.length : Int) ≤ i ∧ i < xs.length := by
  unfold atI at h
  cases e : ixN xs.length i with
  | none => rw [e] at h; cases h
  | some j =>
    rw [e] at h
    obtain ⟨h1, h2, h3, h4⟩ := ixN_seq e
    exact ⟨j, h1, h, h2, h3, h4⟩
theorem atI_nat {α : Type} {xs : List α} {j : Nat} {v : α} (h : xs[j]? = some v) : atI xs (j : Int) = some v := by
  have hj : j < xs.length := (List.getElem?_eq_some_iff.mp h).1
  have e : ixN xs.length (j : Int) = some j := by
    unfold ixN
    rw [if_pos (by omega), if_pos (by omega)]; simp
  unfold atI; rw [e]; exact h

/-! ### what may be subscripted -/
/-- what stands as an index of a plain subscript -/
def PlainIx (b : Expr) : Prop := ∀ o i, subscripted b false o i = operate [o, i] (getItem o i)
/-- a subscript by values -/
def IxR (X : Cx) (r : R2) : Prop :=
  ∀ (value slice : Expr) (pins : List (Addr × Obj)) (s : Shared) (σ : St) (H : Hp) (x y : V) (v u : Value) (Q : VK), Inv X pins σ H s → RelV x v → RelV y u → r x y H Q →
    subscripted slice false v u = operate [v, u] (getItem v u) → wpAny (model X.prog X.w) X.A (subscriptTail value slice v u) (EP X pins σ Q) X.xe s
/-- a call of a builtin's method by values: the receiver, the arguments -/
def MtR (X : Cx) (id : String) (r : V → List V → Hp → VK → Prop) : Prop :=
  ∀ (pins : List (Addr × Obj)) (s : Shared) (σ : St) (H : Hp) (x : V) (xs : List V) (v : Value) (us : List Value) (Q : VK), Inv X pins σ H s → RelV x v → Vals xs us → r x xs H Q →
    wpAny (model X.prog X.w) X.A (call (.builtin id) (v :: us)) (EP X pins σ Q) X.xe s
section
variable {X : Cx} {a b : Expr} {ta tb : TE} {pos : Pos}
/-- a[b] -/
theorem pe_ix {r : R2} (hr : IxR X r) (ha : PE X a ta) (hb : PE X b tb) (hs : PlainIx b) : PE X (.Subscript a b pos) (tOp r ta tb) := by
  intro pins s σ H Q I h
  exact Subscript_ (binT ha hb I h fun v u s2 x y H2 I2 rx ry q => hr a b pins s2 σ H2 x y v u Q I2 rx ry q (hs _ _))

def rIxL (K : PySem.W.Frag) : R2 := fun x y H Q => ∃ p xs i v, x = .ref p ∧ y = .int i ∧ SqL K H p xs ∧ atI xs i = some v ∧ Q v H
def rIxT (K : PySem.W.Frag) : R2 := fun x y H Q => ∃ p xs i v, x = .ref p ∧ y = .int i ∧ SqT K H p xs ∧ atI xs i = some v ∧ Q v H
theorem ix_list : IxR X (rIxL X.K) := by
  intro value slice pins s σ H x y v u Q I rx ry h hs
  obtain ⟨p, xs, i, z, rfl, rfl, hq, he, q⟩ := h
  cases rx
  obtain ⟨t, rfl⟩ := ry
  obtain ⟨its, r, pl, hz⟩ := I.list hq
  obtain ⟨j, h1, h2, h3, h4, h5⟩ := atI_get he
  obtain ⟨w, ew, rw'⟩ := r.get h2
  have hl := r.length
  have hn := line63
  have fin : EP X pins σ Q w s := ⟨z, H, I, rw', q⟩
  by_cases h0 : 0 ≤ i
  · have hj : i.toNat = j := by
      rw [seqIndex_of h0 h5] at h1
      exact Option.some.inj h1
    exact item_listR pl.isList h0 (by omega) (by rw [hj]; simpa using ew) fin hs
  · have hj : (i + (its.toArray.size : Int)).toNat = j := by
      rw [seqIndex_neg (by omega) h4] at h1
      rw [List.size_toArray, ← hl]
      exact Option.some.inj h1
    exact subscriptTail_builtinR (x := w) pl.isList.typeIs slot_list_getitem.lookup
      (wpAny_getItem_list_neg (Q := fun r s' => r = w ∧ EP X pins σ Q r s') pl.isList (by omega) (by rw [List.size_toArray] <;> omega) (by omega) (by rw [hj]; simpa using ew) ⟨rfl, fin⟩) hs
theorem ix_tup : IxR X (rIxT X.K) := by
  intro value slice pins s σ H x y v u Q I rx ry h hs
  obtain ⟨p, xs, i, z, rfl, rfl, hq, he, q⟩ := h
  cases rx
  obtain ⟨t, rfl⟩ := ry
  obtain ⟨its, r, pl, hz⟩ := I.tuple hq
  obtain ⟨j, h1, h2, h3, h4, h5⟩ := atI_get he
  obtain ⟨w, ew, rw'⟩ := r.get h2
  have hl := r.length
  have hn := line63
  have fin : EP X pins σ Q w s := ⟨z, H, I, rw', q⟩
  exact subscriptTail_builtinR (x := w) pl.typeIs slot_tuple_getitem.lookup
    (getItem_tuple (j := j) (Q := fun r s' => r = w ∧ EP X pins σ Q r s') pl (by omega) (by omega) (by rw [List.size_toArray, ← hl]; exact h1) (by simpa using ew) ⟨rfl, fin⟩) hs

/-! ### xs[i] = v, any sign -/
/-- the list's object behind a store -/
theorem mapSeq_set (its : List Value) (n j : Nat) (u : Value) : Obj.mapSeq (·.setIfInBounds j u) { cls := .type "list", data := .seq its.toArray n } = { cls := .type "list", data := .seq (its.set j u).toArray n } := by
  simp [Obj.mapSeq]
theorem Inv.lst {pins : List (Addr × Obj)} {σ : St} {H : Hp} {s : Shared} {p : Addr} {xs : List V} (I : Inv X pins σ H s) (h : H p = some (.lst xs)) :
    ∃ (its : List Value) (n : Nat), Vals xs its ∧ s.heap.get? p = some { cls := .type "list", data := .seq its.toArray n } ∧ xs.length ≤ sizeLine := by
  obtain ⟨z, its, n, r, e⟩ := I.hok p _ h
  exact ⟨its, n, r, e, z⟩
/-- the list at p is written by an update of its object -/
theorem Inv.lstUpd {pins : List (Addr × Obj)} {σ : St} {H : Hp} {s : Shared} {p : Addr} {xs ys : List V} {its its' : List Value} {n n' : Nat} {f : Obj → Obj} (I : Inv X pins σ H s) (h : H p = some (.lst xs))
    (ho : s.heap.get? p = some { cls := .type "list", data := .seq its.toArray n }) (hf : f { cls := .type "list", data := .seq its.toArray n } = { cls := .type "list", data := .seq its'.toArray n' }) (r : Vals ys its') (hz : ys.length ≤ sizeLine) (t : Nat) :
    Inv X pins σ (upd H p (.lst ys)) { s with heap := s.heap.update p f, toks := t } := by
  have e : (s.heap.update p f).get? p = some { cls := .type "list", data := .seq its'.toArray n' } := by
    rw [Heap.get?_update_self f ho (by rw [hf] <;> rfl), hf]
  refine I.write (x := p) (e := p) (by rw [h]; trivial) (.inl rfl) (fun b u hb q => (Heap.get?_update_other _ _ (Ne.symm hb)).trans q) ⟨_, e⟩ ?_
  exact ⟨hz, its', n', r, e⟩
def rSetL : V → V → V → Hp → (Hp → Prop) → Prop := fun o i v H Q => ∃ p xs k j, o = .ref p ∧ i = .int k ∧ H p = some (.lst xs) ∧ ixN xs.length k = some j ∧ Q (upd H p (.lst (xs.set j v)))
theorem set_list : PSet X rSetL := by
  intro pins s σ H o i v ov iv u Q I ro ri rv h
  obtain ⟨p, xs, k, j, rfl, rfl, hp, hj, q⟩ := h
  cases ro
  obtain ⟨t, rfl⟩ := ri
  obtain ⟨its, n, r, ho, hz⟩ := I.lst hp
  obtain ⟨h1, h2, h3, h4⟩ := ixN_seq hj
  have hl := r.length
  have hn := line63
  have I' : Inv X pins σ (upd H p (.lst (xs.set j v))) { s with heap := s.heap.update p (Obj.mapSeq (·.setIfInBounds j u)) } :=
    I.lstUpd hp ho (mapSeq_set its n j u) (r.set rv j) (by rw [List.length_set]; exact hz) s.toks
  by_cases h0 : 0 ≤ k
  · have hk : k.toNat = j := by
      rw [seqIndex_of h0 h4] at h1
      exact Option.some.inj h1
    exact PySem.W.ki_setAt ho h0 (by omega) (by rw [List.size_toArray, ← hl]; exact h4) (by rw [hk]; exact ⟨_, I', q⟩)
  · have hk : (k + (its.toArray.size : Int)).toNat = j := by
      rw [seqIndex_neg (by omega) h3] at h1
      rw [List.size_toArray, ← hl]
      exact Option.some.inj h1
    exact PySem.W.ki_setBack ho (by omega) (by rw [List.size_toArray, ← hl]; exact h3) (by omega) (by rw [hk]; exact ⟨_, I', q⟩)

/-! ### slices -/
theorem slice_bounds (lo hi : Option Int) (n : Nat) : (sliceBounds lo hi none n).1 = ((HT.sIx n 0 lo : Nat) : Int) ∧ (sliceBounds lo hi none n).2.1 = ((HT.sIx n n hi : Nat) : Int) ∧ (sliceBounds lo hi none n).2.2 = 1 := by
  refine ⟨?_, ?_, rfl⟩
  · cases lo with
    | none => simp [sliceBounds, HT.sIx]
    | some i =>
      simp only [sliceBounds, HT.sIx, Option.getD_none, show (1 : Int) > 0 by decide, if_true]
      by_cases h : i < 0
      · simp only [h, if_true] <;> omega
      · simp only [h, if_false] <;> omega
  · cases hi with
    | none => simp [sliceBounds, HT.sIx]
    | some i =>
      simp only [sliceBounds, HT.sIx, Option.getD_none, show (1 : Int) > 0 by decide, if_true]
      by_cases h : i < 0
      · simp only [h, if_true] <;> omega
      · simp only [h, if_false] <;> omega
theorem slicePick_cut (its : List Value) (lo hi : Option Int) : slicePick its.toArray lo hi none = ((its.drop (HT.sIx its.length 0 lo)).take (HT.sIx its.length its.length hi - HT.sIx its.length 0 lo)).toArray := by
  obtain ⟨h1, h2, h3⟩ := slice_bounds lo hi its.toArray.size
  unfold slicePick
  rw [h1, h2, h3]
  simp only [sliceRange_one, pick_run, List.size_toArray] <;> rfl
/-- xs[lo:hi] of a list: a new list -/
def rSlL (K : PySem.W.Frag) : V → Option Int → Option Int → Hp → VK → Prop := fun x lo hi H Q => ∃ a xs, x = .ref a ∧ SqL K H a xs ∧ ∀ p, H p = none → Q (.ref p) (upd H p (.lst (cutV xs lo hi)))
theorem sl_list : SlR X (rSlL X.K) := by
  intro pins s σ H x v vl vu lo hi sl Q I rx hs pl pu h
  obtain ⟨a, xs, rfl, hx, q⟩ := h
  cases rx
  obtain ⟨its, r, ht, hz⟩ := I.list hx
  have hlen := r.length
  refine ⟨"list", _, slot_list_getitem.lookup, ht.isList.typeIs, ?_⟩
  refine wpAny_getItem_list_slice ht.isList hs pl pu .none (by simp) ?_ (by rw [List.size_toArray] <;> omega)
  rw [slicePick_cut, ← hlen]
  refine ⟨.ref s.heap.objs.size, _, I.laid (t' := s.toks) (o := .lst (cutV xs lo hi)) (fun b ob q => Heap.get?_push_of_some _ q) (Nat.le_refl _) ?_, rfl, q _ (I.hok.fresh (Nat.le_refl _))⟩
  exact ⟨Nat.le_trans (cutV_length xs lo hi) hz, _, 0, (r.drop (HT.sIx xs.length 0 lo)).take (HT.sIx xs.length xs.length hi - HT.sIx xs.length 0 lo), Heap.get?_push_size _ rfl⟩

/-! ### in, not in: flat items -/
def flatV : V → Bool
  | .non => true
  | .bl _ => true
  | .int _ => true
  | .str _ => true
  | _ => false
/-- == of flat values -/
def eqV : V → V → Bool
  | .non, .non => true
  | .bl a, .bl b => a == b
  | .bl a, .int b => (if a then 1 else 0) == b
  | .int a, .bl b => a == (if b then 1 else 0)
  | .int a, .int b => a == b
  | .str a, .str b => a == b
  | _, _ => false
theorem eqAt_V {A : Around} {s : Shared} {y x : V} {u v : Value} (ry : RelV y u) (rx : RelV x v) (fy : flatV y = true) (fx : flatV x = true) : SeqAt.EqAt A s u v (eqV y x) := by
  cases y with
  | non =>
    cases ry
    cases x with
    | non => cases rx; exact SeqAt.EqAt.same _
    | bl b => cases rx; exact SeqAt.EqAt.none_bool b
    | int b => obtain ⟨t, rfl⟩ := rx; exact SeqAt.EqAt.none_int b t
    | str b => obtain ⟨t, rfl⟩ := rx; exact SeqAt.EqAt.none_str b t
    | _ => exact absurd (show false = true from fx) Bool.false_ne_true
  | bl a =>
    cases ry
    cases x with
    | non => cases rx; exact SeqAt.EqAt.bool_none a
    | bl b => cases rx; exact SeqAt.EqAt.bool_bool a b
    | int b => obtain ⟨t, rfl⟩ := rx; exact SeqAt.EqAt.bool_int a b t
    | str b => obtain ⟨t, rfl⟩ := rx; exact SeqAt.EqAt.bool_str a b t
    | _ => exact absurd (show false = true from fx) Bool.false_ne_true
  | int a =>
    obtain ⟨t', rfl⟩ := ry
    cases x with
    | non => cases rx; exact SeqAt.EqAt.int_none a t'
    | bl b => cases rx; exact SeqAt.EqAt.int_bool a t' b
    | int b => obtain ⟨t, rfl⟩ := rx; exact SeqAt.EqAt.int_int a t' b t
    | str b => obtain ⟨t, rfl⟩ := rx; exact SeqAt.EqAt.int_str a t' b t
    | _ => exact absurd (show false = true from fx) Bool.false_ne_true
  | str a =>
    obtain ⟨t', rfl⟩ := ry
    cases x with
    | non => cases rx; exact SeqAt.EqAt.str_none a t'
    | bl b => cases rx; exact SeqAt.EqAt.str_bool a t' b
    | int b => obtain ⟨t, rfl⟩ := rx; exact SeqAt.EqAt.str_int a t' b t
    | str b => obtain ⟨t, rfl⟩ := rx; exact SeqAt.EqAt.str_str a t' b t
    | _ => exact absurd (show false = true from fx) Bool.false_ne_true
  | _ => exact absurd (show false = true from fy) Bool.false_ne_true
/-- the items' answers, read off the values (a value's own answer does not lean on its token) -/
def eqU (x : V) (u : Value) : Bool := match u with
  | .none => eqV .non x
  | .bool b => eqV (.bl b) x
  | .int i _ => eqV (.int i) x
  | .str z _ => eqV (.str z) x
  | _ => false
theorem eqU_of {x y : V} {u : Value} (r : RelV y u) (f : flatV y = true) : eqU x u = eqV y x := by
  cases y with
  | non => cases r; rfl
  | bl b => cases r; rfl
  | int i => obtain ⟨t, rfl⟩ := r; rfl
  | str z => obtain ⟨t, rfl⟩ := r; rfl
  | _ => exact absurd (show false = true from f) Bool.false_ne_true
theorem any_eqU {x : V} : ∀ {xs : List V} {us : List Value}, Vals xs us → xs.all flatV = true → us.any (eqU x) = xs.any fun y => eqV y x
  | _, _, .nil, _ => rfl
  | y :: xs, u :: us, .cons r t, f => by
    rw [List.all_cons, Bool.and_eq_true] at f
    rw [List.any_cons, List.any_cons, eqU_of r f.1, any_eqU t f.2]
theorem mem_eqAt {A : Around} {s : Shared} {x : V} {v : Value} (rx : RelV x v) (fx : flatV x = true) : ∀ {xs : List V} {us : List Value}, Vals xs us → xs.all flatV = true → ∀ u ∈ us, SeqAt.EqAt A s u v (eqU x u)
  | _, _, .nil, _ => fun u hu => by cases hu
  | y :: xs, u :: us, .cons r t, f => fun u' hu => by
    rw [List.all_cons, Bool.and_eq_true] at f
    rcases List.mem_cons.mp hu with rfl | hu
    · rw [eqU_of r f.1]; exact eqAt_V r rx f.1 fx
    · exact mem_eqAt rx fx t f.2 u' hu
def inV (x : V) (xs : List V) : Bool := xs.any fun y => eqV y x
/-- x in a list or tuple of flat items -/
def rIn (K : PySem.W.Frag) (neg : Bool) : R2 := fun x y H Q => ∃ p xs, y = .ref p ∧ (SqL K H p xs ∨ SqT K H p xs) ∧ flatV x = true ∧ xs.all flatV = true ∧ Q (.bl (if neg then !inV x xs else inV x xs)) H
theorem op_in_seq : OpR X (compareOp .In) (rIn X.K false) := by
  intro pins s σ H x y v u Q I rx ry h
  obtain ⟨p, xs, rfl, hq, fx, fs, q⟩ := h
  cases ry
  rcases hq with hq | hq
  · obtain ⟨its, r, pl, hz⟩ := I.list hq
    refine SeqAt.in_listAt (eqU x) pl.isList (fun w hw => mem_eqAt rx fx r fs w (by simpa using hw)) ⟨.bl _, H, I, rfl, ?_⟩
    rw [show its.toArray.any (eqU x) = its.any (eqU x) by simp, any_eqU r fs]
    exact q
  · obtain ⟨its, r, pl, hz⟩ := I.tuple hq
    refine SeqAt.in_tupleAt (eqU x) pl (fun w hw => mem_eqAt rx fx r fs w (by simpa using hw)) ⟨.bl _, H, I, rfl, ?_⟩
    rw [show its.toArray.any (eqU x) = its.any (eqU x) by simp, any_eqU r fs]
    exact q

/-! ### len, list(x), tuple(x) of any list or tuple that is read -/
theorem call_len_seq : CallR X (.builtin "len") (fun xs H Q => ∃ p ys, xs = [.ref p] ∧ (SqL X.K H p ys ∨ SqT X.K H p ys) ∧ Q (.int ys.length) H) := by
  intro pins s σ H xs us Q I r h
  obtain ⟨p, ys, rfl, hq, q⟩ := h
  obtain ⟨u, rfl, rx⟩ := vals1 r
  cases rx
  have hn := line63
  rcases hq with hq | hq
  · obtain ⟨its, r', pl, hz⟩ := I.list hq
    have hlen := r'.length
    exact Calls.call_len_list pl.isList (by simp only [List.size_toArray] <;> omega) ⟨.int ys.length, H, I.tok _, ⟨s.toks + 1, by rw [List.size_toArray, hlen]⟩, q⟩
  · obtain ⟨its, r', pl, hz⟩ := I.tuple hq
    have hlen := r'.length
    exact len_tuple pl (by simp only [List.size_toArray] <;> omega) ⟨.int ys.length, H, I.tok _, ⟨s.toks + 1, by rw [List.size_toArray, hlen]⟩, q⟩
theorem call_list_of : CallR X (.type "list") (fun xs H Q => ∃ p ys, xs = [.ref p] ∧ (SqL X.K H p ys ∨ SqT X.K H p ys) ∧ ∀ l, H l = none → Q (.ref l) (upd H l (.lst ys))) := by
  intro pins s σ H xs us Q I r h
  obtain ⟨p, ys, rfl, hq, q⟩ := h
  obtain ⟨u, rfl, rx⟩ := vals1 r
  cases rx
  have fin : ∀ (its : List Value), Vals ys its → ys.length ≤ sizeLine → ∀ (h' : Heap) (c' : Nat), (∀ b o', s.heap.get? b = some o' → h'.get? b = some o') →
      h'.get? s.heap.objs.size = some { cls := .type "list", dict := none, data := .seq its.toArray c', slots := #[] } → EP X pins σ Q (.ref s.heap.objs.size) { s with heap := h' } := fun its r' hz h' c' kp e =>
    ⟨.ref s.heap.objs.size, _, I.laid (t' := s.toks) kp (Nat.le_refl _) (show ObjOk X.prog X.w _ h' _ (.lst ys) from ⟨hz, its, c', r', e⟩), rfl, q _ (I.hok.fresh (Nat.le_refl _))⟩
  rcases hq with hq | hq
  · obtain ⟨its, r', pl, hz⟩ := I.list hq
    have hlen := r'.length
    obtain ⟨o, ho, hc, n, hd⟩ := pl.isList
    exact call_list_seq p (.inl rfl) ho hc hd (fun h' c' kp e => fin its r' hz h' c' kp e) (by simp only [List.size_toArray] <;> omega)
  · obtain ⟨its, r', pl, hz⟩ := I.tuple hq
    have hlen := r'.length
    obtain ⟨o, ho, hc, n, hd⟩ := pl
    exact call_list_seq p (.inr rfl) ho hc hd (fun h' c' kp e => fin its r' hz h' c' kp e) (by simp only [List.size_toArray] <;> omega)

/-! ### the call of a builtin's method: o.m(..) -/
/-- the value is of that builtin type -/
def tyV (K : PySem.W.Frag) (T : String) (x : V) (H : Hp) : Prop := match x with
  | .str _ => T = "str"
  | .int _ => T = "int"
  | .ref p => (T = "list" ∧ ∃ xs, SqL K H p xs) ∨ (T = "tuple" ∧ ∃ o, K.lookup p = some o ∧ o.cls = .type "tuple" ∧ o.dict = none) ∨
      (T = "dict" ∧ ((∃ kvs, H p = some (.dK kvs)) ∨ ∃ kvs, H p = some (.dT kvs))) ∨ (T = "set" ∧ ∃ S n, H p = some (.set S n))
  | _ => False
theorem tyV_is {pins : List (Addr × Obj)} {σ : St} {H : Hp} {s : Shared} {T : String} {x : V} {v : Value} (I : Inv X pins σ H s) (r : RelV x v) (ty : tyV X.K T x H) :
    s.TypeIs v T ∧ ∀ a, v = .ref a → ∃ ob, s.heap.get? a = some ob ∧ ob.dict = none := by
  cases x with
  | str z =>
    obtain ⟨t, rfl⟩ := r
    cases (show T = "str" from ty)
    exact ⟨typeIs_str s z t, fun _ e => nomatch e⟩
  | int i =>
    obtain ⟨t, rfl⟩ := r
    cases (show T = "int" from ty)
    exact ⟨typeIs_int s i t, fun _ e => nomatch e⟩
  | ref p =>
    cases r
    rcases ty with ⟨rfl, xs, hq⟩ | ⟨rfl, o, hk, hc, hd⟩ | ⟨rfl, hk⟩ | ⟨rfl, S, n, hk⟩
    · obtain ⟨its, _, pl, _⟩ := I.list hq
      refine ⟨pl.isList.typeIs, fun a e => ?_⟩
      cases e
      obtain ⟨o, n, e, c, hd, _⟩ := pl
      exact ⟨o, e, hd⟩
    · refine ⟨⟨o, I.kIn p o hk, hc⟩, fun a e => ?_⟩
      cases e
      exact ⟨o, I.kIn _ o hk, hd⟩
    · have z : ∃ o, s.heap.get? p = some o ∧ o.ExactDict := by
        rcases hk with ⟨kvs, hk⟩ | ⟨kvs, hk⟩
        · obtain ⟨_, _, _, _, o, _, _, e, ex, _⟩ := I.hok p _ hk
          exact ⟨o, e, ex⟩
        · obtain ⟨_, _, _, _, o, _, _, e, ex, _⟩ := I.hok p _ hk
          exact ⟨o, e, ex⟩
      obtain ⟨o, e, ex⟩ := z
      refine ⟨⟨o, e, ex.1⟩, fun a e2 => ?_⟩
      cases e2
      exact ⟨o, e, ex.2.1⟩
    · obtain ⟨o, _, _, _, e, ex, _⟩ := I.hok p _ hk
      refine ⟨⟨o, e, ex.1⟩, fun a e2 => ?_⟩
      cases e2
      exact ⟨o, e, ex.2.1⟩
  | _ => exact False.elim ty
def tBM (K : PySem.W.Frag) (T : String) (r : V → List V → Hp → VK → Prop) (to : TE) (t : TA) : TE := fun σ H Q => to σ H fun x H1 => tyV K T x H1 ∧ t σ H1 fun xs H2 => r x xs H2 Q
variable {o e : Expr} {es : List Expr} {to : TE} {t : TA} {name : Str} {apos cpos : Pos} {T id : String} {r : V → List V → Hp → VK → Prop}
theorem pe_bm (pa : PlainAttrs T) (slot : Slot T name id) (hty : typeOf (.builtin id) = pure (.type "method_descriptor")) (hm : MtR X id r) (ho : PE X o to) (ha : PA X (e :: es) t)
    (hbase : attributeBase o name X.env (eval o X.env) = eval o X.env := by rfl)
    (hfew : ((backTo cpos (starEach (e :: es) X.env)).all (fun x => !x.1) && (backToKw cpos (keywordEach [] X.env)).all (fun x => x.1.isSome)
      && decide ((e :: es).length + ([] : List Keyword).length + (if ([] : List Keyword).isEmpty then 0 else 1) < 30)) = true := by rfl)
    (hline : (apos.endLine == cpos.line) = true := by rfl) (hs : starEach (e :: es) X.env = (false, eval e X.env) :: starEach es X.env := by rfl) (hplain : (backTo cpos (starEach es X.env)).any (·.1) = false := by rfl) :
    PE X (.Call (.Attribute o name apos) (e :: es) [] cpos) (tBM X.K T r to t) := by
  intro pins s σ H Q I h
  refine wpAny_Call_method_late hbase hfew hline rfl (thn (ho pins s σ H _ I h) fun v s1 ⟨x, H1, I1, r1, ty, q1⟩ => ?_)
  obtain ⟨h1, h2⟩ := tyV_is I1 r1 ty
  refine ⟨T, id, pa, slot, hty, h1, h2, ?_⟩
  have hA := ha cpos pins s1 σ H1 _ I1 q1
  rw [hs] at hA ⊢
  refine Calls.callWith_builtin (by show (false || (backTo cpos (starEach es X.env)).any (·.1)) = false; rw [hplain] <;> rfl) (Calls.evalArgs_plain ?_)
  exact thn hA fun us s2 ⟨vs, H2, I2, r2, q2⟩ => hm pins s2 σ H2 x vs v us Q I2 r1 r2 q2
/- xs.append(e), list.index on a module's tuple .. are MtR facts of 06m -/
end
end L2

namespace L2
open PySem PySem.Spec PyProof.Rows

def MtM (X : Cx) (id : String) (r : V → List V → Hp → VK → Prop) : Prop :=
  ∀ (pins : List (Addr × Obj)) (s : Shared) (σ : St) (H : Hp) (x : V) (xs : List V) (v : Value) (us : List Value) (Q : VK), Inv X pins σ H s → RelV x v → Vals xs us → r x xs H Q →
    wpAny (model X.prog X.w) X.A (call (.builtin id) (v :: us)) (EP X pins σ Q) X.xe s

/-! ### lists of values -/
theorem Vals.one : ∀ {x : V} {us : List Value}, Vals [x] us → ∃ u, us = [u] ∧ RelV x u
  | _, _, .cons r .nil => ⟨_, rfl, r⟩
theorem Vals.eraseIdx : ∀ {xs : List V} {us : List Value} (i : Nat), Vals xs us → Vals (xs.eraseIdx i) (us.eraseIdx i)
  | _, _, _, .nil => .nil
  | _, _, 0, .cons _ t => t
  | _, _, i + 1, .cons r t => .cons r (Vals.eraseIdx i t)
theorem len_erase {α : Type} : ∀ (l : List α) (i : Nat), (l.eraseIdx i).length ≤ l.length
  | [], _ => Nat.le_refl _
  | _ :: _, 0 => Nat.le_succ _
  | _ :: r, i + 1 => Nat.succ_le_succ (len_erase r i)

section
variable {X : Cx} {pins : List (Addr × Obj)} {σ : St} {H : Hp} {s : Shared} {l b : Addr} {xs ys zs : List V}

/-! ### the two steps: a tracked list is rewritten, a new list is laid -/
theorem Inv.lset {its its' : List Value} {n : Nat} {f : Array Value → Array Value} {t' : Nat} (I : Inv X pins σ H s) (hH : H l = some (.lst xs))
    (e : s.heap.get? l = some { cls := .type "list", data := .seq its.toArray n }) (hf : f its.toArray = its'.toArray) (hv : Vals ys its') (hz : ys.length ≤ sizeLine) :
    Inv X pins σ (upd H l (.lst ys)) { s with heap := s.heap.update l (Obj.mapSeq f), toks := t' } := by
  have q := PySem.IsL.update e f
  rw [hf] at q
  refine I.write (x := l) (e := l) (by rw [hH]; exact trivial) (.inl rfl) (fun b' u hb hu => (Heap.get?_update_other s.heap (Obj.mapSeq f) (Ne.symm hb)).trans hu) ⟨_, q⟩ ?_
  exact ⟨hz, its', _, hv, q⟩
theorem Inv.lnew {its : List Value} {t' : Nat} (I : Inv X pins σ H s) (hv : Vals ys its) (hz : ys.length ≤ sizeLine) :
    Inv X pins σ (upd H s.heap.objs.size (.lst ys)) { s with heap := s.heap.push { cls := .type "list", data := .seq its.toArray }, toks := t' } :=
  I.laid (fun _ _ q => Heap.get?_push_of_some _ q) (Nat.le_refl _) ⟨hz, its, 0, hv, Heap.get?_push_size _ rfl⟩
theorem Inv.fresh (I : Inv X pins σ H s) : H s.heap.objs.size = none := I.hok.fresh (Nat.le_refl _)
theorem Inv.lstM (I : Inv X pins σ H s) (hH : H l = some (.lst xs)) : xs.length ≤ sizeLine ∧ ∃ (its : List Value) (n : Nat), Vals xs its ∧ xs.length = its.length ∧ s.heap.get? l = some { cls := .type "list", data := .seq its.toArray n } := by
  obtain ⟨z, its, n, r, e⟩ := I.hok l _ hH
  exact ⟨z, its, n, r, r.length, e⟩

theorem notLongL {n : Nat} (h : n ≤ sizeLine) : Builtin.List.listTooLong n = false := by
  unfold Builtin.List.listTooLong
  exact decide_eq_false (by omega)
end

section
variable {X : Cx}

/-! ### methods -/
def rAppend : V → List V → Hp → VK → Prop := fun x vs H Q => ∃ l xs y, x = .ref l ∧ vs = [y] ∧ H l = some (.lst xs) ∧ xs.length < sizeLine ∧ Q .non (upd H l (.lst (xs ++ [y])))
theorem mt_append : MtM X "list.append" rAppend := by
  intro pins s σ H x vs v us Q I rx rv h
  obtain ⟨l, xs, y, rfl, rfl, hH, hz, q⟩ := h
  cases rx
  obtain ⟨u, rfl, ru⟩ := rv.one
  obtain ⟨z, its, n, r, hl, e⟩ := I.lstM hH
  refine call_meets F.slot_list_append ⟨_, e, rfl⟩ F.entry_list_append (F.args_list_append_2 _ _) (PySem.list_append l its.toArray n u (by rw [List.size_toArray]; omega)) ⟨e, ?_⟩
  refine ⟨.non, _, I.lset (its' := its ++ [u]) hH e (by simp) (r.append (.cons ru .nil)) ?_, rfl, q⟩
  rw [List.length_append, List.length_singleton]
  omega

def rExtend : V → List V → Hp → VK → Prop := fun x vs H Q => ∃ l b xs zs, x = .ref l ∧ vs = [.ref b] ∧ H l = some (.lst xs) ∧ H b = some (.lst zs) ∧ xs.length + zs.length ≤ sizeLine ∧ Q .non (upd H l (.lst (xs ++ zs)))
theorem mt_extend : MtM X "list.extend" rExtend := by
  intro pins s σ H x vs v us Q I rx rv h
  obtain ⟨l, b, xs, zs, rfl, rfl, hH, hB, hz, q⟩ := h
  cases rx
  obtain ⟨u, rfl, ru⟩ := rv.one
  cases ru
  obtain ⟨z, its, n, r, hl, e⟩ := I.lstM hH
  obtain ⟨z2, its2, n2, r2, hl2, e2⟩ := I.lstM hB
  have hsz : its.toArray.size + its2.toArray.size ≤ sizeLine := by rw [List.size_toArray, List.size_toArray]; omega
  have hlong : ¬ (!its.toArray.isEmpty && Builtin.List.listTooLong (its.toArray.size + its2.toArray.size)) = true := by
    rw [notLongL hsz, Bool.and_false]
    exact Bool.false_ne_true
  refine call_meets F.slot_list_extend ⟨_, e, rfl⟩ F.entry_list_extend (F.args_list_extend_2 _ _)
    (AutoSeq1.list_extend_list_list_0 l its.toArray n b its2.toArray n2 hlong (by rw [List.size_toArray]; omega) (by omega)) ⟨e, e2, ?_⟩
  refine ⟨.non, _, I.lset (its' := its ++ its2) hH e (by simp) (r.append r2) ?_, rfl, q⟩
  rw [List.length_append]
  omega


def rPopAt : V → List V → Hp → VK → Prop := fun x vs H Q => ∃ l xs i k y, x = .ref l ∧ vs = [.int i] ∧ H l = some (.lst xs) ∧ -(2 ^ 63) ≤ i ∧ i < 2 ^ 63 ∧ seqIndex? i xs.length = some k ∧ xs[k]? = some y ∧ Q y (upd H l (.lst (xs.eraseIdx k)))
theorem mt_popAt : MtM X "list.pop" rPopAt := by
  intro pins s σ H x vs v us Q I rx rv h
  obtain ⟨l, xs, i, k, y, rfl, rfl, hH, h1, h2, hk, hy, q⟩ := h
  cases rx
  obtain ⟨u, rfl, ru⟩ := rv.one
  obtain ⟨t, rfl⟩ := ru
  obtain ⟨z, its, n, r, hl, e⟩ := I.lstM hH
  obtain ⟨w, hw, rw'⟩ := r.get hy
  refine call_meets F.slot_list_pop ⟨_, e, rfl⟩ F.entry_list_pop (F.args_list_pop_2 _ _)
    (MeetsSeq.list_pop_at l its.toArray n i t k w (fitsIndex_both h1 h2) (by rw [List.size_toArray, ← hl]; exact hk) (by rw [← Array.getElem?_toList]; exact hw) (by rw [List.size_toArray]; omega)) ⟨e, ?_⟩
  refine ⟨y, _, I.lset (its' := its.eraseIdx k) hH e ?_ (r.eraseIdx k) ?_, rw', q⟩
  · show its.toArray.eraseIdxIfInBounds k = (its.eraseIdx k).toArray
    rw [List.eraseIdxIfInBounds_toArray]
  · have := len_erase xs k
    omega



/-! ### list + list, list += list, list * int -/
def rCat : R2 := fun x y H Q => ∃ l b xs zs, x = .ref l ∧ y = .ref b ∧ H l = some (.lst xs) ∧ H b = some (.lst zs) ∧ xs.length + zs.length ≤ sizeLine ∧ ∀ p, H p = none → Q (.ref p) (upd H p (.lst (xs ++ zs)))
theorem op_cat : OpR X (binaryOp .Add) rCat := by
  intro pins s σ H x y v u Q I rx ry h
  obtain ⟨l, b, xs, zs, rfl, rfl, hH, hB, hz, q⟩ := h
  cases rx
  cases ry
  obtain ⟨z, its, n, r, hl, e⟩ := I.lstM hH
  obtain ⟨z2, its2, n2, r2, hl2, e2⟩ := I.lstM hB
  refine PySem.P.add_list e e2 ?_ (by rw [List.size_toArray, List.size_toArray]; omega)
  have ea : its.toArray ++ its2.toArray = (its ++ its2).toArray := by simp
  rw [ea]
  exact ⟨.ref _, _, I.lnew (t' := s.toks) (r.append r2) (by rw [List.length_append]; omega), rfl, q _ I.fresh⟩

/-! ### del xs[i] -/
end

/-! ### xs[a:b] = ys -/
section
variable {prog : Program} {w : World} {A : Around} {E : Value → Shared → Prop} {s : Shared}
set_option maxRecDepth 100000 in
end

section
variable {X : Cx}
end
end L2

namespace L2
open PySem PySem.Spec PyProof.Rows

theorem Vals.ints : ∀ {ns : List Int} {us : List Value}, Vals (ns.map V.int) us → IntsAre us ns
  | [], us, h => by
    rw [List.map_nil] at h
    cases h
    exact IntsAre.nil
  | n :: ns, us, h => by
    rw [List.map_cons] at h
    cases h with
    | cons r t =>
      obtain ⟨k, rfl⟩ := r
      exact IntsAre.cons n k (Vals.ints t)
theorem vals_of_ints : ∀ {us : List Value} {ns : List Int}, IntsAre us ns → Vals (ns.map V.int) us
  | _, _, .nil => by rw [List.map_nil]; exact Paired.nil
  | _, _, .cons n t h => by rw [List.map_cons]; exact Paired.cons (show RelV (V.int n) (Value.int n t) from ⟨t, rfl⟩) (vals_of_ints h)
theorem Vals.ref1 {a : Addr} {us : List Value} (r : Vals [V.ref a] us) : us = [Value.ref a] := by
  cases r with
  | cons r t =>
    cases t
    cases r
    rfl

/-! ### the library's walks over a list of ints, kept objects alone -/
section
variable {prog : Program} {w : World} {A : Around} {E : Value → Shared → Prop} {s : Shared} {l : Addr} {its : List Value} {ns : List Int} {Q : Value → Shared → Prop}
theorem max_raw (hh : A.handled = none) (hl : s.heap.IsList l its.toArray) (hi : IntsAre its ns) (hne : 0 < ns.length)
    (h : ∀ h' tk M t', (∀ b o, s.heap.get? b = some o → h'.get? b = some o) → M ∈ ns → (∀ a, a ∈ ns → a ≤ M) → Q (.int M t') { s with heap := h', toks := tk }) : wpAny (model prog w) A (call (.builtin "max") [.ref l]) Q E s := by
  obtain ⟨xs, e⟩ := hi.allInts.items
  have hn : numsOf (intItems xs).toList = ns := by rw [← e]; exact hi.numsOf
  rw [nums_intItems] at hn
  subst hn
  rw [e] at hl
  have hsz : 0 < xs.size := by simpa using hne
  refine PySem.max_intList hh hl hsz fun v h' tk hv hk => ?_
  obtain ⟨t, rfl⟩ := intItems_at hv
  obtain ⟨h1, h2⟩ := argBest_gt (numAt xs) (xs.size - 1)
  refine h h' tk _ t hk ?_ fun a ha => ?_
  · rw [numAt_eq]; exact PySem.getD_mem (by rw [List.length_map, Array.length_toList]; omega)
  · obtain ⟨j, hj, rfl⟩ := mem_getD ha
    rw [List.length_map, Array.length_toList] at hj
    rw [← numAt_eq]; exact h2 j (by omega)
theorem min_raw (hh : A.handled = none) (hl : s.heap.IsList l its.toArray) (hi : IntsAre its ns) (hne : 0 < ns.length)
    (h : ∀ h' tk M t', (∀ b o, s.heap.get? b = some o → h'.get? b = some o) → M ∈ ns → (∀ a, a ∈ ns → M ≤ a) → Q (.int M t') { s with heap := h', toks := tk }) : wpAny (model prog w) A (call (.builtin "min") [.ref l]) Q E s := by
  obtain ⟨xs, e⟩ := hi.allInts.items
  have hn : numsOf (intItems xs).toList = ns := by rw [← e]; exact hi.numsOf
  rw [nums_intItems] at hn
  subst hn
  rw [e] at hl
  have hsz : 0 < xs.size := by simpa using hne
  refine PySem.min_intList hh hl hsz fun v h' tk hv hk => ?_
  obtain ⟨t, rfl⟩ := intItems_at hv
  obtain ⟨h1, h2⟩ := argBest_lt (numAt xs) (xs.size - 1)
  refine h h' tk _ t hk ?_ fun a ha => ?_
  · rw [numAt_eq]; exact PySem.getD_mem (by rw [List.length_map, Array.length_toList]; omega)
  · obtain ⟨j, hj, rfl⟩ := mem_getD ha
    rw [List.length_map, Array.length_toList] at hj
    rw [← numAt_eq]; exact h2 j (by omega)
end

/-! ### the calls, by values (CallR of 03t; MtR of 06l) -/
section
variable {X : Cx}
/-- max(xs), min(xs) of a list of ints -/
def rMax (K : PySem.W.Frag) : List V → Hp → VK → Prop := fun vs H Q => ∃ (a : Addr) (ns : List Int), vs = [V.ref a] ∧ SqL K H a (ns.map V.int) ∧ 0 < ns.length ∧ ∀ m, m ∈ ns → (∀ y, y ∈ ns → y ≤ m) → Q (.int m) H
def rMin (K : PySem.W.Frag) : List V → Hp → VK → Prop := fun vs H Q => ∃ (a : Addr) (ns : List Int), vs = [V.ref a] ∧ SqL K H a (ns.map V.int) ∧ 0 < ns.length ∧ ∀ m, m ∈ ns → (∀ y, y ∈ ns → m ≤ y) → Q (.int m) H
theorem cr_max (hc : X.calm = true) : CallR X (.builtin "max") (rMax X.K) := by
  intro pins s σ H vs us Q I r h
  obtain ⟨a, ns, rfl, hs, hne, q⟩ := h
  obtain ⟨its, rv, hl, _⟩ := I.list hs
  rw [Vals.ref1 r]
  exact max_raw (I.ok.hd hc) hl.isList rv.ints hne fun h' tk m t' hk h1 h2 => ⟨.int _, H, I.kept hk, ⟨_, rfl⟩, q m h1 h2⟩
theorem cr_min (hc : X.calm = true) : CallR X (.builtin "min") (rMin X.K) := by
  intro pins s σ H vs us Q I r h
  obtain ⟨a, ns, rfl, hs, hne, q⟩ := h
  obtain ⟨its, rv, hl, _⟩ := I.list hs
  rw [Vals.ref1 r]
  exact min_raw (I.ok.hd hc) hl.isList rv.ints hne fun h' tk m t' hk h1 h2 => ⟨.int _, H, I.kept hk, ⟨_, rfl⟩, q m h1 h2⟩

/-! sorted, sort (fewer than 64 items: the library's own bound) -/
def rSorted (K : PySem.W.Frag) : List V → Hp → VK → Prop := fun vs H Q => ∃ (a : Addr) (ns : List Int), vs = [V.ref a] ∧ SqL K H a (ns.map V.int) ∧ ns.length < 64 ∧
  ∀ (ns' : List Int) (p : Addr), ns'.Perm ns → ns'.Pairwise (· ≤ ·) → H p = none → Q (.ref p) (upd H p (.lst (ns'.map V.int)))
theorem small64 {n : Nat} (h : n < 64) : n ≤ sizeLine := by rw [sizeLine_eq]; omega
theorem cr_sorted : CallR X (.builtin "sorted") (rSorted X.K) := by
  intro pins s σ H vs us Q I r h
  obtain ⟨a, ns, rfl, hs, h64, q⟩ := h
  obtain ⟨its, rv, hl, _⟩ := I.list hs
  rw [Vals.ref1 r]
  have hi := rv.ints
  refine PyProof.Rows.sorted_ints hl.isList hi (by rw [hi.length]; exact h64) fun out ns' h1 h2 h3 => ?_
  obtain ⟨ep, he'⟩ := PyProof.Rows.sortedAll_at s.heap its out
  have hlen : (ns'.map V.int).length ≤ sizeLine := by rw [List.length_map, h2.length_eq]; exact small64 h64
  exact ⟨.ref _, upd H (s.heap.objs.size + 1) (.lst (ns'.map V.int)), I.laid (t' := s.toks) (fun _ _ => PyProof.Rows.sortedAll_old) (Nat.le_succ _) ⟨hlen, out.toList, ep, vals_of_ints h1, he'⟩, rfl, q ns' _ h2 h3 (I.hok.fresh (Nat.le_succ _))⟩
end

/-! ### list.index, flat items -/
section
variable {X : Cx}
end

/-! ### type(x) of an own instance; is, is not of a module's class -/
section
variable {X : Cx}
end

/-! ### any(xs), all(xs) of a list of bools -/
section
variable {X : Cx}
end

/-! ### == and != of data at any depth: none, bools, ints, texts, lists, tuples -/
mutual
inductive Dp (K : PySem.W.Frag) (H : Hp) : V → PyData → Prop
  | non : Dp K H .non .none
  | bl (b : Bool) : Dp K H (.bl b) (.bool b)
  | int (i : Int) : Dp K H (.int i) (.int i)
  | str (x : Str) : Dp K H (.str x) (.str x)
  | lst {a : Addr} {xs : List V} {ds : List PyData} : SqL K H a xs → DpAll K H xs ds → Dp K H (.ref a) (.list ds)
  | tup {a : Addr} {xs : List V} {ds : List PyData} : SqT K H a xs → DpAll K H xs ds → Dp K H (.ref a) (.tuple ds)
inductive DpAll (K : PySem.W.Frag) (H : Hp) : List V → List PyData → Prop
  | nil : DpAll K H [] []
  | cons {v : V} {vs : List V} {d : PyData} {ds : List PyData} : Dp K H v d → DpAll K H vs ds → DpAll K H (v :: vs) (d :: ds)
end
section
variable {X : Cx} {pins : List (Addr × Obj)} {σ : St} {H : Hp} {s : Shared}
mutual
theorem Dp.reads (I : Inv X pins σ H s) : ∀ (d : PyData) (v : V) (u : Value), Dp X.K H v d → RelV v u → ∃ as, Reads s.heap u d as
  | .none, _, _, h, r => by
    cases h
    cases r
    exact ⟨_, Reads.none⟩
  | .bool b, _, _, h, r => by
    cases h
    cases r
    exact ⟨_, Reads.bool b⟩
  | .int i, _, _, h, r => by
    cases h
    obtain ⟨t, rfl⟩ := r
    exact ⟨_, Reads.int i t⟩
  | .str x, _, _, h, r => by
    cases h
    obtain ⟨t, rfl⟩ := r
    exact ⟨_, Reads.str x t⟩
  | .list ds, _, _, h, r => by
    cases h with
    | lst hs ha =>
      cases r
      obtain ⟨its, rv, ⟨o, n, ho, hc, _, hd⟩, _⟩ := I.list hs
      obtain ⟨as, hr⟩ := Dp.readsAll I ds _ its ha rv
      exact ⟨_, Reads.list ho hc hd hr⟩
  | .tuple ds, _, _, h, r => by
    cases h with
    | tup hs ha =>
      cases r
      obtain ⟨its, rv, ⟨o, ho, hc, n, hd⟩, _⟩ := I.tuple hs
      obtain ⟨as, hr⟩ := Dp.readsAll I ds _ its ha rv
      exact ⟨_, Reads.tuple ho hc hd hr⟩
  | .dict _, _, _, h, _ => by cases h
theorem Dp.readsAll (I : Inv X pins σ H s) : ∀ (ds : List PyData) (vs : List V) (us : List Value), DpAll X.K H vs ds → Vals vs us → ∃ as, ReadsAll s.heap us ds as
  | [], _, _, h, r => by
    cases h
    cases r
    exact ⟨_, ReadsAll.nil⟩
  | d :: ds, _, _, h, r => by
    cases h with
    | cons h1 h2 =>
      cases r with
      | cons r1 r2 =>
        obtain ⟨as, q1⟩ := Dp.reads I d _ _ h1 r1
        obtain ⟨bs, q2⟩ := Dp.readsAll I ds _ _ h2 r2
        exact ⟨_, ReadsAll.cons q1 q2⟩
end
end
section
variable {X : Cx}
end
end L2

namespace L2
open PySem PySem.Spec PyProof.Rows
abbrev CellAt (h : Heap) (c : Addr) (v : Option Value) : Prop := h.IsCell c v
def relS (scope sc : Scope) : Scope :=
  { scope with names := scope.names.map fun (n, k) => if (k == .free && sc.kind == .function && sc.names.lookup n == some .cell) then (n, .cell) else (n, k) }

def cloFrom (cells : List (Str × Addr)) : List (Str × NameKind) → List (Str × Addr) → List (Str × Addr)
  | [], acc => acc
  | (n, k) :: r, acc => if k == .free then cloFrom cells r ((n, (cells.lookup n).getD 0) :: acc) else cloFrom cells r acc

theorem closure_loop (env : Env) (f : Str × NameKind → List (Str × Addr) → Sem (ForInStep (List (Str × Addr))))
    (hf : ∀ n k c, f (n, k) c = if k == .free then (do let a ← cellOf env n; pure (.yield ((n, a) :: c))) else pure (.yield c)) :
    ∀ (names : List (Str × NameKind)) (acc : List (Str × Addr)), (∀ y ∈ names, y.2 = .free → ∃ c, env.cells.lookup y.1 = some c) → forIn names acc f = pure (cloFrom env.cells names acc)
  | [], acc, _ => by rw [List.forIn_nil]; rfl
  | (n, k) :: r, acc, h => by
    rw [List.forIn_cons, hf]
    have ih := fun acc => closure_loop env f hf r acc fun y hy => h y (List.mem_cons_of_mem _ hy)
    unfold cloFrom
    by_cases hk : (k == NameKind.free) = true
    · rw [if_pos hk, if_pos hk]
      obtain ⟨c, hc⟩ := h (n, k) List.mem_cons_self (by simpa using hk)
      have e : cellOf env n = pure c := by unfold cellOf; rw [hc]
      rw [e]
      have e2 : (env.cells.lookup n).getD 0 = c := by rw [hc]; rfl
      rw [e2]
      exact ih _
    · rw [if_neg hk, if_neg hk]
      exact ih _
theorem closure_ok {scope : Scope} {env : Env} (h : ∀ y ∈ scope.names, y.2 = .free → ∃ c, env.cells.lookup y.1 = some c) : closureFor scope env = pure (cloFrom env.cells scope.names []) := by
  simp only [closureFor]
  rw [closure_loop env _ (fun n k c => rfl) scope.names [] h]
  rfl

theorem mem_lookup {α : Type} : ∀ {l : List (Str × α)} {n : Str} {c : α}, (n, c) ∈ l → ∃ c', l.lookup n = some c'
  | (k, v) :: r, n, c, h => by
    rw [List.lookup_cons]
    cases hb : n == k with
    | true => exact ⟨_, rfl⟩
    | false =>
      rcases List.mem_cons.mp h with e | h
      · cases e; simp at hb
      · exact mem_lookup h

theorem cloFrom_mem {cells : List (Str × Addr)} : ∀ {names : List (Str × NameKind)} {acc : List (Str × Addr)} {n : Str} {c : Addr}, (n, c) ∈ cloFrom cells names acc → (n, c) ∈ acc ∨ ((n, .free) ∈ names ∧ c = (cells.lookup n).getD 0)
  | [], _, _, _, h => .inl h
  | (m, k) :: r, acc, n, c, h => by
    unfold cloFrom at h
    split at h
    · rename_i hk
      have hk : k = .free := by simpa using hk
      rcases cloFrom_mem h with h | ⟨h1, h2⟩
      · rcases List.mem_cons.mp h with e | h
        · cases e; exact .inr ⟨hk ▸ List.mem_cons_self, rfl⟩
        · exact .inl h
      · exact .inr ⟨List.mem_cons_of_mem _ h1, h2⟩
    · rcases cloFrom_mem h with h | ⟨h1, h2⟩
      · exact .inl h
      · exact .inr ⟨List.mem_cons_of_mem _ h1, h2⟩
theorem cloFrom_acc {cells : List (Str × Addr)} : ∀ {names : List (Str × NameKind)} {acc : List (Str × Addr)} {p : Str × Addr}, p ∈ acc → p ∈ cloFrom cells names acc
  | [], _, _, h => h
  | (m, k) :: r, acc, p, h => by
    unfold cloFrom
    split
    · exact cloFrom_acc (List.mem_cons_of_mem _ h)
    · exact cloFrom_acc h
theorem cloFrom_has {cells : List (Str × Addr)} : ∀ {names : List (Str × NameKind)} {acc : List (Str × Addr)} {n : Str}, (n, .free) ∈ names → (n, (cells.lookup n).getD 0) ∈ cloFrom cells names acc
  | (m, k) :: r, acc, n, h => by
    unfold cloFrom
    rcases List.mem_cons.mp h with e | h
    · cases e
      exact cloFrom_acc List.mem_cons_self
    · split
      · exact cloFrom_has h
      · exact cloFrom_has h

theorem cells_mem : ∀ {names : List (Str × NameKind)} {h : Heap} {acc : List (Str × Addr)} {x : Str} {c : Addr}, (x, c) ∈ cellsFrom h.objs.size names acc →
    (x, c) ∈ acc ∨ ((x, .cell) ∈ names ∧ h.objs.size ≤ c ∧ CellAt (pushCells h names) c none)
  | [], _, _, _, _, h => .inl h
  | (n, k) :: r, h, acc, x, c, hm => by
    unfold cellsFrom at hm
    unfold pushCells
    split at hm
    · rename_i hk
      rw [if_pos hk]
      have hk : k = .cell := by simpa using hk
      rw [← Heap.size_push h { cls := .type "cell", data := .cell none }] at hm
      rcases cells_mem hm with hm | ⟨h1, h2, h3⟩
      · rcases List.mem_cons.mp hm with e | hm
        · cases e
          exact .inr ⟨hk ▸ List.mem_cons_self, Nat.le_refl _, _, pushCells_keeps r _ _ _ (Heap.get?_push_size _ rfl), rfl⟩
        · exact .inl hm
      · rw [Heap.size_push] at h2
        exact .inr ⟨List.mem_cons_of_mem _ h1, Nat.le_of_succ_le h2, h3⟩
    · rename_i hk
      rw [if_neg hk]
      rcases cells_mem hm with hm | ⟨h1, h2, h3⟩
      · exact .inl hm
      · exact .inr ⟨List.mem_cons_of_mem _ h1, h2, h3⟩
theorem cells_acc : ∀ {names : List (Str × NameKind)} {n : Nat} {acc : List (Str × Addr)} {p : Str × Addr}, p ∈ acc → p ∈ cellsFrom n names acc
  | [], _, _, _, h => h
  | (m, k) :: r, n, acc, p, h => by
    unfold cellsFrom
    split
    · exact cells_acc (List.mem_cons_of_mem _ h)
    · exact cells_acc h
theorem cells_has : ∀ {names : List (Str × NameKind)} {n : Nat} {acc : List (Str × Addr)} {x : Str}, (x, .cell) ∈ names → ∃ c, (x, c) ∈ cellsFrom n names acc
  | (m, k) :: r, n, acc, x, h => by
    unfold cellsFrom
    rcases List.mem_cons.mp h with e | h
    · cases e
      exact ⟨n, cells_acc List.mem_cons_self⟩
    · split
      · exact cells_has h
      · exact cells_has h
theorem cells_inj : ∀ {names : List (Str × NameKind)} {h : Heap} {acc : List (Str × Addr)} {x y : Str} {c : Addr}, (∀ p ∈ acc, p.2 < h.objs.size) → (∀ x y c, (x, c) ∈ acc → (y, c) ∈ acc → x = y) →
    (x, c) ∈ cellsFrom h.objs.size names acc → (y, c) ∈ cellsFrom h.objs.size names acc → x = y
  | [], _, _, _, _, _, _, hi, h1, h2 => hi _ _ _ h1 h2
  | (n, k) :: r, h, acc, x, y, c, hl, hi, h1, h2 => by
    unfold cellsFrom at h1 h2
    split at h1
    · rename_i hk
      rw [if_pos hk] at h2
      rw [← Heap.size_push h { cls := .type "cell", data := .cell none }] at h1 h2
      refine cells_inj (h := h.push _) (fun p hp => ?_) (fun x y c a b => ?_) h1 h2
      · rw [Heap.size_push]
        rcases List.mem_cons.mp hp with rfl | hp
        · exact Nat.lt_succ_self _
        · exact Nat.lt_succ_of_lt (hl p hp)
      · rcases List.mem_cons.mp a with e | a <;> rcases List.mem_cons.mp b with e' | b
        · cases e; cases e'; rfl
        · cases e; exact absurd (hl _ b) (Nat.lt_irrefl _)
        · cases e'; exact absurd (hl _ a) (Nat.lt_irrefl _)
        · exact hi _ _ _ a b
    · rename_i hk
      rw [if_neg hk] at h2
      exact cells_inj hl hi h1 h2

theorem newEnv_comp {M : Model} {A : Around} {E : Value → Shared → Prop} {s : Shared} {scope : Scope} {globals : Addr} {closure : List (Str × Addr)} {qual : Str} {func : Option Addr} {code : Value} {around : Env} {builtins : Addr} {Q : Env → Shared → Prop}
    (h : Q (newEnv scope s.heap.objs.size globals (cellsFrom (s.heap.objs.size + 1) scope.names closure) qual func code (some around) builtins)
      { s with heap := pushCells (s.heap.push { cls := .type "dict", data := .dict #[] }) scope.names }) :
    wpAny M A (newFunctionEnv scope globals closure [] qual func code (some around) builtins) Q E s := by
  simp only [newFunctionEnv, Option.isSome_some, if_true]
  refine wpAny_bind (wpAny_alloc ?_)
  refine wpAny_bind (wpAny_layCells _ (fun n k c => rfl) scope.names closure _ _ ?_)
  rw [show ({ s with heap := s.heap.push { cls := .type "dict", data := .dict #[] } } : Shared).heap.objs.size = s.heap.objs.size + 1 from Heap.size_push ..]
  rw [List.forIn_nil]
  exact wpAny_bind (wpAny_pure (wpAny_pure h))

/-- every name of the written scope, in the scope that runs -/
theorem lookup_relS {sc : Scope} : ∀ {names : List (Str × NameKind)} {x : Str} {k : NameKind},
    (names.map fun (n, k) => if (k == NameKind.free && sc.kind == .function && sc.names.lookup n == some .cell) then (n, NameKind.cell) else (n, k)).lookup x = some k →
    ∃ k', names.lookup x = some k' ∧ (k = k' ∨ (k' = .free ∧ k = .cell))
  | [], _, _, h => by simp at h
  | (n, k₀) :: r, x, k, h => by
    have ih := @lookup_relS sc r x k
    have h' : List.lookup x ((if (k₀ == NameKind.free && sc.kind == .function && sc.names.lookup n == some .cell) = true then (n, NameKind.cell) else (n, k₀)) :: (r.map _)) = some k := h
    cases hx : x == n with
    | true =>
      simp only [List.lookup_cons, hx]
      by_cases hc : (k₀ == NameKind.free && sc.kind == .function && sc.names.lookup n == some .cell) = true
      · rw [if_pos hc] at h'
        simp only [List.lookup_cons, hx] at h'
        cases h'
        simp only [Bool.and_eq_true, beq_iff_eq] at hc
        exact ⟨k₀, rfl, .inr ⟨hc.1.1, rfl⟩⟩
      · rw [if_neg hc] at h'
        simp only [List.lookup_cons, hx] at h'
        cases h'
        exact ⟨_, rfl, .inl rfl⟩
    | false =>
      simp only [List.lookup_cons, hx]
      by_cases hc : (k₀ == NameKind.free && sc.kind == .function && sc.names.lookup n == some .cell) = true
      · rw [if_pos hc] at h'
        simp only [List.lookup_cons, hx] at h'
        exact ih h'
      · rw [if_neg hc] at h'
        simp only [List.lookup_cons, hx] at h'
        exact ih h'



/-- the names of a comprehension's block: its own (with their places in N), or captured -/
structure BlkOk (N : List Str) (sc scope : Scope) (own : List (Str × Nat)) : Prop where
  kind : scope.kind = .function
  uniq : ∀ y ∈ scope.names, scope.names.lookup y.1 = some y.2
  ix : ∀ p ∈ own, N[p.2]? = some p.1
  free : ∀ y ∈ scope.names, y.2 = .free → sc.names.lookup y.1 = some .cell ∨ sc.names.lookup y.1 = some .free
  own : ∀ y ∈ scope.names, y.2 = .local ∨ y.2 = .cell → y.1 ∈ own.map (·.1) ∨ y.1 ∉ N
/-- the slots of the block's own names forgotten -/
def wipe (σ : St) : List Nat → St
  | [] => σ
  | v :: vs => (wipe σ vs).set v none
theorem wipe_length (σ : St) : ∀ vs : List Nat, (wipe σ vs).length = σ.length
  | [] => rfl
  | v :: vs => by unfold wipe; rw [List.length_set, wipe_length σ vs]
theorem wipe_some {σ : St} {i : Nat} {x : V} : ∀ {vs : List Nat}, (wipe σ vs)[i]? = some (some x) → σ[i]? = some (some x) ∧ i ∉ vs
  | [], h => ⟨h, by simp⟩
  | v :: vs, h => by
    unfold wipe at h
    by_cases hi : v = i
    · subst hi
      by_cases hv : v < (wipe σ vs).length
      · rw [List.getElem?_set_self hv] at h; cases h
      · rw [List.getElem?_eq_none (by simpa using hv)] at h; cases h
    · rw [List.getElem?_set_ne hi] at h
      obtain ⟨h1, h2⟩ := wipe_some h
      exact ⟨h1, by simp only [List.mem_cons, not_or]; exact ⟨fun e => hi e.symm, h2⟩⟩

/-- the context of a block that starts at s, its iterator's objects at fp -/
abbrev Cx.blk (X : Cx) (s : Shared) (H : Hp) (scope : Scope) (cenv : Env) (fp : List Addr) : Cx := { X with s_0 := s, H_0 := H, env := cenv, outer := X.stack, ex := fp, fn := fun x => scope.names.lookup x == some .cell, pn := [], xe := fun _ _ => False }
section
variable {X : Cx} {pins : List (Addr × Obj)} {σ : St} {H : Hp} {s : Shared}
theorem block_start {scope : Scope} {own : List (Str × Nat)} {fp : List Addr} (I : Inv X pins σ H s) (ok : BlkOk X.N X.env.scope scope own) (hN : X.N.Nodup) (hfp : ∀ b ∈ fp, FpOk X pins H b ∧ b < s.heap.objs.size) :
    Inv (X.blk s H scope (compEnvC scope (cellsFrom (s.heap.objs.size + 1) scope.names (cloFrom X.env.cells scope.names [])) s.heap.objs.size X.env) fp) [] (wipe σ (own.map (·.2))) H { s with heap := pushCells (s.heap.push { cls := .type "dict", data := .dict #[] }) scope.names } := by
  have hfree : ∀ y ∈ scope.names, y.2 = .free → ∃ c, X.env.cells.lookup y.1 = some c := fun y hy e => by
    rcases ok.free y hy e with k | k
    · exact I.ok.has _ (.inl k)
    · exact I.ok.has _ (.inr k)
  generalize hcenv : compEnvC scope (cellsFrom (s.heap.objs.size + 1) scope.names (cloFrom X.env.cells scope.names [])) s.heap.objs.size X.env = cenv
  have kp : ∀ b o, s.heap.get? b = some o → (pushCells (s.heap.push { cls := .type "dict", data := .dict #[] }) scope.names).get? b = some o := fun b o e => pushCells_keeps _ _ _ _ (Heap.get?_push_of_some _ e)
  have hL : cenv.locals = s.heap.objs.size := by rw [← hcenv]; rfl
  have hcl : cenv.cells = cellsFrom (s.heap.objs.size + 1) scope.names (cloFrom X.env.cells scope.names []) := by rw [← hcenv]; rfl
  have hsc : cenv.scope = relS scope X.env.scope := by rw [← hcenv]; rfl
  rw [← Heap.size_push s.heap { cls := .type "dict", data := .dict #[] }] at hcl
  have cm : ∀ {y c}, (y, c) ∈ cloFrom X.env.cells scope.names [] → X.env.cells.lookup y = some c ∧ c < s.heap.objs.size := fun {y c} hm => by
    rcases cloFrom_mem hm with hm | ⟨h1, rfl⟩
    · cases hm
    · obtain ⟨c, hc⟩ := hfree _ h1 rfl
      rw [hc]
      obtain ⟨w, z⟩ := I.cell _ _ hc
      exact ⟨rfl, z.lt⟩
  have mem : ∀ {y c}, cenv.cells.lookup y = some c → (X.env.cells.lookup y = some c ∧ c < s.heap.objs.size) ∨ (s.heap.objs.size + 1 ≤ c ∧ CellAt (pushCells (s.heap.push { cls := .type "dict", data := .dict #[] }) scope.names) c none) := fun {y c} e => by
    rw [hcl] at e
    rcases cells_mem (PySem.mem_of_lookup e) with hm | ⟨_, h2, h3⟩
    · exact .inl (cm hm)
    · rw [Heap.size_push] at h2; exact .inr ⟨h2, h3⟩
  have look : ∀ {y}, scope.names.lookup y = some .free → ∃ c, cenv.cells.lookup y = some c ∧ X.env.cells.lookup y = some c := fun {y} hl => by
    have hy : (y, NameKind.free) ∈ scope.names := PySem.mem_of_lookup hl
    obtain ⟨c', e'⟩ := mem_lookup (cells_acc (names := scope.names) (n := (s.heap.push { cls := .type "dict", data := .dict #[] }).objs.size) (cloFrom_has (cells := X.env.cells) (acc := []) hy))
    rw [← hcl] at e'
    refine ⟨c', e', ?_⟩
    rw [hcl] at e'
    rcases cells_mem (PySem.mem_of_lookup e') with hm | ⟨h1, _, _⟩
    · exact (cm hm).1
    · have := ok.uniq _ h1
      rw [hl] at this; cases this
  have okB : (X.blk s H scope cenv fp).Ok := by
    refine ⟨I.ok.mod, by show cenv.scope.kind = _; rw [hsc]; exact ok.kind, by show cenv.globals = _; rw [← hcenv]; exact I.ok.glob, by show cenv.builtins = _; rw [← hcenv]; exact I.ok.blt, by show s.heap.objs.size ≤ cenv.locals; rw [hL]; exact Nat.le_refl _,
      fun y z c e1 e2 => ?_, fun y hy => ?_, fun y c z e => ?_, I.ok.hd, I.ok.frames, .inl rfl, fun b hb => ⟨?_, fun y c e z => ?_⟩, I.bs, Nat.le_trans I.ok.bsz I.sz, fun b o e hb => ?_, fun b hb z => ?_, I.stack, I.stkFree⟩
    · have e1 : cenv.cells.lookup y = some c := e1
      have e2 : cenv.cells.lookup z = some c := e2
      rw [hcl] at e1 e2
      refine cells_inj (fun p hp => ?_) (fun y z c a b => I.ok.inj y z c (cm a).1 (cm b).1) (PySem.mem_of_lookup e1) (PySem.mem_of_lookup e2)
      rw [Heap.size_push]
      exact Nat.lt_succ_of_lt (cm (y := p.1) (c := p.2) hp).2
    · show ∃ c, cenv.cells.lookup y = some c
      have key : ∀ k, cenv.kindOf y = some k → (k = .cell ∨ k = .free) → ∃ c, cenv.cells.lookup y = some c := fun k hk hk' => by
        unfold Env.kindOf at hk
        rw [hsc] at hk
        obtain ⟨k', e, r⟩ := lookup_relS hk
        have : k' = .cell ∨ k' = .free := by
          rcases r with rfl | ⟨rfl, _⟩
          · exact hk'
          · exact .inr rfl
        rcases this with rfl | rfl
        · obtain ⟨c, hm⟩ := cells_has (n := (s.heap.push { cls := .type "dict", data := .dict #[] }).objs.size) (acc := cloFrom X.env.cells scope.names []) (PySem.mem_of_lookup e)
          obtain ⟨c', e'⟩ := mem_lookup hm
          exact ⟨c', by rw [hcl]; exact e'⟩
        · obtain ⟨c, h1, _⟩ := look e
          exact ⟨c, h1⟩
      rcases hy with hy | hy
      · exact key _ hy (.inl rfl)
      · exact key _ hy (.inr rfl)
    · have z : (scope.names.lookup y == some NameKind.cell) = true := z
      have z : scope.names.lookup y = some .cell := by simpa using z
      have e : cenv.cells.lookup y = some c := e
      rw [hcl] at e
      rcases cells_mem (PySem.mem_of_lookup e) with hm | ⟨_, h2, _⟩
      · rcases cloFrom_mem hm with hm | ⟨h1, _⟩
        · cases hm
        · have q := ok.uniq _ h1
          rw [z] at q; cases q
      · rw [Heap.size_push] at h2
        exact Nat.le_of_succ_le h2
    · show b ≠ cenv.locals
      rw [hL]; exact Nat.ne_of_lt (hfp b hb).2
    · have e : cenv.cells.lookup y = some c := e
      rcases mem e with ⟨h1, _⟩ | ⟨h1, _⟩
      · exact (hfp b hb).1.2.2.2.2.1 y c h1 z
      · have h2 : s.heap.objs.size + 1 ≤ b := by rw [← z]; exact h1
        exact absurd (Nat.lt_of_lt_of_le (hfp b hb).2 (Nat.le_of_succ_le h2)) (Nat.lt_irrefl _)
    · rcases (hfp b hb).1.2.2.2.1 with z | z
      · exact I.ok.noex b o e z
      · exact absurd (Nat.lt_of_lt_of_le (Heap.lt_size e) (Nat.le_trans I.ok.bsz z)) (Nat.lt_irrefl _)
    · rcases List.mem_cons.mp (I.stkSub b z) with z | z
      · exact (hfp b hb).1.2.1 z
      · exact (hfp b hb).1.2.2.1 z
  refine ⟨okB, rfl, I.bare, Un.kept kp, ⟨fun _ => none, ?_, fun i y av e1 e2 e3 => ?_⟩, fun y c e => ?_, ?_, fun y c e => ?_, fun p hp => ?_, I.hok.kept kp, by rw [wipe_length]; exact I.len⟩
  · show Heap.Ns _ cenv.locals _
    rw [hL]
    exact Heap.Ns.keeps (Heap.Ns.new ..) fun b o e => pushCells_keeps _ _ _ _ e
  · obtain ⟨e2, hne⟩ := wipe_some e2
    have hfr : scope.names.lookup y = some .free ∧ (cenv.kindOf y = some .cell ∨ cenv.kindOf y = some .free) := by
      have key : ∀ k, cenv.scope.names.lookup y = some k → k = .local ∨ k = .cell ∨ k = .free → scope.names.lookup y = some .free ∧ (cenv.kindOf y = some .cell ∨ cenv.kindOf y = some .free) := fun k hk hk' => by
        have hk0 := hk
        rw [hsc] at hk
        obtain ⟨k', e, r⟩ := lookup_relS hk
        have no : ¬ (k' = .local ∨ k' = .cell) := fun hh => by
          rcases ok.own _ (PySem.mem_of_lookup e) hh with e' | e'
          · obtain ⟨p, hp, hpy⟩ := List.mem_map.mp e'
            have e3 := ok.ix p hp
            have : p.1 = y := hpy
            rw [this] at e3
            exact hne (List.mem_map.mpr ⟨p, hp, nodup_ix hN e3 e1⟩)
          · exact e' (List.mem_of_getElem? e1)
        rcases r with rfl | ⟨rfl, rfl⟩
        · rcases hk' with rfl | rfl | rfl
          · exact absurd (.inl rfl) no
          · exact absurd (.inr rfl) no
          · exact ⟨e, .inr hk0⟩
        · exact ⟨e, .inl hk0⟩
      have e3 : Vis cenv.scope y := e3
      rcases e3 with e3 | e3 | e3
      · exact key _ e3 (.inl rfl)
      · exact key _ e3 (.inr (.inl rfl))
      · exact key _ e3 (.inr (.inr rfl))
    obtain ⟨m, hn, hl⟩ := I.loc
    have hvis : Vis X.env.scope y := (ok.free _ (PySem.mem_of_lookup hfr.1) rfl).elim (fun k => .inr (.inl k)) (fun k => .inr (.inr k))
    obtain ⟨w, r, q⟩ := hl i y av e1 e2 hvis
    refine ⟨w, r, .inr ⟨hfr.2, ?_⟩⟩
    obtain ⟨c, h1, h2⟩ := look hfr.1
    rcases q with ⟨k, _⟩ | ⟨_, c', e', z⟩
    · have k : X.env.scope.names.lookup y = some .local := k
      rcases ok.free _ (PySem.mem_of_lookup hfr.1) rfl with k' | k' <;> rw [show X.env.scope.names.lookup y = _ from k'] at k <;> cases k
    · rw [h2] at e'; cases e'
      exact ⟨c, h1, z.keeps kp⟩
  · have e : cenv.cells.lookup y = some c := e
    rcases mem e with ⟨h1, _⟩ | ⟨_, z⟩
    · obtain ⟨w, z⟩ := I.cell y c h1
      exact ⟨w, z.keeps kp⟩
    · exact ⟨_, z⟩
  · show H cenv.locals = none
    rw [hL]; exact I.hok.fresh (Nat.le_refl _)
  · have e : cenv.cells.lookup y = some c := e
    rcases mem e with ⟨h1, _⟩ | ⟨h1, _⟩
    · exact I.freeC y c h1
    · exact I.hok.fresh (Nat.le_of_succ_le h1)
  · exact absurd (show p ∈ ([] : List (Addr × Obj)) ++ [] from hp) (by simp)

/-- an item appended to a tracked list -/
theorem app_ok {E : Value → Shared → Prop} {D : Addr} {xs : List V} {y : V} {v : Value} {Q : Value → Shared → Prop} (I : Inv X pins σ H s) (hD : H D = some (.lst xs)) (hz : xs.length < sizeLine) (r : RelV y v)
    (h : ∀ s', Inv X pins σ (upd H D (.lst (xs ++ [y]))) s' → Q .none s') : wpAny (model X.prog X.w) X.A (call (.builtin "list.append") [.ref D, v]) Q E s := by
  obtain ⟨hz', its, n, ri, e⟩ := I.hok D _ hD
  have hl := ri.length
  refine append_at (hsz := by rw [List.size_toArray]; omega) e fun h' sb ho' => ?_
  refine h { s with heap := h' } (I.write (t' := s.toks) (by rw [hD]; trivial) (.inl rfl) (fun b u hb q => (sb.2 b hb).trans q) ⟨_, ho'⟩ ⟨by rw [List.length_append]; exact hz, its ++ [v], n + 1, ri.append (.cons r .nil), ?_⟩)
  rw [ho']
  simp

/-- a clause's tests -/
def PTs (X : Cx) (ifs : List Expr) (t : TT) : Prop :=
  ∀ (pins : List (Addr × Obj)) (s : Shared) (σ : St) (H : Hp) (Q : Bool → Hp → Prop), Inv X pins σ H s → t σ H Q →
    wpAny (model X.prog X.w) X.A (forIn ifs true fun c r => if r = true then do let ok ← isTrue c X.env (eval c X.env); pure (ForInStep.yield ok) else pure (ForInStep.yield r)) (TP X pins σ Q) X.xe s
def tYes : TT := fun _ H Q => Q true H
theorem pts_nil : PTs X [] tYes := fun _ _ _ H _ I h => wpAny_tests_nil ⟨H, I, h⟩
theorem pts_one {c : Expr} {t : TT} (h : PT X c t) : PTs X [c] t := fun pins s σ H Q I hw => wpAny_tests_one (h pins s σ H Q I hw)
end

theorem thnF {α : Type} {t : Sem α} {Q Q' : α → Shared → Prop} {M : Model} {A : Around} {E : Value → Shared → Prop} {s : Shared} (h : wpAny M A t Q (fun _ _ => False) s) (hQ : ∀ a s, Q a s → Q' a s) : wpAny M A t Q' E s := wpAny_mono h hQ fun _ _ z => False.elim z

/-- the loop of a list comprehension's block, the target of any form (codeAny_compLoop_tests asks a target that no tuple goes to; statement and proof follow it, PyProof/CompMap.lean:41-61, with the step letOwnedTupleGo kept) -/
theorem compLoop_any {prog : Program} {w : World} {A : Around} {R : Result → Shared → Prop} {s : Shared} {elt target iter : Expr} {ifs : List Expr} {scope : Scope} {pos : Pos} {it acc : Value} {env : Env} (I : Nat → Shared → Prop)
    (turn : ∀ n s, I n s → wpAny (model prog w) A (pyNext it) (fun r s₁ => match r with
      | none => R (.ok .next) s₁
      | some v => wpAny (model prog w) A (letOwnedTupleGo target it v) (fun _ s₁' => wpAny (model prog w) A (assign target env v) (fun _ s₂ =>
          wpAny (model prog w) A (forIn ifs true fun c r => if r = true then do let ok ← isTrue c env (eval c env); pure (ForInStep.yield ok) else pure (ForInStep.yield r)) (fun ok s₃ =>
            if ok = true then wpAny (model prog w) A (eval elt env) (fun x s₄ =>
              wpAny (model prog w) A (call (.builtin "list.append") [acc, x]) (fun _ s₅ => ∃ m, m < n ∧ I m s₅) (notedBy (model prog w) A env fun e s' => R (.error e) s') s₄) (notedBy (model prog w) A env fun e s' => R (.error e) s') s₃
            else ∃ m, m < n ∧ I m s₃) (notedBy (model prog w) A env fun e s' => R (.error e) s') s₂) (notedBy (model prog w) A env fun e s' => R (.error e) s') s₁') (notedBy (model prog w) A env fun e s' => R (.error e) s') s₁) (notedBy (model prog w) A env fun e s' => R (.error e) s') s)
    (n : Nat) (h : I n s) :
    codeAny (model prog w) A (.compLoop (.ListComp elt [⟨target, iter, ifs, 0⟩] scope pos) 0 it acc env) R s := by
  refine codeAny_loop rfl I (fun n s hI => ?_) n h
  show wpAny _ A ((compTurn (.ListComp elt [⟨target, iter, ifs, 0⟩] scope pos) 0 it acc env).onRaise (fun x => do noteFrame x env; theTreesLotGoes x)) _ _ s
  refine wpAny_noted ?_
  rw [compTurn_list]
  refine wpAny_bind (wpAny_standAt (wpAny_bind (wpAny_mono (turn n s hI) (fun r s₁ h₁ => ?_) fun _ _ h' => h')))
  cases r with
  | none => exact wpAny_pure h₁
  | some v =>
    refine wpAny_bind (wpAny_mono h₁ (fun _ s₁' h₁' => ?_) fun _ _ h' => h')
    refine wpAny_bind (wpAny_mono h₁' (fun _ s₂ h₂ => wpAny_bind (wpAny_mono h₂ (fun ok s₃ h₃ => ?_) fun _ _ h' => h')) fun _ _ h' => h')
    cases ok with
    | false => exact wpAny_pure ⟨rfl, h₃⟩
    | true =>
      exact wpAny_bind (wpAny_bind (wpAny_mono h₃ (fun x s₄ h₄ => wpAny_bind (wpAny_mono h₄ (fun _ s₅ h₅ => wpAny_pure (wpAny_pure ⟨rfl, h₅⟩)) fun _ _ h' => h')) fun _ _ h' => h'))

section
variable {X : Cx}
/-- [elt for target in iter if ..]: D the new list; W by the turn and a measure, Nx what a turn is to reach -/
def tLc (wi : TI) (g : TG) (tt : TT) (te : TE) (vs : List Nat) : TE := fun σ H Q => wi σ H fun J H1 => ∀ D, H1 D = none → ∃ W : Nat → Nat → Hp → Prop, (∃ m, W 0 m (upd H1 D (.lst []))) ∧ ∀ i m H, W i m H →
  (J.stop i H ∧ Q (.ref D) H) ∨ (J.go i H ∧ ∃ Nx : Hp → Prop, (∀ H', Nx H' → ∃ m', m' < m ∧ W (i + 1) m' H') ∧ ∀ x H', J.yld i H x H' → g x (wipe σ vs) H' fun σ2 H2 => wipe σ2 vs = wipe σ vs ∧ tt σ2 H2 fun b H3 =>
    if b = true then te σ2 H3 fun y H4 => ∃ acc, H4 D = some (.lst acc) ∧ acc.length < sizeLine ∧ Nx (upd H4 D (.lst (acc ++ [y]))) else Nx H3)
theorem lc_core {pins : List (Addr × Obj)} {s : Shared} {σ : St} {H : Hp} {Q : VK} {elt tg iter : Expr} {ifs : List Expr} {scope : Scope} {own : List (Str × Nat)} {pos pos' : Pos} {wi : TI} {g : TG} {tt : TT} {te : TE} {use : Option (Value → Sem Unit)} {Qf : Value → Shared → Prop}
    (hc : X.calm = true) (hN : X.N.Nodup) (I : Inv X pins σ H s) (hi : PI X tg iter wi) (ok : BlkOk X.N X.env.scope scope own)
    (hg : ∀ (s : Shared) (H : Hp) (C : Addr) (cl : List (Str × Addr)) (fp : List Addr), PG (X.blk s H scope (compEnvC scope cl C X.env) fp) tg g) (ht : ∀ (s : Shared) (H : Hp) (C : Addr) (cl : List (Str × Addr)) (fp : List Addr), PTs (X.blk s H scope (compEnvC scope cl C X.env) fp) ifs tt)
    (he : ∀ (s : Shared) (H : Hp) (C : Addr) (cl : List (Str × Addr)) (fp : List Addr), PE (X.blk s H scope (compEnvC scope cl C X.env) fp) elt te) (hs : ∀ x, foldedSetIterable iter X.env x = pure x)
    (h : tLc wi g tt te (own.map (·.2)) σ H Q)
    (hRR : ∀ D C s' m H', Inv X pins σ H' s' → Q (.ref D) H' → s'.heap.Ns C m → FpOk X pins H' C → compPost (model X.prog X.w) X.A X.xe use Qf (.ref D) C (.ok .next) s') :
    wpAny (model X.prog X.w) X.A (comprehension (.ListComp elt [⟨tg, iter, ifs, 0⟩] scope pos) scope X.env pos' (newList []) false (eval iter X.env) use) Qf X.xe s := by
  have hfree : ∀ y ∈ scope.names, y.2 = .free → ∃ c, X.env.cells.lookup y.1 = some c := fun y hy e => by
    rcases ok.free y hy e with k | k
    · exact I.ok.has _ (.inl k)
    · exact I.ok.has _ (.inr k)
  refine wpAny_comprehension_free (use := use) rfl hs (closure_ok hfree) ok.kind (fun y hy e => by rw [ok.uniq y hy, e])
    (thn (hi pins s σ H _ I h) fun xv s1 hx => thn hx fun itv s2 h2 => ?_)
  obtain ⟨it, fp, tn, J, H2, e, I2, T, st2, f2, q⟩ := h2
  subst e
  refine wpAny_newObj_type (newEnv_comp ?_) (by show 0 ≤ sizeLine; decide)
  generalize hD : s2.heap.objs.size = D
  have hDn : H2 D = none := I2.hok.fresh (Nat.le_of_eq hD)
  obtain ⟨W, ⟨m0, w0⟩, turn⟩ := q D hDn
  -- the new list
  generalize hs3 : ({ s2 with heap := s2.heap.push { cls := .type "list", data := .seq ([] : List Value).toArray } } : Shared) = s3
  have I3 : Inv X pins σ (upd H2 D (.lst [])) s3 := by
    rw [← hs3]
    refine I2.laid (t' := s2.toks) (fun b o e => Heap.get?_push_of_some _ e) (Nat.le_of_eq hD) ⟨Nat.zero_le _, [], 0, .nil, ?_⟩
    rw [← hD]
    exact Heap.get?_push_size _ rfl
  have h3 : s3.heap = s2.heap.push { cls := .type "list", data := .seq ([] : List Value).toArray } := by rw [← hs3]
  have sz : ∀ b ∈ fp, b < s2.heap.objs.size := fun b hb => by
    obtain ⟨o, e, _⟩ := T.obj _ _ st2 b hb
    exact Heap.lt_size e
  have f3 : ∀ b ∈ fp, FpOk X pins (upd H2 D (.lst [])) b ∧ b < s3.heap.objs.size := fun b hb => by
    have hlt := sz b hb
    refine ⟨⟨?_, (f2 b hb).2⟩, by rw [h3, Heap.size_push]; exact Nat.lt_succ_of_lt hlt⟩
    rw [upd_ne (by rw [← hD]; exact Nat.ne_of_lt hlt)]
    exact (f2 b hb).1
  have st3 : tn 0 s3.heap := T.keep _ _ _ st2 fun b _ o e => by rw [h3]; exact Heap.get?_push_of_some _ e
  have I4 := block_start I3 ok hN f3
  have pg := hg s3 (upd H2 D (.lst [])) s3.heap.objs.size (cellsFrom (s3.heap.objs.size + 1) scope.names (cloFrom X.env.cells scope.names [])) fp
  have pt := ht s3 (upd H2 D (.lst [])) s3.heap.objs.size (cellsFrom (s3.heap.objs.size + 1) scope.names (cloFrom X.env.cells scope.names [])) fp
  have pe := he s3 (upd H2 D (.lst [])) s3.heap.objs.size (cellsFrom (s3.heap.objs.size + 1) scope.names (cloFrom X.env.cells scope.names [])) fp
  show codeAny _ _ (.compStart (.ListComp elt [⟨tg, iter, ifs, 0⟩] scope pos) 0 (.ref it) (.ref D) (compEnvC scope (cellsFrom (s3.heap.objs.size + 1) scope.names (cloFrom X.env.cells scope.names [])) s3.heap.objs.size X.env)) (compPost (model X.prog X.w) X.A X.xe use Qf (.ref D) s3.heap.objs.size) { s3 with heap := pushCells (s3.heap.push { cls := .type "dict", data := .dict #[] }) scope.names }
  have nfp : ∀ b ∈ fp, (upd H2 D (.lst [])) b = none := fun b hb => (f3 b hb).1.1
  generalize hce : compEnvC scope (cellsFrom (s3.heap.objs.size + 1) scope.names (cloFrom X.env.cells scope.names [])) s3.heap.objs.size X.env = ce at I4 pg pt pe ⊢
  have cL : ce.locals = s3.heap.objs.size := by subst hce; rfl
  generalize hH3 : upd H2 D (.lst []) = H3 at I3 I4 pg pt pe w0 nfp f3
  generalize hs4 : ({ s3 with heap := pushCells (s3.heap.push { cls := .type "dict", data := .dict #[] }) scope.names } : Shared) = s4 at I4 ⊢
  have st4 : tn 0 s4.heap := T.keep _ _ _ st3 fun b _ o e => by rw [← hs4]; exact pushCells_keeps _ _ _ _ (Heap.get?_push_of_some _ e)
  have stat : ∀ {σ' : St} {H' : Hp} {s' : Shared}, Inv (X.blk s3 H3 scope ce fp) [] σ' H' s' → (∀ b ∈ fp, H' b = none) → ∀ b ∈ fp, FpOk (X.blk s3 H3 scope ce fp) [] H' b := fun {σ' H' s'} I' hn b hb =>
    ⟨hn b hb, (I'.ok.exf b hb).1, I'.ok.exfs b hb, .inl hb, fun x c e => (I'.ok.exf b hb).2 x c e, fun p hp => absurd (show p ∈ ([] : List (Addr × Obj)) ++ [] from hp) (by simp)⟩
  have loop : codeAny (model X.prog X.w) X.A (.compLoop (.ListComp elt [⟨tg, iter, ifs, 0⟩] scope pos) 0 (.ref it) (.ref D) ce) (compPost (model X.prog X.w) X.A X.xe use Qf (.ref D) s3.heap.objs.size) s4 := by
    refine compLoop_any (fun n s' => ∃ i H', Inv (X.blk s3 H3 scope ce fp) [] (wipe σ (own.map (·.2))) H' s' ∧ tn i s'.heap ∧ (∀ b ∈ fp, H' b = none) ∧ W i n H') ?_ m0 ⟨0, H3, I4, st4, nfp, w0⟩
    rintro n s5 ⟨i, H5, I5, st5, n5, w5⟩
    rcases turn i n H5 w5 with ⟨stop, qq⟩ | ⟨go, Nx, hNx, step⟩
    · have td := T.done (X.blk s3 H3 scope ce fp) rfl rfl rfl hc i [] s5 _ H5 (fun _ _ => False) I5 (stat I5 n5) st5 stop
      refine thnF td fun r s6 ⟨hr, I6⟩ => ?_
      subst hr
      -- back in the def's context
      have I7 : Inv X pins σ H5 s6 := I3.call' (ch := fp) I6.os I6.base I6.hok I6.bare fun b hb => ⟨(f3 b hb).1.2.2.2.1, (f3 b hb).1.2.1, (f3 b hb).1.2.2.2.2.1, (f3 b hb).1.2.2.2.2.2⟩
      have nC : H5 s3.heap.objs.size = none := by
        have z : H5 ce.locals = none := I6.free
        rw [cL] at z
        exact z
      obtain ⟨m, hn, _⟩ := I6.loc
      have hn : s6.heap.Ns ce.locals m := hn
      rw [cL] at hn
      exact hRR D s3.heap.objs.size s6 m H5 I7 qq hn (I3.fpOk (Nat.le_refl _) nC)
    · have ti := T.item (X.blk s3 H3 scope ce fp) rfl rfl rfl hc i [] s5 _ H5 (fun _ _ => False) I5 (stat I5 n5) st5 go
      refine thnF ti fun r s6 ⟨u, hr, h6⟩ => ?_
      subst hr
      refine thnF h6 fun _ s7 ⟨x, H7, I7, r7, y7, st7, n7⟩ => ?_
      have I7' := I7.pinned (stat I7 n7) (T.obj _ _ st7)
      refine thnF (pg _ s7 _ H7 x u _ I7' r7 (step x H7 y7)) fun _ s8 ⟨σ8, H8, I8, hw8, q8⟩ => ?_
      refine thnF (pt _ s8 σ8 H8 _ I8 q8) fun b s9 ⟨H9, I9, q9⟩ => ?_
      -- the turn's end
      have fin : ∀ {s' : Shared} {H' : Hp}, Inv (X.blk s3 H3 scope ce fp) ([] ++ pinsAt fp s7.heap) σ8 H' s' → Nx H' → ∃ m, m < n ∧ ∃ i H', Inv (X.blk s3 H3 scope ce fp) [] (wipe σ (own.map (·.2))) H' s' ∧ tn i s'.heap ∧ (∀ b ∈ fp, H' b = none) ∧ W i m H' := fun {s' H'} I' nx => by
        obtain ⟨m', hm, w'⟩ := hNx H' nx
        have pin' : ∀ b ∈ fp, ∀ o, s7.heap.get? b = some o → s'.heap.get? b = some o ∧ H' b = none := fun b hb o e =>
          let z := I'.pin (b, o) (List.mem_append_right _ (List.mem_append_right _ (mem_pinsAt hb e)))
          ⟨z.1, z.2.1⟩
        have hl : (wipe σ (own.map (·.2))).length = σ8.length := by rw [← hw8, wipe_length]
        refine ⟨m', hm, i + 1, H', (I'.unpinned (pins := [])).weak hl (fun j v e => ?_), T.keep _ _ _ st7 fun b hb o e => (pin' b hb o e).1, fun b hb => ?_, w'⟩
        · rw [← hw8] at e
          exact (wipe_some e).1
        · obtain ⟨o, e, _⟩ := T.obj _ _ st7 b hb
          exact (pin' b hb o e).2
      cases b with
      | false =>
        simp only [Bool.false_eq_true, if_false] at q9 ⊢
        exact fin I9 q9
      | true =>
        simp only [if_true] at q9 ⊢
        refine thnF (pe _ s9 σ8 H9 _ I9 q9) fun z s10 ⟨yv, H10, I10, r10, acc, hD10, hz10, nx⟩ => ?_
        exact app_ok (X := X.blk s3 H3 scope ce fp) I10 hD10 hz10 r10 fun s11 I11 => fin I11 nx
  exact codeAny_compStart_list loop (T.self X.A 0 _ _ _ st4 loop)
/-- as a value -/
theorem pe_lc {elt tg iter : Expr} {ifs : List Expr} {scope : Scope} {own : List (Str × Nat)} {pos : Pos} {wi : TI} {g : TG} {tt : TT} {te : TE} (hc : X.calm = true) (hN : X.N.Nodup) (hi : PI X tg iter wi) (ok : BlkOk X.N X.env.scope scope own)
    (hg : ∀ (s : Shared) (H : Hp) (C : Addr) (cl : List (Str × Addr)) (fp : List Addr), PG (X.blk s H scope (compEnvC scope cl C X.env) fp) tg g) (ht : ∀ (s : Shared) (H : Hp) (C : Addr) (cl : List (Str × Addr)) (fp : List Addr), PTs (X.blk s H scope (compEnvC scope cl C X.env) fp) ifs tt)
    (he : ∀ (s : Shared) (H : Hp) (C : Addr) (cl : List (Str × Addr)) (fp : List Addr), PE (X.blk s H scope (compEnvC scope cl C X.env) fp) elt te) (hs : ∀ x, foldedSetIterable iter X.env x = pure x := by intro _; rfl) :
    PE X (.ListComp elt [⟨tg, iter, ifs, 0⟩] scope pos) (tLc wi g tt te (own.map (·.2))) := by
  intro pins s σ H Q I h
  rw [eval_ListComp]
  refine lc_core hc hN I hi ok hg ht he hs h fun D C s' m H' I' q hn f => ⟨m, hn, fun h'' sb => ?_⟩
  obtain ⟨f0, f1, f2, f3, f4, f5⟩ := f
  exact ⟨.ref D, H', I'.turned (t' := s'.toks) (fun b o hb e => (sb.2 b hb).trans e) f0 f1 f3 f4 f5, rfl, q⟩
/-- name = [..] on one line, the name a local -/
theorem ps_setLc {i : Nat} {y : Str} {py : Pos} {elt tg iter : Expr} {ifs : List Expr} {scope : Scope} {own : List (Str × Nat)} {pos spos : Pos} {wi : TI} {g : TG} {tt : TT} {te : TE} (hc : X.calm = true) (hN : X.N.Nodup) (hy : X.N[i]? = some y) (hyl : X.env.scope.names.lookup y = some .local)
    (hsw : swapsWith (.ListComp elt [⟨tg, iter, ifs, 0⟩] scope pos) (some (.Name y py)) spos.line X.env = pure true) (hi : PI X tg iter wi) (ok : BlkOk X.N X.env.scope scope own)
    (hg : ∀ (s : Shared) (H : Hp) (C : Addr) (cl : List (Str × Addr)) (fp : List Addr), PG (X.blk s H scope (compEnvC scope cl C X.env) fp) tg g) (ht : ∀ (s : Shared) (H : Hp) (C : Addr) (cl : List (Str × Addr)) (fp : List Addr), PTs (X.blk s H scope (compEnvC scope cl C X.env) fp) ifs tt)
    (he : ∀ (s : Shared) (H : Hp) (C : Addr) (cl : List (Str × Addr)) (fp : List Addr), PE (X.blk s H scope (compEnvC scope cl C X.env) fp) elt te) (hs : ∀ x, foldedSetIterable iter X.env x = pure x := by intro _; rfl) :
    PS X (.Assign [.Name y py] (.ListComp elt [⟨tg, iter, ifs, 0⟩] scope pos) spos) (tAsg (tLc wi g tt te (own.map (·.2))) (gName i)) := by
  intro pins s σ H D I h
  rw [exec_Assign_Name_used _ _ _ _ hsw]
  refine wpAny_bind (wpAny_standAt (wpAny_bind ?_))
  show wpAny _ X.A (do let _ ← comprehension (.ListComp elt [⟨tg, iter, ifs, 0⟩] scope pos) scope X.env (firstIterPos [⟨tg, iter, ifs, 0⟩] pos) (newList []) false (eval iter X.env) (some (assign (.Name y py) X.env))) _ _ s
  have h : tLc wi g tt te (own.map (·.2)) σ H (fun x H1 => gName i x σ H1 D.nx) := h
  refine wpAny_bind (thn (lc_core (Qf := fun _ s' => SP X pins D .next s') hc hN I hi ok hg ht he hs h fun L C s' m H' I' q hn f => ?_) fun _ s' hq => wpAny_pure (wpAny_pure hq))
  show wpAny _ _ (assign (.Name y py) X.env (.ref L)) _ _ _
  refine wpAny_assign_Name (store_ok2 (v := V.ref L) I' hN hy (.inl hyl) rfl (fun s2 I2 ⟨a, sb, ha⟩ => ?_) (.inr hyl))
  obtain ⟨f0, f1, f2, f3, f4, f5⟩ := f
  have haC : C ≠ a := by
    rcases ha with z | z
    · rw [z]; exact f1
    · exact fun e => f4 y a z e.symm
  refine ⟨m, hn.sameBut sb haC, fun h3 sb3 => ?_⟩
  exact ⟨_, H', I2.turned (t' := s2.toks) (fun b o hb e => (sb3.2 b hb).trans e) f0 f1 f3 f4 f5, q⟩
end

/-! ### the forms one uses -/
/-- over a range: Pv by the turn and the heap (the new list at D within) -/
theorem lc_range {lo : Int} {n : Nat} {g : TG} {tt : TT} {te : TE} {vs : List Nat} {σ : St} {H1 : Hp} {D : Addr} {Qd : Hp → Prop} (Pv : Nat → Hp → Prop) (h0 : Pv 0 (upd H1 D (.lst [])))
    (hs : ∀ i H, i < n → Pv i H → g (.int (lo + i)) (wipe σ vs) H fun σ2 H2 => wipe σ2 vs = wipe σ vs ∧ tt σ2 H2 fun b H3 =>
      if b = true then te σ2 H3 fun y H4 => ∃ acc, H4 D = some (.lst acc) ∧ acc.length < sizeLine ∧ Pv (i + 1) (upd H4 D (.lst (acc ++ [y]))) else Pv (i + 1) H3) (hd : ∀ H, Pv n H → Qd H) :
    ∃ W : Nat → Nat → Hp → Prop, (∃ m, W 0 m (upd H1 D (.lst []))) ∧ ∀ i m H, W i m H →
      ((Itr lo n).stop i H ∧ Qd H) ∨ ((Itr lo n).go i H ∧ ∃ Nx : Hp → Prop, (∀ H', Nx H' → ∃ m', m' < m ∧ W (i + 1) m' H') ∧ ∀ x H', (Itr lo n).yld i H x H' → g x (wipe σ vs) H' fun σ2 H2 => wipe σ2 vs = wipe σ vs ∧ tt σ2 H2 fun b H3 =>
        if b = true then te σ2 H3 fun y H4 => ∃ acc, H4 D = some (.lst acc) ∧ acc.length < sizeLine ∧ Nx (upd H4 D (.lst (acc ++ [y]))) else Nx H3) := by
  refine ⟨fun i m H => m = n - i ∧ i ≤ n ∧ Pv i H, ⟨n, by simp, Nat.zero_le _, h0⟩, ?_⟩
  rintro i m H ⟨rfl, hi, p⟩
  by_cases hlt : i < n
  · refine .inr ⟨hlt, Pv (i + 1), fun H' p' => ⟨n - (i + 1), by omega, rfl, hlt, p'⟩, fun x H' y => ?_⟩
    obtain ⟨e, y⟩ := y
    subst e y
    exact hs i _ hlt p
  · have e : i = n := by omega
    subst e
    exact .inl ⟨Nat.le_refl _, hd H p⟩
/-- over a list that the block leaves as it is -/
theorem lc_list {K : PySem.W.Frag} {a : Addr} {xs : List V} {g : TG} {tt : TT} {te : TE} {vs : List Nat} {σ : St} {H1 : Hp} {D : Addr} {Qd : Hp → Prop} (Pv : Nat → Hp → Prop) (h0 : Pv 0 (upd H1 D (.lst []))) (hl : ∀ i H, i ≤ xs.length → Pv i H → SqL K H a xs)
    (hs : ∀ i x H, xs[i]? = some x → Pv i H → g x (wipe σ vs) H fun σ2 H2 => wipe σ2 vs = wipe σ vs ∧ tt σ2 H2 fun b H3 =>
      if b = true then te σ2 H3 fun y H4 => ∃ acc, H4 D = some (.lst acc) ∧ acc.length < sizeLine ∧ Pv (i + 1) (upd H4 D (.lst (acc ++ [y]))) else Pv (i + 1) H3) (hd : ∀ H, Pv xs.length H → Qd H) :
    ∃ W : Nat → Nat → Hp → Prop, (∃ m, W 0 m (upd H1 D (.lst []))) ∧ ∀ i m H, W i m H →
      ((Itl K a).stop i H ∧ Qd H) ∨ ((Itl K a).go i H ∧ ∃ Nx : Hp → Prop, (∀ H', Nx H' → ∃ m', m' < m ∧ W (i + 1) m' H') ∧ ∀ x H', (Itl K a).yld i H x H' → g x (wipe σ vs) H' fun σ2 H2 => wipe σ2 vs = wipe σ vs ∧ tt σ2 H2 fun b H3 =>
        if b = true then te σ2 H3 fun y H4 => ∃ acc, H4 D = some (.lst acc) ∧ acc.length < sizeLine ∧ Nx (upd H4 D (.lst (acc ++ [y]))) else Nx H3) := by
  refine ⟨fun i m H => m = xs.length - i ∧ i ≤ xs.length ∧ Pv i H, ⟨xs.length, by simp, Nat.zero_le _, h0⟩, ?_⟩
  rintro i m H ⟨rfl, hi, p⟩
  have q := hl i H hi p
  by_cases hlt : i < xs.length
  · refine .inr ⟨⟨xs, xs[i], q, by simp [hlt]⟩, Pv (i + 1), fun H' p' => ⟨xs.length - (i + 1), by omega, rfl, hlt, p'⟩, fun x H' y => ?_⟩
    obtain ⟨e, y⟩ := y
    subst e
    exact hs i x _ (y xs q) p
  · have e : i = xs.length := by omega
    subst e
    exact .inl ⟨⟨xs, q, Nat.le_refl _⟩, hd H p⟩
def blkC (N : List Str) (sc scope : Scope) (own : List (Str × Nat)) : Bool :=
  (match scope.kind with | .function => true | _ => false) && (scope.names.all fun y => decide (scope.names.lookup y.1 = some y.2)) && (own.all fun p => decide (N[p.2]? = some p.1)) &&
    (scope.names.all fun y => match y.2 with
      | .free => (match sc.names.lookup y.1 with | some .cell => true | some .free => true | _ => false)
      | .local => decide (y.1 ∈ own.map (·.1)) || decide (y.1 ∉ N)
      | .cell => decide (y.1 ∈ own.map (·.1)) || decide (y.1 ∉ N)
      | _ => true)
theorem blkOk_by {N : List Str} {sc scope : Scope} {own : List (Str × Nat)} (h : blkC N sc scope own = true) : BlkOk N sc scope own := by
  unfold blkC at h
  simp only [Bool.and_eq_true, List.all_eq_true, decide_eq_true_eq] at h
  obtain ⟨⟨⟨h1, h2⟩, h3⟩, h4⟩ := h
  refine ⟨?_, h2, h3, fun y hy e => ?_, fun y hy e => ?_⟩
  · split at h1
    · assumption
    · cases h1
  · have q := h4 y hy
    simp only [e] at q
    split at q <;> first | exact .inl (by assumption) | exact .inr (by assumption) | cases q
  · have q := h4 y hy
    rcases e with e | e <;> (simp only [e, Bool.or_eq_true, decide_eq_true_eq] at q; exact q)
end L2

namespace L2
open PySem PySem.Spec PyProof.Rows


section
variable {prog : Program} {w : World} {A : Around} {R : Result → Shared → Prop} {s : Shared} {elt t0 i0 t1 i1 : Expr} {ifs0 ifs1 : List Expr} {scope : Scope} {pos : Pos} {it acc : Value} {env : Env}
end

section
variable {X : Cx}
end
end L2

namespace L2
open PySem PySem.Spec PyProof.Rows

/-! ### lists of pairs as tables -/
section
variable {κ : Type} [DecidableEq κ]



end


/-! ### a tracked dict, its keys ints and texts or tuples of these -/


section
variable {P : Program} {w : World} {H : Hp} {h : Heap} {a : Addr}
end



section
variable {X : Cx} {pins : List (Addr × Obj)} {σ : St} {H : Hp} {s : Shared} {a : Addr} {y v : V} {u r : Value} {o : Option V} {A : Around} {E : Value → Shared → Prop}


end

section
variable {X : Cx} {pins : List (Addr × Obj)} {σ : St} {H : Hp} {s : Shared} {a : Addr} {kvs : List (Key × V)} {k : Key} {u : Value} {A : Around} {E : Value → Shared → Prop}
end


/-! ### readings and rules -/



section
variable {X : Cx} {o i e value : Expr} {pos pos' tpos : Pos} {td ty tv : TE}
end


/-! ### displays -/
section
variable {X : Cx} {pos : Pos}
end




/-! ### methods -/


section
variable {X : Cx} {pins : List (Addr × Obj)} {σ : St} {H : Hp} {s : Shared} {a : Addr} {y d : V} {u r : Value} {o : Option V} {A : Around} {E : Value → Shared → Prop}
end

section
variable {X : Cx} {o e f : Expr} {apos cpos : Pos} {td ty tx : TE}
end

/-! ### dict(d): a copy -/
section
variable {X : Cx} {pins : List (Addr × Obj)} {σ : St} {H : Hp} {s : Shared} {a : Addr} {kvs : List (Key × V)} {A : Around} {E : Value → Shared → Prop}
end


section
variable {X : Cx} {pins : List (Addr × Obj)} {σ : St} {H : Hp} {s : Shared} {a : Addr} {y : V} {u : Value} {A : Around} {E : Value → Shared → Prop}
end
end L2

namespace L2
open PySem PySem.Spec PyProof.Rows


section
variable {prog : Program} {w : World} {A : Around} {E : Value → Shared → Prop}


end

section
variable {X : Cx}
end
end L2

namespace L2
open PySem PySem.Spec PyProof.Rows


section
variable {X : Cx} {pins : List (Addr × Obj)} {σ : St} {H : Hp} {s : Shared} {h' : Heap}
/-- several records of ours have turned -/
theorem Inv.turnedL {t' : Nat} {ch : List Addr} (I : Inv X pins σ H s) (k : ∀ b o, b ∉ ch → s.heap.get? b = some o → h'.get? b = some o) (hf : ∀ b ∈ ch, FpOk X pins H b) : Inv X pins σ H { s with heap := h', toks := t' } := by
  have nit : ∀ b u, H b = some u → b ∉ ch := fun b u e z => by
    have q := (hf b z).1
    rw [q] at e; cases e
  refine I.step (g' := s.gens) (d' := s.drawn) (ch := ch) (fun b hb => ⟨(hf b hb).2.2.2.1, (hf b hb).2.1, (hf b hb).2.2.2.2.1, (hf b hb).2.2.2.2.2⟩) (fun b o _ _ hc e _ => k b o hc e) (fun b o _ _ hc e _ => ⟨o.slots, k b o hc e⟩)
    (fun _ _ _ _ n => n) (fun b o hc e => ⟨o, k b o hc e⟩) (fun _ _ e => e) (fun _ _ _ e => e) (fun b ps e => ⟨#[], by rw [e]; simp⟩) (fun m hm => ?_) (fun b u e => ?_) I.bare
  · obtain ⟨o, es, ep, ho, r⟩ := hm
    exact ⟨o, es, ep, k _ o (fun z => (hf _ z).2.1 rfl) ho, r⟩
  · refine (I.hok b u e).stay (fun c v hc q => k c v ?_ q) (fun _ q => q) fun _ _ q => q
    rcases hc with z | z
    · rw [z]; exact nit b u e
    · exact nit c _ z
/-- .. and one new object is laid -/
theorem Inv.turnedNew {t' : Nat} {ch : List Addr} {T : Addr} {ob : HO} (I : Inv X pins σ H s) (k : ∀ b o, b ∉ ch → s.heap.get? b = some o → h'.get? b = some o) (hf : ∀ b ∈ ch, FpOk X pins H b) (hT : s.heap.objs.size ≤ T)
    (new : ObjOk X.prog X.w (upd H T ob) h' T ob) : Inv X pins σ (upd H T ob) { s with heap := h', toks := t' } := by
  have hn : H T = none := I.hok.fresh hT
  have nit : ∀ b u, H b = some u → b ∉ ch := fun b u e z => by
    have q := (hf b z).1
    rw [q] at e; cases e
  refine I.step (g' := s.gens) (d' := s.drawn) (ch := ch) (fun b hb => ⟨(hf b hb).2.2.2.1, (hf b hb).2.1, (hf b hb).2.2.2.2.1, (hf b hb).2.2.2.2.2⟩) (fun b o _ _ hc e _ => k b o hc e) (fun b o _ _ hc e _ => ⟨o.slots, k b o hc e⟩)
    (fun b o _ e n => ?_) (fun b o hc e => ⟨o, k b o hc e⟩) (fun b xs e => ?_) (fun b o u e => ?_) (fun b ps e => ⟨#[], ?_⟩) (fun m hm => ?_) (fun b u e => ?_) I.bare
  · rw [upd_ne (Nat.ne_of_lt (Nat.lt_of_lt_of_le (Heap.lt_size e) hT))]; exact n
  · rw [upd_ne (ne_of_none e hn)]; exact e
  · rw [upd_ne (ne_of_none e hn)]; exact e
  · rw [upd_ne (ne_of_none e hn), e]; simp
  · obtain ⟨o, es, ep, ho, r⟩ := hm
    exact ⟨o, es, ep, k _ o (fun z => (hf _ z).2.1 rfl) ho, r⟩
  · by_cases hb : b = T
    · subst hb
      rw [upd_same] at e
      cases e
      exact new
    · rw [upd_ne hb] at e
      refine (I.hok b u e).stay (fun c v hc q => k c v ?_ q) (fun c q => by rw [upd_ne (ne_of_none q hn)]; exact q) fun c xs q => by rw [upd_ne (ne_of_none q hn)]; exact q
      rcases hc with z | z
      · rw [z]; exact nit b u e
      · exact nit c _ z

/-! ### locking a thing while a statement runs -/
end
section
variable {X : Cx}

/-! ### one iterator just laid -/
end

/-! ### range with a step -/
section
variable {X : Cx} {tg : Expr}
end

/-! ### reversed(list) -/
section
variable {X : Cx} {tg : Expr}
end

/-! ### a str -/

/-! ### a dict's keys: any dict's entries -/
section
variable {prog : Program} {w : World} {A : Around} {E : Value → Shared → Prop} {s : Shared}
end

/-! ### a locked dict -/
section
variable {X : Cx} {pins : List (Addr × Obj)} {σ : St} {H : Hp} {s : Shared} {d : Addr} {o : Obj}
end

section
variable {P : Program} {w : World} {K : PySem.W.Frag} {tg : Expr} {d : Addr} {o : Obj} {es : Array DictEntry} {ep : Nat}
end

/-! ### for k in d, d.keys(), d.values(), d.items() -/
section
variable {X : Cx} {tg e : Expr} {td : TE} {apos cpos : Pos}
end

/-! ### enumerate(list) -/
/-- the list at a as it stands at each turn, each item in a new pair -/
def Ite (K : PySem.W.Frag) (a : Addr) : It :=
  ⟨fun i H => ∃ (xs : List V) (x : V), SqL K H a xs ∧ xs[i]? = some x, fun i H v H' => ∃ T x, v = .ref T ∧ H T = none ∧ H' = upd H T (.tup [.int (i : Nat), x]) ∧ ∀ xs, SqL K H a xs → xs[i]? = some x, fun i H => ∃ xs : List V, SqL K H a xs ∧ xs.length ≤ i⟩
theorem turn_enum {P : Program} {w : World} {K : PySem.W.Frag} {elts : List Expr} {kk : Nat} {tpos : Pos} (a e it : Addr) :
    Turn P w K (.Tuple elts kk tpos) (Ite K a) [e, it] e (fun i h => (∃ old, IsEnum h e it ((i : Nat) : Int) old) ∧ h.IsListIter it a i ∧ e ≠ it) where
  mem := by simp
  obj := fun i h st b hb => by
    obtain ⟨⟨old, he⟩, ⟨o, ho, hc, hd⟩, _⟩ := st
    have e' : b = e ∨ b = it := by simpa using hb
    rcases e' with z | z
    · rw [z]; exact ⟨_, he, fun v q => nomatch q⟩
    · rw [z]; exact ⟨o, ho, fun v q => by rw [hd] at q; cases q⟩
  keep := fun i h h' st k => let ⟨⟨old, he⟩, hi, hne⟩ := st; ⟨⟨old, k e (by simp) _ he⟩, hi.at fun o q => k it (by simp) o q, hne⟩
  item := by
    intro X hP hw hK hc i pins s σ H E I hf st hg
    subst hP hw hK
    obtain ⟨⟨old, he⟩, hit, hne⟩ := st
    obtain ⟨xs, x, hq, hx⟩ := hg
    obtain ⟨its, rv, p, hz⟩ := I.list hq
    obtain ⟨u, hu, ru⟩ := rv.get hx
    have hel : e < s.heap.objs.size := Heap.lt_size he
    have hil : it < s.heap.objs.size := by obtain ⟨_, q, _⟩ := hit; exact Heap.lt_size q
    refine wpAny_pyNext_enum_item he hit p.isList (x := u) (by simpa using hu) hne fun h' ho hit' hT hsz hk => ?_
    refine ⟨_, rfl, wpAny_letOwnedTupleGo_enum (s := { s with heap := h', toks := s.toks + 1 }) ho fun h'' he' sb => ?_⟩
    have hT2 : h''.get? s.heap.objs.size = some { cls := .type "tuple", data := .seq #[.int i s.toks, u] } := (sb.2 _ (Nat.ne_of_gt hel)).trans hT
    have new : ObjOk X.prog X.w (upd H s.heap.objs.size (.tup [.int (i : Nat), x])) h'' s.heap.objs.size (.tup [.int (i : Nat), x]) :=
      ⟨by show 2 ≤ sizeLine; decide, [.int i s.toks, u], .cons ⟨_, rfl⟩ (.cons ru .nil), ⟨_, hT2, rfl, _, rfl⟩⟩
    have I1 : Inv X pins σ (upd H s.heap.objs.size (.tup [.int (i : Nat), x])) { s with heap := h'', toks := s.toks + 1 } :=
      I.turnedNew (ch := [e, it]) (fun b ob hb q => (sb.2 b (fun z => hb (by simp [z]))).trans (hk b ob (fun z => hb (by simp [z])) (fun z => hb (by simp [z])) q)) hf (Nat.le_refl _) new
    refine ⟨.ref s.heap.objs.size, _, I1, rfl, ⟨_, x, rfl, I.hok.fresh (Nat.le_refl _), rfl, fun ys hy => by rw [I.list_inj hy hq]; exact hx⟩, ⟨⟨u, ?_⟩, hit'.at fun o q => (sb.2 it (Ne.symm hne)).trans q, hne⟩, fun b hb => ?_⟩
    · have e1 : ((i + 1 : Nat) : Int) = (i : Int) + 1 := by omega
      rw [e1]; exact he'
    · have hb' : b < s.heap.objs.size := by
        have e' : b = e ∨ b = it := by simpa using hb
        rcases e' with z | z
        · rw [z]; exact hel
        · rw [z]; exact hil
      rw [upd_ne (Nat.ne_of_lt hb')]
      exact (hf b hb).1
  done := by
    intro X hP hw hK hc i pins s σ H E I hf st hg
    subst hP hw hK
    obtain ⟨⟨old, he⟩, hit, hne⟩ := st
    obtain ⟨xs, hq, hx⟩ := hg
    obtain ⟨its, rv, p, hz⟩ := I.list hq
    obtain ⟨f0, f1, f2, f3, f4, f5⟩ := hf it (by simp)
    have hl := rv.length
    exact wpAny_pyNext_enum_end (I.ok.hd hc) he hit p.isList (by simp; omega) fun h' eb => ⟨rfl, I.turned (t' := s.toks) (fun b o hb q => eb b o hb q) f0 f1 f3 f4 f5⟩
  self := fun A i s Q E st h => let ⟨⟨_, he⟩, _⟩ := st; wpAny_pyIter_enum he h
def iEnum (K : PySem.W.Frag) (ta : TA) : TI := fun σ H R => ta σ H fun vs H1 => ∃ a xs, vs = [.ref a] ∧ SqL K H1 a xs ∧ R (Ite K a) H1
theorem pi_enum {X : Cx} {e : Expr} {ta : TA} {p pos tpos : Pos} {elts : List Expr} {kk : Nat} (hg : Gl X "enumerate") (hm : X.mg "enumerate" = none) (ha : PA X [e] ta) (hs : starEach [e] X.env = [(false, eval e X.env)] := by rfl) :
    PI X (.Tuple elts kk tpos) (.Call (.Name "enumerate" p) [e] [] pos) (iEnum X.K ta) := by
  intro pins s σ H R I h
  refine Call_ (ld_blt I hg hm boot_enumerate (PyProof.Rows.callWith_type1 (thn (ha pos pins s σ H _ I h) fun us s1 ⟨vs, H1, I1, r1, q1⟩ => ?_) hs rfl))
  obtain ⟨a, xs, ex, hq, q⟩ := q1
  subst ex
  cases r1 with
  | cons r rr =>
    cases rr
    cases r
    obtain ⟨its, rv, p', hz⟩ := I1.list hq
    refine call_enumerate_list p'.isList fun h' he hit hsz hk => wpAny_pyIter_enum he ?_
    have I2 : Inv X pins σ H1 { s1 with heap := h' } := I1.kept (t' := s1.toks) hk
    refine ⟨s1.heap.objs.size + 1, [s1.heap.objs.size + 1, s1.heap.objs.size], _, _, H1, rfl, I2, turn_enum a (s1.heap.objs.size + 1) s1.heap.objs.size, ⟨⟨.none, he⟩, hit, Nat.succ_ne_self _⟩, fun b hb => ?_, q⟩
    have e' : b = s1.heap.objs.size + 1 ∨ b = s1.heap.objs.size := by simpa using hb
    have hle : s1.heap.objs.size ≤ b := by
      rcases e' with z | z
      · rw [z]; exact Nat.le_add_right _ _
      · rw [z]; exact Nat.le_refl _
    exact I1.fpOk hle (I1.hok.fresh hle)
/-! ### zip(list, list) -/
theorem boot_zip5 : bootBuiltins "zip" = some (.type "zip") := by decide +kernel
/-- the lists at a and b as they stand at each turn, the items in new pairs -/
def Itz (K : PySem.W.Frag) (a b : Addr) : It :=
  ⟨fun i H => ∃ (xs ys : List V) (x y : V), SqL K H a xs ∧ SqL K H b ys ∧ xs[i]? = some x ∧ ys[i]? = some y,
    fun i H v H' => ∃ T x y, v = .ref T ∧ H T = none ∧ H' = upd H T (.tup [x, y]) ∧ (∀ xs, SqL K H a xs → xs[i]? = some x) ∧ ∀ ys, SqL K H b ys → ys[i]? = some y,
    fun i H => ∃ xs ys : List V, SqL K H a xs ∧ SqL K H b ys ∧ (xs.length ≤ i ∨ ys.length ≤ i)⟩
theorem turn_zip {P : Program} {w : World} {K : PySem.W.Frag} {elts : List Expr} {kk : Nat} {tpos : Pos} {a b z TI TO i1 i2 : Addr} (D : ZipApart z TI TO i1 i2 a b) :
    Turn P w K (.Tuple elts kk tpos) (Itz K a b) [z, TI, TO, i1, i2] z (fun i h => IsZip h z TI TO .none ∧ IsPair h TI (.ref i1) (.ref i2) ∧ (∃ x y, IsPair h TO x y) ∧ h.IsListIter i1 a i ∧ h.IsListIter i2 b i) where
  mem := by simp
  obj := fun i h st c hc => by
    obtain ⟨hz, hTI, ⟨x, y, hTO⟩, ⟨o1, e1, _, d1⟩, ⟨o2, e2, _, d2⟩⟩ := st
    have e' : c = z ∨ c = TI ∨ c = TO ∨ c = i1 ∨ c = i2 := by simpa using hc
    rcases e' with q | q | q | q | q
    · rw [q]; exact ⟨_, hz, fun v q => nomatch q⟩
    · rw [q]; exact ⟨_, hTI, fun v q => nomatch q⟩
    · rw [q]; exact ⟨_, hTO, fun v q => nomatch q⟩
    · rw [q]; exact ⟨o1, e1, fun v q => by rw [d1] at q; cases q⟩
    · rw [q]; exact ⟨o2, e2, fun v q => by rw [d2] at q; cases q⟩
  keep := fun i h h' st k => by
    obtain ⟨hz, hTI, ⟨x, y, hTO⟩, h1, h2⟩ := st
    exact ⟨k z (by simp) _ hz, k TI (by simp) _ hTI, ⟨x, y, k TO (by simp) _ hTO⟩, h1.at fun o q => k i1 (by simp) o q, h2.at fun o q => k i2 (by simp) o q⟩
  item := by
    intro X hP hw hK hc i pins s σ H E I hf st hg
    subst hP hw hK
    obtain ⟨hz, hTI, ⟨x0, y0, hTO⟩, h1, h2⟩ := st
    obtain ⟨xs, ys, x, y, hqx, hqy, hx, hy⟩ := hg
    obtain ⟨its, rv, p, _⟩ := I.list hqx
    obtain ⟨its2, rv2, p2, _⟩ := I.list hqy
    obtain ⟨u, hu, ru⟩ := rv.get hx
    obtain ⟨u2, hu2, ru2⟩ := rv2.get hy
    have hzl : z < s.heap.objs.size := Heap.lt_size hz
    refine wpAny_pyNext_zip_item D hz hTI hTO h1 h2 p.isList p2.isList (x := u) (y := u2) (by simpa using hu) (by simpa using hu2) fun h' z' TO' h1' h2' hT hsz hk => ?_
    refine ⟨_, rfl, wpAny_letOwnedTupleGo_zip (s := { s with heap := h' }) z' fun h'' z'' sb => ?_⟩
    have hT2 : h''.get? s.heap.objs.size = some { cls := .type "tuple", data := .seq #[u, u2] } := (sb.2 _ (Nat.ne_of_gt hzl)).trans hT
    have new : ObjOk X.prog X.w (upd H s.heap.objs.size (.tup [x, y])) h'' s.heap.objs.size (.tup [x, y]) :=
      ⟨by show 2 ≤ sizeLine; decide, [u, u2], .cons ru (.cons ru2 .nil), ⟨_, hT2, rfl, _, rfl⟩⟩
    have I1 : Inv X pins σ (upd H s.heap.objs.size (.tup [x, y])) { s with heap := h'' } :=
      I.turnedNew (t' := s.toks) (ch := [z, TI, TO, i1, i2]) (fun c o hb q => (sb.2 c (fun q' => hb (by simp [q']))).trans (hk c o (fun q' => hb (by simp [q'])) (fun q' => hb (by simp [q'])) (fun q' => hb (by simp [q'])) (fun q' => hb (by simp [q'])) q)) hf (Nat.le_refl _) new
    refine ⟨.ref s.heap.objs.size, _, I1, rfl, ⟨_, x, y, rfl, I.hok.fresh (Nat.le_refl _), rfl, fun l hl => by rw [I.list_inj hl hqx]; exact hx, fun l hl => by rw [I.list_inj hl hqy]; exact hy⟩, ⟨z'', ?_, ⟨u, u2, ?_⟩, ?_, ?_⟩, fun c hcm => ?_⟩
    · exact (sb.2 _ D.TIz).trans (hk _ _ D.TIz D.TITO D.TIi1 D.TIi2 hTI)
    · exact (sb.2 _ D.TOz).trans TO'
    · exact h1'.at fun o q => (sb.2 _ D.i1z).trans q
    · exact h2'.at fun o q => (sb.2 _ D.i2z).trans q
    · have hlt : c < s.heap.objs.size := by
        have e' : c = z ∨ c = TI ∨ c = TO ∨ c = i1 ∨ c = i2 := by simpa using hcm
        rcases e' with q | q | q | q | q
        · rw [q]; exact hzl
        · rw [q]; exact Heap.lt_size hTI
        · rw [q]; exact Heap.lt_size hTO
        · rw [q]; obtain ⟨_, e1, _⟩ := h1; exact Heap.lt_size e1
        · rw [q]; obtain ⟨_, e2, _⟩ := h2; exact Heap.lt_size e2
      rw [upd_ne (Nat.ne_of_lt hlt)]
      exact (hf c hcm).1
  done := by
    intro X hP hw hK hc i pins s σ H E I hf st hg
    subst hP hw hK
    obtain ⟨hz, hTI, ⟨x0, y0, hTO⟩, h1, h2⟩ := st
    obtain ⟨xs, ys, hqx, hqy, hend⟩ := hg
    obtain ⟨its, rv, p, _⟩ := I.list hqx
    obtain ⟨its2, rv2, p2, _⟩ := I.list hqy
    have l1 := rv.length
    have l2 := rv2.length
    have he : its.toArray[i]? = none ∨ its2.toArray[i]? = none := by
      rcases hend with q | q
      · exact .inl (by simp; omega)
      · exact .inr (by simp; omega)
    exact wpAny_pyNext_zip_end (I.ok.hd hc) D hz hTI hTO h1 h2 p.isList p2.isList he fun h' hk => ⟨rfl, I.turnedL (t' := s.toks) (ch := [z, TI, TO, i1, i2]) (fun c o hb q =>
      hk c o (fun q' => hb (by simp [q'])) (fun q' => hb (by simp [q'])) (fun q' => hb (by simp [q'])) (fun q' => hb (by simp [q'])) q) hf⟩
  self := fun A i s Q E st h => wpAny_pyIter_zip st.1 h
def iZip (K : PySem.W.Frag) (ta : TA) : TI := fun σ H R => ta σ H fun vs H1 => ∃ a b xs ys, vs = [.ref a, .ref b] ∧ SqL K H1 a xs ∧ SqL K H1 b ys ∧ R (Itz K a b) H1
theorem pi_zip {X : Cx} {e e2 : Expr} {ta : TA} {p pos tpos : Pos} {elts : List Expr} {kk : Nat} (hg : Gl X "zip") (hm : X.mg "zip" = none) (ha : PA X [e, e2] ta)
    (hs : starEach [e, e2] X.env = (false, eval e X.env) :: starEach [e2] X.env := by rfl) (hpl : (backTo pos (starEach [e2] X.env)).any (·.1) = false := by rfl) :
    PI X (.Tuple elts kk tpos) (.Call (.Name "zip" p) [e, e2] [] pos) (iZip X.K ta) := by
  intro pins s σ H R I h
  refine Call_ (ld_blt I hg hm boot_zip5 (PyProof.Rows.callWith_type1 (thn (ha pos pins s σ H _ I h) fun us s1 ⟨vs, H1, I1, r1, q1⟩ => ?_) hs hpl))
  obtain ⟨a, b, xs, ys, ex, hqx, hqy, q⟩ := q1
  subst ex
  cases r1 with
  | cons r rr =>
    cases rr with
    | cons r' rr =>
      cases rr
      cases r
      cases r'
      obtain ⟨its, rv, p1, _⟩ := I1.list hqx
      obtain ⟨its2, rv2, p2, _⟩ := I1.list hqy
      have la : a < s1.heap.objs.size := p1.lt
      have lb : b < s1.heap.objs.size := p2.lt
      refine call_zip_2 p1.isList p2.isList fun h' hz hTI hTO h1 h2 hsz hk => wpAny_pyIter_zip hz ?_
      have I2 : Inv X pins σ H1 { s1 with heap := h' } := I1.kept (t' := s1.toks) hk
      refine ⟨s1.heap.objs.size + 4, [s1.heap.objs.size + 4, s1.heap.objs.size + 2, s1.heap.objs.size + 3, s1.heap.objs.size, s1.heap.objs.size + 1], _, _, H1, rfl, I2, turn_zip (PySem.W.ktu_apart s1.heap.objs.size a b la lb), ⟨hz, hTI, ⟨_, _, hTO⟩, h1, h2⟩, fun c hcm => ?_, q⟩
      have e' : c = s1.heap.objs.size + 4 ∨ c = s1.heap.objs.size + 2 ∨ c = s1.heap.objs.size + 3 ∨ c = s1.heap.objs.size ∨ c = s1.heap.objs.size + 1 := by simpa using hcm
      have hle : s1.heap.objs.size ≤ c := by
        rcases e' with z | z | z | z | z
        · rw [z]; exact Nat.le_add_right _ _
        · rw [z]; exact Nat.le_add_right _ _
        · rw [z]; exact Nat.le_add_right _ _
        · rw [z]; exact Nat.le_refl _
        · rw [z]; exact Nat.le_add_right _ _
      exact I1.fpOk hle (I1.hok.fresh hle)
end L2

section 
namespace Bits
open PySem PyProof.Rows








end Bits
end 

section 
namespace TL
open PySem PySem.Builtin PySem.Builtin.Str PySem.StrLaws

abbrev tl (x : Str) : List Nat := x.cps.toList

/-! ### the list functions -/
/-- S stands at the head of l -/
def pre (S l : List Nat) : Bool := l.take S.length == S
/-- l cut at each S from the left; k signs are still to be passed over -/
def spl (S : List Nat) : Nat → List Nat → List Nat → List (List Nat)
  | _, acc, [] => [acc]
  | 0, acc, c :: r => if pre S (c :: r) = true then acc :: spl S (S.length - 1) [] r else spl S 0 (acc ++ [c]) r
  | k + 1, acc, _ :: r => spl S k acc r
/-- what stands before the first S, and behind it -/
def par (S : List Nat) : List Nat → List Nat → Option (List Nat × List Nat)
  | _, [] => none
  | acc, c :: r => if pre S (c :: r) = true then some (acc, (c :: r).drop S.length) else par S (acc ++ [c]) r




/-! ### the model's split and partition are these -/




/-! ### computing spl and par -/


/-! ### digits -/

/-! ### words: x.split() -/
end TL
end 

namespace L2
open PySem PySem.Spec PyProof.Rows




section
variable {X : Cx} {pins : List (Addr × Obj)} {σ : St} {H : Hp} {s : Shared} {Q : VK}
end

section
variable {X : Cx}





/-! ### of a text alone -/

/-! ### of a text and a text -/

end

section
variable {X : Cx} {o e : Expr} {to te : TE}

end
end L2

namespace L2
open PySem PySem.Spec PyProof.Rows

section
variable {X : Cx}
end

/-! ### slices of a text -/


end L2

namespace Att
open PySem PySem.W PySem.Calls PyProof.Rows

/-! ### the script -/



/-! ### the attachment: holds_open's last premise (the goal 'hc' behind k_head) from a wpAny of the law's body -/



/-! ### rules over ANY heap (no ledger) from facts about the written part K: the library's own take a ledger (News) for what they write -/
section
variable {prog : Program} {w : World} {A : Around} {E : Value → Shared → Prop} {s : Shared} {K : Frag}





/-! the whole heap as the ledger: makes every rule that writes through a ledger a rule over any heap -/
def ledger (h : Heap) (L d : Addr) : List (Addr × Obj) := (List.range h.objs.size).filterMap fun a => if a = L ∨ a = d then none else (h.get? a).map fun o => (a, o)

end
end Att

namespace L2
open PySem PySem.Spec PyProof.Rows



end L2

namespace L2
open PySem PySem.Spec PyProof.Rows

abbrev KOf {K : PySem.W.Frag} {h : Heap} (_ : K.In h) : PySem.W.Frag := K

end L2

/- THE LAST THEOREM (shape; LID, My.* are yours):
   My.Adr: a structure of the addresses that your layer names (classes, functions); My.Txt K t: a structure (Prop) of the equations over K;
   My.txt_mk : {K} {implicit addresses ..} (e1 : nsIn K mainGlobals "law" = some (some (.ref f))) (e2 : K.lookup f = some ⟨oc, od, .func (fnOf "law" "law" params body scope dV kV doc pm an cdv ct), sl⟩) (e3 : codeIn K cdv "law" = true) .. : ∃ t, My.Txt K t

set_option maxRecDepth 100000 in
set_option maxHeartbeats 0 in
theorem PySem.Challenge.cw_LID_holds : PySem.Challenge.rw_LID.Holds := by
  w_on; o_law; k_head; (case hw => w_witness2)
  k_fill
  refine L2.walk_of (l := PySem.Challenge.rw_LID) (n := 63) (k := 40) (x := "script") (CX := fun w => ..) (sp := fun _ => My.sp_law) rfl (by decide) rfl ⟨rfl, by decide, by decide⟩ (fun w h Y => PySem.W.kIn_of Y) ?F ?S ?C
  case F =>
    intro w mg fa h KX G hmg
    have T : ∃ t, My.Txt (L2.KOf KX) t := by
      dsimp only [L2.KOf]                          -- K must stand as «<heap const> w.params» for k_is
      refine' My.txt_mk ?e1 ?e2 ?e3 ..
      (case e1 => PySem.W.k_is)                    -- in the order: a name -> its address -> its object -> its parts
      (case e2 => PySem.W.k_is)
      ..
    obtain ⟨t, T⟩ := T
    have e0 := hmg.symm.trans (PySem.W.mg_of KX G T.law)
    cases e0                                       -- fa is the law's own address
    exact ⟨_, fun s u => .of_eq rfl, fun base kb nb => My.law_fn T kb nb⟩     -- if «.of_eq rfl» comes too early: refine' ⟨_, ?b, fun base kb nb => My.law_fn T kb nb⟩; exact fun s u => .of_eq rfl
  case S => exact fun w H a ns hl hO hS => ..
  case C => exact ..
(the tactic k_is has no namespace: write k_is) -/

/-! SHORT WORDS over the layer: a def of the text, its body, what a loop and a test want. -/
namespace L2
open PySem PySem.Spec PyProof.Rows

/-! ### the text by places -/
/-- the j-th statement of a class's body -/
def inClass (s : Stmt) (j : Nat) : Stmt := match s with
  | .ClassDef _ _ _ body _ _ _ _ _ _ _ => body.getD j (.Pass ⟨0, 0, 0, 0⟩)
  | _ => .Pass ⟨0, 0, 0, 0⟩
def defArgs (s : Stmt) : Arguments := match s with
  | .FunctionDef _ a _ _ _ _ _ _ _ _ => a
  | _ => { posonlyargs := [], args := [], vararg := none, kwonlyargs := [], kw_defaults := [], kwarg := none, defaults := [] }
def defBody (s : Stmt) : List Stmt := match s with
  | .FunctionDef _ _ b _ _ _ _ _ _ _ => b
  | _ => []
def defScope (s : Stmt) : Scope := match s with
  | .FunctionDef _ _ _ _ _ _ sc _ _ _ => sc
  | _ => { kind := .function, names := [], isGenerator := false, isCoroutine := false }

/-! ### no exception leaves a def -/
abbrev CX0 : CXT := fun _ _ _ _ _ _ => False
abbrev E0 : XK := fun _ _ _ => False
theorem pass0 {X : Cx} : Passes CX0 X E0 := fun _ _ _ _ _ _ _ h => h.elim

/-! ### a def (or method) of the text as it stands behind the top -/
structure Fun (K : PySem.W.Frag) (x qual : Str) (st : Stmt) (f : Addr) (fd : FuncData) : Prop where
  ex : ∃ (oc : Value) (od : Option Addr) (kV doc pm : Value) (an : Option Addr) (cdv ct : Value) (osl : Array (Option Value)),
    fd = PySem.W.fnOf x qual (defArgs st) (defBody st) (defScope st) .none kV doc pm an cdv ct ∧ K.lookup f = some ⟨oc, od, .func fd, osl⟩ ∧ PySem.W.codeIn K cdv qual = true
  kp : PySem.W.keepIn K (.ref f) = true
section
variable {P : Program} {w : World} {K : PySem.W.Frag} {mg : Str → Option Value} {base : Heap}
/-- THE RULE for a def: its body as a term of rules, and the reading of that term -/
theorem Fun.ok {x qual : Str} {st : Stmt} {f : Addr} {fd : FuncData} {N ps : List Str} {k : Nat} {sp : Sp} (F : Fun K x qual st f fd) (S : FnScope N ps (defScope st)) (len : ∀ vs H Q E, sp vs H Q E → vs.length = ps.length)
    (hbody : ∀ (cdv : Value) (A : Around) (outer : List Env) (s : Shared) (H : Hp) (vs : List V) (Q : VK) (E : XK), Room k (A.deeper (envOfC qual (defScope st) s.heap.objs.size f cdv)) → sp vs H Q E →
      ∃ t, PSs (cxOf CX0 P w K mg base N qual (defScope st) f cdv A outer s H E).nox (defBody st) t ∧ t { nx := fun _ H' => Q .non H', rt := Q } (start N vs) H) : FnOk P w K mg base CX0 (k + 1) f fd ps sp := by
  obtain ⟨oc, od, kV, doc, pm, an, cdv, ct, osl, rfl, lk, hcd⟩ := F.ex
  refine fn_of lk hcd S len fun A outer s H vs Q E hr hsp => ?_
  obtain ⟨t, h, q⟩ := hbody cdv A outer s H vs Q E hr hsp
  exact ⟨t, h.nox, q⟩
/-- how its arguments bind (no defaults): h is «fun _ _ _ _ _ _ us hl => match us, hl with | [_, _], _ => rfl», one _ a parameter -/
theorem Fun.binds {x qual : Str} {st : Stmt} {f : Addr} {fd : FuncData} {ps : List Str} (F : Fun K x qual st f fd)
    (h : ∀ (kV doc pm : Value) (an : Option Addr) (cdv ct : Value) (us : List Value), us.length = ps.length → bindArgs (PySem.W.fnOf x qual (defArgs st) (defBody st) (defScope st) .none kV doc pm an cdv ct) ⟨us, []⟩ = pure (ps.zip us)) : Binds K fd ps [] := by
  obtain ⟨oc, od, kV, doc, pm, an, cdv, ct, osl, rfl, lk, hcd⟩ := F.ex
  exact .all (h kV doc pm an cdv ct)
theorem fun_mk {x qual : Str} {st : Stmt} {f : Addr} {oc : Value} {od an : Option Addr} {osl : Array (Option Value)} {kV doc pm cdv ct : Value} (l : K.lookup f = some ⟨oc, od, .func (PySem.W.fnOf x qual (defArgs st) (defBody st) (defScope st) .none kV doc pm an cdv ct), osl⟩)
    (c : PySem.W.codeIn K cdv qual = true) (k : PySem.W.keepIn K (.ref f) = true) : Fun K x qual st f (PySem.W.fnOf x qual (defArgs st) (defBody st) (defScope st) .none kV doc pm an cdv ct) := ⟨⟨oc, od, kV, doc, pm, an, cdv, ct, osl, rfl, l, c⟩, k⟩
end
theorem small1000 {n : Nat} (h : n ≤ 1000) : n < sizeLine := Nat.lt_of_le_of_lt h (by decide)

/-! ### expressions in short: the name that stands in the i-th slot -/
section
variable {X : Cx}
theorem pv (i : Nat) {x : Str} {pos : Pos} (hN : X.N[i]? = some x := by rfl) (hv : Vis X.env.scope x := by first | exact Or.inl rfl | exact Or.inr (Or.inl rfl) | exact Or.inr (Or.inr rfl)) (hd : (x == ("__debug__" : Str)) = false := by decide)
    (hcd : (x == ("__classdict__" : Str)) = false := by decide) : PE X (.Name x pos) (tVar i) := pe_var hN hv hd hcd
end

/-! ### tests -/
theorem iteF {A B : Prop} (h : B) : if false = true then A else B := by
  rw [if_neg Bool.false_ne_true]
  exact h
theorem iteT {A B : Prop} (h : A) : if true = true then A else B := by
  rw [if_pos rfl]
  exact h

/-! ### heaps -/
/-- all that was tracked is as it was -/
def Same (H H' : Hp) : Prop := ∀ b o, H b = some o → H' b = some o
theorem Same.refl (H : Hp) : Same H H := fun _ _ h => h
theorem Same.trans {H H1 H2 : Hp} (a : Same H H1) (b : Same H1 H2) : Same H H2 := fun c o h => b c o (a c o h)
theorem Same.free {H H' : Hp} (e : Same H H') {l : Addr} (h : H' l = Option.none) : H l = Option.none := by
  cases q : H l with
  | none => rfl
  | some o =>
    rw [e l o q] at h
    cases h
theorem Same.seq {K : PySem.W.Frag} {H H' : Hp} {a : Addr} {xs : List V} (e : Same H H') (h : SqL K H a xs) : SqL K H' a xs := by
  rcases h with (h | ⟨o, h⟩) | h
  · exact .inl (.inl (e _ _ h))
  · exact .inl (.inr ⟨o, e _ _ h⟩)
  · exact .inr h

/-! ### a dict's pairs: keys that differ -/
section
variable {κ : Type} [DecidableEq κ]
end
/-! ### lists -/
theorem at_of {xs : List V} {z : Int} {j : Nat} {v : V} (e : z = (j : Int)) (h : xs[j]? = some v) : atI xs z = some v := by
  rw [e]
  exact atI_nat h
theorem nd_ix {α : Type} {l : List α} (hN : l.Nodup) {i j : Nat} {x : α} (a : l[i]? = some x) (b : l[j]? = some x) : i = j := by
  obtain ⟨h1, e1⟩ := List.getElem?_eq_some_iff.mp a
  obtain ⟨h2, e2⟩ := List.getElem?_eq_some_iff.mp b
  exact (List.getElem_inj hN).mp (e1.trans e2.symm)
end L2

section
set_option Elab.async false
set_option linter.all false
set_option maxRecDepth 100000
set_option maxHeartbeats 2000000
namespace L2
open PySem PySem.Spec PyProof.Rows
open PySem.W (WData Codec OpenSpec Well WellAll ReadsW ReadsAllW)
/-! ### an answer as data -/
mutual
/-- x stands for the datum d, lists and tuples all the way -/
inductive Dw (K : PySem.W.Frag) (H : Hp) : V → WData → Prop
  | non : Dw K H .non .none
  | bl (b : Bool) : Dw K H (.bl b) (.bool b)
  | int (i : Int) : Dw K H (.int i) (.int i)
  | str (x : Str) : Dw K H (.str x) (.str x)
  | byt (b : Array UInt8) : Dw K H (.byt b) (.bytes b.toList)
  | lst {a : Addr} {xs : List V} {ds : List WData} : SqL K H a xs → DwAll K H xs ds → Dw K H (.ref a) (.list ds)
  | tup {a : Addr} {xs : List V} {ds : List WData} : SqT K H a xs → DwAll K H xs ds → Dw K H (.ref a) (.tuple ds)
inductive DwAll (K : PySem.W.Frag) (H : Hp) : List V → List WData → Prop
  | nil : DwAll K H [] []
  | cons {v : V} {vs : List V} {d : WData} {ds : List WData} : Dw K H v d → DwAll K H vs ds → DwAll K H (v :: vs) (d :: ds)
end
theorem dw_ints {K : PySem.W.Frag} {H : Hp} : ∀ ns : List Int, DwAll K H (ns.map V.int) (ns.map WData.int)
  | [] => .nil
  | n :: r => .cons (.int n) (dw_ints r)
theorem ints_dw {K : PySem.W.Frag} {H : Hp} : ∀ (ns : List Int) (xs : List V), DwAll K H xs (ns.map WData.int) → xs = ns.map V.int
  | [], xs, h => by
    cases h
    rfl
  | n :: r, xs, h => by
    cases h with
    | cons h1 h2 =>
      cases h1
      rw [ints_dw r _ h2] <;> rfl
section
variable {P : Program} {w : World} {K : PySem.W.Frag} {H : Hp} {h : Heap} {R : PySem.W.WRecords} {cl : Str → Option Addr}
theorem sqL_at {a : Addr} {xs : List V} (hok : HOk P w H h) (KX : K.In h) (q : SqL K H a xs) : ∃ (its : List Value) (o : Obj) (n : Nat), Vals xs its ∧ h.get? a = some o ∧ o.cls = .type "list" ∧ o.data = .seq its.toArray n := by
  rcases q with q | ⟨o, its, n, e, hc, _, hd, _, hv⟩
  · obtain ⟨_, its, n, hv, e⟩ := (show ObjOk P w H h a (.lst xs) from q.ok hok)
    exact ⟨its, _, n, hv, e, rfl, rfl⟩
  · exact ⟨its.toList, o, n, hv, KX _ _ e, hc, by simp [hd]⟩
theorem sqT_at {a : Addr} {xs : List V} (hok : HOk P w H h) (KX : K.In h) (q : SqT K H a xs) : ∃ (its : List Value) (o : Obj) (n : Nat), Vals xs its ∧ h.get? a = some o ∧ o.cls = .type "tuple" ∧ o.data = .seq its.toArray n := by
  rcases q with q | ⟨o, its, n, e, hc, hd, _, hv⟩
  · obtain ⟨_, its, hv, o, e, hc, n, hd⟩ := (show ObjOk P w H h a (.tup xs) from q.ok hok)
    exact ⟨its, o, n, hv, e, hc, hd⟩
  · exact ⟨its.toList, o, n, hv, KX _ _ e, hc, by simp [hd]⟩
mutual
theorem Dw.reads (hok : HOk P w H h) (KX : K.In h) : ∀ (d : WData) (v : V) (u : Value), Dw K H v d → RelV v u → ∃ as, ReadsW R cl h u d as
  | .none, _, _, x, r => by
    cases x
    cases r
    exact ⟨_, ReadsW.none⟩
  | .bool b, _, _, x, r => by
    cases x
    cases r
    exact ⟨_, ReadsW.bool b⟩
  | .int i, _, _, x, r => by
    cases x
    obtain ⟨t, rfl⟩ := r
    exact ⟨_, ReadsW.int i t⟩
  | .str s, _, _, x, r => by
    cases x
    obtain ⟨t, rfl⟩ := r
    exact ⟨_, ReadsW.str s t⟩
  | .bytes b, _, _, x, r => by
    cases x
    obtain ⟨t, rfl⟩ := r
    exact ⟨_, ReadsW.bytes _ t⟩
  | .list ds, _, _, x, r => by
    cases x with
    | lst hs ha =>
      cases r
      obtain ⟨its, o, n, rv, ho, hc, hd⟩ := sqL_at hok KX hs
      obtain ⟨as, hr⟩ := Dw.readsAll hok KX ds _ its ha rv
      exact ⟨_, ReadsW.list ho hc hd hr⟩
  | .tuple ds, _, _, x, r => by
    cases x with
    | tup hs ha =>
      cases r
      obtain ⟨its, o, n, rv, ho, hc, hd⟩ := sqT_at hok KX hs
      obtain ⟨as, hr⟩ := Dw.readsAll hok KX ds _ its ha rv
      exact ⟨_, ReadsW.tuple ho hc hd hr⟩
  | .float _, _, _, x, _ => by cases x
  | .dict _, _, _, x, _ => by cases x
  | .bytearray _, _, _, x, _ => by cases x
  | .set _, _, _, x, _ => by cases x
  | .frozenset _, _, _, x, _ => by cases x
  | .obj _ _, _, _, x, _ => by cases x
theorem Dw.readsAll (hok : HOk P w H h) (KX : K.In h) : ∀ (ds : List WData) (vs : List V) (us : List Value), DwAll K H vs ds → Vals vs us → ∃ as, ReadsAllW R cl h us ds as
  | [], _, _, x, r => by
    cases x
    cases r
    exact ⟨_, ReadsAllW.nil⟩
  | d :: ds, _, _, x, r => by
    cases x with
    | cons h1 h2 =>
      cases r with
      | cons r1 r2 =>
        obtain ⟨as, q1⟩ := Dw.reads hok KX d _ _ h1 r1
        obtain ⟨bs, q2⟩ := Dw.readsAll hok KX ds _ _ h2 r2
        exact ⟨_, ReadsAllW.cons q1 q2⟩
end
end
/-! ### the arguments -/
mutual
/-- data that a codec tells -/
def plW : WData → Bool
  | .none => true
  | .bool _ => true
  | .int _ => true
  | .str _ => true
  | .bytes _ => true
  | .list xs => plWs xs
  | .tuple xs => plWs xs
  | _ => false
def plWs : List WData → Bool
  | [] => true
  | x :: r => plW x && plWs r
end
theorem plWs_map {α : Type} {f : α → WData} (h : ∀ a, plW (f a) = true) : ∀ l : List α, plWs (l.map f) = true
  | [] => rfl
  | x :: r => by
    show (plW (f x) && plWs (r.map f)) = true
    rw [h x, plWs_map h r] <;> rfl
theorem pl_enc : ∀ (c : Codec) (a : c.denote), plW (c.enc a) = true
  | .unit, _ => rfl
  | .bool, _ => rfl
  | .int _ _, _ => rfl
  | .nat _ _, _ => rfl
  | .u8, _ => rfl
  | .bytes _ _, _ => rfl
  | .text _ _ _ _, _ => rfl
  | .list _ _ c, a => plWs_map (fun x => pl_enc c x) a
  | .pair c d, a => by
    show (plW (c.enc a.1) && (plW (d.enc a.2) && true)) = true
    rw [pl_enc c a.1, pl_enc d a.2] <;> rfl
  | .triple c d e, a => by
    show (plW (c.enc a.1) && (plW (d.enc a.2.1) && (plW (e.enc a.2.2) && true))) = true
    rw [pl_enc c a.1, pl_enc d a.2.1, pl_enc e a.2.2] <;> rfl
  | .option c, none => rfl
  | .option c, some x => pl_enc c x
theorem pl_encAll : ∀ (cs : List Codec) (a : Codec.denoteAll cs), plWs (Codec.encAll cs a) = true
  | [], _ => rfl
  | c :: cs, a => by
    show (plW (c.enc a.1) && plWs (Codec.encAll cs a.2)) = true
    rw [pl_enc c a.1, pl_encAll cs a.2] <;> rfl
theorem weight_mem : ∀ {xs : List WData} {d : WData}, d ∈ xs → d.weight ≤ WData.weightAll xs
  | [], d, h => absurd h (by simp)
  | x :: r, d, h => by
    show d.weight ≤ x.weight + 1 + WData.weightAll r
    rcases List.mem_cons.mp h with e | m
    · rw [e]
      omega
    · have z := weight_mem m
      omega
def toV : Value → V
  | .none => .non
  | .bool b => .bl b
  | .int i _ => .int i
  | .str x _ => .str x
  | .bytes b _ => .byt b
  | .ref a => .ref a
  | _ => .non
/-- a value of the arguments, its objects among A -/
def OkU (A : List Addr) : Value → Prop
  | .none => True
  | .bool _ => True
  | .int _ _ => True
  | .str _ _ => True
  | .bytes _ _ => True
  | .ref a => a ∈ A
  | _ => False
theorem OkU.mono {A B : List Addr} (h : ∀ a ∈ A, a ∈ B) : ∀ {u : Value}, OkU A u → OkU B u := fun {u} x => by
  cases u with
  | ref a => exact h a x
  | none => trivial
  | bool b => trivial
  | int i t => trivial
  | str s t => trivial
  | bytes b t => trivial
  | _ => exact False.elim x
theorem relV_toV {A : List Addr} {u : Value} (x : OkU A u) : RelV (toV u) u := by
  cases u with
  | ref a => rfl
  | none => rfl
  | bool b => rfl
  | int i t => exact ⟨t, rfl⟩
  | str s t => exact ⟨t, rfl⟩
  | bytes b t => exact ⟨t, rfl⟩
  | _ => exact False.elim x
theorem vals_toV {A : List Addr} : ∀ {vs : List Value}, (∀ u ∈ vs, OkU A u) → Vals (vs.map toV) vs
  | [], _ => .nil
  | u :: r, h => .cons (relV_toV (h u (List.mem_cons_self ..))) (vals_toV fun x hx => h x (List.mem_cons_of_mem _ hx))
/-- an object of the arguments -/
def ArgOb (h : Heap) (A : List Addr) (a : Addr) : Prop := ∃ vs : List Value, vs.length ≤ sizeLine ∧ (∀ u ∈ vs, OkU A u) ∧
  (h.get? a = some { cls := .type "list", data := .seq vs.toArray } ∨ h.get? a = some { cls := .type "tuple", data := .seq vs.toArray })
theorem ArgOb.mono {h : Heap} {A B : List Addr} {a : Addr} (k : ∀ a ∈ A, a ∈ B) (x : ArgOb h A a) : ArgOb h B a := by
  obtain ⟨vs, h1, h2, h3⟩ := x
  exact ⟨vs, h1, fun u hu => (h2 u hu).mono k, h3⟩
theorem wellAll_len {P : Params} {h : Heap} : ∀ {vs : List Value} {ds : List WData}, WellAll P h vs ds → vs.length = ds.length
  | _, _, .nil => rfl
  | _, _, .cons _ b => by
    show _ + 1 = _ + 1
    rw [wellAll_len b]
theorem well_list {P : Params} {h : Heap} {v : Value} {ds : List WData} (x : Well P h v (.list ds)) : ∃ (a : Addr) (vs : List Value), v = .ref a ∧ h.get? a = some { cls := .type "list", data := .seq vs.toArray } ∧ WellAll P h vs ds := by
  cases x with
  | list ho hall => exact ⟨_, _, rfl, ho, hall⟩
theorem well_tuple {P : Params} {h : Heap} {v : Value} {ds : List WData} (x : Well P h v (.tuple ds)) : ∃ (a : Addr) (vs : List Value), v = .ref a ∧ h.get? a = some { cls := .type "tuple", data := .seq vs.toArray } ∧ WellAll P h vs ds := by
  cases x with
  | tuple ho hall => exact ⟨_, _, rfl, ho, hall⟩
theorem well_cons {P : Params} {h : Heap} {us : List Value} {d : WData} {ds : List WData} (x : WellAll P h us (d :: ds)) : ∃ (v : Value) (vs : List Value), us = v :: vs ∧ Well P h v d ∧ WellAll P h vs ds := by
  cases x with
  | cons a b => exact ⟨_, _, rfl, a, b⟩
theorem line_of {n : Nat} (h : n ≤ 1048576) : n ≤ sizeLine := Nat.le_trans h (by decide)
section
variable {P : Params} {h : Heap}
mutual
theorem area_one : ∀ (d : WData) (v : Value), Well P h v d → plW d = true → d.weight ≤ 1048576 → ∃ A : List Addr, OkU A v ∧ ∀ a ∈ A, ArgOb h A a
  | .none, _, x, _, _ => by
    cases x
    exact ⟨[], trivial, fun a m => absurd m (by simp)⟩
  | .bool b, _, x, _, _ => by
    cases x
    exact ⟨[], trivial, fun a m => absurd m (by simp)⟩
  | .int i, _, x, _, _ => by
    cases x
    exact ⟨[], trivial, fun a m => absurd m (by simp)⟩
  | .str s, _, x, _, _ => by
    cases x
    exact ⟨[], trivial, fun a m => absurd m (by simp)⟩
  | .bytes b, _, x, _, _ => by
    cases x
    exact ⟨[], trivial, fun a m => absurd m (by simp)⟩
  | .list ds, _, x, p, z => by
    obtain ⟨a, vs, rfl, ho, hall⟩ := well_list x
    have z2 : WData.weightAll ds ≤ 1048576 := z
    obtain ⟨A, h1, h2⟩ := area_all ds _ hall p fun d hd => Nat.le_trans (weight_mem hd) z2
    have k : ∀ b ∈ A, b ∈ a :: A := fun b hb => List.mem_cons_of_mem _ hb
    refine ⟨a :: A, List.mem_cons_self .., fun b hb => ?_⟩
    rcases List.mem_cons.mp hb with e | m
    · rw [e]
      exact ⟨vs, line_of (by rw [wellAll_len hall]; exact Nat.le_trans (PySem.W.length_le_weightAllW ds) z2), fun u hu => (h1 u hu).mono k, .inl ho⟩
    · exact (h2 b m).mono k
  | .tuple ds, _, x, p, z => by
    obtain ⟨a, vs, rfl, ho, hall⟩ := well_tuple x
    have z2 : WData.weightAll ds ≤ 1048576 := z
    obtain ⟨A, h1, h2⟩ := area_all ds _ hall p fun d hd => Nat.le_trans (weight_mem hd) z2
    have k : ∀ b ∈ A, b ∈ a :: A := fun b hb => List.mem_cons_of_mem _ hb
    refine ⟨a :: A, List.mem_cons_self .., fun b hb => ?_⟩
    rcases List.mem_cons.mp hb with e | m
    · rw [e]
      exact ⟨vs, line_of (by rw [wellAll_len hall]; exact Nat.le_trans (PySem.W.length_le_weightAllW ds) z2), fun u hu => (h1 u hu).mono k, .inr ho⟩
    · exact (h2 b m).mono k
  | .float _, _, _, p, _ => Bool.noConfusion (show false = true from p)
  | .dict _, _, _, p, _ => Bool.noConfusion (show false = true from p)
  | .bytearray _, _, _, p, _ => Bool.noConfusion (show false = true from p)
  | .set _, _, _, p, _ => Bool.noConfusion (show false = true from p)
  | .frozenset _, _, _, p, _ => Bool.noConfusion (show false = true from p)
  | .obj _ _, _, _, p, _ => Bool.noConfusion (show false = true from p)
theorem area_all : ∀ (ds : List WData) (vs : List Value), WellAll P h vs ds → plWs ds = true → (∀ d ∈ ds, d.weight ≤ 1048576) → ∃ A : List Addr, (∀ u ∈ vs, OkU A u) ∧ ∀ a ∈ A, ArgOb h A a
  | [], _, x, _, _ => by
    cases x
    exact ⟨[], fun u m => absurd m (by simp), fun a m => absurd m (by simp)⟩
  | d :: ds, _, x, p, z => by
    obtain ⟨v, vs, rfl, x1, x2⟩ := well_cons x
    have q : plW d = true ∧ plWs ds = true := Bool.and_eq_true_iff.mp p
    obtain ⟨A, a1, a2⟩ := area_one d v x1 q.1 (z d (List.mem_cons_self ..))
    obtain ⟨B, b1, b2⟩ := area_all ds vs x2 q.2 fun e he => z e (List.mem_cons_of_mem _ he)
    have kA : ∀ b ∈ A, b ∈ A ++ B := fun b hb => List.mem_append.mpr (.inl hb)
    have kB : ∀ b ∈ B, b ∈ A ++ B := fun b hb => List.mem_append.mpr (.inr hb)
    refine ⟨A ++ B, fun u hu => ?_, fun b hb => ?_⟩
    · rcases List.mem_cons.mp hu with e | m
      · rw [e]
        exact a1.mono kA
      · exact (b1 u m).mono kB
    · rcases List.mem_append.mp hb with m | m
      · exact (a2 b m).mono kA
      · exact (b2 b m).mono kB
end
end
/-- what is tracked of an argument's object -/
def hoOf (o : Obj) : Option HO := match o.data with
  | .seq vs _ => if (o.cls == Value.type "list") = true then some (.frz o (.lst (vs.toList.map toV))) else some (.frz o (.tup (vs.toList.map toV)))
  | _ => none
def argH (K : PySem.W.Frag) (h : Heap) (A : List Addr) : Hp := fun b => if b ∈ A then (if (K.lookup b).isNone = true then (h.get? b).bind hoOf else none) else none
/-- nothing is tracked but what is known to the object -/
def OnlyF (H : Hp) : Prop := ∀ b, H b = none ∨ ∃ o u, H b = some (.frz o u)
theorem hoOf_lst (vs : List Value) : hoOf { cls := .type "list", data := .seq vs.toArray } = some (.frz { cls := .type "list", data := .seq vs.toArray } (.lst (vs.map toV))) := by
  show (if (Value.type "list" == Value.type "list") = true then some (HO.frz { cls := .type "list", data := .seq vs.toArray } (.lst (vs.toArray.toList.map toV))) else some (HO.frz { cls := .type "list", data := .seq vs.toArray } (.tup (vs.toArray.toList.map toV)))) = _
  rw [if_pos (beq_self_eq_true _)]
theorem hoOf_tup (vs : List Value) : hoOf { cls := .type "tuple", data := .seq vs.toArray } = some (.frz { cls := .type "tuple", data := .seq vs.toArray } (.tup (vs.map toV))) := by
  show (if (Value.type "tuple" == Value.type "list") = true then some (HO.frz { cls := .type "tuple", data := .seq vs.toArray } (.lst (vs.toArray.toList.map toV))) else some (HO.frz { cls := .type "tuple", data := .seq vs.toArray } (.tup (vs.toArray.toList.map toV)))) = _
  rw [if_neg (by decide)]
section
variable {P : Program} {w : World} {K : PySem.W.Frag} {h : Heap} {A : List Addr}
theorem argH_at {b : Addr} {o : Obj} (hb : b ∈ A) (hk : K.lookup b = none) (e : h.get? b = some o) : argH K h A b = hoOf o := by
  unfold argH
  rw [if_pos hb, hk, if_pos (show (none : Option Obj).isNone = true from rfl), e] <;> rfl
theorem of_argH {b : Addr} {u : HO} (q : argH K h A b = some u) : b ∈ A ∧ K.lookup b = none := by
  unfold argH at q
  by_cases hb : b ∈ A
  · rw [if_pos hb] at q
    cases hk : K.lookup b with
    | none => exact ⟨hb, rfl⟩
    | some o =>
      rw [hk, if_neg (by simp)] at q
      cases q
  · rw [if_neg hb] at q
    cases q
/-- what stands tracked -/
theorem argH_is (ar : ∀ a ∈ A, ArgOb h A a) {b : Addr} {u : HO} (q : argH K h A b = some u) : K.lookup b = none ∧ ∃ vs : List Value, vs.length ≤ sizeLine ∧ (∀ u ∈ vs, OkU A u) ∧
    ((h.get? b = some { cls := .type "list", data := .seq vs.toArray } ∧ u = .frz { cls := .type "list", data := .seq vs.toArray } (.lst (vs.map toV))) ∨
     (h.get? b = some { cls := .type "tuple", data := .seq vs.toArray } ∧ u = .frz { cls := .type "tuple", data := .seq vs.toArray } (.tup (vs.map toV)))) := by
  obtain ⟨hb, hk⟩ := of_argH q
  obtain ⟨vs, h1, h2, h3⟩ := ar b hb
  refine ⟨hk, vs, h1, h2, ?_⟩
  rcases h3 with e | e
  · rw [argH_at hb hk e, hoOf_lst] at q
    exact .inl ⟨e, (Option.some.inj q).symm⟩
  · rw [argH_at hb hk e, hoOf_tup] at q
    exact .inr ⟨e, (Option.some.inj q).symm⟩
theorem argH_only (ar : ∀ a ∈ A, ArgOb h A a) : OnlyF (argH K h A) := fun b => by
  cases q : argH K h A b with
  | none => exact .inl rfl
  | some u =>
    obtain ⟨_, vs, _, _, ⟨_, e⟩ | ⟨_, e⟩⟩ := argH_is ar q
    · exact .inr ⟨_, _, by rw [e]⟩
    · exact .inr ⟨_, _, by rw [e]⟩
theorem argH_ok (ar : ∀ a ∈ A, ArgOb h A a) : HOk P w (argH K h A) h := fun b u q => by
  obtain ⟨_, vs, h1, h2, ⟨e, rfl⟩ | ⟨e, rfl⟩⟩ := argH_is ar q
  · exact ⟨e, by rw [List.length_map]; exact h1, vs, _, vals_toV h2, e⟩
  · exact ⟨e, by rw [List.length_map]; exact h1, vs, vals_toV h2, _, e, rfl, _, rfl⟩
theorem seq_inj {c c' : Value} {vs us : List Value} (e : (some { cls := c, data := .seq vs.toArray } : Option Obj) = some { cls := c', data := .seq us.toArray }) : c = c' ∧ vs = us := by
  have e1 := Option.some.inj e
  have e2 : c = c' := congrArg Obj.cls e1
  have e3 : Data.seq vs.toArray = Data.seq us.toArray := congrArg Obj.data e1
  injection e3 with e4
  refine ⟨e2, ?_⟩
  have e5 := congrArg Array.toList e4
  simpa using e5
/-- a list argument -/
theorem argL (KX : K.In h) (ar : ∀ a ∈ A, ArgOb h A a) {a : Addr} {vs : List Value} (ha : a ∈ A) (e : h.get? a = some { cls := .type "list", data := .seq vs.toArray }) : (∀ u ∈ vs, OkU A u) ∧ SqL K (argH K h A) a (vs.map toV) := by
  obtain ⟨us, h1, h2, h3⟩ := ar a ha
  have hu : us = vs := by
    rcases h3 with q | q
    · rw [e] at q
      exact (seq_inj q).2.symm
    · rw [e] at q
      exact absurd (Value.type.inj (seq_inj q).1) (by decide)
  subst hu
  refine ⟨h2, ?_⟩
  cases hk : K.lookup a with
  | none => exact .inl (.inr ⟨_, by rw [argH_at ha hk e, hoOf_lst]⟩)
  | some o =>
    have e2 := KX a o hk
    rw [e] at e2
    obtain rfl := Option.some.inj e2
    exact .inr ⟨_, us.toArray, _, hk, rfl, rfl, rfl, by rw [List.size_toArray]; exact h1, by simpa using vals_toV h2⟩
theorem argT (KX : K.In h) (ar : ∀ a ∈ A, ArgOb h A a) {a : Addr} {vs : List Value} (ha : a ∈ A) (e : h.get? a = some { cls := .type "tuple", data := .seq vs.toArray }) : (∀ u ∈ vs, OkU A u) ∧ SqT K (argH K h A) a (vs.map toV) := by
  obtain ⟨us, h1, h2, h3⟩ := ar a ha
  have hu : us = vs := by
    rcases h3 with q | q
    · rw [e] at q
      exact absurd (Value.type.inj (seq_inj q).1) (by decide)
    · rw [e] at q
      exact (seq_inj q).2.symm
  subst hu
  refine ⟨h2, ?_⟩
  cases hk : K.lookup a with
  | none => exact .inl (.inr ⟨_, by rw [argH_at ha hk e, hoOf_tup]⟩)
  | some o =>
    have e2 := KX a o hk
    rw [e] at e2
    obtain rfl := Option.some.inj e2
    exact .inr ⟨_, us.toArray, _, hk, rfl, rfl, by rw [List.size_toArray]; exact h1, by simpa using vals_toV h2⟩
mutual
theorem dw_one {Pm : Params} (KX : K.In h) (ar : ∀ a ∈ A, ArgOb h A a) : ∀ (d : WData) (v : Value), Well Pm h v d → plW d = true → OkU A v → Dw K (argH K h A) (toV v) d
  | .none, _, x, _, _ => by
    cases x
    exact .non
  | .bool b, _, x, _, _ => by
    cases x
    exact .bl b
  | .int i, _, x, _, _ => by
    cases x
    exact .int i
  | .str s, _, x, _, _ => by
    cases x
    exact .str s
  | .bytes b, _, x, _, _ => by
    cases x
    have z := Dw.byt (K := K) (H := argH K h A) b.toArray
    exact z
  | .list ds, _, x, p, hu => by
    obtain ⟨a, vs, rfl, ho, hall⟩ := well_list x
    obtain ⟨h2, hs⟩ := argL KX ar hu ho
    exact .lst hs (dw_all KX ar ds _ hall p h2)
  | .tuple ds, _, x, p, hu => by
    obtain ⟨a, vs, rfl, ho, hall⟩ := well_tuple x
    obtain ⟨h2, hs⟩ := argT KX ar hu ho
    exact .tup hs (dw_all KX ar ds _ hall p h2)
  | .float _, _, _, p, _ => Bool.noConfusion (show false = true from p)
  | .dict _, _, _, p, _ => Bool.noConfusion (show false = true from p)
  | .bytearray _, _, _, p, _ => Bool.noConfusion (show false = true from p)
  | .set _, _, _, p, _ => Bool.noConfusion (show false = true from p)
  | .frozenset _, _, _, p, _ => Bool.noConfusion (show false = true from p)
  | .obj _ _, _, _, p, _ => Bool.noConfusion (show false = true from p)
theorem dw_all {Pm : Params} (KX : K.In h) (ar : ∀ a ∈ A, ArgOb h A a) : ∀ (ds : List WData) (vs : List Value), WellAll Pm h vs ds → plWs ds = true → (∀ u ∈ vs, OkU A u) → DwAll K (argH K h A) (vs.map toV) ds
  | [], _, x, _, _ => by
    cases x
    exact .nil
  | d :: ds, _, x, p, hu => by
    obtain ⟨v, vs, rfl, x1, x2⟩ := well_cons x
    have q : plW d = true ∧ plWs ds = true := Bool.and_eq_true_iff.mp p
    exact .cons (dw_one KX ar d v x1 q.1 (hu _ (List.mem_cons_self ..))) (dw_all KX ar ds vs x2 q.2 fun u m => hu u (List.mem_cons_of_mem _ m))
end
end
/-! ### the call -/
theorem spec_call {P : Program} {w : World} {K : PySem.W.Frag} {mg mb : Str → Option Value} {CX : CXT} {k : Nat} {fa : Addr} {fd : FuncData} {ps : List Str} {sp : Sp} {s₁ : Shared} {vals : List Value} {ds : List WData} {R : PySem.W.WRecords} {cl : Str → Option Addr} {d0 : WData}
    (KX : K.In s₁.heap) (hns : s₁.heap.Ns mainGlobals mg) (hb : s₁.heap.Ns builtinsNs mb) (hbb : ∀ x : Str, x ≠ "__name__" → mb x = bootBuiltins x) (hlim : s₁.heap.NoLimit) (hg : s₁.gens = #[])
    (hwl : WellAll w.params s₁.heap vals ds) (hpl : plWs ds = true) (hwt : ∀ d ∈ ds, d.weight ≤ 1048576) (hr : Room k callerA)
    (F : ∀ base : Heap, K.In base → base.Ns mainGlobals mg → FnOk P w K mg base CX k fa fd ps sp) (hbind : ∀ (s : Shared) (us : List Value), us.length = ps.length → BindsTo s fd ⟨us, []⟩ (ps.zip us)) (hlen : ds.length = ps.length)
    (hsp : ∀ (H : Hp) (xs : List V), OnlyF H → DwAll K H xs ds → sp xs H (fun v H' => Dw K H' v d0) fun _ _ _ => False)
    (hCX : ∀ H e s', CX [] H s₁ (fun _ _ _ => False) e s' → False) :
    codeAny (model P w) callerA (.call (.ref fa) ⟨vals, []⟩) (fun r s' => ∃ u as, r = .ok (.ret u) ∧ ReadsW R cl s'.heap u d0 as ∧ OldK s₁.heap s'.heap ∧ s'.os = s₁.os ∧ AllBare s'.gens) s₁ := by
  obtain ⟨A, ho, ar⟩ := area_all ds vals hwl hpl hwt
  have hO : OnlyF (argH K s₁.heap A) := argH_only ar
  have hok : HOk P w (argH K s₁.heap A) s₁.heap := argH_ok ar
  have hS := dw_all KX ar ds vals hwl hpl ho
  have hV := vals_toV ho
  have hK : ∀ b u, argH K s₁.heap A b = some u → K.lookup b = none := fun b u q => (argH_is ar q).1
  have noA : ∀ {b : Addr} {o : Obj} {es : Array DictEntry} {ep : Nat}, s₁.heap.get? b = some o → o.data = .dict es ep → argH K s₁.heap A b = none := fun {b o es ep} e d => by
    cases q : argH K s₁.heap A b with
    | none => rfl
    | some u =>
      obtain ⟨_, vs, _, _, ⟨e2, _⟩ | ⟨e2, _⟩⟩ := argH_is ar q
      · rw [e2] at e
        cases e
        have d' : Data.seq vs.toArray _ = Data.dict es ep := d
        cases d'
      · rw [e2] at e
        cases e
        have d' : Data.seq vs.toArray _ = Data.dict es ep := d
        cases d'
  generalize argH K s₁.heap A = H at hO hok hS hK noA
  have base_of : ∀ {b : Addr} {o : Obj}, s₁.heap.get? b = some o → H b = none → (hidT s₁.heap H).get? b = some o := fun e n => hidT_get e n
  have nsK : ∀ {b : Addr} {m : Str → Option Value}, s₁.heap.Ns b m → (hidT s₁.heap H).Ns b m := fun {b m} ⟨o, es, ep, e, d, r⟩ => ⟨o, es, ep, base_of e (noA e d), d, r⟩
  have nK : ∀ b o, K.lookup b = some o → H b = none := fun b o e => by
    cases q : H b with
    | none => rfl
    | some u =>
      rw [hK b u q] at e
      cases e
  have hKb : K.In (hidT s₁.heap H) := fun b o e => base_of (KX b o e) (nK b o e)
  have hM : Mod K mg (hidT s₁.heap H) := ⟨hKb, nsK hns, ⟨mb, nsK hb, hbb⟩, let ⟨mc, h1, h2⟩ := hlim; ⟨mc, nsK h1, h2⟩⟩
  have e0 : Env0 P w K mg (hidT s₁.heap H) callerA [] s₁ H := ⟨rfl, hM, fun b o e => of_hidT e, Nat.le_of_eq (hidT_size _ _), trivial, fun b hb => absurd (show b ∈ ([] : List Addr) from hb) (by simp), hok, .of_eq hg⟩
  have hl : vals.length = ps.length := by rw [wellAll_len hwl]; exact hlen
  refine codeAny_mono ((F _ hKb (nsK hns)).run callerA [] s₁ H ⟨vals, []⟩ vals (vals.map toV) _ _ hr e0 (hbind s₁ vals hl) hV (hsp H _ hO hS)) fun r s' x => ?_
  cases r with
  | error e => exact (hCX H e s' x).elim
  | ok fl =>
    cases fl with
    | next => exact False.elim x
    | brk => exact False.elim x
    | cont => exact False.elim x
    | ret u =>
      obtain ⟨v, H', os, bare, un, hok', r', q⟩ := x
      have kept : ∀ b o, s₁.heap.get? b = some o → s'.heap.get? b = some o := fun b o e => by
        cases q2 : H b with
        | none => exact un.keep b o e q2 (by intro z; exact absurd (show b ∈ ([] : List Addr) from z) (by simp)) (by simp)
        | some u2 =>
          rcases hO b with z | ⟨ob, u3, z⟩
          · rw [q2] at z
            cases z
          · have z2 := un.frzs b ob _ z
            obtain ⟨e1, _⟩ := hok b _ z
            obtain ⟨e2, _⟩ := hok' b _ z2
            rw [e] at e1
            cases e1
            exact e2
      have KX' : K.In s'.heap := fun b o e => kept b o (KX b o e)
      obtain ⟨as, hrd⟩ := Dw.reads (R := R) (cl := cl) hok' KX' d0 v u q r'
      exact ⟨u, as, rfl, hrd, OldK.of_keep kept, os, bare⟩
/-! ### the row -/
theorem layable_weight {ds : List WData} (h : WData.layableAll ds = true) : ∀ d ∈ ds, d.weight ≤ 1048576 := fun d hd =>
  (PySem.W.layableW_iff.mp (List.all_eq_true.mp h d hd)).2.2
theorem encAll_len : ∀ (cs : List Codec) (a : Codec.denoteAll cs), (Codec.encAll cs a).length = cs.length
  | [], _ => rfl
  | c :: cs, a => by
    show (Codec.encAll cs a.2).length + 1 = cs.length + 1
    rw [encAll_len cs a.2]
/-- the goal that k_headS leaves (case hc), from the promise of the row's def: whatever the arguments that the codecs let and the row asks for, the def gives what stands for enc (f ..) -/
theorem walk_spec {r : OpenSpec} {k : Nat} {q : Program} {loose : List Str} {XP : (Str → Option Value) → Heap → Prop} {YP : World → Heap → Prop} {d : DefRec} {K : Params → PySem.W.Frag} {CX : World → CXT} {ps : List Str} {sp : World → Sp}
    (hwell : r.wellSaid = true) (hdf : d.params.defaults = []) (hlen : r.args.length = ps.length) (hr : Room k callerA)
    (hY : ∀ (w : World) (h : Heap), YP w h → (K w.params).In h)
    (F : ∀ (w : World) (mg : Str → Option Value) (fa : Addr) (h : Heap), YP w h → (K w.params).In h → h.Ns mainGlobals mg → mg d.name = some (.ref fa) →
      ∃ fd : FuncData, (∀ (s : Shared) (us : List Value), us.length = ps.length → BindsTo s fd ⟨us, []⟩ (ps.zip us)) ∧
        ∀ base : Heap, (K w.params).In base → base.Ns mainGlobals mg → FnOk r.prog w (K w.params) mg base (CX w) k fa fd ps (sp w))
    (hsp : ∀ (w : World) (H : Hp) (xs : List V) (a : Codec.denoteAll r.args), OnlyF H → Codec.withinAll r.args a = true → Codec.app r.args r.asked a = true → DwAll (K w.params) H xs (Codec.encAll r.args a) →
      sp w xs H (fun v H' => Dw (K w.params) H' v (r.ret.enc (Codec.app r.args r.f a))) fun _ _ _ => False)
    (hCX : ∀ (w : World) (H : Hp) (s : Shared) (e : Value) (s' : Shared), CX w [] H s (fun _ _ _ => False) e s' → False) :
    PySem.W.WalkOS q loose XP YP r d [] (fun f vs => PySem.call f vs) := by
  intro w s_0 s₁ mg mb G Y fa o pm cd doc dV kV ho hd hcd hD hmg hg args vals as hpre hlay hrd hwl hlo
  obtain ⟨a, e1, e2⟩ := PySem.W.os_pre_some hpre
  obtain ⟨e3, hwi⟩ := Codec.encAll_of_decAll r.args args a e1
  subst e3
  have KX := hY w _ Y
  obtain ⟨fd, hb, hF⟩ := F w mg fa _ Y KX G.T.g hmg
  refine PySem.W.enter_call (codeAny_mono (spec_call (R := []) (cl := classAt s_0.heap) (d0 := r.ret.enc (Codec.app r.args r.f a)) KX G.T.g G.T.b G.T.builtins G.T.nolimit hg hwl (pl_encAll _ _) (layable_weight hlay) hr hF hb (by rw [encAll_len]; exact hlen)
    (fun H xs hO hS => hsp w H xs a hO hwi e2 hS) fun H e s' => hCX w H s₁ e s') fun r' s' hq => ?_)
  obtain ⟨u, as', rfl, h1, h2, h3, h4⟩ := hq
  exact ⟨.inl ⟨u, _, as', rfl, fun _ => rfl, h1, (OpenSpec.post_iff hwell hwi _ _).mpr rfl, fun z => Bool.noConfusion (show false = true from z)⟩, h2, h3, h4⟩
/-- the same where the promise hangs on the written part alone -/
theorem walk_specK {r : OpenSpec} {k : Nat} {q : Program} {loose : List Str} {XP : (Str → Option Value) → Heap → Prop} {YP : World → Heap → Prop} {d : DefRec} {K : Params → PySem.W.Frag} {CX : CXT} {ps : List Str} {sp : PySem.W.Frag → Sp}
    (hwell : r.wellSaid = true) (hdf : d.params.defaults = []) (hlen : r.args.length = ps.length) (hr : Room k callerA)
    (hY : ∀ (w : World) (h : Heap), YP w h → (K w.params).In h)
    (F : ∀ (w : World) (mg : Str → Option Value) (fa : Addr) (h : Heap), YP w h → (K w.params).In h → h.Ns mainGlobals mg → mg d.name = some (.ref fa) →
      ∃ fd : FuncData, (∀ (s : Shared) (us : List Value), us.length = ps.length → BindsTo s fd ⟨us, []⟩ (ps.zip us)) ∧
        ∀ base : Heap, (K w.params).In base → base.Ns mainGlobals mg → FnOk r.prog w (K w.params) mg base CX k fa fd ps (sp (K w.params)))
    (hsp : ∀ (K : PySem.W.Frag) (H : Hp) (xs : List V) (a : Codec.denoteAll r.args), OnlyF H → Codec.withinAll r.args a = true → Codec.app r.args r.asked a = true → DwAll K H xs (Codec.encAll r.args a) →
      sp K xs H (fun v H' => Dw K H' v (r.ret.enc (Codec.app r.args r.f a))) fun _ _ _ => False)
    (hCX : ∀ (H : Hp) (s : Shared) (e : Value) (s' : Shared), CX [] H s (fun _ _ _ => False) e s' → False) :
    PySem.W.WalkOS q loose XP YP r d [] (fun f vs => PySem.call f vs) :=
  walk_spec (K := K) (CX := fun _ => CX) (sp := fun w => sp (K w.params)) hwell hdf hlen hr hY F (fun w H xs a h1 h2 h3 h4 => hsp (K w.params) H xs a h1 h2 h3 h4) fun _ H s e s' => hCX H s e s'
end L2
-- rests on (row put in by the clerk, for the bench that shows a file only what it spells): KE.SpHead KE.OsShapes
end

set_option linter.all false
namespace Cut
/-! ### the mirrors of plans.py -/
def totals (ns : List Nat) : List Nat := ns.foldl (fun sums n => sums ++ sums.map (fun t => t + n)) [0]
def goesWith (chosen : Nat) (needed : List Nat) (room : Nat) (before : List Bool) : Bool :=
  (List.range (chosen + 1)).any fun part => (part &&& chosen == part) && (decide (needed.getD part 0 ≤ room) && before.getD (chosen - part) false)
def fillable (rooms needed : List Nat) : List Bool :=
  rooms.foldl (fun can room => (List.range needed.length).map fun chosen => goesWith chosen needed room can) ((List.range needed.length).map fun chosen => chosen == 0)
def maxOf : List Nat → Nat
  | [] => 0
  | x :: r => r.foldl max x
def mostBrought (rooms : List Nat) (wants : List (Nat × Nat)) : Nat :=
  maxOf ((((totals (wants.map (·.2))).zip (fillable rooms (totals (wants.map (·.1))))).filter (·.2)).map (·.1))
def goodAt (rooms : List Nat) (w : Nat × Nat) (ws : List (Nat × Nat)) (goal k : Nat) : Bool :=
  decide (w.1 ≤ rooms.getD k 0) && (w.2 + mostBrought (rooms.set k (rooms.getD k 0 - w.1)) ws == goal)
def firstPlace (rooms : List Nat) (wants : List (Nat × Nat)) (goal : Nat) : Nat := match wants with
  | [] => 0
  | w :: ws => (((List.range rooms.length).find? (goodAt rooms w ws goal)).map (· + 1)).getD 0
def planGo (rest : List Nat) : List (Nat × Nat) → Nat → List Nat
  | [], _ => []
  | w :: ws, goal => if 0 < firstPlace rest (w :: ws) goal
    then firstPlace rest (w :: ws) goal :: planGo (rest.set (firstPlace rest (w :: ws) goal - 1) (rest.getD (firstPlace rest (w :: ws) goal - 1) 0 - w.1)) ws (goal - w.2)
    else firstPlace rest (w :: ws) goal :: planGo rest ws goal
def bestPlan (rooms : List Nat) (wants : List (Nat × Nat)) : List Nat := planGo rooms wants (mostBrought rooms wants)

/-! ### sums over sets -/
def subSum : List Nat → Nat → Nat
  | [], _ => 0
  | n :: ns, i => (if i % 2 = 1 then n else 0) + subSum ns (i / 2)
theorem subSum_low : ∀ (ns : List Nat) (n i : Nat), i < 2 ^ ns.length → subSum (ns ++ [n]) i = subSum ns i
  | [], n, i, h => by
    have : i = 0 := by simpa using h
    subst this
    simp [subSum]
  | m :: ns, n, i, h => by
    show (if i % 2 = 1 then m else 0) + subSum (ns ++ [n]) (i / 2) = _
    rw [subSum_low ns n (i / 2) (by rw [List.length_cons, Nat.pow_succ] at h; omega)]
    rfl
theorem subSum_high : ∀ (ns : List Nat) (n i : Nat), i < 2 ^ ns.length → subSum (ns ++ [n]) (2 ^ ns.length + i) = subSum ns i + n
  | [], n, i, h => by
    have : i = 0 := by simpa using h
    subst this
    simp [subSum]
  | m :: ns, n, i, h => by
    rw [List.length_cons, Nat.pow_succ] at h
    show (if (2 ^ (ns.length + 1) + i) % 2 = 1 then m else 0) + subSum (ns ++ [n]) ((2 ^ (ns.length + 1) + i) / 2) = (if i % 2 = 1 then m else 0) + subSum ns (i / 2) + n
    rw [Nat.pow_succ]
    have e1 : (2 ^ ns.length * 2 + i) % 2 = i % 2 := by omega
    have e2 : (2 ^ ns.length * 2 + i) / 2 = 2 ^ ns.length + i / 2 := by omega
    rw [e1, e2, subSum_high ns n (i / 2) (by omega)]
    omega
theorem totals_snoc (ns : List Nat) (n : Nat) : totals (ns ++ [n]) = totals ns ++ (totals ns).map (fun t => t + n) := by
  unfold totals
  rw [List.foldl_append]
  rfl
theorem totals_rev : ∀ (r : List Nat), totals r.reverse = (List.range (2 ^ r.length)).map (subSum r.reverse)
  | [] => rfl
  | n :: r => by
    rw [List.reverse_cons, totals_snoc, totals_rev r, List.length_cons, Nat.pow_succ, Nat.mul_two, List.range_add, List.map_append, List.map_map, List.map_map]
    congr 1
    · apply List.map_congr_left
      intro i hi
      rw [subSum_low _ _ _ (by simpa using hi)]
    · apply List.map_congr_left
      intro i hi
      have h := subSum_high r.reverse n i (by simpa using hi)
      rw [List.length_reverse] at h
      exact h.symm
theorem totals_eq (ns : List Nat) : totals ns = (List.range (2 ^ ns.length)).map (subSum ns) := by
  have h := totals_rev ns.reverse
  rwa [List.reverse_reverse, List.length_reverse] at h
theorem totals_len (ns : List Nat) : (totals ns).length = 2 ^ ns.length := by rw [totals_eq]; simp
theorem totals_at {ns : List Nat} {i : Nat} (h : i < 2 ^ ns.length) : (totals ns)[i]? = some (subSum ns i) := by
  rw [totals_eq, List.getElem?_map, List.getElem?_range h]; rfl
theorem totals_getD {ns : List Nat} {i : Nat} (h : i < 2 ^ ns.length) : (totals ns).getD i 0 = subSum ns i := by
  rw [List.getD_eq_getElem?_getD, totals_at h]; rfl

/-! ### plans -/
def load : List Nat → List Nat → Nat → Nat
  | n :: ns, x :: p, c => (if x = c then n else 0) + load ns p c
  | _, _, _ => 0
def pay : List Nat → List Nat → Nat
  | n :: ns, x :: p => (if x = 0 then 0 else n) + pay ns p
  | _, _ => 0
structure Fit (rooms needs p : List Nat) : Prop where
  len : p.length = needs.length
  le : ∀ x ∈ p, x ≤ rooms.length
  ld : ∀ k, k < rooms.length → load needs p (k + 1) ≤ rooms.getD k 0
def mask (f : Nat → Bool) : List Nat → Nat
  | [] => 0
  | x :: p => (if f x = true then 1 else 0) + 2 * mask f p
def nz (x : Nat) : Bool := decide (x ≠ 0)
theorem mask_lt (f : Nat → Bool) : ∀ p : List Nat, mask f p < 2 ^ p.length
  | [] => by simp [mask]
  | x :: p => by
    have ih := mask_lt f p
    rw [List.length_cons, Nat.pow_succ]
    unfold mask
    split <;> omega
theorem mask_mod (f : Nat → Bool) (x : Nat) (p : List Nat) : mask f (x :: p) % 2 = if f x = true then 1 else 0 := by
  unfold mask
  split <;> omega
theorem mask_div (f : Nat → Bool) (x : Nat) (p : List Nat) : mask f (x :: p) / 2 = mask f p := by
  rw [mask]
  split <;> omega
theorem load_mask (c : Nat) : ∀ (ns p : List Nat), p.length = ns.length → subSum ns (mask (fun x => decide (x = c)) p) = load ns p c
  | [], [], _ => rfl
  | [], _ :: _, h => by simp at h
  | _ :: _, [], h => by simp at h
  | n :: ns, x :: p, h => by
    unfold subSum load
    rw [mask_mod, mask_div, load_mask c ns p (by simpa using h)]
    by_cases e : x = c <;> simp [e]
theorem pay_mask : ∀ (ns p : List Nat), p.length = ns.length → subSum ns (mask nz p) = pay ns p
  | [], [], _ => rfl
  | [], _ :: _, h => by simp at h
  | _ :: _, [], h => by simp at h
  | n :: ns, x :: p, h => by
    unfold subSum pay
    rw [mask_mod, mask_div, pay_mask ns p (by simpa using h)]
    by_cases e : x = 0 <;> simp [e, nz]

/-! ### sets as bits -/
theorem sub_split {a b : Nat} : (a &&& b = a) ↔ (a % 2 ≤ b % 2 ∧ (a / 2) &&& (b / 2) = a / 2) := by
  have h1 : (a &&& b) / 2 = a / 2 &&& b / 2 := Nat.and_div_two
  have h2 : (a &&& b) % 2 = (a % 2) &&& (b % 2) := by
    have := @Nat.and_mod_two_pow a b 1
    simpa using this
  have h3 : ∀ x, x < 2 → ∀ y, y < 2 → ((x &&& y = x) ↔ x ≤ y) := by decide
  have h4 := h3 (a % 2) (by omega) (b % 2) (by omega)
  constructor
  · intro h
    refine ⟨h4.mp ?_, ?_⟩
    · rw [← h2, h]
    · rw [← h1, h]
  · rintro ⟨x, y⟩
    have z := h4.mpr x
    rw [← h2] at z
    rw [← h1] at y
    omega
theorem sub_le {a b : Nat} (h : a &&& b = a) : a ≤ b := by
  rw [← h]; exact Nat.and_le_right
def comb (c : Nat) : List Nat → Nat → List Nat
  | [], _ => []
  | x :: p, part => (if part % 2 = 1 then c else x) :: comb c p (part / 2)
theorem comb_len (c : Nat) : ∀ (p : List Nat) (part : Nat), (comb c p part).length = p.length
  | [], _ => rfl
  | x :: p, part => by simp [comb, comb_len c p]
theorem comb_le {c m : Nat} (hc : c ≤ m) : ∀ (p : List Nat) (part : Nat), (∀ x ∈ p, x ≤ m) → ∀ x ∈ comb c p part, x ≤ m
  | [], _, _, x, h => by simp [comb] at h
  | y :: p, part, hp, x, h => by
    unfold comb at h
    rcases List.mem_cons.mp h with e | e
    · rw [e]
      split
      · exact hc
      · exact hp y (List.mem_cons_self ..)
    · exact comb_le hc p (part / 2) (fun z hz => hp z (List.mem_cons_of_mem _ hz)) x e
theorem comb_mask {c : Nat} (hc : c ≠ 0) : ∀ (p : List Nat) (part m : Nat), m < 2 ^ p.length → part &&& m = part → mask nz p = m - part → mask nz (comb c p part) = m
  | [], part, m, hm, _, _ => by
    have : m = 0 := by simpa using hm
    subst this
    rfl
  | x :: p, part, m, hm, hs, he => by
    obtain ⟨h1, h2⟩ := sub_split.mp hs
    have h3 := sub_le h2
    rw [List.length_cons, Nat.pow_succ] at hm
    have e1 := mask_mod nz x p
    have e2 := mask_div nz x p
    rw [he] at e1 e2
    have ih := comb_mask hc p (part / 2) (m / 2) (by omega) h2 (by omega)
    unfold comb mask
    rw [ih]
    by_cases o : part % 2 = 1
    · rw [if_pos o, if_pos (by simp [nz, hc])]
      omega
    · rw [if_neg o]
      rw [← e1]
      omega
theorem comb_load_new {c : Nat} : ∀ (ns p : List Nat) (part : Nat), p.length = ns.length → (∀ x ∈ p, x ≠ c) → load ns (comb c p part) c = subSum ns part
  | [], [], _, _, _ => rfl
  | [], _ :: _, _, h, _ => by simp at h
  | _ :: _, [], _, h, _ => by simp at h
  | n :: ns, x :: p, part, h, hx => by
    unfold comb load subSum
    rw [comb_load_new ns p (part / 2) (by simpa using h) (fun z hz => hx z (List.mem_cons_of_mem _ hz))]
    have hx0 := hx x (List.mem_cons_self ..)
    by_cases o : part % 2 = 1 <;> simp [o, hx0]
theorem comb_load_old {c d : Nat} (hd : d ≠ c) : ∀ (ns p : List Nat) (part : Nat), load ns (comb c p part) d ≤ load ns p d
  | [], _, _ => by simp [load]
  | _ :: _, [], _ => by simp [comb, load]
  | n :: ns, x :: p, part => by
    unfold comb load
    have ih := comb_load_old hd ns p (part / 2)
    by_cases o : part % 2 = 1
    · rw [if_pos o, if_neg (fun q => hd q.symm)]
      omega
    · rw [if_neg o]
      omega
def drp (c : Nat) (p : List Nat) : List Nat := p.map fun x => if x = c then 0 else x
theorem drp_mask {c : Nat} (hc : c ≠ 0) : ∀ p : List Nat, mask (fun x => decide (x = c)) p &&& mask nz p = mask (fun x => decide (x = c)) p ∧ mask nz (drp c p) = mask nz p - mask (fun x => decide (x = c)) p
  | [] => ⟨by simp [mask], by simp [mask, drp]⟩
  | x :: p => by
    obtain ⟨h1, h2⟩ := drp_mask hc p
    have hl := sub_le h1
    constructor
    · rw [sub_split, mask_mod, mask_mod, mask_div, mask_div]
      refine ⟨?_, h1⟩
      by_cases e : x = c <;> simp [e, nz, hc]
    · show mask nz ((if x = c then 0 else x) :: drp c p) = _
      unfold mask
      rw [h2]
      by_cases e : x = c
      · simp [e, nz, hc]
        omega
      · simp [e, nz]
        split <;> omega
theorem drp_load {c d : Nat} (hd : d ≠ c) (h0 : d ≠ 0) : ∀ (ns p : List Nat), load ns (drp c p) d = load ns p d
  | [], _ => by simp [load]
  | _ :: _, [] => rfl
  | n :: ns, x :: p => by
    show (if (if x = c then 0 else x) = d then n else 0) + load ns (drp c p) d = (if x = d then n else 0) + load ns p d
    rw [drp_load hd h0 ns p]
    by_cases e : x = c
    · rw [if_pos e, if_neg (fun q => h0 q.symm), if_neg (fun q => hd (by rw [← q, e]))]
    · rw [if_neg e]
theorem fillable_snoc (rooms : List Nat) (room : Nat) (needed : List Nat) :
    fillable (rooms ++ [room]) needed = (List.range needed.length).map fun chosen => goesWith chosen needed room (fillable rooms needed) := by
  unfold fillable
  rw [List.foldl_append]
  rfl
theorem goesWith_iff {chosen room : Nat} {needed : List Nat} {before : List Bool} :
    goesWith chosen needed room before = true ↔ ∃ part, part &&& chosen = part ∧ needed.getD part 0 ≤ room ∧ before.getD (chosen - part) false = true := by
  unfold goesWith
  rw [List.any_eq_true]
  constructor
  · rintro ⟨part, _, h⟩
    rw [Bool.and_eq_true, Bool.and_eq_true] at h
    exact ⟨part, by simpa using h.1, by simpa using h.2.1, h.2.2⟩
  · rintro ⟨part, h1, h2, h3⟩
    refine ⟨part, by have := sub_le h1; simp; omega, ?_⟩
    rw [Bool.and_eq_true, Bool.and_eq_true]
    exact ⟨by simpa using h1, by simpa using h2, h3⟩
theorem fillable_rev (needs : List Nat) : ∀ (r : List Nat) (m : Nat), (fillable r.reverse (totals needs)).getD m false = true ↔ m < 2 ^ needs.length ∧ ∃ p, Fit r.reverse needs p ∧ mask nz p = m
  | [], m => by
    have e : fillable [] (totals needs) = (List.range (2 ^ needs.length)).map fun chosen => chosen == 0 := by
      show (List.range (totals needs).length).map _ = _
      rw [totals_len]
    rw [List.reverse_nil, e, List.getD_eq_getElem?_getD, List.getElem?_map]
    constructor
    · intro h
      by_cases hm : m < 2 ^ needs.length
      · rw [List.getElem?_range hm] at h
        have h0 : m = 0 := by simpa using h
        refine ⟨hm, List.replicate needs.length 0, ⟨by simp, ?_, fun k hk => by simp at hk⟩, ?_⟩
        · intro x hx
          rw [List.mem_replicate] at hx
          omega
        · rw [h0]
          have : ∀ n, mask nz (List.replicate n 0) = 0 := by
            intro n
            induction n with
            | zero => rfl
            | succ n ih => rw [List.replicate_succ, mask, ih]; rfl
          exact this _
      · rw [List.getElem?_eq_none (by simpa using hm)] at h
        cases h
    · rintro ⟨hm, p, hp, rfl⟩
      rw [List.getElem?_range hm]
      have : mask nz p = 0 := by
        have hz : ∀ q : List Nat, (∀ x ∈ q, x ≤ 0) → mask nz q = 0 := by
          intro q
          induction q with
          | nil => intro _; rfl
          | cons x q ih =>
            intro h
            have h0 := h x (List.mem_cons_self ..)
            rw [mask, ih fun z hz => h z (List.mem_cons_of_mem _ hz)]
            have : x = 0 := by omega
            subst this
            rfl
        exact hz p hp.le
      simp [this]
  | room :: r, m => by
    rw [List.reverse_cons, fillable_snoc, List.getD_eq_getElem?_getD, List.getElem?_map, totals_len]
    have hlen : (r.reverse ++ [room]).length = r.reverse.length + 1 := by simp
    constructor
    · intro h
      by_cases hm : m < 2 ^ needs.length
      · rw [List.getElem?_range hm] at h
        obtain ⟨part, h1, h2, h3⟩ := goesWith_iff.mp (show goesWith m (totals needs) room (fillable r.reverse (totals needs)) = true from h)
        have hpl := sub_le h1
        rw [totals_getD (by omega)] at h2
        obtain ⟨_, p, hp, hpm⟩ := (fillable_rev needs r (m - part)).mp h3
        refine ⟨hm, comb (r.reverse.length + 1) p part, ⟨by rw [comb_len]; exact hp.len, ?_, ?_⟩, comb_mask (by omega) p part m (by rw [hp.len]; exact hm) h1 hpm⟩
        · rw [hlen]
          exact comb_le (Nat.le_refl _) p part fun x hx => Nat.le_succ_of_le (hp.le x hx)
        · intro k hk
          rw [hlen] at hk
          by_cases e : k = r.reverse.length
          · subst e
            rw [comb_load_new needs p part hp.len fun x hx => by have := hp.le x hx; omega]
            simpa [List.getD_eq_getElem?_getD] using h2
          · have hk2 : k < r.reverse.length := by omega
            have := hp.ld k hk2
            have c1 := comb_load_old (c := r.reverse.length + 1) (d := k + 1) (by omega) needs p part
            rw [List.getD_eq_getElem?_getD, List.getElem?_append_left hk2, ← List.getD_eq_getElem?_getD]
            omega
      · rw [List.getElem?_eq_none (by simpa using hm)] at h
        cases h
    · rintro ⟨hm, p, hp, rfl⟩
      rw [List.getElem?_range hm]
      show goesWith (mask nz p) (totals needs) room (fillable r.reverse (totals needs)) = true
      obtain ⟨d1, d2⟩ := drp_mask (c := r.reverse.length + 1) (by omega) p
      refine goesWith_iff.mpr ⟨mask (fun x => decide (x = r.reverse.length + 1)) p, d1, ?_, ?_⟩
      · have hl := sub_le d1
        rw [totals_getD (by omega), load_mask _ needs p hp.len]
        have := hp.ld r.reverse.length (by rw [hlen]; omega)
        simpa [List.getD_eq_getElem?_getD] using this
      · refine (fillable_rev needs r _).mpr ⟨by omega, drp (r.reverse.length + 1) p, ⟨by simpa [drp] using hp.len, ?_, ?_⟩, d2⟩
        · intro x hx
          obtain ⟨y, hy, rfl⟩ := List.mem_map.mp hx
          have := hp.le y hy
          rw [hlen] at this
          split <;> omega
        · intro k hk
          rw [drp_load (by omega) (by omega)]
          have := hp.ld k (by rw [hlen]; omega)
          rwa [List.getD_eq_getElem?_getD, List.getElem?_append_left hk, ← List.getD_eq_getElem?_getD] at this
theorem fillable_iff {rooms needs : List Nat} {m : Nat} : (fillable rooms (totals needs)).getD m false = true ↔ m < 2 ^ needs.length ∧ ∃ p, Fit rooms needs p ∧ mask nz p = m := by
  have h := fillable_rev needs rooms.reverse m
  rwa [List.reverse_reverse] at h
theorem fillable_len (rooms needed : List Nat) : (fillable rooms needed).length = needed.length := by
  have h : ∀ r : List Nat, (fillable r.reverse needed).length = needed.length := by
    intro r
    cases r with
    | nil => simp [fillable]
    | cons x r => rw [List.reverse_cons, fillable_snoc]; simp
  have := h rooms.reverse
  rwa [List.reverse_reverse] at this
/-! ### the most that is brought -/
theorem foldl_max : ∀ (l : List Nat) (a : Nat), a ≤ l.foldl max a ∧ (∀ x ∈ l, x ≤ l.foldl max a) ∧ (l.foldl max a = a ∨ l.foldl max a ∈ l)
  | [], a => ⟨Nat.le_refl _, fun x h => by simp at h, .inl rfl⟩
  | y :: l, a => by
    obtain ⟨h1, h2, h3⟩ := foldl_max l (max a y)
    rw [List.foldl_cons]
    refine ⟨by omega, fun x hx => ?_, ?_⟩
    · rcases List.mem_cons.mp hx with e | e
      · omega
      · exact h2 x e
    · rcases h3 with e | e
      · rw [e]
        by_cases q : a ≤ y
        · right
          rw [Nat.max_eq_right q]
          exact List.mem_cons_self ..
        · left
          omega
      · right
        exact List.mem_cons_of_mem _ e
theorem maxOf_spec {l : List Nat} (h : l ≠ []) : maxOf l ∈ l ∧ ∀ x ∈ l, x ≤ maxOf l := by
  cases l with
  | nil => exact absurd rfl h
  | cons a l =>
    obtain ⟨h1, h2, h3⟩ := foldl_max l a
    refine ⟨?_, fun x hx => ?_⟩
    · rcases h3 with e | e
      · show l.foldl max a ∈ _
        rw [e]
        exact List.mem_cons_self ..
      · exact List.mem_cons_of_mem _ e
    · rcases List.mem_cons.mp hx with e | e
      · rw [e]; exact h1
      · exact h2 x e
structure IsMax (rooms : List Nat) (wants : List (Nat × Nat)) (M : Nat) : Prop where
  att : ∃ p, Fit rooms (wants.map (·.1)) p ∧ pay (wants.map (·.2)) p = M
  top : ∀ p, Fit rooms (wants.map (·.1)) p → pay (wants.map (·.2)) p ≤ M
theorem IsMax.uniq {rooms : List Nat} {wants : List (Nat × Nat)} {M N : Nat} (a : IsMax rooms wants M) (b : IsMax rooms wants N) : M = N := by
  obtain ⟨p, hp, e⟩ := a.att
  obtain ⟨q, hq, f⟩ := b.att
  have := a.top q hq
  have := b.top p hp
  omega
def broughts (rooms : List Nat) (wants : List (Nat × Nat)) : List Nat := (((totals (wants.map (·.2))).zip (fillable rooms (totals (wants.map (·.1))))).filter (·.2)).map (·.1)
theorem mem_brought {rooms : List Nat} {wants : List (Nat × Nat)} {v : Nat} : v ∈ broughts rooms wants ↔ ∃ p, Fit rooms (wants.map (·.1)) p ∧ pay (wants.map (·.2)) p = v := by
  unfold broughts
  constructor
  · intro h
    obtain ⟨⟨a, b⟩, h1, rfl⟩ := List.mem_map.mp h
    obtain ⟨h2, h3⟩ := List.mem_filter.mp h1
    obtain ⟨i, hi⟩ := List.mem_iff_getElem?.mp h2
    rw [List.getElem?_zip_eq_some] at hi
    obtain ⟨e1, e2⟩ := hi
    have h3 : b = true := h3
    subst h3
    obtain ⟨hm, p, hp, rfl⟩ := fillable_iff.mp (show (fillable rooms (totals (wants.map (·.1)))).getD i false = true by rw [List.getD_eq_getElem?_getD, e2]; rfl)
    refine ⟨p, hp, ?_⟩
    rw [totals_at (by simpa using hm)] at e1
    rw [← pay_mask _ _ (by simpa using hp.len)]
    exact Option.some.inj e1
  · rintro ⟨p, hp, rfl⟩
    have hl : p.length = wants.length := by simpa using hp.len
    have hm : mask nz p < 2 ^ wants.length := by rw [← hl]; exact mask_lt nz p
    refine List.mem_map.mpr ⟨(pay (wants.map (·.2)) p, true), List.mem_filter.mpr ⟨List.mem_iff_getElem?.mpr ⟨mask nz p, ?_⟩, rfl⟩, rfl⟩
    rw [List.getElem?_zip_eq_some]
    refine ⟨by rw [totals_at (by simpa using hm), pay_mask _ _ (by simpa using hl)], ?_⟩
    have h := (fillable_iff (rooms := rooms) (needs := wants.map (·.1)) (m := mask nz p)).mpr ⟨by simpa using hm, p, hp, rfl⟩
    rw [List.getD_eq_getElem?_getD] at h
    cases e : (fillable rooms (totals (wants.map (·.1))))[mask nz p]? with
    | none => rw [e] at h; cases h
    | some b => rw [e] at h; exact congrArg some h
theorem fit_none (rooms needs : List Nat) : Fit rooms needs (List.replicate needs.length 0) := by
  refine ⟨by simp, fun x hx => ?_, fun k hk => ?_⟩
  · rw [List.mem_replicate] at hx; omega
  · have : ∀ ns : List Nat, load ns (List.replicate ns.length 0) (k + 1) = 0 := by
      intro ns
      induction ns with
      | nil => rfl
      | cons n ns ih => rw [List.length_cons, List.replicate_succ, load, ih]; rfl
    rw [this]; exact Nat.zero_le _
theorem brought_ne (rooms : List Nat) (wants : List (Nat × Nat)) : broughts rooms wants ≠ [] := by
  intro h
  have := mem_brought.mpr ⟨_, fit_none rooms (wants.map (·.1)), rfl⟩
  rw [h] at this
  cases this
theorem most_isMax (rooms : List Nat) (wants : List (Nat × Nat)) : IsMax rooms wants (mostBrought rooms wants) := by
  obtain ⟨h1, h2⟩ := maxOf_spec (brought_ne rooms wants)
  exact ⟨mem_brought.mp h1, fun p hp => h2 _ (mem_brought.mpr ⟨p, hp, rfl⟩)⟩
end Cut

set_option linter.all false
namespace Cut
/-! ### one order more -/
theorem set_getD {l : List Nat} {k j v : Nat} (hk : k < l.length) : (l.set k v).getD j 0 = if j = k then v else l.getD j 0 := by
  rw [List.getD_eq_getElem?_getD, List.getElem?_set]
  by_cases e : k = j
  · subst e
    simp [hk]
  · rw [if_neg e, if_neg fun q => e q.symm, List.getD_eq_getElem?_getD]
theorem fit_zero {rooms ns p : List Nat} {n : Nat} : Fit rooms (n :: ns) (0 :: p) ↔ Fit rooms ns p := by
  constructor
  · intro h
    refine ⟨by simpa using h.len, fun x hx => h.le x (List.mem_cons_of_mem _ hx), fun k hk => ?_⟩
    have := h.ld k hk
    simpa [load] using this
  · intro h
    refine ⟨by simpa using h.len, fun x hx => ?_, fun k hk => ?_⟩
    · rcases List.mem_cons.mp hx with e | e
      · omega
      · exact h.le x e
    · have := h.ld k hk
      simpa [load] using this
theorem fit_succ {rooms ns p : List Nat} {n k : Nat} : Fit rooms (n :: ns) ((k + 1) :: p) ↔ k < rooms.length ∧ n ≤ rooms.getD k 0 ∧ Fit (rooms.set k (rooms.getD k 0 - n)) ns p := by
  constructor
  · intro h
    have hk : k < rooms.length := h.le (k + 1) (List.mem_cons_self ..)
    have h1 := h.ld k hk
    rw [load, if_pos rfl] at h1
    refine ⟨hk, by omega, by simpa using h.len, fun x hx => by rw [List.length_set]; exact h.le x (List.mem_cons_of_mem _ hx), fun j hj => ?_⟩
    rw [List.length_set] at hj
    rw [set_getD hk]
    by_cases e : j = k
    · rw [if_pos e, e]; omega
    · rw [if_neg e]
      have := h.ld j hj
      rw [load, if_neg (by omega)] at this
      omega
  · rintro ⟨hk, hn, h⟩
    refine ⟨by simpa using h.len, fun x hx => ?_, fun j hj => ?_⟩
    · rcases List.mem_cons.mp hx with e | e
      · omega
      · have := h.le x e
        rwa [List.length_set] at this
    · have := h.ld j (by rw [List.length_set]; exact hj)
      rw [set_getD hk] at this
      rw [load]
      by_cases e : j = k
      · rw [if_pos e] at this
        rw [if_pos (by omega), e]
        rw [e] at this
        omega
      · rw [if_neg e] at this
        rw [if_neg (by omega)]
        omega
/-! ### all plans -/
theorem mem_plans (k : Nat) : ∀ (n : Nat) (p : List Nat), p ∈ Kp242.plans k n ↔ p.length = n ∧ ∀ x ∈ p, x ≤ k
  | 0, p => by
    simp only [Kp242.plans, List.mem_singleton]
    constructor
    · rintro rfl; simp
    · rintro ⟨h, _⟩; exact List.length_eq_zero_iff.mp h
  | n + 1, p => by
    rw [Kp242.plans, List.mem_flatMap]
    constructor
    · rintro ⟨c, hc, hp⟩
      obtain ⟨r, hr, rfl⟩ := List.mem_map.mp hp
      obtain ⟨h1, h2⟩ := (mem_plans k n r).mp hr
      refine ⟨by simp [h1], fun x hx => ?_⟩
      rcases List.mem_cons.mp hx with e | e
      · subst e
        simp at hc
        omega
      · exact h2 x e
    · rintro ⟨h1, h2⟩
      cases p with
      | nil => simp at h1
      | cons c r =>
        refine ⟨c, ?_, List.mem_map.mpr ⟨r, (mem_plans k n r).mpr ⟨by simpa using h1, fun x hx => h2 x (List.mem_cons_of_mem _ hx)⟩, rfl⟩⟩
        have := h2 c (List.mem_cons_self ..)
        cases c with
        | zero => simp
        | succ c => simp; exact this
theorem fit_mem {rooms needs p : List Nat} (h : Fit rooms needs p) : p ∈ Kp242.plans rooms.length needs.length := (mem_plans _ _ _).mpr ⟨h.len, h.le⟩
/-! ### the first that brings most -/
theorem find_congr {α : Type} {P Q : α → Bool} : ∀ {l : List α}, (∀ x ∈ l, P x = Q x) → l.find? P = l.find? Q
  | [], _ => rfl
  | x :: l, h => by
    rw [List.find?_cons, List.find?_cons, h x (List.mem_cons_self ..), find_congr fun y hy => h y (List.mem_cons_of_mem _ hy)]
def keep (v : List Nat → Nat) (b : Option (List Nat)) (p : List Nat) : Option (List Nat) := match b with
  | none => some p
  | some q => if v q < v p then some p else some q
theorem keep_top {v : List Nat → Nat} {M : Nat} {q : List Nat} (hq : v q = M) : ∀ l : List (List Nat), (∀ p ∈ l, v p ≤ M) → l.foldl (keep v) (some q) = some q
  | [], _ => rfl
  | p :: l, h => by
    have h0 := h p (List.mem_cons_self ..)
    rw [List.foldl_cons, show keep v (some q) p = some q from if_neg (by omega)]
    exact keep_top hq l fun x hx => h x (List.mem_cons_of_mem _ hx)
theorem keep_low {v : List Nat → Nat} {M : Nat} : ∀ (l : List (List Nat)) (q : List Nat), v q < M → (∀ p ∈ l, v p ≤ M) → (∃ p ∈ l, v p = M) → l.foldl (keep v) (some q) = l.find? (fun p => v p == M)
  | [], q, _, _, ⟨p, hp, _⟩ => by simp at hp
  | p :: l, q, hq, h, ⟨r, hr, er⟩ => by
    have h0 := h p (List.mem_cons_self ..)
    rw [List.foldl_cons, List.find?_cons]
    by_cases e : v p = M
    · rw [show keep v (some q) p = some p from if_pos (by omega), keep_top e l fun x hx => h x (List.mem_cons_of_mem _ hx)]
      simp [e]
    · have hr2 : ∃ p ∈ l, v p = M := by
        rcases List.mem_cons.mp hr with x | x
        · rw [x] at er; exact absurd er e
        · exact ⟨r, x, er⟩
      have e2 : (v p == M) = false := by simp [e]
      rw [e2]
      show l.foldl (keep v) (if v q < v p then some p else some q) = _
      split
      · exact keep_low l p (by omega) (fun x hx => h x (List.mem_cons_of_mem _ hx)) hr2
      · exact keep_low l q hq (fun x hx => h x (List.mem_cons_of_mem _ hx)) hr2
theorem keep_first {v : List Nat → Nat} {M : Nat} (l : List (List Nat)) (h : ∀ p ∈ l, v p ≤ M) (he : ∃ p ∈ l, v p = M) : l.foldl (keep v) none = l.find? (fun p => v p == M) := by
  cases l with
  | nil => obtain ⟨p, hp, _⟩ := he; simp at hp
  | cons p l =>
    rw [List.foldl_cons, show keep v none p = some p from rfl, List.find?_cons]
    by_cases e : v p = M
    · rw [keep_top e l fun x hx => h x (List.mem_cons_of_mem _ hx)]
      simp [e]
    · have e2 : (v p == M) = false := by simp [e]
      rw [e2]
      have h0 := h p (List.mem_cons_self ..)
      refine keep_low l p (by omega) (fun x hx => h x (List.mem_cons_of_mem _ hx)) ?_
      obtain ⟨r, hr, er⟩ := he
      rcases List.mem_cons.mp hr with x | x
      · rw [x] at er; exact absurd er e
      · exact ⟨r, x, er⟩
theorem findSome_guard {α : Type} {good : Nat → Bool} {f : Nat → Option α} {g : Nat → α} : ∀ {l : List Nat}, (∀ k ∈ l, f k = if good k = true then some (g k) else none) → l.findSome? f = (l.find? good).map g
  | [], _ => rfl
  | k :: l, h => by
    rw [List.findSome?_cons, List.find?_cons, h k (List.mem_cons_self ..)]
    cases e : good k with
    | true => simp
    | false =>
      simp
      exact findSome_guard fun j hj => h j (List.mem_cons_of_mem _ hj)
open Classical in
noncomputable def okP (rooms : List Nat) (wants : List (Nat × Nat)) (goal : Nat) (p : List Nat) : Bool := decide (Fit rooms (wants.map (·.1)) p ∧ pay (wants.map (·.2)) p = goal)
theorem okP_iff {rooms : List Nat} {wants : List (Nat × Nat)} {goal : Nat} {p : List Nat} : okP rooms wants goal p = true ↔ Fit rooms (wants.map (·.1)) p ∧ pay (wants.map (·.2)) p = goal := by
  unfold okP; simp
theorem goodAt_iff {rooms : List Nat} {w : Nat × Nat} {ws : List (Nat × Nat)} {goal k : Nat} : goodAt rooms w ws goal k = true ↔ w.1 ≤ rooms.getD k 0 ∧ w.2 + mostBrought (rooms.set k (rooms.getD k 0 - w.1)) ws = goal := by
  unfold goodAt; rw [Bool.and_eq_true]; simp
theorem planGo_first : ∀ (wants : List (Nat × Nat)) (rooms : List Nat) (goal : Nat), IsMax rooms wants goal → (Kp242.plans rooms.length wants.length).find? (okP rooms wants goal) = some (planGo rooms wants goal)
  | [], rooms, goal, h => by
    obtain ⟨p, hp, e⟩ := h.att
    have : p = [] := List.length_eq_zero_iff.mp (by simpa using hp.len)
    subst this
    show ([[]] : List (List Nat)).find? _ = some []
    rw [List.find?_cons, okP_iff.mpr ⟨hp, e⟩]
  | w :: ws, rooms, goal, h => by
    have top : ∀ k, k < rooms.length → w.1 ≤ rooms.getD k 0 → w.2 + mostBrought (rooms.set k (rooms.getD k 0 - w.1)) ws ≤ goal := by
      intro k hk hw
      obtain ⟨p, hp, e⟩ := (most_isMax (rooms.set k (rooms.getD k 0 - w.1)) ws).att
      have := h.top ((k + 1) :: p) (fit_succ.mpr ⟨hk, hw, hp⟩)
      have e2 : pay ((w :: ws).map (·.2)) ((k + 1) :: p) = w.2 + pay (ws.map (·.2)) p := by simp [pay]
      omega
    have one : ∀ k ∈ List.range rooms.length, ((Kp242.plans rooms.length ws.length).map (fun r => (k + 1) :: r)).find? (okP rooms (w :: ws) goal) = if goodAt rooms w ws goal k = true then some ((k + 1) :: planGo (rooms.set k (rooms.getD k 0 - w.1)) ws (goal - w.2)) else none := by
      intro k hk
      have hk : k < rooms.length := by simpa using hk
      rw [List.find?_map]
      by_cases g : goodAt rooms w ws goal k = true
      · rw [if_pos g]
        obtain ⟨g1, g2⟩ := goodAt_iff.mp g
        have im : IsMax (rooms.set k (rooms.getD k 0 - w.1)) ws (goal - w.2) := by
          have := most_isMax (rooms.set k (rooms.getD k 0 - w.1)) ws
          rwa [show mostBrought (rooms.set k (rooms.getD k 0 - w.1)) ws = goal - w.2 by omega] at this
        have ih := planGo_first ws (rooms.set k (rooms.getD k 0 - w.1)) (goal - w.2) im
        rw [List.length_set] at ih
        rw [find_congr (Q := okP (rooms.set k (rooms.getD k 0 - w.1)) ws (goal - w.2)) (fun r _ => ?_), ih]
        · rfl
        · rw [Bool.eq_iff_iff]
          show okP rooms (w :: ws) goal ((k + 1) :: r) = true ↔ _
          rw [okP_iff, okP_iff]
          have e2 : pay ((w :: ws).map (·.2)) ((k + 1) :: r) = w.2 + pay (ws.map (·.2)) r := by simp [pay]
          rw [e2]
          constructor
          · rintro ⟨a, b⟩
            exact ⟨(fit_succ.mp a).2.2, by omega⟩
          · rintro ⟨a, b⟩
            exact ⟨fit_succ.mpr ⟨hk, g1, a⟩, by omega⟩
      · rw [if_neg g]
        rw [List.find?_eq_none.mpr]
        · rfl
        · intro r _ hr
          obtain ⟨a, b⟩ := okP_iff.mp (show okP rooms (w :: ws) goal ((k + 1) :: r) = true from hr)
          obtain ⟨_, a2, a3⟩ := fit_succ.mp a
          have e2 : pay ((w :: ws).map (·.2)) ((k + 1) :: r) = w.2 + pay (ws.map (·.2)) r := by simp [pay]
          have t := top k hk a2
          have m := (most_isMax (rooms.set k (rooms.getD k 0 - w.1)) ws).top r a3
          exact g (goodAt_iff.mpr ⟨a2, by omega⟩)
    rw [List.length_cons, Kp242.plans, List.find?_flatMap, List.findSome?_append, List.findSome?_map]
    rw [findSome_guard (f := (fun x => List.find? (okP rooms (w :: ws) goal) (List.map (fun r => x :: r) (Kp242.plans rooms.length ws.length))) ∘ fun i => i + 1) (good := goodAt rooms w ws goal) (g := fun k => (k + 1) :: planGo (rooms.set k (rooms.getD k 0 - w.1)) ws (goal - w.2)) (fun k hk => one k hk)]
    have ep : firstPlace rooms (w :: ws) goal = (((List.range rooms.length).find? (goodAt rooms w ws goal)).map (· + 1)).getD 0 := rfl
    cases e : (List.range rooms.length).find? (goodAt rooms w ws goal) with
    | some k =>
      rw [e] at ep
      have ep : firstPlace rooms (w :: ws) goal = k + 1 := ep
      rw [planGo, ep, if_pos (by omega)]
      rfl
    | none =>
      rw [e] at ep
      have ep : firstPlace rooms (w :: ws) goal = 0 := ep
      rw [planGo, ep, if_neg (by omega)]
      have no : ∀ k, k < rooms.length → ¬ goodAt rooms w ws goal k = true := fun k hk => List.find?_eq_none.mp e k (by simpa using hk)
      have im : IsMax rooms ws goal := by
        obtain ⟨p, hp, ev⟩ := h.att
        refine ⟨?_, fun q hq => ?_⟩
        · cases p with
          | nil => have := hp.len; simp at this
          | cons c r =>
            cases c with
            | zero =>
              refine ⟨r, fit_zero.mp hp, ?_⟩
              simpa [pay] using ev
            | succ k =>
              exfalso
              obtain ⟨hk, a2, a3⟩ := fit_succ.mp (show Fit rooms (w.1 :: ws.map (·.1)) ((k + 1) :: r) from hp)
              have e2 : pay ((w :: ws).map (·.2)) ((k + 1) :: r) = w.2 + pay (ws.map (·.2)) r := by simp [pay]
              have t := top k hk a2
              have m := (most_isMax (rooms.set k (rooms.getD k 0 - w.1)) ws).top r a3
              exact no k hk (goodAt_iff.mpr ⟨a2, by omega⟩)
        · have := h.top (0 :: q) (fit_zero.mpr hq)
          simpa [pay] using this
      have ih := planGo_first ws rooms goal im
      show (none : Option (List Nat)).or (List.findSome? _ [0]) = _
      rw [Option.none_or, List.findSome?_cons, List.find?_map]
      rw [find_congr (Q := okP rooms ws goal) (fun r _ => ?_), ih]
      · rfl
      · rw [Bool.eq_iff_iff]
        show okP rooms (w :: ws) goal (0 :: r) = true ↔ _
        rw [okP_iff, okP_iff]
        constructor
        · rintro ⟨a, b⟩
          exact ⟨fit_zero.mp a, by simpa [pay] using b⟩
        · rintro ⟨a, b⟩
          exact ⟨fit_zero.mpr a, by simpa [pay] using b⟩
/-! ### the specification's words -/
theorem foldl_sum : ∀ (l : List Nat) (a : Nat), l.foldl (fun (a x : Nat) => a + x) a = a + l.sum
  | [], a => by simp
  | x :: l, a => by rw [List.foldl_cons, foldl_sum l, List.sum_cons]; omega
theorem sumOf_eq (l : List Nat) : Kp242.sumOf l = l.sum := by rw [Kp242.sumOf, foldl_sum]; omega
theorem range_filter_map {α : Type} (x : α) (p : List α) (d : α) (P : α → Bool) (f : Nat → Nat) :
    ((List.range (x :: p).length).filter fun o => P ((x :: p).getD o d)).map f = (if P x = true then [f 0] else []) ++ ((List.range p.length).filter fun o => P (p.getD o d)).map (fun o => f (o + 1)) := by
  rw [List.length_cons, List.range_succ_eq_map, List.filter_cons]
  have e : (List.map Nat.succ (List.range p.length)).filter (fun o => P ((x :: p).getD o d)) = ((List.range p.length).filter fun o => P (p.getD o d)).map Nat.succ := by
    rw [List.filter_map]
    rfl
  rw [e]
  show List.map f (if P x = true then _ else _) = _
  split
  · rw [List.map_cons, List.map_map]
    rfl
  · rw [List.map_map]
    rfl
def roomsOf (s : Kp242.Store) : List Nat := (Kp242.pieces s).map fun p => Kp242.size p + s.kerf
def wantsOf (s : Kp242.Store) : List (Nat × Nat) := s.orders.map fun o => (o.metres + s.kerf, o.pays)
theorem load_in (kerf k : Nat) : ∀ (os : List Kp242.Order) (p : List Nat), p.length = os.length →
    (((List.range p.length).filter fun o => p.getD o 0 == k + 1).map fun o => (os.getD o ⟨0, 0⟩).metres).sum + kerf * ((List.range p.length).filter fun o => p.getD o 0 == k + 1).length = load (os.map fun o => o.metres + kerf) p (k + 1)
  | [], [], _ => by simp [load]
  | [], _ :: _, h => by simp at h
  | _ :: _, [], h => by simp at h
  | o :: os, x :: p, h => by
    have ih := load_in kerf k os p (by simpa using h)
    have e := range_filter_map x p 0 (fun c => c == k + 1) (fun j => ((o :: os).getD j ⟨0, 0⟩).metres)
    have el := congrArg List.length (range_filter_map x p 0 (fun c => c == k + 1) id)
    simp only [List.length_append, List.length_map] at el
    rw [e, el, List.sum_append, List.map_cons, load, ← ih]
    show _ + (((List.range p.length).filter fun o => p.getD o 0 == k + 1).map fun j => (os.getD j ⟨0, 0⟩).metres).sum + _ = _
    by_cases q : x = k + 1
    · simp [q, Nat.mul_add]
      omega
    · simp [q]
theorem pay_in : ∀ (os : List Kp242.Order) (p : List Nat), p.length = os.length →
    ((List.range p.length).map fun o => if p.getD o 0 = 0 then 0 else (os.getD o ⟨0, 0⟩).pays).sum = pay (os.map (·.pays)) p
  | [], [], _ => by simp [pay]
  | [], _ :: _, h => by simp at h
  | _ :: _, [], h => by simp at h
  | o :: os, x :: p, h => by
    rw [List.length_cons, List.range_succ_eq_map, List.map_cons, List.sum_cons, List.map_map, List.map_cons, pay, ← pay_in os p (by simpa using h)]
    rfl
theorem fits_iff (s : Kp242.Store) {p : List Nat} (hp : p ∈ Kp242.plans (Kp242.pieces s).length s.orders.length) : Kp242.fits s p = true ↔ Fit (roomsOf s) ((wantsOf s).map (·.1)) p := by
  obtain ⟨hl, hx⟩ := (mem_plans _ _ _).mp hp
  have hr : (roomsOf s).length = (Kp242.pieces s).length := by simp [roomsOf]
  have hw : (wantsOf s).map (·.1) = s.orders.map fun o => o.metres + s.kerf := by simp [wantsOf]
  have key : ∀ k, k < (Kp242.pieces s).length → (Kp242.needs s (Kp242.inPiece p k) ≤ Kp242.size ((Kp242.pieces s).getD k ⟨0, 0, 0⟩) ↔ load ((wantsOf s).map (·.1)) p (k + 1) ≤ (roomsOf s).getD k 0) := by
    intro k hk
    have e1 : (roomsOf s).getD k 0 = Kp242.size ((Kp242.pieces s).getD k ⟨0, 0, 0⟩) + s.kerf := by
      rw [roomsOf, List.getD_eq_getElem?_getD, List.getElem?_map, List.getD_eq_getElem?_getD, List.getElem?_eq_getElem hk]
      rfl
    have e2 := load_in s.kerf k s.orders p hl
    rw [hw, ← e2, e1, Kp242.needs, sumOf_eq]
    show ((Kp242.inPiece p k).map fun o => (s.orders.getD o ⟨0, 0⟩).metres).sum + s.kerf * ((Kp242.inPiece p k).length - 1) ≤ _ ↔ ((Kp242.inPiece p k).map fun o => (s.orders.getD o ⟨0, 0⟩).metres).sum + s.kerf * (Kp242.inPiece p k).length ≤ _
    cases Kp242.inPiece p k with
    | nil => simp
    | cons a l =>
      rw [List.length_cons, Nat.add_sub_cancel, Nat.mul_add, Nat.mul_one]
      omega
  rw [Kp242.fits, List.all_eq_true]
  constructor
  · intro h
    refine ⟨by rw [hw]; simpa using hl, fun x m => by rw [hr]; exact hx x m, fun k hk => ?_⟩
    rw [hr] at hk
    exact (key k hk).mp (of_decide_eq_true (h k (by simpa using hk)))
  · intro h k hk
    have hk : k < (Kp242.pieces s).length := by simpa using hk
    exact decide_eq_true ((key k hk).mpr (h.ld k (by rw [hr]; exact hk)))
theorem pays_eq (s : Kp242.Store) {p : List Nat} (hl : p.length = s.orders.length) : Kp242.pays s p = pay ((wantsOf s).map (·.2)) p := by
  have hw : (wantsOf s).map (·.2) = s.orders.map (·.pays) := by simp [wantsOf]
  rw [Kp242.pays, sumOf_eq, hw, ← pay_in s.orders p hl]
  rfl
theorem best_eq (s : Kp242.Store) : Kp242.best s = bestPlan (roomsOf s) (wantsOf s) := by
  have hr : (roomsOf s).length = (Kp242.pieces s).length := by simp [roomsOf]
  have hn : (wantsOf s).length = s.orders.length := by simp [wantsOf]
  have im := most_isMax (roomsOf s) (wantsOf s)
  have h := planGo_first (wantsOf s) (roomsOf s) _ im
  rw [hr, hn] at h
  have e1 : Kp242.best s = (((Kp242.plans (Kp242.pieces s).length s.orders.length).filter (Kp242.fits s)).foldl (keep (Kp242.pays s)) none).getD [] := rfl
  rw [e1, keep_first (M := mostBrought (roomsOf s) (wantsOf s)), List.find?_filter, find_congr (Q := okP (roomsOf s) (wantsOf s) (mostBrought (roomsOf s) (wantsOf s))), h]
  · rfl
  · intro p hp
    rw [Bool.eq_iff_iff, okP_iff, decide_eq_true_iff, fits_iff s hp, pays_eq s ((mem_plans _ _ _).mp hp).1]
    simp
  · intro p hp
    obtain ⟨a, b⟩ := List.mem_filter.mp hp
    rw [pays_eq s ((mem_plans _ _ _).mp a).1]
    exact im.top p ((fits_iff s a).mp b)
  · obtain ⟨p, hp, e⟩ := im.att
    have m := fit_mem hp
    rw [hr, List.length_map, hn] at m
    exact ⟨p, List.mem_filter.mpr ⟨m, (fits_iff s m).mpr hp⟩, by rw [pays_eq s ((mem_plans _ _ _).mp m).1]; exact e⟩
theorem bestPays_eq (s : Kp242.Store) : Kp242.bestPays s = mostBrought (roomsOf s) (wantsOf s) := by
  have hr : (roomsOf s).length = (Kp242.pieces s).length := by simp [roomsOf]
  have hn : (wantsOf s).length = s.orders.length := by simp [wantsOf]
  have h := planGo_first (wantsOf s) (roomsOf s) _ (most_isMax (roomsOf s) (wantsOf s))
  obtain ⟨a, b⟩ := okP_iff.mp (List.find?_some h)
  have m := fit_mem a
  rw [hr, List.length_map, hn] at m
  rw [Kp242.bestPays, best_eq]
  exact (pays_eq s ((mem_plans _ _ _).mp m).1).trans b
theorem bestPlan_len (rooms : List Nat) (wants : List (Nat × Nat)) : (bestPlan rooms wants).length = wants.length ∧ ∀ x ∈ bestPlan rooms wants, x ≤ rooms.length := by
  have h := planGo_first wants rooms _ (most_isMax rooms wants)
  obtain ⟨a, b⟩ := okP_iff.mp (List.find?_some h)
  exact ⟨a.len.trans (by simp), a.le⟩
/-! ### together -/
theorem mask_bit (f : Nat → Bool) : ∀ (p : List Nat) (o : Nat), o < p.length → (mask f p).testBit o = f (p.getD o 0)
  | [], o, h => by simp at h
  | x :: p, 0, _ => by
    rw [Nat.testBit_zero, mask_mod]
    show _ = f x
    cases f x <;> simp
  | x :: p, o + 1, h => by
    rw [Nat.testBit_succ, mask_div]
    exact mask_bit f p o (by simpa using h)
/-- only the orders of m, by a plan -/
def only (m : Nat) : List Nat → List Nat
  | [] => []
  | x :: p => (if m % 2 = 1 then x else 0) :: only (m / 2) p
theorem only_len : ∀ (p : List Nat) (m : Nat), (only m p).length = p.length
  | [], _ => rfl
  | x :: p, m => by simp [only, only_len p]
theorem only_le {b : Nat} : ∀ (p : List Nat) (m : Nat), (∀ x ∈ p, x ≤ b) → ∀ x ∈ only m p, x ≤ b
  | [], _, _, x, h => by simp [only] at h
  | y :: p, m, hp, x, h => by
    unfold only at h
    rcases List.mem_cons.mp h with e | e
    · rw [e]
      split
      · exact hp y (List.mem_cons_self ..)
      · omega
    · exact only_le p (m / 2) (fun z hz => hp z (List.mem_cons_of_mem _ hz)) x e
theorem only_load {c : Nat} (hc : c ≠ 0) : ∀ (ns p : List Nat) (m : Nat), load ns (only m p) c ≤ load ns p c
  | [], _, _ => by simp [load]
  | _ :: _, [], _ => by simp [only, load]
  | n :: ns, x :: p, m => by
    unfold only load
    have ih := only_load hc ns p (m / 2)
    by_cases o : m % 2 = 1
    · rw [if_pos o]; omega
    · rw [if_neg o, if_neg (fun q => hc q.symm)]
      omega
theorem only_mask : ∀ (p : List Nat) (m : Nat), m < 2 ^ p.length → (∀ o, o < p.length → m.testBit o = true → p.getD o 0 ≠ 0) → mask nz (only m p) = m
  | [], m, h, _ => by
    have : m = 0 := by simpa using h
    subst this; rfl
  | x :: p, m, h, hb => by
    rw [List.length_cons, Nat.pow_succ] at h
    have ih := only_mask p (m / 2) (by omega) fun o ho hm => hb (o + 1) (by simpa using ho) (by rw [Nat.testBit_succ]; exact hm)
    unfold only mask
    rw [ih]
    by_cases o : m % 2 = 1
    · rw [if_pos o]
      have := hb 0 (by simp) (by rw [Nat.testBit_zero]; simpa using o)
      rw [if_pos (show nz x = true by unfold nz; exact decide_eq_true this)]
      omega
    · rw [if_neg o, if_neg (by simp [nz])]
      omega
theorem together_eq (s : Kp242.Store) {m : Nat} (hm : m < 2 ^ s.orders.length) : Kp242.together s m = (fillable (roomsOf s) (totals ((wantsOf s).map (·.1)))).getD m false := by
  have hr : (roomsOf s).length = (Kp242.pieces s).length := by simp [roomsOf]
  have hn : ((wantsOf s).map (·.1)).length = s.orders.length := by simp [wantsOf]
  rw [Bool.eq_iff_iff, fillable_iff, Kp242.together, List.any_eq_true]
  constructor
  · rintro ⟨p, hp, h⟩
    rw [Bool.and_eq_true, List.all_eq_true] at h
    have hf := (fits_iff s hp).mp h.1
    have hl : p.length = s.orders.length := ((mem_plans _ _ _).mp hp).1
    refine ⟨by rw [hn]; exact hm, only m p, ⟨by rw [only_len]; exact hf.len, only_le p m hf.le, fun k hk => Nat.le_trans (only_load (by omega) _ _ _) (hf.ld k hk)⟩, only_mask p m (by rw [hl]; exact hm) fun o ho hb => ?_⟩
    have := h.2 o (by simpa [hl] using ho)
    rw [hb] at this
    simpa using this
  · rintro ⟨_, p, hp, rfl⟩
    have m := fit_mem hp
    rw [hr, hn] at m
    refine ⟨p, m, ?_⟩
    rw [Bool.and_eq_true, List.all_eq_true]
    refine ⟨(fits_iff s m).mpr hp, fun o ho => ?_⟩
    have hl : p.length = s.orders.length := ((mem_plans _ _ _).mp m).1
    rw [mask_bit nz p o (by rw [hl]; simpa using ho)]
    unfold nz
    by_cases e : p.getD o 0 = 0
    · rw [e]; rfl
    · rw [decide_eq_true e]; simpa using e
end Cut

set_option linter.all false
namespace Cut
/-! ### the calls, as they lie in the list -/
def enc : Kp242.Call → Nat × List Nat
  | .begin_ k => (0, [k])
  | .length m => (1, [m])
  | .fault l f => (2, [l, f])
  | .order m p => (3, [m, p])
  | .cancel o => (4, [o])
  | .best => (5, [])
  | .plan => (6, [])
  | .fills => (7, [])
  | .worth o => (8, [o])
  | .hurts l f => (9, [l, f])
  | .could o => (10, [o])
  | .together m => (11, [m])
  | .sell l o => (12, [l, o])
  | .trim l n => (13, [l, n])
  | .pieces => (14, [])
  | .longest => (15, [])
  | .left l => (16, [l])
  | .look o => (17, [o])
  | .sums => (18, [])
def hm : List Nat := [1, 1, 2, 2, 1, 0, 0, 0, 1, 2, 1, 1, 2, 2, 0, 0, 1, 1, 0]
theorem enc_hm (c : Kp242.Call) : hm[(enc c).1]? = some (enc c).2.length := by cases c <;> rfl
theorem enc_lt (c : Kp242.Call) : (enc c).1 < 19 := by cases c <;> simp [enc]
def intsOf (l : List Nat) : List Int := l.map fun n : Nat => (n : Int)
theorem shape_some {p : Int} {n k : Nat} (h : PyKp242.shape p = some (n, k)) : k = 0 ∧ ∃ q : Nat, p = (q : Int) ∧ hm[q]? = some n := by
  unfold PyKp242.shape at h
  by_cases e0 : p = 0
  · rw [if_pos e0] at h
    cases h
    exact ⟨rfl, 0, e0, rfl⟩
  rw [if_neg e0] at h
  by_cases e1 : p = 1
  · rw [if_pos e1] at h
    cases h
    exact ⟨rfl, 1, e1, rfl⟩
  rw [if_neg e1] at h
  by_cases e2 : p = 2
  · rw [if_pos e2] at h
    cases h
    exact ⟨rfl, 2, e2, rfl⟩
  rw [if_neg e2] at h
  by_cases e3 : p = 3
  · rw [if_pos e3] at h
    cases h
    exact ⟨rfl, 3, e3, rfl⟩
  rw [if_neg e3] at h
  by_cases e4 : p = 4
  · rw [if_pos e4] at h
    cases h
    exact ⟨rfl, 4, e4, rfl⟩
  rw [if_neg e4] at h
  by_cases e5 : p = 5
  · rw [if_pos e5] at h
    cases h
    exact ⟨rfl, 5, e5, rfl⟩
  rw [if_neg e5] at h
  by_cases e6 : p = 6
  · rw [if_pos e6] at h
    cases h
    exact ⟨rfl, 6, e6, rfl⟩
  rw [if_neg e6] at h
  by_cases e7 : p = 7
  · rw [if_pos e7] at h
    cases h
    exact ⟨rfl, 7, e7, rfl⟩
  rw [if_neg e7] at h
  by_cases e8 : p = 8
  · rw [if_pos e8] at h
    cases h
    exact ⟨rfl, 8, e8, rfl⟩
  rw [if_neg e8] at h
  by_cases e9 : p = 9
  · rw [if_pos e9] at h
    cases h
    exact ⟨rfl, 9, e9, rfl⟩
  rw [if_neg e9] at h
  by_cases e10 : p = 10
  · rw [if_pos e10] at h
    cases h
    exact ⟨rfl, 10, e10, rfl⟩
  rw [if_neg e10] at h
  by_cases e11 : p = 11
  · rw [if_pos e11] at h
    cases h
    exact ⟨rfl, 11, e11, rfl⟩
  rw [if_neg e11] at h
  by_cases e12 : p = 12
  · rw [if_pos e12] at h
    cases h
    exact ⟨rfl, 12, e12, rfl⟩
  rw [if_neg e12] at h
  by_cases e13 : p = 13
  · rw [if_pos e13] at h
    cases h
    exact ⟨rfl, 13, e13, rfl⟩
  rw [if_neg e13] at h
  by_cases e14 : p = 14
  · rw [if_pos e14] at h
    cases h
    exact ⟨rfl, 14, e14, rfl⟩
  rw [if_neg e14] at h
  by_cases e15 : p = 15
  · rw [if_pos e15] at h
    cases h
    exact ⟨rfl, 15, e15, rfl⟩
  rw [if_neg e15] at h
  by_cases e16 : p = 16
  · rw [if_pos e16] at h
    cases h
    exact ⟨rfl, 16, e16, rfl⟩
  rw [if_neg e16] at h
  by_cases e17 : p = 17
  · rw [if_pos e17] at h
    cases h
    exact ⟨rfl, 17, e17, rfl⟩
  rw [if_neg e17] at h
  by_cases e18 : p = 18
  · rw [if_pos e18] at h
    cases h
    exact ⟨rfl, 18, e18, rfl⟩
  rw [if_neg e18] at h
  cases h
theorem nat_of {z : Int} (h : Kp242Neutral.natural z = true) : ∃ n : Nat, z = (n : Int) ∧ n < 4294967296 := by
  unfold Kp242Neutral.natural at h
  rw [Bool.and_eq_true, decide_eq_true_eq, decide_eq_true_eq] at h
  exact ⟨z.toNat, by omega, by omega⟩
theorem nat_two {y z : Int} (h : (Kp242Neutral.natural y && Kp242Neutral.natural z) = true) : ∃ m n : Nat, y = (m : Int) ∧ z = (n : Int) ∧ ∀ k ∈ [m, n], k < 4294967296 := by
  rw [Bool.and_eq_true] at h
  obtain ⟨m, rfl, hm⟩ := nat_of h.1
  obtain ⟨n, rfl, hn⟩ := nat_of h.2
  refine ⟨m, n, rfl, rfl, fun k hk => ?_⟩
  rcases List.mem_cons.mp hk with e | e
  · rw [e]; exact hm
  · rw [List.mem_singleton.mp e]; exact hn
theorem all1 {m : Nat} (h : m < 4294967296) : ∀ k ∈ [m], k < 4294967296 := fun k hk => by
  rw [List.mem_singleton.mp hk]
  exact h
theorem all0 : ∀ k ∈ ([] : List Nat), k < 4294967296 := fun k hk => absurd hk (List.not_mem_nil)
theorem len0 {l : List Int} (h : l.length = 0) : l = [] := List.eq_nil_of_length_eq_zero h
theorem len1 {l : List Int} (h : l.length = 1) : ∃ a, l = [a] := List.length_eq_one_iff.mp h
theorem len2 {l : List Int} (h : l.length = 2) : ∃ a b, l = [a, b] := by
  cases l with
  | nil => cases h
  | cons a l =>
    obtain ⟨b, rfl⟩ := len1 (Nat.succ.inj h)
    exact ⟨a, b, rfl⟩
/-- one call -/
theorem call_at {q n : Nat} {args : List Int} (hq : hm[q]? = some n) (hl : args.length = n) : PyKp242.whole [(q : Int) :: args] = [(q : Int) :: args] ∧ (Kp242Neutral.asked1 [(q : Int) :: args] = true →
    ∃ x : Kp242.Call, (q : Int) :: args = ((enc x).1 : Int) :: intsOf (enc x).2 ∧ (∀ k ∈ (enc x).2, k < 4294967296) ∧ Kp242Neutral.callOf [(q : Int) :: args] = some x) := by
  rcases q with _ | _ | _ | _ | _ | _ | _ | _ | _ | _ | _ | _ | _ | _ | _ | _ | _ | _ | _ | q
  · cases hq
    obtain ⟨a, rfl⟩ := len1 hl
    exact ⟨rfl, fun h => by obtain ⟨m, rfl, q⟩ := nat_of (z := a) h; exact ⟨.begin_ m, rfl, all1 q, rfl⟩⟩
  · cases hq
    obtain ⟨a, rfl⟩ := len1 hl
    exact ⟨rfl, fun h => by obtain ⟨m, rfl, q⟩ := nat_of (z := a) h; exact ⟨.length m, rfl, all1 q, rfl⟩⟩
  · cases hq
    obtain ⟨a, b, rfl⟩ := len2 hl
    exact ⟨rfl, fun h => by obtain ⟨m, n, rfl, rfl, q⟩ := nat_two (y := a) (z := b) h; exact ⟨.fault m n, rfl, q, rfl⟩⟩
  · cases hq
    obtain ⟨a, b, rfl⟩ := len2 hl
    exact ⟨rfl, fun h => by obtain ⟨m, n, rfl, rfl, q⟩ := nat_two (y := a) (z := b) h; exact ⟨.order m n, rfl, q, rfl⟩⟩
  · cases hq
    obtain ⟨a, rfl⟩ := len1 hl
    exact ⟨rfl, fun h => by obtain ⟨m, rfl, q⟩ := nat_of (z := a) h; exact ⟨.cancel m, rfl, all1 q, rfl⟩⟩
  · cases hq
    obtain rfl := len0 hl
    exact ⟨rfl, fun h => ⟨.best, rfl, all0, rfl⟩⟩
  · cases hq
    obtain rfl := len0 hl
    exact ⟨rfl, fun h => ⟨.plan, rfl, all0, rfl⟩⟩
  · cases hq
    obtain rfl := len0 hl
    exact ⟨rfl, fun h => ⟨.fills, rfl, all0, rfl⟩⟩
  · cases hq
    obtain ⟨a, rfl⟩ := len1 hl
    exact ⟨rfl, fun h => by obtain ⟨m, rfl, q⟩ := nat_of (z := a) h; exact ⟨.worth m, rfl, all1 q, rfl⟩⟩
  · cases hq
    obtain ⟨a, b, rfl⟩ := len2 hl
    exact ⟨rfl, fun h => by obtain ⟨m, n, rfl, rfl, q⟩ := nat_two (y := a) (z := b) h; exact ⟨.hurts m n, rfl, q, rfl⟩⟩
  · cases hq
    obtain ⟨a, rfl⟩ := len1 hl
    exact ⟨rfl, fun h => by obtain ⟨m, rfl, q⟩ := nat_of (z := a) h; exact ⟨.could m, rfl, all1 q, rfl⟩⟩
  · cases hq
    obtain ⟨a, rfl⟩ := len1 hl
    exact ⟨rfl, fun h => by obtain ⟨m, rfl, q⟩ := nat_of (z := a) h; exact ⟨.together m, rfl, all1 q, rfl⟩⟩
  · cases hq
    obtain ⟨a, b, rfl⟩ := len2 hl
    exact ⟨rfl, fun h => by obtain ⟨m, n, rfl, rfl, q⟩ := nat_two (y := a) (z := b) h; exact ⟨.sell m n, rfl, q, rfl⟩⟩
  · cases hq
    obtain ⟨a, b, rfl⟩ := len2 hl
    exact ⟨rfl, fun h => by obtain ⟨m, n, rfl, rfl, q⟩ := nat_two (y := a) (z := b) h; exact ⟨.trim m n, rfl, q, rfl⟩⟩
  · cases hq
    obtain rfl := len0 hl
    exact ⟨rfl, fun h => ⟨.pieces, rfl, all0, rfl⟩⟩
  · cases hq
    obtain rfl := len0 hl
    exact ⟨rfl, fun h => ⟨.longest, rfl, all0, rfl⟩⟩
  · cases hq
    obtain ⟨a, rfl⟩ := len1 hl
    exact ⟨rfl, fun h => by obtain ⟨m, rfl, q⟩ := nat_of (z := a) h; exact ⟨.left m, rfl, all1 q, rfl⟩⟩
  · cases hq
    obtain ⟨a, rfl⟩ := len1 hl
    exact ⟨rfl, fun h => by obtain ⟨m, rfl, q⟩ := nat_of (z := a) h; exact ⟨.look m, rfl, all1 q, rfl⟩⟩
  · cases hq
    obtain rfl := len0 hl
    exact ⟨rfl, fun h => ⟨.sums, rfl, all0, rfl⟩⟩
  · exact absurd hq (by simp [hm])
/-- what is answered, one number behind another -/
def ansOf (a : Kp242.Ans) : List Int := a.num :: a.nums
def run : Kp242.State → List Kp242.Call → List Int
  | _, [] => []
  | st, c :: cs => (((ansOf (Kp242.step st c).2).length : Int) :: ansOf (Kp242.step st c).2) ++ run (Kp242.step st c).1 cs
/-- the list of numbers of calls -/
def flat (cs : List Kp242.Call) : List Int := cs.flatMap fun c => ((enc c).1 : Int) :: intsOf (enc c).2
theorem call_is {p : Int} {r : List Int} {c : List (List Int)} {t : List Int} (e : PyFlat.call PyKp242.shape (p :: r) = some (c, t)) : ∃ q n : Nat, p = (q : Int) ∧ hm[q]? = some n ∧ n ≤ r.length ∧ c = [(q : Int) :: r.take n] ∧ t = r.drop n := by
  unfold PyFlat.call at e
  dsimp only at e
  cases es : PyKp242.shape p with
  | none => rw [es] at e; cases e
  | some nk =>
    obtain ⟨n, k⟩ := nk
    rw [es] at e
    simp only at e
    obtain ⟨rfl, q, rfl, hq⟩ := shape_some es
    split at e
    · cases e
    · rename_i hn
      simp only [PyFlat.rows, Option.some.injEq, Prod.mk.injEq] at e
      exact ⟨q, n, rfl, hq, Nat.le_of_not_lt hn, e.1.symm, e.2.symm⟩
theorem calls_flat : ∀ (f : Nat) (l : List Int) (raw : List (List (List Int))), PyFlat.calls PyKp242.shape f l = some raw → raw.map PyKp242.whole = raw ∧ (raw.all Kp242Neutral.asked1 = true →
    ∃ cs : List Kp242.Call, l = flat cs ∧ (∀ c ∈ cs, ∀ n ∈ (enc c).2, n < 4294967296) ∧ ∀ st, PyFlat.told (PyFlat.played Kp242Neutral.step st raw) = run st cs)
  | _, [], raw, h => by
    have : raw = [] := by
      cases ‹Nat› <;> simpa [PyFlat.calls] using h.symm
    subst this
    exact ⟨rfl, fun _ => ⟨[], rfl, by simp, fun st => rfl⟩⟩
  | 0, _ :: _, raw, h => by simp [PyFlat.calls] at h
  | f + 1, p :: r, raw, h => by
    unfold PyFlat.calls at h
    cases e : PyFlat.call PyKp242.shape (p :: r) with
    | none => rw [e] at h; cases h
    | some ct =>
      obtain ⟨c, t⟩ := ct
      rw [e] at h
      simp only at h
      cases e2 : PyFlat.calls PyKp242.shape f t with
      | none => rw [e2] at h; cases h
      | some cs0 =>
        rw [e2] at h
        simp only [Option.some.injEq] at h
        subst h
        obtain ⟨q, n, rfl, hq, hn, rfl, rfl⟩ := call_is e
        obtain ⟨w1, w2⟩ := call_at hq (List.length_take_of_le hn)
        obtain ⟨i1, i2⟩ := calls_flat f _ cs0 e2
        refine ⟨by rw [List.map_cons, w1, i1], fun ha => ?_⟩
        rw [List.all_cons, Bool.and_eq_true] at ha
        obtain ⟨x, hx1, hx2, hx3⟩ := w2 ha.1
        obtain ⟨cs, j1, j2, j3⟩ := i2 ha.2
        refine ⟨x :: cs, ?_, ?_, fun st => ?_⟩
        · show (q : Int) :: r = (((enc x).1 : Int) :: intsOf (enc x).2) ++ flat cs
          rw [← hx1, ← j1, List.cons_append, List.take_append_drop]
        · intro c' hc'
          rcases List.mem_cons.mp hc' with z | z
          · rw [z]; exact hx2
          · exact j2 c' z
        · have es : Kp242Neutral.step st [(q : Int) :: r.take n] = ((Kp242.step st x).1, ansOf (Kp242.step st x).2) := by
            unfold Kp242Neutral.step
            rw [hx3]
            rfl
          show PyFlat.told ((Kp242Neutral.step st [(q : Int) :: r.take n]).2 :: PyFlat.played Kp242Neutral.step (Kp242Neutral.step st [(q : Int) :: r.take n]).1 cs0) = _
          rw [es]
          show (((ansOf (Kp242.step st x).2).length : Int) :: ansOf (Kp242.step st x).2) ++ PyFlat.told _ = _
          rw [j3]
          rfl
/-- all that is asked of the list -/
theorem asked_run {l : List Int} (h : PyKp242.answers_asked l = true) : ∃ cs : List Kp242.Call, l = flat cs ∧ (∀ c ∈ cs, ∀ n ∈ (enc c).2, n < 4294967296) ∧ PyKp242.answers l = run none cs ∧ (run none cs).length ≤ 10000000 := by
  unfold PyKp242.answers_asked at h
  cases e : PyFlat.calls PyKp242.shape l.length l with
  | none => rw [e] at h; cases h
  | some raw =>
    rw [e] at h
    simp only [Bool.and_eq_true] at h
    obtain ⟨⟨⟨⟨h1, h2⟩, h3⟩, h4⟩, h5⟩ := h
    obtain ⟨ew, go⟩ := calls_flat _ _ _ e
    rw [ew] at h4
    unfold Kp242Neutral.asked at h4
    simp only [Bool.and_eq_true] at h4
    obtain ⟨cs, c1, c2, c3⟩ := go h4.2.2
    have ea : PyKp242.answers l = run none cs := by
      unfold PyKp242.answers PyKp242.calls
      rw [e]
      simp only
      rw [ew]
      exact c3 none
    refine ⟨cs, c1, c2, ea, ?_⟩
    rw [ea] at h5
    exact of_decide_eq_true h5
/-! ### played call by call -/
def stAfter : Kp242.State → List Kp242.Call → Kp242.State
  | st, [] => st
  | st, c :: cs => stAfter (Kp242.step st c).1 cs
theorem run_append : ∀ (as bs : List Kp242.Call) (st : Kp242.State), run st (as ++ bs) = run st as ++ run (stAfter st as) bs
  | [], _, _ => rfl
  | a :: as, bs, st => by
    show _ ++ run _ (as ++ bs) = (_ ++ run _ as) ++ run _ bs
    rw [run_append as bs, List.append_assoc]
    rfl
theorem stAfter_append : ∀ (as bs : List Kp242.Call) (st : Kp242.State), stAfter st (as ++ bs) = stAfter (stAfter st as) bs
  | [], _, _ => rfl
  | a :: as, bs, st => stAfter_append as bs _
theorem flat_append (as bs : List Kp242.Call) : flat (as ++ bs) = flat as ++ flat bs := by
  unfold flat
  rw [List.flatMap_append]
theorem flat_one (c : Kp242.Call) : flat [c] = ((enc c).1 : Int) :: intsOf (enc c).2 := by
  unfold flat
  simp
end Cut

set_option linter.all false
namespace Cut
/-! ### rising lists -/
def insN (x : Nat) : List Nat → List Nat
  | [] => [x]
  | y :: r => if x ≤ y then x :: y :: r else y :: insN x r
def isort : List Nat → List Nat
  | [] => []
  | x :: r => insN x (isort r)
theorem insN_perm (x : Nat) : ∀ l : List Nat, (insN x l).Perm (x :: l)
  | [] => List.Perm.refl _
  | y :: r => by
    unfold insN
    split
    · exact List.Perm.refl _
    · exact ((insN_perm x r).cons y).trans (List.Perm.swap x y r)
theorem isort_perm : ∀ l : List Nat, (isort l).Perm l
  | [] => List.Perm.refl _
  | x :: r => (insN_perm x (isort r)).trans ((isort_perm r).cons x)
theorem insN_up (x : Nat) : ∀ l : List Nat, l.Pairwise (· ≤ ·) → (insN x l).Pairwise (· ≤ ·)
  | [], _ => by simp [insN]
  | y :: r, h => by
    rw [List.pairwise_cons] at h
    unfold insN
    split
    · rename_i hxy
      rw [List.pairwise_cons]
      refine ⟨fun z hz => ?_, by rw [List.pairwise_cons]; exact h⟩
      rcases List.mem_cons.mp hz with e | e
      · omega
      · have := h.1 z e; omega
    · rw [List.pairwise_cons]
      refine ⟨fun z hz => ?_, insN_up x r h.2⟩
      rcases List.mem_cons.mp ((insN_perm x r).mem_iff.mp hz) with e | e
      · omega
      · exact h.1 z e
theorem isort_up : ∀ l : List Nat, (isort l).Pairwise (· ≤ ·)
  | [] => by simp [isort]
  | x :: r => insN_up x _ (isort_up r)
theorem up_unique : ∀ {xs ys : List Nat}, xs.Pairwise (· ≤ ·) → ys.Pairwise (· ≤ ·) → xs.Perm ys → xs = ys
  | [], ys, _, _, h => (List.Perm.nil_eq h)
  | x :: xs, [], _, _, h => by have := h.length_eq; simp at this
  | x :: xs, y :: ys, hx, hy, h => by
    rw [List.pairwise_cons] at hx hy
    have e : x = y := by
      have h1 : y ∈ x :: xs := h.mem_iff.mpr (List.mem_cons_self ..)
      have h2 : x ∈ y :: ys := h.mem_iff.mp (List.mem_cons_self ..)
      rcases List.mem_cons.mp h1 with e | e
      · exact e.symm
      · rcases List.mem_cons.mp h2 with e2 | e2
        · exact e2
        · have a := hx.1 y e
          have b := hy.1 x e2
          omega
    subst e
    rw [up_unique hx.2 hy.2 (List.perm_cons x |>.mp h)]
theorem isort_of {xs l : List Nat} (hx : xs.Pairwise (· ≤ ·)) (h : xs.Perm l) : xs = isort l := up_unique hx (isort_up l) (h.trans (isort_perm l).symm)
theorem isort_len (l : List Nat) : (isort l).length = l.length := (isort_perm l).length_eq
theorem isort_mem {l : List Nat} {x : Nat} : x ∈ isort l ↔ x ∈ l := (isort_perm l).mem_iff
theorem up_strict : ∀ {l : List Nat}, l.Pairwise (· ≤ ·) → l.Nodup → l.Pairwise (· < ·)
  | [], _, _ => by simp
  | x :: l, h, n => by
    rw [List.pairwise_cons] at h
    rw [List.nodup_cons] at n
    rw [List.pairwise_cons]
    refine ⟨fun y hy => ?_, up_strict h.2 n.2⟩
    have := h.1 y hy
    have : x ≠ y := fun e => n.1 (e ▸ hy)
    omega
theorem isort_strict {l : List Nat} (h : l.Nodup) : (isort l).Pairwise (· < ·) := up_strict (isort_up l) ((isort_perm l).nodup_iff.mpr h)
/-! ### pieces -/
def pieceGo : Nat → List Nat → List (Nat × Nat)
  | _, [] => []
  | a, x :: r => (if a < x then [(a, x)] else []) ++ pieceGo (max a (x + 1)) r
theorem pieceGo_snoc : ∀ (xs : List Nat) (a x : Nat), pieceGo a (xs ++ [x]) = pieceGo a xs ++ (if xs.foldl (fun s y => max s (y + 1)) a < x then [(xs.foldl (fun s y => max s (y + 1)) a, x)] else [])
  | [], a, x => by
    show (if a < x then [(a, x)] else []) ++ [] = [] ++ _
    rw [List.append_nil, List.nil_append]
    rfl
  | y :: xs, a, x => by
    rw [List.cons_append, pieceGo, pieceGo, pieceGo_snoc xs, List.append_assoc]
    rfl
theorem pieceGo_dup (a x : Nat) (r : List Nat) : pieceGo a (x :: x :: r) = pieceGo a (x :: r) := by
  rw [pieceGo, pieceGo, pieceGo, if_neg (show ¬ max a (x + 1) < x by omega), List.nil_append, show max (max a (x + 1)) (x + 1) = max a (x + 1) by omega]
theorem pieceGo_set (b : Nat) : ∀ (xs ys : List Nat) (a : Nat), xs.Pairwise (· ≤ ·) → ys.Pairwise (· < ·) → (∀ z, z ∈ xs ↔ z ∈ ys) → pieceGo a (xs ++ [b]) = pieceGo a (ys ++ [b])
  | [], ys, a, _, _, h => by
    have : ys = [] := List.eq_nil_iff_forall_not_mem.mpr fun z hz => by simpa using (h z).mpr hz
    rw [this]
  | x :: xs, [], a, _, _, h => by
    have := (h x).mp (List.mem_cons_self ..)
    simp at this
  | x :: xs, y :: ys, a, hx, hy, h => by
    rw [List.pairwise_cons] at hx
    have hy' := hy
    rw [List.pairwise_cons] at hy
    have e : x = y := by
      rcases List.mem_cons.mp ((h x).mp (List.mem_cons_self ..)) with e | e
      · exact e
      · rcases List.mem_cons.mp ((h y).mpr (List.mem_cons_self ..)) with e2 | e2
        · exact e2.symm
        · have a1 := hy.1 x e
          have a2 := hx.1 y e2
          omega
    subst e
    by_cases m : x ∈ xs
    · have ih := pieceGo_set b xs (x :: ys) a hx.2 hy' fun z => by
        rw [← h z]
        constructor
        · exact fun q => List.mem_cons_of_mem _ q
        · intro q
          rcases List.mem_cons.mp q with e | e
          · rw [e]; exact m
          · exact e
      rw [← ih]
      cases xs with
      | nil => simp at m
      | cons u xs =>
        have hu : u = x := by
          have a1 := hx.1 u (List.mem_cons_self ..)
          have a2 := hx.2
          rw [List.pairwise_cons] at a2
          rcases List.mem_cons.mp m with e | e
          · exact e.symm
          · have := a2.1 x e; omega
        subst hu
        rw [List.cons_append, List.cons_append, pieceGo_dup]
    · have ih := pieceGo_set b xs ys (max a (x + 1)) hx.2 hy.2 fun z => by
        constructor
        · intro q
          rcases List.mem_cons.mp ((h z).mp (List.mem_cons_of_mem _ q)) with e | e
          · rw [e] at q; exact absurd q m
          · exact e
        · intro q
          rcases List.mem_cons.mp ((h z).mpr (List.mem_cons_of_mem _ q)) with e | e
          · have := hy.1 z q; omega
          · exact e
      rw [List.cons_append, List.cons_append, pieceGo, pieceGo, ih]
def pr (p : Kp242.Piece) : Nat × Nat := (p.from_, p.to)
theorem between_go (l b : Nat) : ∀ (ys : List Nat) (a : Nat), ys.Pairwise (· < ·) → (∀ y ∈ ys, a ≤ y) → (Kp242.between l a b ys).map pr = pieceGo a (ys ++ [b])
  | [], a, _, _ => by
    show List.map pr (if a < b then [⟨l, a, b⟩] else []) = (if a < b then [(a, b)] else []) ++ []
    split <;> rfl
  | y :: ys, a, h, ha => by
    rw [List.pairwise_cons] at h
    have h0 := ha y (List.mem_cons_self ..)
    rw [Kp242.between, List.map_append, between_go l b ys (y + 1) h.2 fun z hz => h.1 z hz, List.cons_append, pieceGo, show max a (y + 1) = y + 1 by omega]
    congr 1
    split <;> rfl
theorem go_filter (b : Nat) : ∀ (ys : List Nat) (a : Nat), ys.Pairwise (· < ·) → pieceGo a (ys ++ [b]) = pieceGo a (ys.filter (fun f => decide (a ≤ f)) ++ [b])
  | [], a, _ => rfl
  | y :: ys, a, h => by
    rw [List.pairwise_cons] at h
    by_cases e : a ≤ y
    · have all : ys.filter (fun f => decide (a ≤ f)) = ys := List.filter_eq_self.mpr fun z hz => decide_eq_true (by have := h.1 z hz; omega)
      rw [List.filter_cons, if_pos (decide_eq_true e), all]
    · rw [List.filter_cons, if_neg (by simpa using e), ← go_filter b ys a h.2, List.cons_append, pieceGo, if_neg (by omega), List.nil_append, show max a (y + 1) = a by omega]
theorem between_eq {l a b : Nat} {ys : List Nat} (h : ys.Pairwise (· < ·)) (hb : ∀ y ∈ ys, y < b) : (Kp242.between l a b (ys.filter fun f => decide (a ≤ f) && decide (f < b))).map pr = pieceGo a (ys ++ [b]) := by
  have e : (ys.filter fun f => decide (a ≤ f) && decide (f < b)) = ys.filter fun f => decide (a ≤ f) := List.filter_congr fun y hy => by rw [decide_eq_true (hb y hy), Bool.and_true]
  rw [e, go_filter b ys a h, between_go l b _ a (h.filter _) fun y hy => by simpa using (List.mem_filter.mp hy).2]
theorem go_lt : ∀ (xs : List Nat) (a : Nat) (p : Nat × Nat), p ∈ pieceGo a xs → a ≤ p.1 ∧ p.1 < p.2
  | [], a, p, h => by simp [pieceGo] at h
  | x :: xs, a, p, h => by
    rw [pieceGo, List.mem_append] at h
    rcases h with h | h
    · split at h
      · rw [List.mem_singleton] at h
        subst h
        exact ⟨Nat.le_refl _, by assumption⟩
      · simp at h
    · have := go_lt xs _ p h
      omega
theorem go_len : ∀ (xs : List Nat) (a : Nat), (pieceGo a xs).length ≤ xs.length
  | [], a => by simp [pieceGo]
  | x :: xs, a => by
    rw [pieceGo, List.length_append, List.length_cons]
    have := go_len xs (max a (x + 1))
    split <;> simp <;> omega
/-! ### lengths as the program keeps them -/
structure Raw where
  c : Nat
  m : Nat
  fp : List Nat
def Raw.len (w : Raw) : Kp242.Length := ⟨w.c, w.m, isort w.fp⟩
def Raw.pieces (w : Raw) : List (Nat × Nat) := pieceGo w.c (isort w.fp ++ [w.m])
structure Raw.Good (w : Raw) : Prop where
  cm : w.c ≤ w.m
  nd : w.fp.Nodup
  lt : ∀ f ∈ w.fp, f < w.m
  few : w.fp.length ≤ 2
def Raw.more (w : Raw) (f : Nat) : Raw := ⟨w.c, w.m, w.fp ++ [f]⟩
def prO (o : Kp242.Order) : Nat × Nat := (o.metres, o.pays)
structure Good (s : Kp242.Store) (raws : List Raw) : Prop where
  eq : s.lengths = raws.map Raw.len
  ls : raws.length ≤ 3
  each : ∀ w ∈ raws, w.Good
  os : s.orders.length ≤ 4
  pos : ∀ o ∈ s.orders, 1 ≤ o.metres
theorem range_getD {α β : Type} (G : α → List β) (d : α) (xs : List α) : (List.range xs.length).flatMap (fun l => G (xs.getD l d)) = xs.flatMap G := by
  have e : (List.range xs.length).map (fun l => xs.getD l d) = xs := by
    apply List.ext_getElem
    · simp
    · intro i h1 h2
      simp [List.getD_eq_getElem?_getD, h2]
  rw [← List.flatMap_map (g := G) (f := fun l => xs.getD l d), e]
theorem pieces_map {s : Kp242.Store} {G : Kp242.Length → List (Nat × Nat)} (h : ∀ (l : Nat) (x : Kp242.Length), s.lengths[l]? = some x → (Kp242.between l x.from_ x.to (x.faults.filter fun f => decide (x.from_ ≤ f) && decide (f < x.to))).map pr = G x) :
    (Kp242.pieces s).map pr = s.lengths.flatMap G := by
  rw [Kp242.pieces, List.map_flatMap, ← range_getD G ⟨0, 0, []⟩]
  have : ∀ l ∈ List.range s.lengths.length, (Kp242.piecesOf s l).map pr = G (s.lengths.getD l ⟨0, 0, []⟩) := fun l hl => by
    have hl : l < s.lengths.length := by simpa using hl
    have e : s.lengths.getD l ⟨0, 0, []⟩ = s.lengths[l] := by simp [List.getD_eq_getElem?_getD, hl]
    rw [Kp242.piecesOf, Kp242.lengthAt, e]
    exact h l _ (List.getElem?_eq_getElem hl)
  rw [List.flatMap_def, List.flatMap_def, List.map_congr_left this]
theorem raw_between {w : Raw} (g : w.Good) (l : Nat) : (Kp242.between l w.c w.m ((isort w.fp).filter fun f => decide (w.c ≤ f) && decide (f < w.m))).map pr = w.pieces :=
  between_eq (isort_strict g.nd) fun y hy => g.lt y (isort_mem.mp hy)
theorem pieces_raw {s : Kp242.Store} {raws : List Raw} (g : Good s raws) : (Kp242.pieces s).map pr = raws.flatMap Raw.pieces := by
  rw [pieces_map (G := fun x => pieceGo x.from_ (x.faults ++ [x.to]))]
  · rw [g.eq, List.flatMap_map]
    rfl
  · intro l x hx
    rw [g.eq, List.getElem?_map] at hx
    cases e : raws[l]? with
    | none => rw [e] at hx; cases hx
    | some w =>
      rw [e] at hx
      cases hx
      exact raw_between (g.each w (List.mem_of_getElem? e)) l
theorem at_raw {s : Kp242.Store} {raws : List Raw} (g : Good s raws) {l : Nat} {w : Raw} (h : raws[l]? = some w) : Kp242.lengthAt s l = w.len := by
  rw [Kp242.lengthAt, g.eq, List.getD_eq_getElem?_getD, List.getElem?_map, h]
  rfl
/-! ### one fault more -/
def cutIn (f : Nat) (ys : List Nat) : List Nat := (ys.filter fun x => decide (x < f)) ++ [f] ++ ys.filter fun x => decide (f < x)
theorem cutIn_up {f : Nat} {ys : List Nat} (h : ys.Pairwise (· < ·)) : (cutIn f ys).Pairwise (· < ·) := by
  unfold cutIn
  rw [List.pairwise_append, List.pairwise_append]
  refine ⟨⟨h.filter _, by simp, fun a ha b hb => ?_⟩, h.filter _, fun a ha b hb => ?_⟩
  · have := (List.mem_filter.mp ha).2
    simp at this hb
    omega
  · have h2 := (List.mem_filter.mp hb).2
    simp at h2
    rcases List.mem_append.mp ha with q | q
    · have := (List.mem_filter.mp q).2
      simp at this
      omega
    · simp at q
      omega
theorem cutIn_mem {f z : Nat} {ys : List Nat} : z ∈ cutIn f ys ↔ z = f ∨ z ∈ ys := by
  unfold cutIn
  simp only [List.mem_append, List.mem_filter, List.mem_singleton, decide_eq_true_eq]
  constructor
  · rintro ((⟨a, _⟩ | a) | ⟨a, _⟩)
    · exact .inr a
    · exact .inl a
    · exact .inr a
  · rintro (a | a)
    · exact .inl (.inr a)
    · by_cases e : z = f
      · exact .inl (.inr e)
      · by_cases e2 : z < f
        · exact .inl (.inl ⟨a, e2⟩)
        · exact .inr ⟨a, by omega⟩
theorem strict_nd {l : List Nat} (h : l.Pairwise (· < ·)) : l.Nodup := h.imp fun q => Nat.ne_of_lt q
theorem strict_up {l : List Nat} (h : l.Pairwise (· < ·)) : l.Pairwise (· ≤ ·) := h.imp fun q => Nat.le_of_lt q
theorem cutIn_isort {f : Nat} {fp : List Nat} (hn : fp.Nodup) (hf : f ∉ fp) : cutIn f (isort fp) = isort (fp ++ [f]) := by
  refine isort_of (strict_up (cutIn_up (isort_strict hn))) ?_
  refine (List.perm_ext_iff_of_nodup (strict_nd (cutIn_up (isort_strict hn))) ?_).mpr fun z => ?_
  · rw [List.nodup_append]
    exact ⟨hn, by simp, fun a ha b hb => by simp at hb; intro e; exact hf (by rw [← hb, ← e]; exact ha)⟩
  · rw [cutIn_mem, isort_mem, List.mem_append, List.mem_singleton]
    exact Or.comm
theorem more_between {w : Raw} (g : w.Good) {f : Nat} (hf : f < w.m) (l : Nat) : (Kp242.between l w.c w.m ((cutIn f (isort w.fp)).filter fun f => decide (w.c ≤ f) && decide (f < w.m))).map pr = (w.more f).pieces := by
  rw [between_eq (cutIn_up (isort_strict g.nd)) fun y hy => by
    rcases cutIn_mem.mp hy with e | e
    · rw [e]; exact hf
    · exact g.lt y (isort_mem.mp e)]
  refine (pieceGo_set w.m _ _ w.c (isort_up _) (cutIn_up (isort_strict g.nd)) fun z => ?_).symm
  rw [isort_mem, cutIn_mem, isort_mem]
  show z ∈ w.fp ++ [f] ↔ _
  rw [List.mem_append, List.mem_singleton]
  exact Or.comm
theorem withFault_lengths {s : Kp242.Store} {raws : List Raw} (g : Good s raws) {l f : Nat} {w : Raw} (h : raws[l]? = some w) : (Kp242.withFault s l f).lengths = (raws.map Raw.len).set l ⟨w.c, w.m, cutIn f (isort w.fp)⟩ := by
  show s.lengths.set l { Kp242.lengthAt s l with faults := _ } = _
  rw [at_raw g h, g.eq]
  rfl
theorem pieces_more {s : Kp242.Store} {raws : List Raw} (g : Good s raws) {l f : Nat} {w : Raw} (h : raws[l]? = some w) (hf : f < w.m) : (Kp242.pieces (Kp242.withFault s l f)).map pr = (raws.set l (w.more f)).flatMap Raw.pieces := by
  rw [pieces_map (G := fun x => pieceGo x.from_ (x.faults ++ [x.to]))]
  · rw [withFault_lengths g h]
    have hl : l < raws.length := (List.getElem?_eq_some_iff.mp h).1
    have key : List.map (fun x : Kp242.Length => pieceGo x.from_ (x.faults ++ [x.to])) ((raws.map Raw.len).set l ⟨w.c, w.m, cutIn f (isort w.fp)⟩) = List.map Raw.pieces (raws.set l (w.more f)) := by
      rw [List.map_set, List.map_set, List.map_map]
      show List.set (List.map Raw.pieces raws) l _ = _
      congr 1
      have := more_between (g.each w (List.mem_of_getElem? h)) hf l
      rw [between_eq (cutIn_up (isort_strict (g.each w (List.mem_of_getElem? h)).nd)) (fun y hy => by
        rcases cutIn_mem.mp hy with e | e
        · rw [e]; exact hf
        · exact (g.each w (List.mem_of_getElem? h)).lt y (isort_mem.mp e))] at this
      exact this
    rw [List.flatMap_def, List.flatMap_def, key]
  · intro k x hx
    rw [withFault_lengths g h, List.getElem?_set] at hx
    by_cases e : l = k
    · rw [if_pos e] at hx
      split at hx
      · cases hx
        exact between_eq (cutIn_up (isort_strict (g.each w (List.mem_of_getElem? h)).nd)) fun y hy => by
          rcases cutIn_mem.mp hy with e | e
          · rw [e]; exact hf
          · exact (g.each w (List.mem_of_getElem? h)).lt y (isort_mem.mp e)
      · cases hx
    · rw [if_neg e, List.getElem?_map] at hx
      cases e2 : raws[k]? with
      | none => rw [e2] at hx; cases hx
      | some u =>
        rw [e2] at hx
        cases hx
        exact raw_between (g.each u (List.mem_of_getElem? e2)) k
theorem good_more {s : Kp242.Store} {raws : List Raw} (g : Good s raws) {l f : Nat} {w : Raw} (h : raws[l]? = some w) (hf : f < w.m) (hn : f ∉ w.fp) (h2 : w.fp.length < 2) : Good (Kp242.withFault s l f) (raws.set l (w.more f)) := by
  have gw := g.each w (List.mem_of_getElem? h)
  refine ⟨?_, by rw [List.length_set]; exact g.ls, fun u hu => ?_, g.os, g.pos⟩
  · rw [withFault_lengths g h, List.map_set]
    congr 1
    show (⟨w.c, w.m, cutIn f (isort w.fp)⟩ : Kp242.Length) = ⟨w.c, w.m, isort (w.fp ++ [f])⟩
    rw [cutIn_isort gw.nd hn]
  · rcases List.mem_or_eq_of_mem_set hu with q | q
    · exact g.each u q
    · subst q
      refine ⟨gw.cm, ?_, fun x hx => ?_, ?_⟩
      · show (w.fp ++ [f]).Nodup
        rw [List.nodup_append]
        exact ⟨gw.nd, by simp, fun a ha b hb => by simp at hb; intro e; exact hn (by rw [← hb, ← e]; exact ha)⟩
      · rcases List.mem_append.mp (show x ∈ w.fp ++ [f] from hx) with q | q
        · exact gw.lt x q
        · simp at q; rw [q]; exact hf
      · show (w.fp ++ [f]).length ≤ 2
        rw [List.length_append]
        simp
        omega
/-! ### rooms -/
def roomsR (kerf : Nat) (ps : List (Nat × Nat)) : List Nat := ps.map fun p => p.2 - p.1 + kerf
def wantsR (kerf : Nat) (os : List (Nat × Nat)) : List (Nat × Nat) := os.map fun o => (o.1 + kerf, o.2)
theorem rooms_pr (s : Kp242.Store) : roomsOf s = roomsR s.kerf ((Kp242.pieces s).map pr) := by
  rw [roomsOf, roomsR, List.map_map]
  rfl
theorem wants_pr (s : Kp242.Store) : wantsOf s = wantsR s.kerf (s.orders.map prO) := by
  rw [wantsOf, wantsR, List.map_map]
  rfl
theorem pays_raw {s : Kp242.Store} {raws : List Raw} (g : Good s raws) : Kp242.bestPays s = mostBrought (roomsR s.kerf (raws.flatMap Raw.pieces)) (wantsR s.kerf (s.orders.map prO)) := by
  rw [bestPays_eq, rooms_pr, wants_pr, pieces_raw g]
theorem pays_more {s : Kp242.Store} {raws : List Raw} (g : Good s raws) {l f : Nat} {w : Raw} (h : raws[l]? = some w) (hf : f < w.m) : Kp242.bestPays (Kp242.withFault s l f) = mostBrought (roomsR s.kerf ((raws.set l (w.more f)).flatMap Raw.pieces)) (wantsR s.kerf (s.orders.map prO)) := by
  rw [bestPays_eq, rooms_pr, wants_pr, pieces_more g h hf]
  rfl
theorem pays_less {s : Kp242.Store} {raws : List Raw} (g : Good s raws) (o : Nat) : Kp242.bestPays (Kp242.withoutOrder s o) = mostBrought (roomsR s.kerf (raws.flatMap Raw.pieces)) (wantsR s.kerf ((s.orders.take o ++ s.orders.drop (o + 1)).map prO)) := by
  rw [bestPays_eq, rooms_pr, wants_pr]
  have : (Kp242.pieces (Kp242.withoutOrder s o)) = Kp242.pieces s := rfl
  rw [this, pieces_raw g]
  rfl
theorem best_raw {s : Kp242.Store} {raws : List Raw} (g : Good s raws) : Kp242.best s = bestPlan (roomsR s.kerf (raws.flatMap Raw.pieces)) (wantsR s.kerf (s.orders.map prO)) := by
  rw [best_eq, rooms_pr, wants_pr, pieces_raw g]
theorem together_raw {s : Kp242.Store} {raws : List Raw} (g : Good s raws) {m : Nat} (hm : m < 2 ^ s.orders.length) : Kp242.together s m = (fillable (roomsR s.kerf (raws.flatMap Raw.pieces)) (totals ((wantsR s.kerf (s.orders.map prO)).map (·.1)))).getD m false := by
  rw [together_eq s hm, rooms_pr, wants_pr, pieces_raw g]
theorem raw_len {w : Raw} (h : w.fp.length ≤ 3) : w.pieces.length ≤ 4 := by
  have := go_len (isort w.fp ++ [w.m]) w.c
  rw [List.length_append, isort_len, List.length_singleton] at this
  unfold Raw.pieces
  omega
theorem flat_len {raws : List Raw} (h : ∀ w ∈ raws, w.fp.length ≤ 3) : (raws.flatMap Raw.pieces).length ≤ 4 * raws.length := by
  induction raws with
  | nil => simp
  | cons w r ih =>
    rw [List.flatMap_cons, List.length_append, List.length_cons]
    have h1 := raw_len (h w (List.mem_cons_self ..))
    have h2 := ih fun u hu => h u (List.mem_cons_of_mem _ hu)
    omega
theorem flat_lt {raws : List Raw} {p : Nat × Nat} (h : p ∈ raws.flatMap Raw.pieces) : p.1 < p.2 := by
  obtain ⟨w, _, hp⟩ := List.mem_flatMap.mp h
  exact (go_lt _ _ p hp).2
/-! ### the longest piece; what is good at first -/
def sizesR (ps : List (Nat × Nat)) : List Nat := ps.map fun p => p.2 - p.1
theorem sizes_pr (s : Kp242.Store) : (Kp242.pieces s).map Kp242.size = sizesR ((Kp242.pieces s).map pr) := by
  rw [sizesR, List.map_map]
  rfl
theorem fold_some : ∀ (ps : List Kp242.Piece) (n : Nat), ps.foldl (fun (b : Option Nat) (p : Kp242.Piece) => match b with
  | none => some (Kp242.size p)
  | some n => some (max n (Kp242.size p))) (some n) = some ((ps.map Kp242.size).foldl max n)
  | [], n => rfl
  | p :: ps, n => by
    rw [List.foldl_cons, List.map_cons, List.foldl_cons]
    exact fold_some ps _
theorem longest_eq (s : Kp242.Store) : Kp242.longest s = match (Kp242.pieces s).map Kp242.size with
    | [] => none
    | x :: r => some (maxOf (x :: r)) := by
  unfold Kp242.longest
  cases Kp242.pieces s with
  | nil => rfl
  | cons p ps =>
    rw [List.foldl_cons, List.map_cons]
    exact fold_some ps _
theorem maxOf_of {l : List Nat} {M : Nat} (h : M ∈ l) (hm : ∀ x ∈ l, x ≤ M) : M = maxOf l := by
  have hne : l ≠ [] := fun e => by rw [e] at h; simp at h
  obtain ⟨a, b⟩ := maxOf_spec hne
  have := b M h
  have := hm _ a
  omega
theorem sizes_pos {raws : List Raw} {x : Nat} (h : x ∈ sizesR (raws.flatMap Raw.pieces)) : 1 ≤ x := by
  obtain ⟨p, hp, rfl⟩ := List.mem_map.mp h
  have := flat_lt hp
  omega
theorem longest_raw {s : Kp242.Store} {raws : List Raw} (g : Good s raws) : Kp242.longest s = if maxOf (sizesR (raws.flatMap Raw.pieces)) = 0 then none else some (maxOf (sizesR (raws.flatMap Raw.pieces))) := by
  rw [longest_eq, sizes_pr, pieces_raw g]
  cases e : sizesR (raws.flatMap Raw.pieces) with
  | nil => rfl
  | cons x r =>
    have h1 : maxOf (x :: r) ∈ x :: r := (maxOf_spec (by simp)).1
    rw [← e] at h1
    have := sizes_pos h1
    rw [e] at this
    rw [if_neg (by omega)]
theorem could_raw {s : Kp242.Store} {raws : List Raw} (g : Good s raws) {o : Nat} (h : o < s.orders.length) : Kp242.could s o = decide ((Kp242.orderAt s o).metres ≤ maxOf (sizesR (raws.flatMap Raw.pieces))) := by
  have hp : 1 ≤ (Kp242.orderAt s o).metres := by
    rw [Kp242.orderAt, List.getD_eq_getElem?_getD, List.getElem?_eq_getElem h]
    exact g.pos _ (List.getElem_mem h)
  have e : Kp242.could s o = (sizesR (raws.flatMap Raw.pieces)).any fun n => decide ((Kp242.orderAt s o).metres ≤ n) := by
    rw [← pieces_raw g, ← sizes_pr, List.any_map]
    rfl
  rw [e, Bool.eq_iff_iff, List.any_eq_true, decide_eq_true_iff]
  generalize hl : sizesR (raws.flatMap Raw.pieces) = l
  constructor
  · rintro ⟨x, hx, hq⟩
    have := (maxOf_spec (fun e => by rw [e] at hx; simp at hx)).2 x hx
    have := of_decide_eq_true hq
    omega
  · intro q
    cases l with
    | nil => exact absurd q (by show ¬ _ ≤ 0; omega)
    | cons y r => exact ⟨_, (maxOf_spec (by simp)).1, decide_eq_true q⟩
theorem between_from {l b : Nat} : ∀ (ys : List Nat) (a : Nat), (∀ y ∈ ys, a ≤ y) → ys.Pairwise (· < ·) → ∀ p ∈ Kp242.between l a b ys, a ≤ p.from_
  | [], a, _, _, p, hp => by
    unfold Kp242.between at hp
    split at hp
    · rw [List.mem_singleton] at hp; rw [hp]; exact Nat.le_refl _
    · simp at hp
  | y :: ys, a, h, hs, p, hp => by
    rw [List.pairwise_cons] at hs
    have h0 := h y (List.mem_cons_self ..)
    rw [Kp242.between, List.mem_append] at hp
    rcases hp with hp | hp
    · split at hp
      · rw [List.mem_singleton] at hp; rw [hp]; exact Nat.le_refl _
      · simp at hp
    · have := between_from ys (y + 1) (fun z hz => hs.1 z hz) hs.2 p hp
      omega
theorem first_raw {s : Kp242.Store} {raws : List Raw} (g : Good s raws) {l M : Nat} {w : Raw} (h : raws[l]? = some w) (h1 : M ∈ w.fp.filter (fun f => decide (w.c ≤ f)) ++ [w.m]) (h2 : ∀ y ∈ w.fp.filter (fun f => decide (w.c ≤ f)) ++ [w.m], M ≤ y) :
    Kp242.firstPiece s l = M - w.c ∧ w.c ≤ M := by
  have gw := g.each w (List.mem_of_getElem? h)
  have hM : M ≤ w.m := h2 _ (by simp)
  have hc : w.c ≤ M := by
    rcases List.mem_append.mp h1 with q | q
    · simpa using (List.mem_filter.mp q).2
    · simp at q; rw [q]; exact gw.cm
  refine ⟨?_, hc⟩
  have el : Kp242.lengthAt s l = w.len := at_raw g h
  have ef : ((isort w.fp).filter fun f => decide (w.c ≤ f) && decide (f < w.m)) = (isort w.fp).filter fun f => decide (w.c ≤ f) := List.filter_congr fun y hy => by rw [decide_eq_true (gw.lt y (isort_mem.mp hy)), Bool.and_true]
  have ep : Kp242.piecesOf s l = Kp242.between l w.c w.m ((isort w.fp).filter fun f => decide (w.c ≤ f)) := by
    show Kp242.between l (Kp242.lengthAt s l).from_ (Kp242.lengthAt s l).to ((Kp242.lengthAt s l).faults.filter fun f => decide ((Kp242.lengthAt s l).from_ ≤ f) && decide (f < (Kp242.lengthAt s l).to)) = _
    rw [el]
    exact congrArg _ ef
  have hs : ((isort w.fp).filter fun f => decide (w.c ≤ f)).Pairwise (· < ·) := (isort_strict gw.nd).filter _
  have hm : ∀ z, z ∈ (isort w.fp).filter (fun f => decide (w.c ≤ f)) ↔ z ∈ w.fp.filter (fun f => decide (w.c ≤ f)) := fun z => by rw [List.mem_filter, List.mem_filter, isort_mem]
  unfold Kp242.firstPiece
  rw [ep, el]
  show (match Kp242.between l w.c w.m ((isort w.fp).filter fun f => decide (w.c ≤ f)) with
    | p :: _ => if p.from_ = w.c then Kp242.size p else 0
    | [] => 0) = _
  cases e : (isort w.fp).filter fun f => decide (w.c ≤ f) with
  | nil =>
    have eM : M = w.m := by
      rcases List.mem_append.mp h1 with q | q
      · rw [← hm, e] at q; simp at q
      · simpa using q
    unfold Kp242.between
    by_cases q : w.c < w.m
    · rw [if_pos q]
      show (if w.c = w.c then w.m - w.c else 0) = _
      rw [if_pos rfl, eM]
    · rw [if_neg q]
      show 0 = _
      omega
  | cons y r =>
    rw [e] at hs hm
    have hs' := hs
    rw [List.pairwise_cons] at hs
    have hy : y ∈ w.fp.filter (fun f => decide (w.c ≤ f)) := (hm y).mp (List.mem_cons_self ..)
    have hcy : w.c ≤ y := by simpa using (List.mem_filter.mp hy).2
    have eM : M = y := by
      have a1 := h2 y (List.mem_append_left _ hy)
      rcases List.mem_append.mp h1 with q | q
      · rcases List.mem_cons.mp ((hm M).mpr q) with z | z
        · exact z
        · have := hs.1 M z; omega
      · simp at q
        have := gw.lt y (List.mem_filter.mp hy).1
        omega
    rw [Kp242.between]
    by_cases q : w.c < y
    · rw [if_pos q]
      show (if w.c = w.c then y - w.c else 0) = _
      rw [if_pos rfl, eM]
    · rw [if_neg q, List.nil_append]
      have e0 : M - w.c = 0 := by omega
      rw [e0]
      cases e3 : Kp242.between l (y + 1) w.m r with
      | nil => rfl
      | cons p ps =>
        have := between_from r (y + 1) (fun z hz => hs.1 z hz) hs.2 p (by rw [e3]; exact List.mem_cons_self ..)
        show (if p.from_ = w.c then Kp242.size p else 0) = 0
        rw [if_neg (by omega)]
end Cut

set_option Elab.async false
set_option linter.all false
set_option maxRecDepth 100000
set_option maxHeartbeats 2000000
namespace L2
open PySem PySem.Spec PyProof.Rows
section
variable {X : Cx}
/-! ### a function that a local holds is called -/
def tCallV (X : Cx) (i : Nat) (t : TA) : TE := fun σ H Q => ∃ f, σ[i]? = some (some (.ref f)) ∧ PySem.W.keepIn X.K (.ref f) = true ∧ t σ H fun vs H1 =>
  ∃ (k : Nat) (fd : FuncData) (ps : List Str) (sp : Sp), FnOk X.prog X.w X.K X.mg X.base CX0 k f fd ps sp ∧ Room k X.A ∧ Binds X.K fd ps [] ∧ sp vs H1 Q E0
theorem pe_callV {i : Nat} {x : Str} {p pos : Pos} {e : Expr} {es : List Expr} {t : TA} (hN : X.N[i]? = some x) (hv : Vis X.env.scope x) (ha : PA X (e :: es) t)
    (hd : (x == ("__debug__" : Str)) = false := by decide) (hcd : (x == ("__classdict__" : Str)) = false := by decide) (he : starEach (e :: es) X.env = (false, eval e X.env) :: starEach es X.env := by rfl) (hpl : (backTo pos (starEach es X.env)).any (·.1) = false := by rfl) :
    PE X (.Call (.Name x p) (e :: es) [] pos) (tCallV X i t) := by
  intro pins s σ H Q I h
  obtain ⟨f, hf, hk, h⟩ := h
  refine wpAny_Call_Name_kw (thn (pe_var hN hv hd hcd pins s σ H (fun v H' => v = .ref f ∧ H' = H) I ⟨_, hf, rfl, rfl⟩) fun u s1 ⟨v, H1, I1, r1, e1, e2⟩ => ?_)
  subst e1 e2
  cases r1
  refine PySem.W.callWith_K (h₀ := X.base) I1.ok.mod.kin hk (thn (ha pos pins s1 σ _ _ I1 h) fun us s2 ⟨vs, H2, I2, r, q⟩ => ⟨I2.kIn, ?_⟩) he hpl
  obtain ⟨k, fd, ps, sp, F, hr, hb, q⟩ := q
  exact run_fn (dvs := []) F hr hb .nil pass0 I2 r (by rw [List.append_nil]; exact q)
end
/-! ### heaps -/
theorem Same.new {H H' : Hp} {D : Addr} {o : HO} (s : Same H H') (hD : H D = none) : Same H (upd H' D o) := fun b u e => by
  rw [upd_ne (ne_of_none e hD)]
  exact s b u e
theorem Same.fresh {H : Hp} {D : Addr} {o : HO} (hD : H D = none) : Same H (upd H D o) := (Same.refl H).new hD
theorem Same.tup {K : PySem.W.Frag} {H H' : Hp} {a : Addr} {xs : List V} (e : Same H H') (h : SqT K H a xs) : SqT K H' a xs := by
  rcases h with (h | ⟨o, h⟩) | h
  · exact .inl (.inl (e _ _ h))
  · exact .inl (.inr ⟨o, e _ _ h⟩)
  · exact .inr h
/-! ### for over enumerate -/
theorem for_enum {K : PySem.W.Frag} {a : Addr} {xs : List V} {g : TG} {tb : TS} {D : Ends} {σ : St} {H : Hp} (Pv : Nat → St → Hp → Prop) (h0 : Pv 0 σ H) (hl : ∀ i σ H, i ≤ xs.length → Pv i σ H → SqL K H a xs)
    (hs : ∀ i x T σ H, xs[i]? = some x → Pv i σ H → H T = none → g (.ref T) σ (upd H T (.tup [.int (i : Nat), x])) fun σ2 H2 => tb { D with nx := Pv (i + 1), ct := Pv (i + 1), bk := D.nx } σ2 H2) (hd : ∀ σ H, Pv xs.length σ H → D.nx σ H) :
    ∃ W : Nat → Nat → St → Hp → Prop, (∃ m, W 0 m σ H) ∧ ∀ i m σ H, W i m σ H →
      ((Ite K a).stop i H ∧ D.nx σ H) ∨ ((Ite K a).go i H ∧ ∃ N : St → Hp → Prop, (∀ σ' H', N σ' H' → ∃ m', m' < m ∧ W (i + 1) m' σ' H') ∧ ∀ x H', (Ite K a).yld i H x H' → g x σ H' fun σ2 H2 => tb { D with nx := N, ct := N, bk := D.nx } σ2 H2) := by
  refine ⟨fun i m σ H => m = xs.length - i ∧ i ≤ xs.length ∧ Pv i σ H, ⟨xs.length, by simp, Nat.zero_le _, h0⟩, ?_⟩
  rintro i m σ H ⟨rfl, hi, p⟩
  have q := hl i σ H hi p
  by_cases hlt : i < xs.length
  · refine .inr ⟨⟨xs, xs[i], q, by simp [hlt]⟩, Pv (i + 1), fun σ' H' p' => ⟨xs.length - (i + 1), by omega, rfl, hlt, p'⟩, fun x H' y => ?_⟩
    obtain ⟨T, z, rfl, hT, rfl, y⟩ := y
    exact hs i z T σ H (y xs q) p hT
  · have e : i = xs.length := by omega
    subst e
    exact .inl ⟨⟨xs, q, Nat.le_refl _⟩, hd σ H p⟩
theorem lc_enum {K : PySem.W.Frag} {a : Addr} {xs : List V} {g : TG} {tt : TT} {te : TE} {vs : List Nat} {σ : St} {H1 : Hp} {D : Addr} {Qd : Hp → Prop} (Pv : Nat → Hp → Prop) (h0 : Pv 0 (upd H1 D (.lst []))) (hl : ∀ i H, i ≤ xs.length → Pv i H → SqL K H a xs)
    (hs : ∀ i x T H, xs[i]? = some x → Pv i H → H T = none → g (.ref T) (wipe σ vs) (upd H T (.tup [.int (i : Nat), x])) fun σ2 H2 => wipe σ2 vs = wipe σ vs ∧ tt σ2 H2 fun b H3 =>
      if b = true then te σ2 H3 fun y H4 => ∃ acc, H4 D = some (.lst acc) ∧ acc.length < sizeLine ∧ Pv (i + 1) (upd H4 D (.lst (acc ++ [y]))) else Pv (i + 1) H3) (hd : ∀ H, Pv xs.length H → Qd H) :
    ∃ W : Nat → Nat → Hp → Prop, (∃ m, W 0 m (upd H1 D (.lst []))) ∧ ∀ i m H, W i m H →
      ((Ite K a).stop i H ∧ Qd H) ∨ ((Ite K a).go i H ∧ ∃ Nx : Hp → Prop, (∀ H', Nx H' → ∃ m', m' < m ∧ W (i + 1) m' H') ∧ ∀ x H', (Ite K a).yld i H x H' → g x (wipe σ vs) H' fun σ2 H2 => wipe σ2 vs = wipe σ vs ∧ tt σ2 H2 fun b H3 =>
        if b = true then te σ2 H3 fun y H4 => ∃ acc, H4 D = some (.lst acc) ∧ acc.length < sizeLine ∧ Nx (upd H4 D (.lst (acc ++ [y]))) else Nx H3) := by
  refine ⟨fun i m H => m = xs.length - i ∧ i ≤ xs.length ∧ Pv i H, ⟨xs.length, by simp, Nat.zero_le _, h0⟩, ?_⟩
  rintro i m H ⟨rfl, hi, p⟩
  have q := hl i H hi p
  by_cases hlt : i < xs.length
  · refine .inr ⟨⟨xs, xs[i], q, by simp [hlt]⟩, Pv (i + 1), fun H' p' => ⟨xs.length - (i + 1), by omega, rfl, hlt, p'⟩, fun x H' y => ?_⟩
    obtain ⟨T, z, rfl, hT, rfl, y⟩ := y
    exact hs i z T H (y xs q) p hT
  · have e : i = xs.length := by omega
    subst e
    exact .inl ⟨⟨xs, q, Nat.le_refl _⟩, hd H p⟩
/-- over zip of two lists of one length -/
theorem lc_zip {K : PySem.W.Frag} {a c : Addr} {xs ys : List V} {g : TG} {tt : TT} {te : TE} {vs : List Nat} {σ : St} {H1 : Hp} {D : Addr} {Qd : Hp → Prop} (hxy : ys.length = xs.length) (Pv : Nat → Hp → Prop) (h0 : Pv 0 (upd H1 D (.lst []))) (hl : ∀ i H, i ≤ xs.length → Pv i H → SqL K H a xs ∧ SqL K H c ys)
    (hs : ∀ i x y T H, xs[i]? = some x → ys[i]? = some y → Pv i H → H T = none → g (.ref T) (wipe σ vs) (upd H T (.tup [x, y])) fun σ2 H2 => wipe σ2 vs = wipe σ vs ∧ tt σ2 H2 fun b H3 =>
      if b = true then te σ2 H3 fun y H4 => ∃ acc, H4 D = some (.lst acc) ∧ acc.length < sizeLine ∧ Pv (i + 1) (upd H4 D (.lst (acc ++ [y]))) else Pv (i + 1) H3) (hd : ∀ H, Pv xs.length H → Qd H) :
    ∃ W : Nat → Nat → Hp → Prop, (∃ m, W 0 m (upd H1 D (.lst []))) ∧ ∀ i m H, W i m H →
      ((Itz K a c).stop i H ∧ Qd H) ∨ ((Itz K a c).go i H ∧ ∃ Nx : Hp → Prop, (∀ H', Nx H' → ∃ m', m' < m ∧ W (i + 1) m' H') ∧ ∀ x H', (Itz K a c).yld i H x H' → g x (wipe σ vs) H' fun σ2 H2 => wipe σ2 vs = wipe σ vs ∧ tt σ2 H2 fun b H3 =>
        if b = true then te σ2 H3 fun y H4 => ∃ acc, H4 D = some (.lst acc) ∧ acc.length < sizeLine ∧ Nx (upd H4 D (.lst (acc ++ [y]))) else Nx H3) := by
  refine ⟨fun i m H => m = xs.length - i ∧ i ≤ xs.length ∧ Pv i H, ⟨xs.length, by simp, Nat.zero_le _, h0⟩, ?_⟩
  rintro i m H ⟨rfl, hi, p⟩
  obtain ⟨q1, q2⟩ := hl i H hi p
  by_cases hlt : i < xs.length
  · refine .inr ⟨⟨xs, ys, xs[i], ys[i], q1, q2, by simp [hlt], by simp [hlt, hxy]⟩, Pv (i + 1), fun H' p' => ⟨xs.length - (i + 1), by omega, rfl, hlt, p'⟩, fun x H' y => ?_⟩
    obtain ⟨T, z, z2, rfl, hT, rfl, y1, y2⟩ := y
    exact hs i z z2 T H (y1 xs q1) (y2 ys q2) p hT
  · have e : i = xs.length := by omega
    subst e
    exact .inl ⟨⟨xs, ys, q1, q2, .inl (Nat.le_refl _)⟩, hd H p⟩
/-! ### comprehensions that map; what a turn does may add to the heap -/
theorem lc_map {K : PySem.W.Frag} {a : Addr} {xs ys : List V} {g : TG} {te : TE} {vs : List Nat} {σ : St} {H1 : Hp} {D : Addr} {Qd : Hp → Prop} (hq : SqL K H1 a xs) (hD : H1 D = none) (hy : ys.length = xs.length) (hz : xs.length ≤ sizeLine)
    (hs : ∀ (i : Nat) (x y : V) (H : Hp) (R : V → Hp → Prop), xs[i]? = some x → ys[i]? = some y → Same H1 H → (∀ H', Same H H' → R y H') → g x (wipe σ vs) H fun σ2 H2 => wipe σ2 vs = wipe σ vs ∧ te σ2 H2 R)
    (hd : ∀ H, Same H1 H → H D = some (.lst ys) → Qd H) :
    ∃ W : Nat → Nat → Hp → Prop, (∃ m, W 0 m (upd H1 D (.lst []))) ∧ ∀ i m H, W i m H →
      ((Itl K a).stop i H ∧ Qd H) ∨ ((Itl K a).go i H ∧ ∃ Nx : Hp → Prop, (∀ H', Nx H' → ∃ m', m' < m ∧ W (i + 1) m' H') ∧ ∀ x H', (Itl K a).yld i H x H' → g x (wipe σ vs) H' fun σ2 H2 => wipe σ2 vs = wipe σ vs ∧ tYes σ2 H2 fun b H3 =>
        if b = true then te σ2 H3 fun y H4 => ∃ acc, H4 D = some (.lst acc) ∧ acc.length < sizeLine ∧ Nx (upd H4 D (.lst (acc ++ [y]))) else Nx H3) := by
  refine lc_list (tt := tYes) (xs := xs) (fun i H => Same H1 H ∧ H D = some (.lst (ys.take i))) ⟨Same.fresh hD, upd_same⟩ (fun i H _ h => h.1.seq hq) (fun i x H hx h => ?_) (fun H h => hd H h.1 (by rw [h.2, ← hy, List.take_length]))
  obtain ⟨s1, hd1⟩ := h
  have hi : i < xs.length := (List.getElem?_eq_some_iff.mp hx).1
  have hyi : ys[i]? = some ys[i] := List.getElem?_eq_getElem (by omega)
  refine hs i x _ H (fun y H4 => ∃ acc, H4 D = some (.lst acc) ∧ acc.length < sizeLine ∧ Same H1 (upd H4 D (.lst (acc ++ [y]))) ∧ upd H4 D (.lst (acc ++ [y])) D = some (.lst (ys.take (i + 1)))) hx hyi s1 (fun H' s2 => ?_)
  refine ⟨ys.take i, s2 _ _ hd1, by rw [List.length_take]; omega, (s1.trans s2).new hD, ?_⟩
  rw [upd_same, List.take_add_one, hyi]
  rfl
theorem lc_mapR {lo : Int} {n : Nat} {ys : List V} {g : TG} {te : TE} {vs : List Nat} {σ : St} {H1 : Hp} {D : Addr} {Qd : Hp → Prop} (hD : H1 D = none) (hy : ys.length = n) (hz : n ≤ sizeLine)
    (hs : ∀ (i : Nat) (y : V) (H : Hp) (R : V → Hp → Prop), i < n → ys[i]? = some y → Same H1 H → (∀ H', Same H H' → R y H') → g (.int (lo + i)) (wipe σ vs) H fun σ2 H2 => wipe σ2 vs = wipe σ vs ∧ te σ2 H2 R)
    (hd : ∀ H, Same H1 H → H D = some (.lst ys) → Qd H) :
    ∃ W : Nat → Nat → Hp → Prop, (∃ m, W 0 m (upd H1 D (.lst []))) ∧ ∀ i m H, W i m H →
      ((Itr lo n).stop i H ∧ Qd H) ∨ ((Itr lo n).go i H ∧ ∃ Nx : Hp → Prop, (∀ H', Nx H' → ∃ m', m' < m ∧ W (i + 1) m' H') ∧ ∀ x H', (Itr lo n).yld i H x H' → g x (wipe σ vs) H' fun σ2 H2 => wipe σ2 vs = wipe σ vs ∧ tYes σ2 H2 fun b H3 =>
        if b = true then te σ2 H3 fun y H4 => ∃ acc, H4 D = some (.lst acc) ∧ acc.length < sizeLine ∧ Nx (upd H4 D (.lst (acc ++ [y]))) else Nx H3) := by
  refine lc_range (tt := tYes) (fun i H => Same H1 H ∧ H D = some (.lst (ys.take i))) ⟨Same.fresh hD, upd_same⟩ (fun i H hi h => ?_) (fun H h => hd H h.1 (by rw [h.2, ← hy, List.take_length]))
  obtain ⟨s1, hd1⟩ := h
  have hyi : ys[i]? = some ys[i] := List.getElem?_eq_getElem (by omega)
  refine hs i _ H (fun y H4 => ∃ acc, H4 D = some (.lst acc) ∧ acc.length < sizeLine ∧ Same H1 (upd H4 D (.lst (acc ++ [y]))) ∧ upd H4 D (.lst (acc ++ [y])) D = some (.lst (ys.take (i + 1)))) hi hyi s1 (fun H' s2 => ?_)
  refine ⟨ys.take i, s2 _ _ hd1, by rw [List.length_take]; omega, (s1.trans s2).new hD, ?_⟩
  rw [upd_same, List.take_add_one, hyi]
  rfl
/-! ### slices -/
theorem cut_to (xs : List V) (k : Nat) : cutV xs none (some (k : Int)) = xs.take k := by
  unfold cutV
  rw [HT.sIx_none, HT.sIx_nat, List.drop_zero, Nat.sub_zero]
  by_cases h : k ≤ xs.length
  · rw [Nat.min_eq_left h]
  · rw [Nat.min_eq_right (by omega), List.take_length, List.take_of_length_le (by omega)]
theorem cut_from (xs : List V) (k : Nat) : cutV xs (some (k : Int)) none = xs.drop k := by
  unfold cutV
  rw [HT.sIx_none, HT.sIx_nat]
  by_cases h : k ≤ xs.length
  · rw [Nat.min_eq_left h, List.take_of_length_le (by rw [List.length_drop]; omega)]
  · rw [Nat.min_eq_right (by omega), List.drop_length, List.drop_of_length_le (by omega), List.take_nil]
theorem cut_mid (xs : List V) (i j : Nat) : cutV xs (some (i : Int)) (some (j : Int)) = (xs.drop i).take (j - i) := by
  unfold cutV
  rw [HT.sIx_nat, HT.sIx_nat]
  by_cases h : i ≤ xs.length
  · rw [Nat.min_eq_left h]
    by_cases h2 : j ≤ xs.length
    · rw [Nat.min_eq_left h2]
    · rw [Nat.min_eq_right (by omega), List.take_of_length_le (by rw [List.length_drop]; omega), List.take_of_length_le (by rw [List.length_drop]; omega)]
  · rw [Nat.min_eq_right (show xs.length ≤ i by omega), List.drop_length, List.drop_of_length_le (show xs.length ≤ i by omega), List.take_nil, List.take_nil]
end L2

set_option Elab.async false
set_option linter.all false
set_option maxRecDepth 100000
set_option maxHeartbeats 2000000
namespace L2
open PySem PySem.Spec PyProof.Rows
/-! ### max(xs, default=d) -/
section
variable {prog : Program} {w : World} {A : Around} {R : Result → Shared → Prop} {I : Addr} {fp wr : List Addr} {n : Nat} {P : Nat → Value → Prop} {St : Nat → Heap → Prop}
theorem loopName : (toString "max" ++ toString ".loop" : String) = "max.loop" := by decide
theorem maxD_more {kw : List (Str × Value)} (W : Walks prog w A.in1 I fp wr n P St) {bt : Nat → Nat → Bool} (cmp : CmpOf prog w A.in1 .Gt P bt) {B : Addr} (hB : B ∉ fp) :
    ∀ (k j : Nat) (s : Shared) (top : Value) (c : Nat), n - (j + 1) = k → j + 1 ≤ n → St (j + 1) s.heap → P (argBest bt j) top → s.heap.get? B = some { cls := .type "list", dict := none, data := .seq #[top, top] c, slots := #[] } →
    (∀ v h' tk, P (argBest bt (n - 1)) v → (∀ b o, b ∉ wr → b ≠ B → s.heap.get? b = some o → h'.get? b = some o) → R (.ok (.ret v)) { s with heap := h', toks := tk }) → codeAny (model prog w) A (.builtin "max.loop" ⟨[.ref I, .none, .ref B], kw⟩) R s := by
  have nB : B ∉ wr := fun z => hB (W.sub _ z)
  intro k
  induction k with
  | zero =>
    intro j s top c hk hj st pb sb fin
    have jn : j + 1 = n := by omega
    apply codeAny_builtin PySem.F.entry_max_loop
    rw [Around.under_plainId PySem.F.plain_max_loop]
    show wpAny _ A.in1 (seqItems? (.ref B) >>= _) _ _ s
    refine wpAny_bind (wpAny_seqItems sb rfl ?_)
    show wpAny _ _ (tryCatch (pyNext (.ref I)) _ >>= _) _ _ s
    refine wpAny_bind (wpAny_tryCatch (W.done s _ _ (jn ▸ st) fun h1 tk k1 => ?_))
    have sb1 := k1 B _ nB sb
    show wpAny _ _ (updateSeq B (fun _ => #[]) >>= _) _ _ _
    refine wpAny_bind (wpAny_updateSeq sb1 rfl (wpAny_bind (wpAny_letGo (wpAny_pure ?_))))
    exact fin top _ tk (by rw [← jn]; exact pb) fun b o x1 x2 e => (Heap.get?_update_other _ _ (Ne.symm x2)).trans (k1 b o x1 e)
  | succ k ih =>
    intro j s top c hk hj st pb sb fin
    have jn : j + 1 < n := by omega
    apply codeAny_builtin PySem.F.entry_max_loop
    rw [Around.under_plainId PySem.F.plain_max_loop]
    show wpAny _ A.in1 (seqItems? (.ref B) >>= _) _ _ s
    refine wpAny_bind (wpAny_seqItems sb rfl ?_)
    show wpAny _ _ (tryCatch (pyNext (.ref I)) _ >>= _) _ _ s
    refine wpAny_bind (wpAny_tryCatch (W.item (j + 1) s _ _ jn st fun v h1 tk pv st1 k1 => ?_))
    have sb1 := k1 B _ nB sb
    show wpAny _ _ (tryCatch (holding [v, v] (richCompare .Gt v top >>= _)) _ >>= _) _ _ _
    refine wpAny_bind (wpAny_tryCatch (wpAny_holding (wpAny_bind (cmp (j + 1) (argBest bt j) v top _ _ _ pv pb (wpAny_bind (wpAny_holding (wpAny_truthy_bool (wpAny_bind (wpAny_letGo (wpAny_pure ?_))))))))))
    cases q : bt (j + 1) (argBest bt j) with
    | true =>
      simp only [if_true]
      refine wpAny_bind (wpAny_updateSeq sb1 rfl (wpAny_bind (wpAny_letGo ?_)))
      rw [loopName]
      refine wpAny_pure ⟨plainId_quiet PySem.F.plain_max_loop _, ih (j + 1) _ v _ (by omega) jn (W.frame _ _ _ st1 fun b bf o e => (Heap.get?_update_other _ _ (fun z : B = b => hB (by rw [z]; exact bf))).trans e) (by simp only [argBest, q, if_true]; exact pv) (Heap.get?_update_self _ sb1 rfl) fun v2 h2 tk2 pv2 k2 => ?_⟩
      exact fin v2 h2 tk2 pv2 fun b o x1 x2 e => k2 b o x1 x2 ((Heap.get?_update_other _ _ (Ne.symm x2)).trans (k1 b o x1 e))
    | false =>
      simp only [Bool.false_eq_true, if_false]
      refine wpAny_bind (wpAny_letGo ?_)
      rw [loopName]
      refine wpAny_pure ⟨plainId_quiet PySem.F.plain_max_loop _, ih (j + 1) _ top c (by omega) jn st1 (by simp only [argBest, q, Bool.false_eq_true, if_false]; exact pb) sb1 fun v2 h2 tk2 pv2 k2 => ?_⟩
      exact fin v2 h2 tk2 pv2 fun b o x1 x2 e => k2 b o x1 x2 (k1 b o x1 e)
theorem maxD_first {nm : Str} {d : Value} (W : Walks prog w A.in1 I fp wr n P St) {bt : Nat → Nat → Bool} (cmp : CmpOf prog w A.in1 .Gt P bt) {B : Addr} (hB : B ∉ fp) {s : Shared} {c : Nat} (st : St 0 s.heap)
    (sb : s.heap.get? B = some { cls := .type "list", dict := none, data := .seq #[] c, slots := #[] })
    (fin : ∀ v h' tk, ((0 < n ∧ P (argBest bt (n - 1)) v) ∨ (n = 0 ∧ v = d)) → (∀ b o, b ∉ wr → b ≠ B → s.heap.get? b = some o → h'.get? b = some o) → R (.ok (.ret v)) { s with heap := h', toks := tk }) :
    codeAny (model prog w) A (.builtin "max.loop" ⟨[.ref I, .none, .ref B], [(nm, d)]⟩) R s := by
  have nB : B ∉ wr := fun z => hB (W.sub _ z)
  apply codeAny_builtin PySem.F.entry_max_loop
  rw [Around.under_plainId PySem.F.plain_max_loop]
  show wpAny _ A.in1 (seqItems? (.ref B) >>= _) _ _ s
  refine wpAny_bind (wpAny_seqItems sb rfl ?_)
  show wpAny _ _ (tryCatch (pyNext (.ref I)) _ >>= _) _ _ s
  by_cases hn : 0 < n
  · refine wpAny_bind (wpAny_tryCatch (W.item 0 s _ _ hn st fun v h1 tk pv st1 k1 => ?_))
    have sb1 := k1 B _ nB sb
    show wpAny _ _ (updateSeq B (fun _ => #[v, v]) >>= _) _ _ _
    refine wpAny_bind (wpAny_updateSeq sb1 rfl ?_)
    rw [loopName]
    refine wpAny_pure ⟨plainId_quiet PySem.F.plain_max_loop _, maxD_more W cmp hB _ 0 _ v _ rfl hn (W.frame _ _ _ st1 fun b bf o e => (Heap.get?_update_other _ _ (fun z : B = b => hB (by rw [z]; exact bf))).trans e) pv (Heap.get?_update_self _ sb1 rfl) fun v2 h2 tk2 pv2 k2 => ?_⟩
    exact fin v2 h2 tk2 (.inl ⟨hn, pv2⟩) fun b o x1 x2 e => k2 b o x1 x2 ((Heap.get?_update_other _ _ (Ne.symm x2)).trans (k1 b o x1 e))
  · have n0 : n = 0 := by omega
    refine wpAny_bind (wpAny_tryCatch (W.done s _ _ (n0 ▸ st) fun h1 tk k1 => ?_))
    refine wpAny_bind (wpAny_rule (wpAny_pure ?_))
    exact fin d h1 tk (.inr ⟨n0, rfl⟩) fun b o x1 x2 e => k1 b o x1 e
end
section
variable {prog : Program} {w : World} {A : Around} {E : Value → Shared → Prop} {s : Shared}
theorem args_maxD (a d : Value) : argsOk "max" ⟨[a], [("default", d)]⟩ := by unfold argsOk; kernel_rfl
theorem bind_maxD (d : Value) : Builtin.Builtins.bindParams "max" ["key", "default"] 0 ⟨[], [("default", d)]⟩ = pure [none, some d] := by kernel_rfl
theorem call_maxD {x d : Value} {Q : Value → Shared → Prop}
    (h : wpAny (model prog w) A.in1 (pyIter x) (fun it s2 => ∃ I fp wr n P St bt, it = .ref I ∧ Walks prog w A.in1 I fp wr n P St ∧ St 0 s2.heap ∧ (∀ b ∈ fp, b < s2.heap.objs.size) ∧ CmpOf prog w A.in1 .Gt P bt ∧
      ∀ v h' tk, ((0 < n ∧ P (argBest bt (n - 1)) v) ∨ (n = 0 ∧ v = d)) → (∀ b o, b ∉ wr → s2.heap.get? b = some o → h'.get? b = some o) → Q v { s2 with heap := h', toks := tk }) E s) :
    wpAny (model prog w) A (call (.builtin "max") [x] [("default", d)]) Q E s := by
  apply wpAny_call
  apply codeAny_call_builtin PySem.F.plain_max PySem.F.entry_max
  have body : wpAny (model prog w) A.in1 (Builtin.«max» ⟨[x], [("default", d)]⟩) (fun fin s' => match fin with
      | .done f => (match (Except.ok f : Result) with | .ok (.ret v) => Q v s' | .ok _ => False | .error e => E e s')
      | .again c' => c'.quiet = true ∧ codeAny (model prog w) A c' (fun r s' => match r with | .ok (.ret v) => Q v s' | .ok _ => False | .error e => E e s') s') E s := by
    show wpAny _ A.in1 (Builtin.Builtins.bindParams "max" ["key", "default"] 0 ⟨[], [("default", d)]⟩ >>= _) _ _ s
    refine wpAny_bind (wpAny_of_eq (bind_maxD d) (wpAny_bind (wpAny_pure (wpAny_bind (wpAny_mono h (fun it s2 h2 => ?_) fun _ _ e => e)))))
    obtain ⟨I, fp, wr, n, P, St, bt, rfl, W, st, hfp, cmp, q⟩ := h2
    refine wpAny_bind (wpAny_newObj_type ?_)
    have nB : s2.heap.objs.size ∉ fp := fun z => Nat.lt_irrefl _ (hfp _ z)
    rw [loopName]
    refine wpAny_pure ⟨plainId_quiet PySem.F.plain_max_loop _, maxD_first W cmp nB (W.frame _ _ _ st fun b _ o e => Heap.get?_push_of_some _ e) (Heap.get?_push_size _ rfl) fun v h' tk pv k1 => ?_⟩
    exact q v h' tk pv fun b o x1 e => k1 b o x1 (Nat.ne_of_lt (Heap.lt_size e)) (Heap.get?_push_of_some _ e)
  simp only [checkBuiltinCall, PySem.F.kind_max]
  cases sg : Manifest.signature? "max" with
  | none => exact wpAny_pure body
  | some sig =>
    have ok := args_maxD x d
    simp only [argsOk, sg] at ok
    show wpAny _ A.in1 (Bind.checkArgs "max" sig ⟨[x], [("default", d)]⟩) _ _ s
    rw [show Bind.checkArgs "max" sig ⟨[x], [("default", d)]⟩ = pure () from ok]
    exact wpAny_pure body
theorem maxD_raw {l : Addr} {its : List Value} {ns : List Int} {d : Int} {td : Tok} {Q : Value → Shared → Prop} (hh : A.handled = none) (hl : s.heap.IsList l its.toArray) (hi : IntsAre its ns)
    (h : ∀ h' tk M t', (∀ b o, s.heap.get? b = some o → h'.get? b = some o) → ((ns = [] ∧ M = d) ∨ (M ∈ ns ∧ ∀ a, a ∈ ns → a ≤ M)) → Q (.int M t') { s with heap := h', toks := tk }) :
    wpAny (model prog w) A (call (.builtin "max") [.ref l] [("default", .int d td)]) Q E s := by
  obtain ⟨xs, e⟩ := hi.allInts.items
  have hn : numsOf (intItems xs).toList = ns := by rw [← e]; exact hi.numsOf
  rw [nums_intItems] at hn
  subst hn
  rw [e] at hl
  refine call_maxD (iter_intList hl fun s2 e2 st hfp hlI => ?_)
  subst e2
  refine ⟨_, _, _, _, _, _, _, rfl, Walks.list (A := A.in1) hh _ l hlI (intItems xs), st, hfp, CmpOf.ints_gt (numAt xs) (fun _ _ => intItems_at), fun v h' tk hP hk => ?_⟩
  have szE : (intItems xs).size = xs.size := by simp [intItems]
  rw [szE] at hP
  rcases hP with ⟨n0, hv⟩ | ⟨n0, hv⟩
  · obtain ⟨t, rfl⟩ := intItems_at hv
    obtain ⟨h1, h2⟩ := argBest_gt (numAt xs) (xs.size - 1)
    refine h h' tk _ t (old_kept hk) (.inr ⟨?_, fun a ha => ?_⟩)
    · rw [numAt_eq]
      exact PySem.getD_mem (by rw [List.length_map]; rw [Array.length_toList]; omega)
    · obtain ⟨j, hj, rfl⟩ := mem_getD ha
      have hj : j < xs.size := by simpa using hj
      rw [← numAt_eq]
      exact h2 j (by omega)
  · subst hv
    refine h h' tk d td (old_kept hk) (.inl ⟨?_, rfl⟩)
    rw [List.map_eq_nil_iff]
    exact List.eq_nil_of_length_eq_zero (by simpa using n0)
end
section
variable {X : Cx} {p pos : Pos} {e : Expr} {t tk : TA} {kws : List Keyword}
def rMaxD (K : PySem.W.Frag) : List V → List V → Hp → VK → Prop := fun vs zs H Q => ∃ (a : Addr) (ns : List Int) (d : Int), vs = [V.ref a] ∧ zs = [V.int d] ∧ SqL K H a (ns.map V.int) ∧ ∀ M, ((ns = [] ∧ M = d) ∨ (M ∈ ns ∧ ∀ y, y ∈ ns → y ≤ M)) → Q (.int M) H
def tCBK (r : List V → List V → Hp → VK → Prop) (t tk : TA) : TE := fun σ H Q => t σ H fun vs H1 => tk σ H1 fun zs H2 => r vs zs H2 Q
theorem pe_maxD (hc : X.calm = true) (hg : Gl X "max") (hm : X.mg "max" = none) (ha : PA X [e] t) (hkw : PK X kws tk) (hks : (backToKw pos (keywordEach kws X.env)).filterMap (·.1) = [("default" : Str)] := by rfl)
    (he : backTo pos (starEach [e] X.env) = (false, eval e X.env) :: backTo pos (starEach [] X.env) := by rfl) (hp : (backTo pos (starEach [e] X.env)).any (·.1) = false := by rfl) (hall : (backToKw pos (keywordEach kws X.env)).all (·.1.isSome) = true := by rfl) (hkn : (backToKw pos (keywordEach kws X.env)).any (·.1.isNone) = false := by rfl) :
    PE X (.Call (.Name "max" p) [e] kws pos) (tCBK (rMaxD X.K) t tk) := by
  intro pins s σ H Q I h
  refine wpAny_Call_Name_kw (ld_blt I hg hm PyProof.Rows.boot_max ?_ (by decide) (by decide))
  refine PyProof.Rows.callWith_kw (thn (ha pos pins s σ H _ I h) fun us s1 ⟨vs, H1, I1, r1, q1⟩ => thn (hkw pos pins s1 σ H1 _ I1 q1) fun ws s2 ⟨zs, H2, I2, rz, q2⟩ => ?_) he hp hall hkn
  rw [hks]
  obtain ⟨a, ns, d, rfl, rfl, hs, q⟩ := q2
  obtain ⟨u, rfl, td, rfl⟩ := vals1 rz
  obtain ⟨its, rv, hl, _⟩ := I2.list hs
  rw [Vals.ref1 r1]
  exact maxD_raw (I2.ok.hd hc) hl.isList rv.ints fun h' tk M t' hk hM => ⟨.int _, H2, I2.kept hk, ⟨_, rfl⟩, q M hM⟩
end
end L2

set_option Elab.async false
set_option linter.all false
set_option maxRecDepth 100000
set_option maxHeartbeats 2000000
namespace Cut
open PySem PySem.Spec PyProof.Rows L2
def top (i : Nat) : Stmt := PySem.Challenge.pw_cutorders_s01_answers.main.body.getD i (.Pass ⟨0, 0, 0, 0⟩)
abbrev sWants : Stmt := top 5
abbrev sTotals : Stmt := top 6
abbrev sGoes : Stmt := top 7
abbrev sFill : Stmt := top 8
abbrev sMost : Stmt := top 10
abbrev sFirst : Stmt := top 11
abbrev sBest : Stmt := top 12
/-! ### data on the heap -/
abbrev nint (n : Nat) : V := V.int (n : Int)
def PairsIn (H : Hp) (as : List Addr) (ws : List (Nat × Nat)) : Prop := as.length = ws.length ∧ ∀ (i : Nat) (w : Nat × Nat), ws[i]? = some w → ∃ a, as[i]? = some a ∧ H a = some (.tup [nint w.1, nint w.2])
def PairsAt (H : Hp) (l : Addr) (ws : List (Nat × Nat)) : Prop := ∃ as : List Addr, H l = some (.lst (as.map V.ref)) ∧ PairsIn H as ws
theorem PairsIn.same {H H' : Hp} {as : List Addr} {ws : List (Nat × Nat)} (s : Same H H') (h : PairsIn H as ws) : PairsIn H' as ws :=
  ⟨h.1, fun i w e => let ⟨a, h1, h2⟩ := h.2 i w e; ⟨a, h1, s _ _ h2⟩⟩
theorem PairsAt.same {H H' : Hp} {l : Addr} {ws : List (Nat × Nat)} (s : Same H H') (h : PairsAt H l ws) : PairsAt H' l ws :=
  let ⟨as, h1, h2⟩ := h; ⟨as, s _ _ h1, h2.same s⟩
theorem PairsIn.drop {H : Hp} {as : List Addr} {ws : List (Nat × Nat)} (h : PairsIn H as ws) (k : Nat) : PairsIn H (as.drop k) (ws.drop k) :=
  ⟨by rw [List.length_drop, List.length_drop, h.1], fun i w e => by
    rw [List.getElem?_drop] at e ⊢
    exact h.2 _ w e⟩
theorem map_get {α : Type} {f : α → V} {l : List α} {i : Nat} {x : V} (h : (l.map f)[i]? = some x) : ∃ a, l[i]? = some a ∧ x = f a := by
  rw [List.getElem?_map] at h
  cases e : l[i]? with
  | none => rw [e] at h; cases h
  | some a => rw [e] at h; exact ⟨a, rfl, (Option.some.inj h).symm⟩
theorem get_map {α : Type} {f : α → V} {l : List α} {i : Nat} {a : α} (h : l[i]? = some a) : (l.map f)[i]? = some (f a) := by
  rw [List.getElem?_map, h]; rfl
theorem take_snoc {α : Type} {l : List α} {i : Nat} {x : α} (h : l[i]? = some x) : l.take (i + 1) = l.take i ++ [x] := by
  rw [List.take_add_one, h]; rfl
theorem eadd (m n : Nat) : V.int ((m : Int) + (n : Int)) = nint (m + n) := congrArg V.int (by omega)
theorem esub {m n : Nat} (h : n ≤ m) : V.int ((m : Int) - (n : Int)) = nint (m - n) := congrArg V.int (by omega)
theorem iteP {b : Bool} {A B : Prop} (h : b = true) (a : A) : if b = true then A else B := by rw [if_pos h]; exact a
theorem iteN {b : Bool} {A B : Prop} (h : b = false) (a : B) : if b = true then A else B := by rw [h, if_neg Bool.false_ne_true]; exact a
theorem line_small {n : Nat} (h : n ≤ 1000) : n ≤ sizeLine := Nat.le_trans h (by decide)
/-- the names of Python's own that no text of the program binds -/
structure Own (mg : Str → Option Value) : Prop where
  range : mg "range" = none
  len : mg "len" = none
  max : mg "max" = none
  min : mg "min" = none
  zip : mg "zip" = none
  enumerate : mg "enumerate" = none
  list : mg "list" = none
  sorted : mg "sorted" = none
section
variable {P : Program} {w : World} {K : PySem.W.Frag} {mg : Str → Option Value} {base : Heap}
/-! ### totals -/
def spTotals : Sp := fun vs H Q _ => ∃ (a : Addr) (ns : List Nat), vs = [.ref a] ∧ H a = some (.lst (List.map nint ns)) ∧ ns.length ≤ 4 ∧ ∀ (H' : Hp) (p : Addr), Same H H' → H p = none → H' p = some (.lst (List.map nint (totals ns))) → Q (.ref p) H'
theorem scT : FnScope ["numbers", "sums", "number", "total"] ["numbers"] (defScope sTotals) := ⟨rfl, rfl, rfl, by decide +kernel, rfl, by decide +kernel, by decide +kernel⟩
theorem totals_small {ns : List Nat} (h : ns.length ≤ 4) : (totals ns).length ≤ 16 := by
  rw [totals_len]
  exact Nat.pow_le_pow_right (by decide) h
theorem ok_totals {f : Addr} {fd : FuncData} (F : Fun K "totals" "totals" sTotals f fd) : FnOk P w K mg base CX0 1 f fd ["numbers"] spTotals := by
  refine F.ok scT (fun vs H Q E h => ?_) (fun cdv A outer s H vs Q E hr h => ?_)
  · obtain ⟨a, ns, rfl, _⟩ := h
    rfl
  · obtain ⟨a, ns, rfl, ha, hn, k⟩ := h
    refine ⟨_, pss_cons (ps_set (i := 1) scT.nd rfl (Or.inl rfl) (pe_lst (pa_cons pe_int pa_nil)))
      (pss_cons (ps_for PassesOwn.never rfl (pi_list (pv 0)) (pg_name (i := 2) scT.nd rfl (Or.inr rfl))
        (pss_one (ps_set (i := 1) scT.nd rfl (Or.inl rfl) (pe_op op_cat (pv 1) (pe_lc (own := [("total", 3)]) rfl scT.nd (pi_list (pv 1)) (blkOk_by (by change blkC ["numbers", "sums", "number", "total"] (defScope sTotals) _ _ = true; decide +kernel)) (fun _ _ _ _ _ => pg_name (i := 3) scT.nd rfl (Or.inl rfl)) (fun _ _ _ _ _ => pts_nil)
          (fun _ _ _ _ _ => pe_op op_add (pv 3) (pv 2)))))))
      (pss_one (ps_ret (pv 1)))), ?_⟩
    refine ⟨(by show 1 ≤ sizeLine; decide), fun q hq => ?_⟩
    refine ⟨_, rfl, a, rfl, ⟨_, SqL.of (Same.fresh hq _ _ ha)⟩, for_list (K := K) (a := a) (xs := List.map nint ns) (fun i σ H' => ∃ (p : Addr) (v : Option V), σ = [some (.ref a), some (.ref p), v, none] ∧ Same H H' ∧ H p = none ∧ H' p = some (.lst (List.map nint (totals (ns.take i)))))
      ⟨q, none, rfl, Same.fresh hq, hq, upd_same⟩ (fun i σ H' _ ⟨_, _, _, s1, _⟩ => SqL.of (s1 _ _ ha)) ?_ ?_⟩
    · rintro i x σ H1 hx ⟨p, v, rfl, s1, hp, hp1⟩
      obtain ⟨n, hni, rfl⟩ := map_get hx
      have hsm : (totals (ns.take i)).length ≤ 16 := totals_small (by rw [List.length_take]; omega)
      refine ⟨_, rfl, _, rfl, p, rfl, ⟨_, SqL.of hp1⟩, fun D hD => lc_map (K := K) (xs := List.map nint (totals (ns.take i))) (ys := List.map nint ((totals (ns.take i)).map fun t => t + n)) (SqL.of hp1) hD (by simp) (by rw [List.length_map]; exact line_small (by omega)) (fun j y z H2 R hy hz s2 r => ?_) (fun H2 s2 hD2 => ?_)⟩
      · obtain ⟨m, hm, rfl⟩ := map_get hy
        have ez : z = V.int ((m : Int) + (n : Int)) := by
          rw [List.map_map, List.getElem?_map, hm] at hz
          exact (Option.some.inj hz).symm.trans (eadd m n).symm
        refine ⟨rfl, _, rfl, _, rfl, _, _, rfl, rfl, ?_⟩
        show R (V.int ((m : Int) + (n : Int))) _
        rw [← ez]
        exact r _ (Same.refl _)
      · refine ⟨p, D, _, _, rfl, rfl, s2 _ _ hp1, hD2, ?_, fun p' hp' => ?_⟩
        · rw [List.length_map, List.length_map, List.length_map]
          exact line_small (by omega)
        · refine ⟨p', some (nint n), rfl, (s1.trans s2).new ((s1.trans s2).free hp'), (s1.trans s2).free hp', ?_⟩
          rw [upd_same, take_snoc hni, totals_snoc, List.map_append]
    · rintro σ H1 ⟨p, v, rfl, s1, hp, hp1⟩
      refine ⟨_, rfl, ?_⟩
      rw [List.length_map, List.take_length] at hp1
      exact k H1 p s1 hp hp1
/-! ### goes_with -/
def spGoes : Sp := fun vs H Q _ => ∃ (c : Nat) (a : Addr) (ns : List Nat) (r : Nat) (b : Addr) (bs : List Bool), vs = [nint c, .ref a, nint r, .ref b] ∧ H a = some (.lst (List.map nint ns)) ∧ H b = some (.lst (List.map V.bl bs)) ∧ c < ns.length ∧ c < bs.length ∧ c < 1000 ∧
  ∀ H', Same H H' → Q (.bl (goesWith c ns r bs)) H'
theorem scG : FnScope ["chosen", "needed", "room", "before", "part"] ["chosen", "needed", "room", "before"] (defScope sGoes) := ⟨rfl, rfl, rfl, by decide +kernel, rfl, by decide +kernel, by decide +kernel⟩
def goesAt (c : Nat) (ns : List Nat) (r : Nat) (bs : List Bool) (part : Nat) : Bool := (part &&& c == part) && (decide (ns.getD part 0 ≤ r) && bs.getD (c - part) false)
theorem goes_true {c r part : Nat} {ns : List Nat} {bs : List Bool} (h : goesAt c ns r bs part = true) (hp : part ≤ c) : goesWith c ns r bs = true := by
  unfold goesWith
  exact List.any_eq_true.mpr ⟨part, by simp; omega, h⟩
theorem goes_false {c r : Nat} {ns : List Nat} {bs : List Bool} (h : ∀ part, part < c + 1 → goesAt c ns r bs part = false) : goesWith c ns r bs = false := by
  unfold goesWith
  rw [List.any_eq_false]
  intro part hp
  show ¬ goesAt c ns r bs part = true
  rw [h part (by simpa using hp)]
  exact Bool.false_ne_true
theorem ok_goes {f : Addr} {fd : FuncData} (F : Fun K "goes_with" "goes_with" sGoes f fd) (O : Own mg) : FnOk P w K mg base CX0 1 f fd ["chosen", "needed", "room", "before"] spGoes := by
  refine F.ok scG (fun vs H Q E h => ?_) (fun cdv A outer s H vs Q E hr h => ?_)
  · obtain ⟨c, a, ns, r, b, bs, rfl, _⟩ := h
    rfl
  · obtain ⟨c, a, ns, r, b, bs, rfl, ha, hb, hcn, hcb, hc, k⟩ := h
    refine ⟨_, pss_cons (ps_for PassesOwn.never rfl (pi_range1 rfl O.range (pa_cons (pe_op op_add (pv 0) pe_int) pa_nil)) (pg_name (i := 4) scG.nd rfl (Or.inl rfl))
      (pss_one (ps_if (PW.pt (pw_and (pt_cmpR op_eq (pe_op op_and (pv 4) (pv 0)) (pv 4) (nomark _)) (pw_and (pt_cmpR op_le (pe_ix ix_list (pv 1) (pv 4) (fun _ _ => rfl)) (pv 2) (nomark _)) (pw_and1 (pt_val (pe_ix ix_list (pv 3) (pe_op op_sub (pv 0) (pv 4)) (fun _ _ => rfl)))))))
        (pss_one (ps_ret pe_bl)) pss_nil)))
      (pss_one (ps_ret pe_bl)), ?_⟩
    have en : ((c : Int) + 1).toNat = c + 1 := by omega
    refine ⟨_, rfl, _, _, rfl, rfl, _, rfl, by omega, by omega, for_range (n := ((c : Int) + 1).toNat) (fun i σ H' => ∃ v : Option V, σ = [some (nint c), some (.ref a), some (nint r), some (.ref b), v] ∧ H' = H ∧ ∀ part, part < i → goesAt c ns r bs part = false)
      ⟨none, rfl, rfl, fun part h => by omega⟩ ?_ ?_⟩
    · rintro i σ H' hi ⟨v, rfl, rfl, hno⟩
      rw [en] at hi
      rw [Int.zero_add]
      have hni : ns[i]? = some ns[i] := List.getElem?_eq_getElem (by omega)
      have hbi : bs[c - i]? = some bs[c - i] := List.getElem?_eq_getElem (by omega)
      have more : ∀ q : goesAt c ns r bs i = false, ∀ part, part < i + 1 → goesAt c ns r bs part = false := fun q part hp => by
        by_cases e : part = i
        · rw [e]; exact q
        · exact hno part (by omega)
      have eand : Builtin.bitAnd (i : Int) (c : Int) = ((i &&& c : Nat) : Int) := by
        rw [bitAnd_pp (by omega) (by omega), Int.toNat_natCast, Int.toNat_natCast]
      refine ⟨_, rfl, _, rfl, _, _, rfl, rfl, _, rfl, rfl, _, rfl, ?_⟩
      by_cases e1 : i &&& c = i
      · refine iteP (show decide (V.int (Builtin.bitAnd (i : Int) (c : Int)) = V.int (i : Int)) = true by rw [eand, e1]; exact decide_eq_true rfl) ⟨_, rfl, _, rfl, a, _, _, _, rfl, rfl, SqL.of ha, atI_nat (get_map hni), _, rfl, _, _, rfl, rfl, _, rfl, ?_⟩
        by_cases e2 : ns[i] ≤ r
        · refine iteP (decide_eq_true (show ((ns[i] : Nat) : Int) ≤ (r : Int) by omega)) ⟨_, rfl, _, rfl, _, rfl, _, _, rfl, rfl, b, _, _, _, rfl, rfl, SqL.of hb, at_of (j := c - i) (by omega) (get_map hbi), _, rfl, ?_⟩
          cases e3 : bs[c - i] with
          | true =>
            refine iteT ?_
            have g : goesAt c ns r bs i = true := by
              unfold goesAt
              rw [e1, List.getD_eq_getElem?_getD, hni, List.getD_eq_getElem?_getD, hbi]
              simp [e2, e3]
            have z := k H' (Same.refl _)
            rw [goes_true g (by omega)] at z
            exact z
          | false =>
            refine iteF ⟨_, rfl, rfl, more ?_⟩
            unfold goesAt
            rw [List.getD_eq_getElem?_getD, hni, List.getD_eq_getElem?_getD, hbi]
            simp [e3]
        · refine iteN (decide_eq_false (show ¬ ((ns[i] : Nat) : Int) ≤ (r : Int) by omega)) (iteF ⟨_, rfl, rfl, more ?_⟩)
          unfold goesAt
          rw [List.getD_eq_getElem?_getD, hni]
          simp [e2]
      · refine iteN (show decide (V.int (Builtin.bitAnd (i : Int) (c : Int)) = V.int (i : Int)) = false by rw [eand]; exact decide_eq_false (by intro z; injection z with z; exact e1 (by omega))) (iteF ⟨_, rfl, rfl, more ?_⟩)
        unfold goesAt
        simp [e1]
    · rintro σ H' ⟨v, rfl, rfl, hno⟩
      rw [en] at hno
      have z := k H' (Same.refl _)
      rw [goes_false hno] at z
      exact z
/-! ### fillable -/
def spFill : Sp := fun vs H Q _ => ∃ (a b : Addr) (rooms needed : List Nat), vs = [.ref a, .ref b] ∧ H a = some (.lst (List.map nint rooms)) ∧ H b = some (.lst (List.map nint needed)) ∧ needed.length ≤ 16 ∧
  ∀ (H' : Hp) (p : Addr), Same H H' → H p = none → H' p = some (.lst (List.map V.bl (fillable rooms needed))) → Q (.ref p) H'
theorem scF : FnScope ["rooms", "needed", "can", "room", "chosen"] ["rooms", "needed"] (defScope sFill) := ⟨rfl, rfl, rfl, by decide +kernel, rfl, by decide +kernel, by decide +kernel⟩
theorem fillable_take {rooms needed : List Nat} {i room : Nat} (h : rooms[i]? = some room) : fillable (rooms.take (i + 1)) needed = (List.range needed.length).map fun chosen => goesWith chosen needed room (fillable (rooms.take i) needed) := by
  rw [take_snoc h, fillable_snoc]
theorem ok_fill {f fG : Addr} {fd fdG : FuncData} (F : Fun K "fillable" "fillable" sFill f fd) (O : Own mg) (G : FnOk P w K mg base CX0 1 fG fdG ["chosen", "needed", "room", "before"] spGoes) (mG : mg "goes_with" = some (.ref fG)) (kG : PySem.W.keepIn K (.ref fG) = true) (bG : Binds K fdG ["chosen", "needed", "room", "before"] []) :
    FnOk P w K mg base CX0 2 f fd ["rooms", "needed"] spFill := by
  refine F.ok scF (fun vs H Q E h => ?_) (fun cdv A outer s H vs Q E hr h => ?_)
  · obtain ⟨a, b, rooms, needed, rfl, _⟩ := h
    rfl
  · obtain ⟨a, b, rooms, needed, rfl, ha, hb, hn, k⟩ := h
    refine ⟨_, pss_cons (ps_set (i := 2) scF.nd rfl (Or.inr rfl) (pe_lc (own := [("chosen", 4)]) rfl scF.nd (pi_range1 rfl O.range (pa_cons (pe_callB call_len_seq rfl O.len PySem.boot_len (pa_cons (pv 1) pa_nil)) pa_nil)) (blkOk_by (by change blkC ["rooms", "needed", "can", "room", "chosen"] (defScope sFill) _ _ = true; decide +kernel)) (fun _ _ _ _ _ => pg_name (i := 4) scF.nd rfl (Or.inl rfl)) (fun _ _ _ _ _ => pts_nil)
          (fun _ _ _ _ _ => pe_cmpR op_eq (pv 4) pe_int (nomark _))))
      (pss_cons (ps_for PassesOwn.never rfl (pi_list (pv 0)) (pg_name (i := 3) scF.nd rfl (Or.inr rfl))
        (pss_one (ps_set (i := 2) scF.nd rfl (Or.inr rfl) (pe_lc (own := [("chosen", 4)]) rfl scF.nd (pi_range1 rfl O.range (pa_cons (pe_callB call_len_seq rfl O.len PySem.boot_len (pa_cons (pv 1) pa_nil)) pa_nil)) (blkOk_by (by change blkC ["rooms", "needed", "can", "room", "chosen"] (defScope sFill) _ _ = true; decide +kernel)) (fun _ _ _ _ _ => pg_name (i := 4) scF.nd rfl (Or.inl rfl)) (fun _ _ _ _ _ => pts_nil)
          (fun _ _ _ _ _ => pe_call G hr rfl mG kG bG .nil pass0 (pa_cons (pv 4) (pa_cons (pv 1) (pa_cons (pv 3) (pa_cons (pv 2) pa_nil)))))))))
      (pss_one (ps_ret (pv 2)))), ?_⟩
    have el : (((List.map nint needed).length : Nat) : Int).toNat = needed.length := by rw [Int.toNat_natCast, List.length_map]
    have small : (needed.length : Nat) ≤ sizeLine := line_small (by omega)
    have big : (((List.map nint needed).length : Nat) : Int) < 2 ^ 62 := by rw [List.length_map]; omega
    refine ⟨_, rfl, b, _, rfl, .inl (SqL.of hb), _, rfl, by omega, big, fun D hD => ?_⟩
    rw [el]
    refine lc_mapR (n := needed.length) (ys := List.map V.bl ((List.range needed.length).map fun chosen => chosen == 0)) hD (by simp) small (fun i y H1 R hi hy s1 r => ?_) (fun H1 s1 hD1 => ?_)
    · have ey : y = V.bl (i == 0) := by
        rw [List.map_map, List.getElem?_map, List.getElem?_range hi] at hy
        exact (Option.some.inj hy).symm
      refine ⟨rfl, _, rfl, rfl, ?_⟩
      have e2 : decide (V.int (0 + (i : Int)) = V.int 0) = (i == 0) := by
        rw [Bool.eq_iff_iff]
        simp
      rw [e2, ← ey]
      exact r _ (Same.refl _)
    · refine ⟨_, rfl, a, rfl, ⟨_, SqL.of (s1 _ _ ha)⟩, for_list (K := K) (a := a) (xs := List.map nint rooms) (fun i σ H' => ∃ (p : Addr) (v : Option V), σ = [some (.ref a), some (.ref b), some (.ref p), v, none] ∧ Same H H' ∧ H p = none ∧ H' p = some (.lst (List.map V.bl (fillable (rooms.take i) needed))))
        ⟨D, none, rfl, s1, hD, hD1⟩ (fun i σ H' _ ⟨_, _, _, s2, _⟩ => SqL.of (s2 _ _ ha)) ?_ ?_⟩
      · rintro i x σ H2 hx ⟨p, v, rfl, s2, hp, hp2⟩
        obtain ⟨room, hri, rfl⟩ := map_get hx
        refine ⟨_, rfl, b, _, rfl, .inl (SqL.of (s2 _ _ hb)), _, rfl, by omega, big, fun D2 hD2 => ?_⟩
        rw [el]
        refine lc_mapR (n := needed.length) (ys := List.map V.bl (fillable (rooms.take (i + 1)) needed)) hD2 (by rw [List.length_map, fillable_len]) small (fun j y H3 R hj hy s3 r => ?_) (fun H3 s3 hD3 => ?_)
        · have ey : y = V.bl (goesWith j needed room (fillable (rooms.take i) needed)) := by
            rw [fillable_take hri, List.map_map, List.getElem?_map, List.getElem?_range hj] at hy
            exact (Option.some.inj hy).symm
          rw [Int.zero_add]
          refine ⟨rfl, _, rfl, _, rfl, _, rfl, _, rfl, j, b, needed, room, p, fillable (rooms.take i) needed, rfl, s3 _ _ (s2 _ _ hb), s3 _ _ hp2, hj, by rw [fillable_len]; exact hj, by omega, fun H4 s4 => ?_⟩
          rw [← ey]
          exact r H4 s4
        · exact ⟨D2, some (nint room), rfl, s2.trans s3, s2.free hD2, hD3⟩
      · rintro σ H2 ⟨p, v, rfl, s2, hp, hp2⟩
        refine ⟨_, rfl, ?_⟩
        rw [List.length_map, List.take_length] at hp2
        exact k H2 p s2 hp hp2
/-! ### most_brought -/
def spMost : Sp := fun vs H Q _ => ∃ (a b : Addr) (rooms : List Nat) (ws : List (Nat × Nat)), vs = [.ref a, .ref b] ∧ H a = some (.lst (List.map nint rooms)) ∧ PairsAt H b ws ∧ ws.length ≤ 4 ∧
  ∀ (H' : Hp), Same H H' → Q (nint (mostBrought rooms ws)) H'
theorem scM : FnScope ["rooms", "wants", "can", "paid", "need", "pays", "brought", "possible"] ["rooms", "wants"] (defScope sMost) := ⟨rfl, rfl, rfl, by decide +kernel, rfl, by decide +kernel, by decide +kernel⟩
theorem max_cast {l : List Nat} (hl : l ≠ []) {M : Int} (h1 : M ∈ l.map fun n : Nat => (n : Int)) (h2 : ∀ a ∈ l.map (fun n : Nat => (n : Int)), a ≤ M) : M = ((maxOf l : Nat) : Int) := by
  obtain ⟨m, hm, rfl⟩ := List.mem_map.mp h1
  obtain ⟨g1, g2⟩ := maxOf_spec hl
  have a := h2 _ (List.mem_map.mpr ⟨_, g1, rfl⟩)
  have b := g2 m hm
  omega
theorem ok_most {f fT fF : Addr} {fd fdT fdF : FuncData} (F : Fun K "most_brought" "most_brought" sMost f fd) (O : Own mg) (GT : FnOk P w K mg base CX0 1 fT fdT ["numbers"] spTotals) (mT : mg "totals" = some (.ref fT)) (kT : PySem.W.keepIn K (.ref fT) = true) (bT : Binds K fdT ["numbers"] [])
    (GF : FnOk P w K mg base CX0 2 fF fdF ["rooms", "needed"] spFill) (mF : mg "fillable" = some (.ref fF)) (kF : PySem.W.keepIn K (.ref fF) = true) (bF : Binds K fdF ["rooms", "needed"] []) :
    FnOk P w K mg base CX0 3 f fd ["rooms", "wants"] spMost := by
  refine F.ok scM (fun vs H Q E h => ?_) (fun cdv A outer s H vs Q E hr h => ?_)
  · obtain ⟨a, b, rooms, ws, rfl, _⟩ := h
    rfl
  · obtain ⟨a, b, rooms, ws, rfl, ha, ⟨as, hb, hp⟩, hw, k⟩ := h
    have hr1 : Room 1 _ := hr.mono (by decide)
    refine ⟨_, pss_cons (ps_set (i := 2) scM.nd rfl (Or.inl rfl) (pe_call GF hr rfl mF kF bF .nil pass0 (pa_cons (pv 0) (pa_cons (pe_call GT hr1 rfl mT kT bT .nil pass0 (pa_cons
          (pe_lc (g := gTup K 2 (gCons (gName 4) (gCons (gName 5) gNil))) (own := [("need", 4), ("pays", 5)]) rfl scM.nd (pi_list (pv 1)) (blkOk_by (by change blkC ["rooms", "wants", "can", "paid", "need", "pays", "brought", "possible"] (defScope sMost) _ _ = true; decide +kernel)) (fun _ _ _ _ _ => pg_tup (n := 2) rfl (pgs_cons (pg_name (i := 4) scM.nd rfl (Or.inl rfl) (Or.inr rfl)) (pgs_cons (pg_name (i := 5) scM.nd rfl (Or.inl rfl) (Or.inr rfl)) pgs_nil))) (fun _ _ _ _ _ => pts_nil) (fun _ _ _ _ _ => pv 4)) pa_nil)) pa_nil))))
      (pss_cons (ps_set (i := 3) scM.nd rfl (Or.inl rfl) (pe_call GT hr1 rfl mT kT bT .nil pass0 (pa_cons
          (pe_lc (g := gTup K 2 (gCons (gName 4) (gCons (gName 5) gNil))) (own := [("need", 4), ("pays", 5)]) rfl scM.nd (pi_list (pv 1)) (blkOk_by (by change blkC ["rooms", "wants", "can", "paid", "need", "pays", "brought", "possible"] (defScope sMost) _ _ = true; decide +kernel)) (fun _ _ _ _ _ => pg_tup (n := 2) rfl (pgs_cons (pg_name (i := 4) scM.nd rfl (Or.inl rfl) (Or.inr rfl)) (pgs_cons (pg_name (i := 5) scM.nd rfl (Or.inl rfl) (Or.inr rfl)) pgs_nil))) (fun _ _ _ _ _ => pts_nil) (fun _ _ _ _ _ => pv 5)) pa_nil)))
      (pss_one (ps_ret (pe_callB (cr_max rfl) rfl O.max PyProof.Rows.boot_max (pa_cons
          (pe_lc (g := gTup K 2 (gCons (gName 6) (gCons (gName 7) gNil))) (own := [("brought", 6), ("possible", 7)]) rfl scM.nd (pi_zip rfl O.zip (pa_cons (pv 3) (pa_cons (pv 2) pa_nil))) (blkOk_by (by change blkC ["rooms", "wants", "can", "paid", "need", "pays", "brought", "possible"] (defScope sMost) _ _ = true; decide +kernel)) (fun _ _ _ _ _ => pg_tup (n := 2) rfl (pgs_cons (pg_name (i := 6) scM.nd rfl (Or.inl rfl) (Or.inr rfl)) (pgs_cons (pg_name (i := 7) scM.nd rfl (Or.inl rfl) (Or.inr rfl)) pgs_nil))) (fun _ _ _ _ _ => pts_one (pt_val (pv 7))) (fun _ _ _ _ _ => pv 6)) pa_nil))))), ?_⟩
    have elt : ∀ {i : Nat} {x : V}, (as.map V.ref)[i]? = some x → ∃ t w, x = .ref t ∧ as[i]? = some t ∧ ws[i]? = some w ∧ H t = some (.tup [nint w.1, nint w.2]) := fun {i x} hx => by
      obtain ⟨t, ht, rfl⟩ := map_get hx
      have hi : i < ws.length := by rw [← hp.1]; exact (List.getElem?_eq_some_iff.mp ht).1
      obtain ⟨t', h1, h2⟩ := hp.2 i ws[i] (List.getElem?_eq_getElem hi)
      rw [ht] at h1
      cases h1
      exact ⟨t, _, rfl, ht, List.getElem?_eq_getElem hi, h2⟩
    -- can = fillable(rooms, totals([need ..]))
    refine ⟨_, rfl, _, rfl, b, rfl, ⟨_, SqL.of hb⟩, fun D hD => lc_map (K := K) (xs := as.map V.ref) (ys := List.map nint (ws.map (·.1))) (SqL.of hb) hD (by simp [hp.1]) (by rw [List.length_map, hp.1]; exact line_small (by omega)) (fun i x y H1 R hx hy s1 r => ?_) (fun H1 s1 hD1 => ?_)⟩
    · obtain ⟨t, w, rfl, ht, hwi, hH⟩ := elt hx
      have ey : y = nint w.1 := by
        rw [List.map_map, List.getElem?_map, hwi] at hy
        exact (Option.some.inj hy).symm
      refine ⟨t, _, rfl, SqT.of (s1 _ _ hH), rfl, _, _, rfl, _, _, rfl, rfl, rfl, _, rfl, ?_⟩
      rw [← ey]
      exact r _ (Same.refl _)
    · refine ⟨D, ws.map (·.1), rfl, hD1, by rw [List.length_map]; exact hw, fun H2 p2 s2 hp2 hp3 => ?_⟩
      have s02 := s1.trans s2
      refine ⟨a, p2, rooms, totals (ws.map (·.1)), rfl, s02 _ _ ha, hp3, totals_small (by rw [List.length_map]; exact hw), fun H3 p4 s3 hp4 hp5 => ?_⟩
      have s03 := s02.trans s3
      -- paid = totals([pays ..])
      refine ⟨_, rfl, b, rfl, ⟨_, SqL.of (s03 _ _ hb)⟩, fun D2 hD2 => lc_map (K := K) (xs := as.map V.ref) (ys := List.map nint (ws.map (·.2))) (SqL.of (s03 _ _ hb)) hD2 (by simp [hp.1]) (by rw [List.length_map, hp.1]; exact line_small (by omega)) (fun i x y H4 R hx hy s4 r => ?_) (fun H4 s4 hD4 => ?_)⟩
      · obtain ⟨t, w, rfl, ht, hwi, hH⟩ := elt hx
        have ey : y = nint w.2 := by
          rw [List.map_map, List.getElem?_map, hwi] at hy
          exact (Option.some.inj hy).symm
        refine ⟨t, _, rfl, SqT.of (s4 _ _ (s03 _ _ hH)), rfl, _, _, rfl, _, _, rfl, rfl, rfl, _, rfl, ?_⟩
        rw [← ey]
        exact r _ (Same.refl _)
      · refine ⟨D2, ws.map (·.2), rfl, hD4, by rw [List.length_map]; exact hw, fun H5 p6 s5 hp6 hp7 => ?_⟩
        have s35 := s4.trans s5
        have s05 := s03.trans s35
        have hcan : H5 p4 = some (.lst (List.map V.bl (fillable rooms (totals (ws.map (·.1)))))) := s35 _ _ hp5
        -- max([brought ..])
        have lens : (List.map V.bl (fillable rooms (totals (ws.map (·.1))))).length = (List.map nint (totals (ws.map (·.2)))).length := by
          rw [List.length_map, List.length_map, fillable_len, totals_len, totals_len, List.length_map, List.length_map]
        have sml : (totals (ws.map (·.2))).length ≤ 16 := totals_small (by rw [List.length_map]; exact hw)
        refine ⟨_, rfl, _, rfl, p6, p4, _, _, rfl, SqL.of hp7, SqL.of hcan, fun D3 hD3 => lc_zip (K := K) (xs := List.map nint (totals (ws.map (·.2)))) (ys := List.map V.bl (fillable rooms (totals (ws.map (·.1))))) lens
          (fun i H' => Same H5 H' ∧ H' D3 = some (.lst (List.map nint ((((totals (ws.map (·.2))).zip (fillable rooms (totals (ws.map (·.1))))).take i |>.filter (·.2)).map (·.1))))) ⟨Same.fresh hD3, upd_same⟩ (fun i H' _ h => ⟨SqL.of (h.1 _ _ hp7), SqL.of (h.1 _ _ hcan)⟩) (fun i x y T H6 hx hy h hT => ?_) (fun H6 h => ?_)⟩
        · obtain ⟨s6, hd6⟩ := h
          obtain ⟨m, hm, rfl⟩ := map_get hx
          obtain ⟨bb, hbb, rfl⟩ := map_get hy
          have hz : ((totals (ws.map (·.2))).zip (fillable rooms (totals (ws.map (·.1)))))[i]? = some (m, bb) := by
            rw [List.getElem?_zip_eq_some]
            exact ⟨hm, hbb⟩
          have s7 : Same H5 (upd H6 T (.tup [nint m, .bl bb])) := s6.new (s6.free hT)
          have nTD : D3 ≠ T := ne_of_none hd6 hT
          refine ⟨T, _, rfl, SqT.of upd_same, rfl, _, _, rfl, _, _, rfl, rfl, rfl, _, rfl, _, rfl, ?_⟩
          cases bb with
          | true =>
            refine iteT ⟨_, rfl, _, by rw [upd_ne nTD]; exact hd6, ?_, s7.new hD3, ?_⟩
            · rw [List.length_map, List.length_map]
              refine Nat.lt_of_le_of_lt (List.length_filter_le _ _) ?_
              rw [List.length_take, List.length_zip]
              exact small1000 (by omega)
            · rw [upd_same, take_snoc hz, List.filter_append, List.map_append, List.map_append]
              rfl
          | false =>
            refine iteF ⟨s7, ?_⟩
            rw [upd_ne nTD, hd6, take_snoc hz, List.filter_append, List.map_append, List.map_append]
            simp
        · obtain ⟨s6, hd6⟩ := h
          have full : ((totals (ws.map (·.2))).zip (fillable rooms (totals (ws.map (·.1))))).take (List.map nint (totals (ws.map (·.2)))).length = (totals (ws.map (·.2))).zip (fillable rooms (totals (ws.map (·.1)))) := by
            refine List.take_of_length_le ?_
            rw [List.length_zip, List.length_map]
            exact Nat.min_le_left _ _
          rw [full] at hd6
          have hd6 : H6 D3 = some (.lst (List.map nint (broughts rooms ws))) := hd6
          refine ⟨D3, (broughts rooms ws).map (fun n : Nat => (n : Int)), rfl, SqL.of (by rw [hd6, List.map_map]; rfl), ?_, fun M h1 h2 => ?_⟩
          · rw [List.length_map]
            exact List.length_pos_iff.mpr (brought_ne rooms ws)
          · rw [max_cast (brought_ne rooms ws) h1 h2]
            exact k H6 (s05.trans s6)
end
end Cut

set_option Elab.async false
set_option linter.all false
set_option maxRecDepth 100000
set_option maxHeartbeats 2000000
namespace Cut
open PySem PySem.Spec PyProof.Rows L2
section
variable {P : Program} {w : World} {K : PySem.W.Frag} {mg : Str → Option Value} {base : Heap}
/-! ### first_place -/
def spFirst : Sp := fun vs H Q _ => ∃ (a b : Addr) (rooms : List Nat) (w : Nat × Nat) (ws : List (Nat × Nat)) (goal : Nat), vs = [.ref a, .ref b, nint goal] ∧ H a = some (.lst (List.map nint rooms)) ∧ PairsAt H b (w :: ws) ∧ (w :: ws).length ≤ 4 ∧ rooms.length ≤ 1000 ∧
  ∀ (H' : Hp), Same H H' → Q (nint (firstPlace rooms (w :: ws) goal)) H'
theorem scFi : FnScope ["rooms", "wants", "goal", "need", "pays", "k", "room", "rest"] ["rooms", "wants", "goal"] (defScope sFirst) := ⟨rfl, rfl, rfl, by decide +kernel, rfl, by decide +kernel, by decide +kernel⟩
theorem find_range {p : Nat → Bool} : ∀ {n i : Nat}, i < n → p i = true → (∀ j, j < i → p j = false) → (List.range n).find? p = some i := by
  intro n i hi hp hno
  rw [List.find?_range_eq_some]
  exact ⟨hp, by simpa using hi, fun j hj => by rw [hno j hj]; rfl⟩
theorem first_cons (rooms : List Nat) (w : Nat × Nat) (ws : List (Nat × Nat)) (goal : Nat) : firstPlace rooms (w :: ws) goal = (((List.range rooms.length).find? (goodAt rooms w ws goal)).map (· + 1)).getD 0 := rfl
theorem first_hit {rooms : List Nat} {w : Nat × Nat} {ws : List (Nat × Nat)} {goal i : Nat} (hi : i < rooms.length) (hg : goodAt rooms w ws goal i = true) (hno : ∀ j, j < i → goodAt rooms w ws goal j = false) : firstPlace rooms (w :: ws) goal = i + 1 := by
  rw [first_cons]
  rw [find_range hi hg hno]
  rfl
theorem first_none {rooms : List Nat} {w : Nat × Nat} {ws : List (Nat × Nat)} {goal : Nat} (hno : ∀ j, j < rooms.length → goodAt rooms w ws goal j = false) : firstPlace rooms (w :: ws) goal = 0 := by
  rw [first_cons]
  rw [List.find?_eq_none.mpr]
  · rfl
  · intro j hj
    rw [hno j (by simpa using hj)]
    exact Bool.false_ne_true
theorem first_pos {rooms : List Nat} {w : Nat × Nat} {ws : List (Nat × Nat)} {goal : Nat} (h : 0 < firstPlace rooms (w :: ws) goal) : ∃ k, firstPlace rooms (w :: ws) goal = k + 1 ∧ k < rooms.length ∧ goodAt rooms w ws goal k = true := by
  rw [first_cons] at h ⊢
  cases e : (List.range rooms.length).find? (goodAt rooms w ws goal) with
  | none =>
    rw [e] at h
    exact absurd h (Nat.lt_irrefl _)
  | some k => exact ⟨k, rfl, by simpa using List.mem_of_find?_eq_some e, List.find?_some e⟩
theorem set_parts {rooms : List Nat} {i v : Nat} (h : i < rooms.length) : (List.map nint rooms).take i ++ [nint v] ++ (List.map nint rooms).drop (i + 1) = List.map nint (rooms.set i v) := by
  rw [List.set_eq_take_append_cons_drop, if_pos h, List.map_append, List.map_cons, List.map_take, List.map_drop, List.append_assoc]
  rfl
theorem ok_first {f fM : Addr} {fd fdM : FuncData} (F : Fun K "first_place" "first_place" sFirst f fd) (O : Own mg) (GM : FnOk P w K mg base CX0 3 fM fdM ["rooms", "wants"] spMost) (mM : mg "most_brought" = some (.ref fM)) (kM : PySem.W.keepIn K (.ref fM) = true) (bM : Binds K fdM ["rooms", "wants"] []) :
    FnOk P w K mg base CX0 4 f fd ["rooms", "wants", "goal"] spFirst := by
  refine F.ok scFi (fun vs H Q E h => ?_) (fun cdv A outer s H vs Q E hr h => ?_)
  · obtain ⟨a, b, rooms, w, ws, goal, rfl, _⟩ := h
    rfl
  · obtain ⟨a, b, rooms, w, ws, goal, rfl, ha, ⟨as, hb, hp⟩, hw, hrl, k⟩ := h
    refine ⟨_, pss_cons (ps_set (i := 3) scFi.nd rfl (Or.inl rfl) (pe_ix ix_tup (pe_ix ix_list (pv 1) pe_int (fun _ _ => rfl)) pe_int (fun _ _ => rfl)))
      (pss_cons (ps_set (i := 4) scFi.nd rfl (Or.inl rfl) (pe_ix ix_tup (pe_ix ix_list (pv 1) pe_int (fun _ _ => rfl)) pe_int (fun _ _ => rfl)))
      (pss_cons (ps_for PassesOwn.never rfl (pi_enum rfl O.enumerate (pa_cons (pv 0) pa_nil)) (pg_tup rfl (pgs_cons (pg_name (i := 5) scFi.nd rfl (Or.inl rfl) (Or.inr rfl)) (pgs_cons (pg_name (i := 6) scFi.nd rfl (Or.inl rfl) (Or.inr rfl)) pgs_nil)))
        (pss_one (ps_if (pt_cmpR op_le (pv 3) (pv 6) (nomark _))
          (pss_cons (ps_set (i := 7) scFi.nd rfl (Or.inl rfl) (pe_op op_cat (pe_op op_cat (pe_slice sl_list (pv 0) po_none (po_some (pv 5))) (pe_lst (pa_cons (pe_op op_sub (pv 6) (pv 3)) pa_nil))) (pe_slice sl_list (pv 0) (po_some (pe_op op_add (pv 5) pe_int)) po_none)))
          (pss_one (ps_if (pt_cmpR op_eq (pe_op op_add (pv 4) (pe_call GM hr rfl mM kM bM .nil pass0 (pa_cons (pv 7) (pa_cons (pe_slice sl_list (pv 1) (po_some pe_int) po_none) pa_nil)))) (pv 2) (nomark _))
            (pss_one (ps_ret (pe_op op_add (pv 5) pe_int))) pss_nil)))
          pss_nil)))
      (pss_one (ps_ret pe_int)))), ?_⟩
    obtain ⟨t, ht, hH⟩ := hp.2 0 w rfl
    have hlen : as.length = ws.length + 1 := hp.1
    refine ⟨_, rfl, b, _, _, _, rfl, rfl, SqL.of hb, at_of (j := 0) rfl (get_map ht), t, _, _, _, rfl, rfl, SqT.of hH, at_of (j := 0) rfl rfl, ?_⟩
    refine ⟨_, rfl, b, _, _, _, rfl, rfl, SqL.of hb, at_of (j := 0) rfl (get_map ht), t, _, _, _, rfl, rfl, SqT.of hH, at_of (j := 1) rfl rfl, ?_⟩
    refine ⟨_, rfl, a, _, rfl, SqL.of ha, for_enum (K := K) (a := a) (xs := List.map nint rooms) (fun i σ H' => ∃ v5 v6 v7 : Option V, σ = [some (.ref a), some (.ref b), some (nint goal), some (nint w.1), some (nint w.2), v5, v6, v7] ∧ Same H H' ∧ ∀ j, j < i → goodAt rooms w ws goal j = false)
      ⟨none, none, none, rfl, Same.refl _, fun j hj => by omega⟩ (fun i σ H' _ ⟨_, _, _, _, s1, _⟩ => SqL.of (s1 _ _ ha)) ?_ ?_⟩
    · rintro i x T σ H1 hx ⟨v5, v6, v7, rfl, s1, hno⟩ hT
      obtain ⟨room, hri, rfl⟩ := map_get hx
      have hi : i < rooms.length := (List.getElem?_eq_some_iff.mp hri).1
      have egd : rooms.getD i 0 = room := by rw [List.getD_eq_getElem?_getD, hri]; rfl
      have sT : Same H (upd H1 T (.tup [.int (i : Nat), nint room])) := s1.new (s1.free hT)
      have more : ∀ q : goodAt rooms w ws goal i = false, ∀ j, j < i + 1 → goodAt rooms w ws goal j = false := fun q j hj => by
        by_cases e : j = i
        · rw [e]; exact q
        · exact hno j (by omega)
      refine ⟨T, _, rfl, SqT.of upd_same, rfl, _, _, rfl, _, _, rfl, rfl, ?_⟩
      refine ⟨_, rfl, _, rfl, _, _, rfl, rfl, _, rfl, ?_⟩
      by_cases e1 : w.1 ≤ room
      · rw [decide_eq_true (show ((w.1 : Nat) : Int) ≤ (room : Int) by omega)]
        refine iteT ?_
        generalize upd H1 T (.tup [.int (i : Nat), nint room]) = H2 at sT
        refine ⟨_, rfl, _, rfl, _, rfl, a, _, rfl, SqL.of (sT _ _ ha), fun p1 hp1 => ?_⟩
        rw [cut_to]
        have s1' := sT.new (o := .lst ((List.map nint rooms).take i)) (sT.free hp1)
        refine ⟨_, rfl, _, rfl, _, _, rfl, rfl, (by show 1 ≤ sizeLine; decide), fun p2 hp2 => ?_⟩
        have s2' := s1'.new (o := .lst [V.int ((room : Int) - (w.1 : Int))]) (s1'.free hp2)
        have f1 := Same.fresh (o := .lst [V.int ((room : Int) - (w.1 : Int))]) hp2 p1 _ upd_same
        refine ⟨p1, p2, _, _, rfl, rfl, f1, upd_same, ?_, fun p3 hp3 => ?_⟩
        · rw [List.length_take, List.length_map]
          exact line_small (by show min i rooms.length + 1 ≤ 1000; omega)
        have s3' := s2'.new (o := .lst ((List.map nint rooms).take i ++ [V.int ((room : Int) - (w.1 : Int))])) (s2'.free hp3)
        refine ⟨_, rfl, _, rfl, _, _, rfl, rfl, _, rfl, a, _, rfl, SqL.of (s3' _ _ ha), fun p4 hp4 => ?_⟩
        rw [show ((i : Int) + 1) = ((i + 1 : Nat) : Int) by omega, cut_from]
        have s4' := s3'.new (o := .lst ((List.map nint rooms).drop (i + 1))) (s3'.free hp4)
        have f3 := Same.fresh (o := .lst ((List.map nint rooms).drop (i + 1))) hp4 p3 _ upd_same
        refine ⟨p3, p4, _, _, rfl, rfl, f3, upd_same, ?_, fun p5 hp5 => ?_⟩
        · rw [List.length_append, List.length_take, List.length_drop, List.length_map]
          exact line_small (by show min i rooms.length + 1 + (rooms.length - (i + 1)) ≤ 1000; omega)
        dsimp only
        rw [esub e1, set_parts hi]
        have s5' := s4'.new (o := .lst (List.map nint (rooms.set i (room - w.1)))) (s4'.free hp5)
        rw [esub e1] at s5'
        refine ⟨_, rfl, _, rfl, _, rfl, _, rfl, b, _, rfl, SqL.of (s5' _ _ hb), fun p6 hp6 => ?_⟩
        rw [show (1 : Int) = ((1 : Nat) : Int) from rfl, cut_from]
        have f5 := Same.fresh (o := .lst ((as.map V.ref).drop 1)) hp6 p5 _ upd_same
        have s6' := s5'.new (o := .lst ((as.map V.ref).drop 1)) (s5'.free hp6)
        refine ⟨p5, p6, rooms.set i (room - w.1), ws, rfl, f5, ⟨as.drop 1, by rw [upd_same, List.map_drop], (hp.same s6').drop 1⟩, by simp at hw; omega, fun H7 s7 => ?_⟩
        refine ⟨_, _, rfl, rfl, _, rfl, rfl, _, rfl, ?_⟩
        by_cases e2 : w.2 + mostBrought (rooms.set i (room - w.1)) ws = goal
        · rw [decide_eq_true (show V.int (((w.2 : Nat) : Int) + ((mostBrought (rooms.set i (room - w.1)) ws : Nat) : Int)) = nint goal by show V.int _ = V.int _; congr 1; omega)]
          refine iteT ?_
          have g : goodAt rooms w ws goal i = true := goodAt_iff.mpr ⟨by rw [egd]; exact e1, by rw [egd]; exact e2⟩
          have z := k H7 (s6'.trans s7)
          rw [first_hit hi g hno] at z
          refine ⟨_, rfl, _, _, rfl, rfl, ?_⟩
          exact z
        · rw [decide_eq_false (show ¬ V.int (((w.2 : Nat) : Int) + ((mostBrought (rooms.set i (room - w.1)) ws : Nat) : Int)) = nint goal by intro z; injection z with z; exact e2 (by omega))]
          refine iteF ⟨_, _, _, rfl, s6'.trans s7, more ?_⟩
          cases q : goodAt rooms w ws goal i with
          | false => rfl
          | true =>
            obtain ⟨_, z⟩ := goodAt_iff.mp q
            rw [egd] at z
            exact absurd z e2
      · rw [decide_eq_false (show ¬ ((w.1 : Nat) : Int) ≤ (room : Int) by omega)]
        refine iteF ⟨_, _, _, rfl, sT, more ?_⟩
        cases q : goodAt rooms w ws goal i with
        | false => rfl
        | true =>
          obtain ⟨z, _⟩ := goodAt_iff.mp q
          rw [egd] at z
          exact absurd z e1
    · rintro σ H1 ⟨v5, v6, v7, rfl, s1, hno⟩
      have z := k H1 s1
      rw [first_none (fun j hj => hno j (by rw [List.length_map]; exact hj))] at z
      exact z
/-! ### best_plan -/
def spBest : Sp := fun vs H Q _ => ∃ (a b : Addr) (rooms : List Nat) (ws : List (Nat × Nat)), vs = [.ref a, .ref b] ∧ H a = some (.lst (List.map nint rooms)) ∧ PairsAt H b ws ∧ ws.length ≤ 4 ∧ rooms.length ≤ 1000 ∧
  ∀ (H' : Hp) (p : Addr), Same H H' → H p = none → H' p = some (.lst (List.map nint (bestPlan rooms ws))) → Q (.ref p) H'
theorem scB : FnScope ["rooms", "wants", "places", "rest", "goal", "k", "want", "place"] ["rooms", "wants"] (defScope sBest) := ⟨rfl, rfl, rfl, by decide +kernel, rfl, by decide +kernel, by decide +kernel⟩
theorem ixN_nat {n j : Nat} (h : j < n) : ixN n (j : Int) = some j := by
  unfold ixN
  rw [if_pos (by omega), if_pos (by omega), Int.toNat_natCast]
theorem ok_best {f fM fFi : Addr} {fd fdM fdFi : FuncData} (F : Fun K "best_plan" "best_plan" sBest f fd) (O : Own mg) (GM : FnOk P w K mg base CX0 3 fM fdM ["rooms", "wants"] spMost) (mM : mg "most_brought" = some (.ref fM)) (kM : PySem.W.keepIn K (.ref fM) = true) (bM : Binds K fdM ["rooms", "wants"] [])
    (GF : FnOk P w K mg base CX0 4 fFi fdFi ["rooms", "wants", "goal"] spFirst) (mF : mg "first_place" = some (.ref fFi)) (kF : PySem.W.keepIn K (.ref fFi) = true) (bF : Binds K fdFi ["rooms", "wants", "goal"] []) :
    FnOk P w K mg base CX0 5 f fd ["rooms", "wants"] spBest := by
  refine F.ok scB (fun vs H Q E h => ?_) (fun cdv A outer s H vs Q E hr h => ?_)
  · obtain ⟨a, b, rooms, ws, rfl, _⟩ := h
    rfl
  · obtain ⟨a, b, rooms, ws, rfl, ha, ⟨as, hb, hp⟩, hw, hrl, k⟩ := h
    have hr3 : Room 3 _ := hr.mono (by decide)
    refine ⟨_, pss_cons (ps_set (i := 2) scB.nd rfl (Or.inl rfl) (pe_lst pa_nil))
      (pss_cons (ps_set (i := 3) scB.nd rfl (Or.inl rfl) (pe_callTy call_list_of rfl O.list PyProof.Rows.boot_list (pa_cons (pv 0) pa_nil)))
      (pss_cons (ps_set (i := 4) scB.nd rfl (Or.inl rfl) (pe_call GM hr3 rfl mM kM bM .nil pass0 (pa_cons (pv 3) (pa_cons (pv 1) pa_nil))))
      (pss_cons (ps_for PassesOwn.never rfl (pi_enum rfl O.enumerate (pa_cons (pv 1) pa_nil)) (pg_tup rfl (pgs_cons (pg_name (i := 5) scB.nd rfl (Or.inl rfl) (Or.inr rfl)) (pgs_cons (pg_name (i := 6) scB.nd rfl (Or.inl rfl) (Or.inr rfl)) pgs_nil)))
        (pss_cons (ps_set (i := 7) scB.nd rfl (Or.inl rfl) (pe_call GF hr rfl mF kF bF .nil pass0 (pa_cons (pv 3) (pa_cons (pe_slice sl_list (pv 1) (po_some (pv 5)) po_none) (pa_cons (pv 4) pa_nil)))))
        (pss_cons (ps_if (pt_cmpR op_gt (pv 7) pe_int (nomark _))
          (pss_cons (ps_asg (pe_op op_sub (pe_ix ix_list (pv 3) (pe_op op_sub (pv 7) pe_int) (fun _ _ => rfl)) (pe_ix ix_tup (pv 6) pe_int (fun _ _ => rfl))) (pg_sub (pv 3) (pe_op op_sub (pv 7) pe_int) set_list))
          (pss_one (ps_set (i := 4) scB.nd rfl (Or.inl rfl) (pe_op op_sub (pv 4) (pe_ix ix_tup (pv 6) pe_int (fun _ _ => rfl))))))
          pss_nil)
        (pss_one (ps_expr (pe_bm PySem.F.plainAttrs_list PySem.F.slot_list_append PySem.F.type_list_append mt_append (pv 2) (pa_cons (pv 7) pa_nil)))))))
      (pss_one (ps_ret (pv 2)))))), ?_⟩
    refine ⟨Nat.zero_le _, fun q hq => ?_⟩
    have sq : Same H (upd H q (.lst [])) := Same.fresh hq
    refine ⟨_, rfl, a, _, rfl, .inl (SqL.of (sq _ _ ha)), fun r hr' => ?_⟩
    have sr := sq.new (o := .lst (List.map nint rooms)) (sq.free hr')
    have nqr : q ≠ r := ne_of_none upd_same hr'
    refine ⟨_, rfl, _, rfl, r, b, rooms, ws, rfl, upd_same, ⟨as, sr _ _ hb, hp.same sr⟩, hw, fun H1 s1 => ?_⟩
    have sH1 := sr.trans s1
    have hq1 : H1 q = some (.lst []) := s1 _ _ (by rw [upd_ne nqr]; exact upd_same)
    have hr1 : H1 r = some (.lst (List.map nint rooms)) := s1 _ _ upd_same
    refine ⟨_, rfl, b, _, rfl, SqL.of (sH1 _ _ hb), for_enum (K := K) (a := b) (xs := as.map V.ref) (fun i σ H' => ∃ (restL doneL : List Nat) (goalN : Nat) (v5 v6 v7 : Option V), σ = [some (.ref a), some (.ref b), some (.ref q), some (.ref r), some (nint goalN), v5, v6, v7] ∧ Same H H' ∧
        H' q = some (.lst (List.map nint doneL)) ∧ H' r = some (.lst (List.map nint restL)) ∧ doneL ++ planGo restL (ws.drop i) goalN = bestPlan rooms ws ∧ doneL.length = i ∧ restL.length ≤ 1000)
      ⟨rooms, [], _, none, none, none, rfl, sH1, hq1, hr1, rfl, rfl, hrl⟩ (fun i σ H' _ ⟨_, _, _, _, _, _, _, s2, _⟩ => SqL.of (s2 _ _ hb)) ?_ ?_⟩
    · rintro i x T σ H2 hx ⟨restL, doneL, goalN, v5, v6, v7, rfl, s2, hq2, hr2, hplan, hdl, hrl2⟩ hT
      obtain ⟨t, ht, rfl⟩ := map_get hx
      have hi : i < ws.length := by rw [← hp.1]; exact (List.getElem?_eq_some_iff.mp ht).1
      obtain ⟨t', h1, hH⟩ := hp.2 i ws[i] (List.getElem?_eq_getElem hi)
      rw [ht] at h1
      cases h1
      have edrop : ws.drop i = ws[i] :: ws.drop (i + 1) := List.drop_eq_getElem_cons hi
      generalize hwi : ws[i] = wi at *
      have sT : Same H2 (upd H2 T (.tup [.int (i : Nat), .ref t])) := Same.fresh hT
      refine ⟨T, _, rfl, SqT.of upd_same, rfl, _, _, rfl, _, _, rfl, rfl, ?_⟩
      generalize upd H2 T (.tup [.int (i : Nat), .ref t]) = H3 at sT
      refine ⟨_, rfl, _, rfl, _, rfl, _, rfl, b, _, rfl, SqL.of (sT _ _ (s2 _ _ hb)), fun p1 hp1 => ?_⟩
      rw [cut_from]
      have s4 := sT.new (o := .lst ((as.map V.ref).drop i)) (sT.free hp1)
      refine ⟨_, rfl, r, p1, restL, wi, ws.drop (i + 1), goalN, rfl, s4 _ _ hr2, ⟨as.drop i, by rw [upd_same, List.map_drop], ?_⟩, ?_, hrl2, fun H5 s5 => ?_⟩
      · rw [← edrop]
        exact (hp.same (s2.trans s4)).drop i
      · rw [← edrop, List.length_drop]
        omega
      have s25 := s4.trans s5
      have hq5 := s25 _ _ hq2
      have hr5 := s25 _ _ hr2
      have ht5 := s25 _ _ (s2 _ _ hH)
      have sH5 := s2.trans s25
      have hqn : H q = none := hq
      have hrn : H r = none := sq.free hr'
      rw [edrop, planGo] at hplan
      have hsz : (List.map nint doneL).length < sizeLine := by rw [List.length_map]; exact small1000 (by omega)
      refine ⟨_, rfl, _, _, rfl, rfl, _, rfl, ?_⟩
      by_cases e1 : 0 < firstPlace restL (wi :: ws.drop (i + 1)) goalN
      · rw [if_pos e1] at hplan
        rw [decide_eq_true (show (0 : Int) < ((firstPlace restL (wi :: ws.drop (i + 1)) goalN : Nat) : Int) by omega)]
        obtain ⟨m, em, hm, hg⟩ := first_pos e1
        obtain ⟨g1, g2⟩ := goodAt_iff.mp hg
        rw [em] at hplan ⊢
        have hmi : restL[m]? = some (restL.getD m 0) := by rw [List.getD_eq_getElem?_getD, List.getElem?_eq_getElem hm]; rfl
        have em1 : (((m + 1 : Nat) : Int) - 1) = (m : Int) := by omega
        refine iteT ?_
        refine ⟨_, rfl, _, rfl, _, _, rfl, rfl, r, _, _, _, rfl, rfl, SqL.of hr5, at_of (j := m) em1 (get_map hmi), _, rfl, t, _, _, _, rfl, rfl, SqT.of ht5, at_of (j := 0) rfl rfl, _, _, rfl, rfl, _, rfl, _, rfl, _, _, rfl, rfl, r, _, _, m, rfl, rfl, hr5, by rw [em1, List.length_map]; exact ixN_nat hm, ?_⟩
        have eset : (List.map nint restL).set m (V.int (((restL.getD m 0 : Nat) : Int) - ((wi.1 : Nat) : Int))) = List.map nint (restL.set m (restL.getD m 0 - wi.1)) := by
          rw [List.map_set]
          congr 1
          show V.int _ = V.int _
          congr 1
          omega
        rw [eset]
        have nrt : t ≠ r := ne_of ht5 hr5 (by intro z; cases z)
        refine ⟨_, rfl, _, rfl, t, _, _, _, rfl, rfl, SqT.of (by rw [upd_ne nrt]; exact ht5), at_of (j := 1) rfl rfl, _, _, rfl, rfl, ?_⟩
        refine ⟨_, rfl, .inl ⟨rfl, _, SqL.of (by rw [upd_ne nqr]; exact hq5)⟩, _, rfl, q, _, _, rfl, rfl, by rw [upd_ne nqr]; exact hq5, hsz, ?_⟩
        refine ⟨restL.set m (restL.getD m 0 - wi.1), doneL ++ [m + 1], goalN - wi.2, some (nint i), some (.ref t), some (nint (m + 1)), (by rw [← esub (show wi.2 ≤ goalN by omega)]; rfl), ((sH5.new hrn).new hqn), ?_, ?_, ?_, ?_, ?_⟩
        · rw [upd_same, List.map_append]
          rfl
        · rw [upd_ne (Ne.symm nqr), upd_same]
        · rw [List.append_assoc]
          exact hplan
        · rw [List.length_append, hdl]
          rfl
        · rw [List.length_set]
          exact hrl2
      · rw [if_neg e1] at hplan
        rw [decide_eq_false (show ¬ (0 : Int) < ((firstPlace restL (wi :: ws.drop (i + 1)) goalN : Nat) : Int) by omega)]
        refine iteF ?_
        refine ⟨_, rfl, .inl ⟨rfl, _, SqL.of hq5⟩, _, rfl, q, _, _, rfl, rfl, hq5, hsz, ?_⟩
        refine ⟨restL, doneL ++ [firstPlace restL (wi :: ws.drop (i + 1)) goalN], goalN, _, _, _, rfl, sH5.new hqn, ?_, ?_, ?_, ?_, hrl2⟩
        · rw [upd_same, List.map_append]
          rfl
        · rw [upd_ne (Ne.symm nqr)]
          exact hr5
        · rw [List.append_assoc]
          exact hplan
        · rw [List.length_append, hdl]
          rfl
    · rintro σ H2 ⟨restL, doneL, goalN, v5, v6, v7, rfl, s2, hq2, hr2, hplan, hdl, hrl2⟩
      refine ⟨_, rfl, ?_⟩
      rw [List.length_map, hp.1, List.drop_length, planGo, List.append_nil] at hplan
      rw [hplan] at hq2
      exact k H2 q s2 hq hq2
/-! ### wants_of -/
def spWants : Sp := fun vs H Q _ => ∃ (b : Addr) (kerf : Nat) (os : List (Nat × Nat)), vs = [.ref b, nint kerf] ∧ PairsAt H b os ∧ os.length ≤ 4 ∧
  ∀ (H' : Hp) (p : Addr), Same H H' → H p = none → PairsAt H' p (os.map fun o => (o.1 + kerf, o.2)) → Q (.ref p) H'
theorem scW : FnScope ["orders", "kerf", "metres", "pays"] ["orders", "kerf"] (defScope sWants) := ⟨rfl, rfl, rfl, by decide +kernel, rfl, by decide +kernel, by decide +kernel⟩
theorem PairsIn.snoc {H H' : Hp} {as : List Addr} {ws : List (Nat × Nat)} {a : Addr} {w : Nat × Nat} (h : PairsIn H as ws) (s : Same H H') (ha : H' a = some (.tup [nint w.1, nint w.2])) : PairsIn H' (as ++ [a]) (ws ++ [w]) := by
  refine ⟨by rw [List.length_append, List.length_append, h.1]; rfl, fun i v e => ?_⟩
  by_cases hi : i < ws.length
  · rw [List.getElem?_append_left hi] at e
    rw [List.getElem?_append_left (by rw [h.1]; exact hi)]
    exact (h.same s).2 i v e
  · rw [List.getElem?_append_right (by omega)] at e
    rw [List.getElem?_append_right (by rw [h.1]; omega), h.1]
    have hz : i - ws.length = 0 := by
      have := (List.getElem?_eq_some_iff.mp e).1
      simp at this
      omega
    rw [hz] at e ⊢
    cases e
    exact ⟨a, rfl, ha⟩
theorem ok_wants {f : Addr} {fd : FuncData} (F : Fun K "wants_of" "wants_of" sWants f fd) : FnOk P w K mg base CX0 1 f fd ["orders", "kerf"] spWants := by
  refine F.ok scW (fun vs H Q E h => ?_) (fun cdv A outer s H vs Q E hr h => ?_)
  · obtain ⟨b, kerf, os, rfl, _⟩ := h
    rfl
  · obtain ⟨b, kerf, os, rfl, ⟨as, hb, hp⟩, hw, k⟩ := h
    refine ⟨_, pss_one (ps_ret (pe_lc (g := gTup K 2 (gCons (gName 2) (gCons (gName 3) gNil))) (own := [("metres", 2), ("pays", 3)]) rfl scW.nd (pi_list (pv 0)) (blkOk_by (by change blkC ["orders", "kerf", "metres", "pays"] (defScope sWants) _ _ = true; decide +kernel)) (fun _ _ _ _ _ => pg_tup (n := 2) rfl (pgs_cons (pg_name (i := 2) scW.nd rfl (Or.inl rfl) (Or.inr rfl)) (pgs_cons (pg_name (i := 3) scW.nd rfl (Or.inl rfl) (Or.inr rfl)) pgs_nil))) (fun _ _ _ _ _ => pts_nil)
      (fun _ _ _ _ _ => pe_tup (pa_cons (pe_op op_add (pv 2) (pv 1)) (pa_cons (pv 3) pa_nil))))), ?_⟩
    refine ⟨_, rfl, b, rfl, ⟨_, SqL.of hb⟩, fun D hD => lc_list (K := K) (xs := as.map V.ref) (fun i H' => Same H H' ∧ ∃ ts, H' D = some (.lst (ts.map V.ref)) ∧ PairsIn H' ts ((os.take i).map fun o => (o.1 + kerf, o.2)))
      ⟨Same.fresh hD, [], upd_same, rfl, fun i w e => by simp at e⟩ (fun i H' _ h => SqL.of (h.1 _ _ hb)) (fun i x H1 hx h => ?_) (fun H1 h => ?_)⟩
    · obtain ⟨s1, ts, hd1, hts⟩ := h
      obtain ⟨t, ht, rfl⟩ := map_get hx
      have hi : i < os.length := by rw [← hp.1]; exact (List.getElem?_eq_some_iff.mp ht).1
      obtain ⟨t', h1, hH⟩ := hp.2 i os[i] (List.getElem?_eq_getElem hi)
      rw [ht] at h1
      cases h1
      refine ⟨t, _, rfl, SqT.of (s1 _ _ hH), rfl, _, _, rfl, _, _, rfl, rfl, rfl, ?_⟩
      refine ⟨_, rfl, _, rfl, _, _, rfl, rfl, _, rfl, (by show 2 ≤ sizeLine; decide), fun p hp1 => ?_⟩
      have s2 : Same H1 (upd H1 p (.tup [V.int (((os[i].1 : Nat) : Int) + (kerf : Int)), nint os[i].2])) := Same.fresh hp1
      have nD : D ≠ p := ne_of_none hd1 hp1
      refine ⟨_, s2 _ _ hd1, ?_, (s1.trans s2).new hD, ts ++ [p], ?_, ?_⟩
      · rw [List.length_map, hts.1, List.length_map, List.length_take]
        exact small1000 (by omega)
      · rw [upd_same, List.map_append]
        rfl
      · rw [take_snoc (List.getElem?_eq_getElem hi), List.map_append]
        have z := hts.snoc (w := (os[i].1 + kerf, os[i].2)) s2 (a := p) upd_same
        refine ⟨z.1, fun j v e => ?_⟩
        obtain ⟨c, hc, hHc⟩ := z.2 j v e
        refine ⟨c, hc, ?_⟩
        rw [upd_ne (ne_of hHc (s2 _ _ hd1) (by intro z; cases z))]
        exact hHc
    · obtain ⟨s1, ts, hd1, hts⟩ := h
      rw [List.length_map, hp.1, List.take_length] at hts
      exact k H1 D s1 hD ⟨ts, hd1, hts⟩
end
end Cut

set_option Elab.async false
set_option linter.all false
set_option maxRecDepth 100000
set_option maxHeartbeats 2000000
namespace Cut
open PySem PySem.Spec PyProof.Rows L2
abbrev sAns : Stmt := top 59
/-! ### the object's face: what stands at its address for a state, and what belongs to it -/
structure Face where
  R : Hp → Addr → Kp242.State → Prop
  Ow : Hp → Addr → Addr → Prop
/-- what does not belong to it stays, and does not belong to it -/
def Keep (Z : Face) (H H' : Hp) (wa : Addr) : Prop := ∀ b o, H b = some o → ¬ Z.Ow H wa b → H' b = some o ∧ ¬ Z.Ow H' wa b
def spInitW (Z : Face) (C : Addr) : Sp := fun vs H Q _ => ∃ (p dx : Addr), vs = [.ref p] ∧ H p = some (.ins C dx []) ∧ ∀ H' : Hp, Z.R H' p none → (∀ b o, H b = some o → b ≠ p → H' b = some o ∧ (b ≠ dx → ¬ Z.Ow H' p b)) → Q .non H'
def spAnswer (Z : Face) : Sp := fun vs H Q _ => ∃ (wa : Addr) (st : Kp242.State) (c : Kp242.Call) (nl : Addr), vs = [.ref wa, nint (enc c).1, .ref nl] ∧ Z.R H wa st ∧ H nl = some (.lst ((enc c).2.map nint)) ∧ ¬ Z.Ow H wa nl ∧ (∀ n ∈ (enc c).2, n < 4294967296) ∧
  ∀ (H' : Hp) (p : Addr), Z.R H' wa (Kp242.step st c).1 → H' p = some (.lst ((ansOf (Kp242.step st c).2).map V.int)) → H p = none → ¬ Z.Ow H' wa p → Keep Z H H' wa → Q (.ref p) H'
def spAnswers (K : PySem.W.Frag) : Sp := fun vs H Q _ => ∃ (a : Addr) (l : List Int), vs = [.ref a] ∧ SqL K H a (l.map V.int) ∧ l.length ≤ 1000 ∧ PyKp242.answers_asked l = true ∧ ∀ (H' : Hp) (p : Addr), H' p = some (.lst ((PyKp242.answers l).map V.int)) → Q (.ref p) H'
/-- the list that was handed in -/
def ArgOk (Z : Face) (K : PySem.W.Frag) (H : Hp) (wa q a : Addr) (xs : List V) : Prop := (Rd H a (.lst xs) ∧ ¬ Z.Ow H wa a ∧ a ≠ q) ∨ ∀ H', SqL K H' a xs
theorem ArgOk.sq {Z : Face} {K : PySem.W.Frag} {H : Hp} {wa q a : Addr} {xs : List V} (h : ArgOk Z K H wa q a xs) : SqL K H a xs := by
  rcases h with h | h
  · exact .inl h.1
  · exact h H
theorem ArgOk.keep {Z : Face} {K : PySem.W.Frag} {H H' : Hp} {wa q a : Addr} {xs : List V} (h : ArgOk Z K H wa q a xs) (k : Keep Z H H' wa) : ArgOk Z K H' wa q a xs := by
  rcases h with ⟨h | ⟨o, h⟩, n, naq⟩ | h
  · obtain ⟨h1, h2⟩ := k _ _ h n
    exact .inl ⟨.inl h1, h2, naq⟩
  · obtain ⟨h1, h2⟩ := k _ _ h n
    exact .inl ⟨.inr ⟨o, h1⟩, h2, naq⟩
  · exact .inr h
/-- the object's face holds still when something else is new or changes -/
structure Face.Ok (Z : Face) : Prop where
  upd : ∀ (H : Hp) (wa b : Addr) (st : Kp242.State) (o : HO), Z.R H wa st → ¬ Z.Ow H wa b → Z.R (upd H b o) wa st ∧ ∀ c, Z.Ow (L2.upd H b o) wa c → Z.Ow H wa c
  tracked : ∀ (H : Hp) (wa b : Addr) (st : Kp242.State), Z.R H wa st → Z.Ow H wa b → ∃ o, H b = some o
theorem scA : FnScope ["calls", "works", "told", "at", "behind", "numbers"] ["calls"] (defScope sAns) := ⟨rfl, rfl, rfl, by decide +kernel, rfl, by decide +kernel, by decide +kernel⟩
section
variable {P : Program} {w : World} {K : PySem.W.Frag} {mg : Str → Option Value} {base : Heap}
def left3 (n : Nat) (σ : L2.St) : Nat := match σ[3]? with
  | some (some (V.int z)) => n - z.toNat
  | _ => 0
theorem flat_at {pre post : List Kp242.Call} {c : Kp242.Call} : ((flat (pre ++ c :: post)).map V.int)[(flat pre).length]? = some (nint (enc c).1) := by
  rw [flat_append, List.map_append, List.getElem?_append_right (by rw [List.length_map]; exact Nat.le_refl _), List.length_map, Nat.sub_self, show c :: post = [c] ++ post from rfl, flat_append, flat_one]
  rfl
theorem flat_args {pre post : List Kp242.Call} {c : Kp242.Call} : (((flat (pre ++ c :: post)).map V.int).drop ((flat pre).length + 1)).take (enc c).2.length = (enc c).2.map nint := by
  have e : (flat (pre ++ c :: post)).map V.int = ((flat pre).map V.int ++ [nint (enc c).1]) ++ ((enc c).2.map nint ++ (flat post).map V.int) := by
    rw [flat_append, show c :: post = [c] ++ post from rfl, flat_append, flat_one, List.map_append, List.map_append, List.map_cons]
    unfold intsOf
    rw [List.map_map]
    simp [Function.comp_def]
  have hl : ((flat pre).map V.int ++ [nint (enc c).1]).length = (flat pre).length + 1 := by simp
  rw [e, ← hl, List.drop_left]
  have h2 : ((enc c).2.map nint).length = (enc c).2.length := List.length_map _
  rw [← h2, List.take_left]
theorem run_le {pre post : List Kp242.Call} {st : Kp242.State} : (run st pre).length ≤ (run st (pre ++ post)).length := by
  rw [run_append, List.length_append]
  omega
theorem ok_answers {Z : Face} {f C fI fA hA : Addr} {fd fdI fdA : FuncData} (ZK : Z.Ok) (F : Fun K "answers" "answers" sAns f fd) (O : Own mg) (M : Mk K C fI) (mC : mg "Works" = some (.ref C)) (GI : FnOk P w K mg base CX0 1 fI fdI ["self"] (spInitW Z C)) (bI : Binds K fdI ["self"] [])
    {kA : Nat} (hkA : 2 ≤ kA) (GA : FnOk P w K mg base CX0 kA fA fdA ["works", "call", "numbers"] (spAnswer Z)) (mA : mg "answer" = some (.ref fA)) (kpA : PySem.W.keepIn K (.ref fA) = true) (bA : Binds K fdA ["works", "call", "numbers"] [])
    (mH : mg "HOW_MANY_NUMBERS" = some (.ref hA)) (hH : ∀ H : Hp, SqT K H hA (hm.map nint)) : FnOk P w K mg base CX0 (kA + 1) f fd ["calls"] (spAnswers K) := by
  refine F.ok scA (fun vs H Q E h => ?_) (fun cdv A outer s H vs Q E hr h => ?_)
  · obtain ⟨a, l, rfl, _⟩ := h
    rfl
  · obtain ⟨a, l, rfl, ha, hl1000, hask, k⟩ := h
    obtain ⟨cs, rfl, hcs, eans, hsmall⟩ := asked_run hask
    have hr2 : Room 2 _ := hr.mono hkA
    refine ⟨_, pss_cons (ps_set (i := 1) scA.nd rfl (Or.inl rfl) (pe_make0 M GI hr2 rfl mC bI .nil pass0))
      (pss_cons (ps_set (i := 2) scA.nd rfl (Or.inl rfl) (pe_lst pa_nil))
      (pss_cons (ps_set (i := 3) scA.nd rfl (Or.inl rfl) pe_int)
      (pss_cons (ps_while PassesOwn.never (pt_cmpR op_lt (pv 3) (pe_callB call_len_seq rfl O.len PySem.boot_len (pa_cons (pv 0) pa_nil)) (nomark _))
        (pss_cons (ps_set (i := 4) scA.nd rfl (Or.inl rfl) (pe_op op_add (pe_op op_add (pv 3) pe_int) (pe_ix ix_tup (pe_glob rfl mH (show RelV (.ref hA) (.ref hA) from rfl)) (pe_ix ix_list (pv 0) (pv 3) (fun _ _ => rfl)) (fun _ _ => rfl))))
        (pss_cons (ps_set (i := 5) scA.nd rfl (Or.inl rfl) (pe_call GA hr rfl mA kpA bA .nil pass0 (pa_cons (pv 1) (pa_cons (pe_ix ix_list (pv 0) (pv 3) (fun _ _ => rfl)) (pa_cons (pe_slice sl_list (pv 0) (po_some (pe_op op_add (pv 3) pe_int)) (po_some (pv 4))) pa_nil)))))
        (pss_cons (ps_expr (pe_bm PySem.F.plainAttrs_list PySem.F.slot_list_append PySem.F.type_list_append mt_append (pv 2) (pa_cons (pe_callB call_len_seq rfl O.len PySem.boot_len (pa_cons (pv 5) pa_nil)) pa_nil)))
        (pss_cons (ps_expr (pe_bm PySem.F.plainAttrs_list PySem.F.slot_list_extend PySem.F.type_list_extend mt_extend (pv 2) (pa_cons (pv 5) pa_nil)))
        (pss_one (ps_set (i := 3) scA.nd rfl (Or.inl rfl) (pv 4))))))))
      (pss_one (ps_ret (pv 2)))))), ?_⟩
    intro wa d0 n0 m0 e0
    refine ⟨wa, d0, rfl, upd_same, fun H1 r1 k1 => ⟨rfl, Nat.zero_le _, fun q hq => ?_⟩⟩
    have s1 : Same H H1 := fun b o e => (k1 b o (by rw [upd_ne (ne_of_none e n0), upd_ne (ne_of_none e m0)]; exact e) (ne_of_none e n0)).1
    have nO1 : ∀ b o, H b = some o → ¬ Z.Ow H1 wa b := fun b o e => (k1 b o (by rw [upd_ne (ne_of_none e n0), upd_ne (ne_of_none e m0)]; exact e) (ne_of_none e n0)).2 (ne_of_none e m0)
    have nq : ¬ Z.Ow H1 wa q := fun z => by
      obtain ⟨o, e⟩ := ZK.tracked _ _ _ _ r1 z
      rw [hq] at e
      cases e
    obtain ⟨r2, o2⟩ := ZK.upd H1 wa q none (.lst []) r1 nq
    have arg : ArgOk Z K (upd H1 q (.lst [])) wa q a ((flat cs).map V.int) := by
      rcases ha with (ha | ⟨o, ha⟩) | ha
      · exact .inl ⟨.inl ((s1.new (s1.free hq)) _ _ ha), fun z => nO1 _ _ ha (o2 _ z), ne_of_none (s1 _ _ ha) hq⟩
      · exact .inl ⟨.inr ⟨o, (s1.new (s1.free hq)) _ _ ha⟩, fun z => nO1 _ _ ha (o2 _ z), ne_of_none (s1 _ _ ha) hq⟩
      · exact .inr fun H' => .inr ha
    refine while_by (fun σ H' => ∃ (pre post : List Kp242.Call) (v4 v5 : Option V), cs = pre ++ post ∧ σ = [some (.ref a), some (.ref wa), some (.ref q), some (nint (flat pre).length), v4, v5] ∧ Z.R H' wa (stAfter none pre) ∧ ArgOk Z K H' wa q a ((flat cs).map V.int) ∧
        H' q = some (.lst ((run none pre).map V.int)) ∧ ¬ Z.Ow H' wa q) (fun σ _ => left3 (flat cs).length σ) ⟨[], cs, none, none, rfl, rfl, r2, arg, upd_same, fun z => nq (o2 _ z)⟩ ?_ ?_
    · rintro σ H2 ⟨pre, post, v4, v5, ecs, rfl, rst, ag, hq2, nq2⟩
      refine ⟨_, rfl, _, rfl, a, _, rfl, .inl ag.sq, _, _, rfl, rfl, _, rfl, ?_⟩
      cases post with
      | nil =>
        rw [List.append_nil] at ecs
        subst ecs
        refine iteN (decide_eq_false (show ¬ (((flat cs).length : Nat) : Int) < ((((flat cs).map V.int).length : Nat) : Int) by rw [List.length_map]; omega)) ?_
        refine ⟨_, rfl, ?_⟩
        rw [← eans] at hq2
        exact k H2 q hq2
      | cons c post =>
        have hc := hcs c (by rw [ecs]; simp)
        subst ecs
        have flen : (flat (pre ++ c :: post)).length = (flat pre).length + 1 + (enc c).2.length + (flat post).length := by
          rw [flat_append, show c :: post = [c] ++ post from rfl, flat_append, flat_one]
          simp [intsOf]
          omega
        refine iteP (decide_eq_true (show (((flat pre).length : Nat) : Int) < ((((flat (pre ++ c :: post)).map V.int).length : Nat) : Int) by rw [List.length_map, flen]; omega)) ?_
        -- behind
        refine ⟨_, rfl, _, _, rfl, rfl, _, rfl, _, rfl, a, _, _, _, rfl, rfl, ag.sq, atI_nat flat_at, hA, _, _, _, rfl, rfl, hH _, atI_nat (get_map (enc_hm c)), _, _, rfl, rfl, ?_⟩
        -- numbers
        refine ⟨_, rfl, _, rfl, _, rfl, a, _, _, _, rfl, rfl, ag.sq, atI_nat flat_at, _, rfl, _, rfl, _, _, rfl, rfl, _, rfl, _, rfl, _, rfl, a, _, rfl, ag.sq, fun nl hnl => ?_⟩
        rw [show (((flat pre).length : Nat) : Int) + 1 = (((flat pre).length + 1 : Nat) : Int) by omega, show ((((flat pre).length + 1 : Nat) : Int) + (((enc c).2.length : Nat) : Int)) = (((flat pre).length + 1 + (enc c).2.length : Nat) : Int) by omega, cut_mid, Nat.add_sub_cancel_left, flat_args]
        have nnl : ¬ Z.Ow H2 wa nl := fun z => by
          obtain ⟨o, e⟩ := ZK.tracked _ _ _ _ rst z
          rw [hnl] at e
          cases e
        obtain ⟨r3, o3⟩ := ZK.upd H2 wa nl _ (.lst ((enc c).2.map nint)) rst nnl
        have hq3 : upd H2 nl (.lst ((enc c).2.map nint)) q = some (.lst ((run none pre).map V.int)) := by rw [upd_ne (ne_of_none hq2 hnl)]; exact hq2
        refine ⟨wa, _, c, nl, rfl, r3, upd_same, fun z => nnl (o3 _ z), hc, fun H4 p r4 hp4 hpn npO kp => ?_⟩
        have kp2 : Keep Z H2 H4 wa := fun b o e n => kp b o (by rw [upd_ne (ne_of_none e hnl)]; exact e) (fun z => n (o3 _ z))
        obtain ⟨hq4, nq4⟩ := kp _ _ hq3 (fun z => nq2 (o3 _ z))
        have ag4 := ag.keep kp2
        have npq : p ≠ q := fun z => by rw [z, hq3] at hpn; cases hpn
        have lim : (run none pre).length + (1 + (ansOf (Kp242.step (stAfter none pre) c).2).length) ≤ 10000000 := by
          rw [run_append] at hsmall
          rw [List.length_append] at hsmall
          have : run (stAfter none pre) (c :: post) = (((ansOf (Kp242.step (stAfter none pre) c).2).length : Int) :: ansOf (Kp242.step (stAfter none pre) c).2) ++ run (Kp242.step (stAfter none pre) c).1 post := rfl
          rw [this, List.length_append, List.length_cons] at hsmall
          omega
        have line : (10000000 : Nat) ≤ sizeLine := by decide
        -- told.append(len(numbers))
        refine ⟨_, rfl, .inl ⟨rfl, _, SqL.of hq4⟩, _, rfl, p, _, rfl, .inl (SqL.of hp4), q, _, _, rfl, rfl, hq4, by rw [List.length_map]; omega, ?_⟩
        obtain ⟨r5, o5⟩ := ZK.upd H4 wa q _ (.lst ((run none pre).map V.int ++ [V.int (((ansOf (Kp242.step (stAfter none pre) c).2).map V.int).length : Nat)])) r4 nq4
        have hp5 : upd H4 q (.lst ((run none pre).map V.int ++ [V.int (((ansOf (Kp242.step (stAfter none pre) c).2).map V.int).length : Nat)])) p = some (.lst ((ansOf (Kp242.step (stAfter none pre) c).2).map V.int)) := by rw [upd_ne npq]; exact hp4
        -- told.extend(numbers)
        refine ⟨_, rfl, .inl ⟨rfl, _, SqL.of upd_same⟩, _, rfl, q, p, _, _, rfl, rfl, upd_same, hp5, ?_, ?_⟩
        · rw [List.length_append, List.length_map, List.length_map]
          show _ + 1 + _ ≤ _
          omega
        have nq5 : ¬ Z.Ow (upd H4 q (.lst ((run none pre).map V.int ++ [V.int (((ansOf (Kp242.step (stAfter none pre) c).2).map V.int).length : Nat)]))) wa q := fun z => nq4 (o5 _ z)
        obtain ⟨r6, o6⟩ := ZK.upd _ wa q _ (.lst (((run none pre).map V.int ++ [V.int (((ansOf (Kp242.step (stAfter none pre) c).2).map V.int).length : Nat)]) ++ (ansOf (Kp242.step (stAfter none pre) c).2).map V.int)) r5 nq5
        have eone : (flat (pre ++ [c])).length = (flat pre).length + 1 + (enc c).2.length := by
          rw [flat_append, flat_one]
          simp [intsOf]
          omega
        refine ⟨_, rfl, ⟨pre ++ [c], post, some (V.int ((((flat pre).length + 1 : Nat) : Int) + (((enc c).2.length : Nat) : Int))), some (.ref p), by simp, ?_, ?_, ?_, ?_, fun z => nq5 (o6 _ z)⟩, ?_⟩
        · rw [eone]
          show _ = [some (V.ref a), some (.ref wa), some (.ref q), some (V.int (((flat pre).length + 1 + (enc c).2.length : Nat) : Int)), some (V.int ((((flat pre).length + 1 : Nat) : Int) + (((enc c).2.length : Nat) : Int))), some (.ref p)]
          rw [show (((flat pre).length + 1 + (enc c).2.length : Nat) : Int) = (((flat pre).length + 1 : Nat) : Int) + (((enc c).2.length : Nat) : Int) by omega]
          rfl
        · rw [stAfter_append]
          exact r6
        · rcases ag4 with ⟨g | ⟨o, g⟩, n, naq⟩ | g
          · exact .inl ⟨.inl (by rw [upd_ne naq, upd_ne naq]; exact g), fun z => n (o5 _ (o6 _ z)), naq⟩
          · exact .inl ⟨.inr ⟨o, by rw [upd_ne naq, upd_ne naq]; exact g⟩, fun z => n (o5 _ (o6 _ z)), naq⟩
          · exact .inr g
        · rw [upd_same, run_append, List.map_append, List.append_assoc]
          simp [run]
        · show (flat (pre ++ c :: post)).length - Int.toNat ((((flat pre).length + 1 : Nat) : Int) + (((enc c).2.length : Nat) : Int)) < (flat (pre ++ c :: post)).length - Int.toNat (((flat pre).length : Nat) : Int)
          omega
    · rintro σ H2 Q1 Q2 hQ ⟨v, hv, u, hu, p, ys, e, hq', i, j, ei, ej, kk, ek, qq⟩
      exact ⟨v, hv, u, hu, p, ys, e, hq', i, j, ei, ej, kk, ek, hQ _ _ qq⟩
end
end Cut

set_option Elab.async false
set_option linter.all false
set_option maxRecDepth 100000
set_option maxHeartbeats 2000000
namespace Cut
open PySem PySem.Spec PyProof.Rows L2
abbrev sAnswer : Stmt := top 58
/-- one call's own function -/
def spCall (Z : Face) (n : Nat) : Sp := fun vs H Q _ => ∃ (wa : Addr) (st : Kp242.State) (c : Kp242.Call), (enc c).1 = n ∧ vs = .ref wa :: (enc c).2.map nint ∧ (n = 0 ∨ ∃ s, st = some s) ∧ Z.R H wa st ∧ (∀ n ∈ (enc c).2, n < 4294967296) ∧
  ∀ (H' : Hp) (p : Addr), Z.R H' wa (Kp242.step st c).1 → H' p = some (.lst ((ansOf (Kp242.step st c).2).map V.int)) → H p = none → ¬ Z.Ow H' wa p → Keep Z H H' wa → Q (.ref p) H'
/-- the face by its class: begun is told -/
structure Face.At (Z : Face) (C : Addr) : Prop where
  begun : ∀ (H : Hp) (wa : Addr) (st : Kp242.State), Z.R H wa st → ∃ dx fs, H wa = some (.ins C dx fs) ∧ fs.lookup ("begun" : Str) = some (V.bl st.isSome)
theorem none_ans {c : Kp242.Call} (h : ¬ (enc c).1 = 0) : Kp242.step none c = (none, ⟨-11, []⟩) := by
  cases c <;> first | rfl | exact absurd rfl h
theorem zero_begin {c : Kp242.Call} (h : (enc c).1 = 0) : ∃ k, c = .begin_ k := by
  cases c <;> first | exact ⟨_, rfl⟩ | (simp [enc] at h)
theorem scD : FnScope ["works", "call", "numbers", "called"] ["works", "call", "numbers"] (defScope sAnswer) := ⟨rfl, rfl, rfl, by decide +kernel, rfl, by decide +kernel, by decide +kernel⟩
section
variable {P : Program} {w : World} {K : PySem.W.Frag} {mg : Str → Option Value} {base : Heap}
theorem Keep.new {Z : Face} {H : Hp} {wa p : Addr} {st : Kp242.State} {o : HO} (ZK : Z.Ok) (r : Z.R H wa st) (hp : H p = none) : Z.R (upd H p o) wa st ∧ ¬ Z.Ow (upd H p o) wa p ∧ Keep Z H (upd H p o) wa := by
  have np : ¬ Z.Ow H wa p := fun z => by
    obtain ⟨o, e⟩ := ZK.tracked _ _ _ _ r z
    rw [hp] at e
    cases e
  obtain ⟨r1, o1⟩ := ZK.upd H wa p st o r np
  exact ⟨r1, fun z => np (o1 _ z), fun b u e n => ⟨by rw [upd_ne (ne_of_none e hp)]; exact e, fun z => n (o1 _ z)⟩⟩
theorem ok_answer {Z : Face} {f C tA : Addr} {fd : FuncData} {fs : List Addr} {tb tn : Tok} {kc : Nat} (ZK : Z.Ok) (ZC : Z.At C) (F : Fun K "answer" "answer" sAnswer f fd) (O : Own mg) (cl : Cls K C) (nB : NoAttr K C "begun")
    (mB : mg "BEGIN" = some (.int 0 tb)) (mN : mg "NOT_BEGUN" = some (.int (-11) tn)) (mT : mg "CALLED" = some (.ref tA)) (hT : ∀ H : Hp, SqT K H tA (fs.map V.ref)) (fl : fs.length = 19)
    (G : ∀ (n : Nat) (g : Addr), fs[n]? = some g → PySem.W.keepIn K (.ref g) = true ∧ ∃ (fdg : FuncData) (ps : List Str), FnOk P w K mg base CX0 kc g fdg ps (spCall Z n) ∧ Binds K fdg ps []) :
    FnOk P w K mg base CX0 (kc + 1) f fd ["works", "call", "numbers"] (spAnswer Z) := by
  refine F.ok scD (fun vs H Q E h => ?_) (fun cdv A outer s H vs Q E hr h => ?_)
  · obtain ⟨wa, st, c, nl, rfl, _⟩ := h
    rfl
  · obtain ⟨wa, st, c, nl, rfl, rst, hnl, onl, hargs, k⟩ := h
    refine ⟨_, pss_cons (ps_if (PW.pt (pw_and (pt_cmpR op_ne (pv 1) (pe_glob rfl mB (show RelV (.int 0) (.int 0 tb) from ⟨_, rfl⟩)) (nomark _)) (pw_and1 (pt_not (pt_val (pe_fld (pv 0) rfl)))))) (pss_one (ps_ret (pe_lst (pa_cons (pe_glob rfl mN (show RelV (.int (-11)) (.int (-11) tn) from ⟨_, rfl⟩)) pa_nil)))) pss_nil)
      (pss_cons (ps_set (i := 3) scD.nd rfl (Or.inl rfl) (pe_ix ix_tup (pe_glob rfl mT (show RelV (.ref tA) (.ref tA) from rfl)) (pv 1) (fun _ _ => rfl)))
      (pss_cons (ps_if (pt_cmpR op_eq (pe_callB call_len_seq rfl O.len PySem.boot_len (pa_cons (pv 2) pa_nil)) pe_int (nomark _)) (pss_one (ps_ret (pe_callV (i := 3) rfl (Or.inl rfl) (pa_cons (pv 0) pa_nil)))) pss_nil)
      (pss_cons (ps_if (pt_cmpR op_eq (pe_callB call_len_seq rfl O.len PySem.boot_len (pa_cons (pv 2) pa_nil)) pe_int (nomark _)) (pss_one (ps_ret (pe_callV (i := 3) rfl (Or.inl rfl) (pa_cons (pv 0) (pa_cons (pe_ix ix_list (pv 2) pe_int (fun _ _ => rfl)) pa_nil))))) pss_nil)
      (pss_one (ps_ret (pe_callV (i := 3) rfl (Or.inl rfl) (pa_cons (pv 0) (pa_cons (pe_ix ix_list (pv 2) pe_int (fun _ _ => rfl)) (pa_cons (pe_ix ix_list (pv 2) pe_int (fun _ _ => rfl)) pa_nil))))))))), ?_⟩
    obtain ⟨dx, fls, hwa, hbeg⟩ := ZC.begun H wa st rst
    -- behind the test
    have rest : ((enc c).1 = 0 ∨ ∃ s, st = some s) → tSeq (tAsg (tOp (rIxT K) (tC (.ref tA)) (tVar 1)) (gName 3))
        (tSeq (tIfS (tTest (tOp rEq (tCB (fun xs H Q => ∃ p ys, xs = [V.ref p] ∧ (SqL K H p ys ∨ SqT K H p ys) ∧ Q (.int ys.length) H) (tCons (tVar 2) tNil)) (tC (.int 0)))) (tRet (tCallV (cxOf CX0 P w K mg base ["works", "call", "numbers", "called"] "answer" (defScope sAnswer) f cdv A outer s H E).nox 3 (tCons (tVar 0) tNil))) tNext)
        (tSeq (tIfS (tTest (tOp rEq (tCB (fun xs H Q => ∃ p ys, xs = [V.ref p] ∧ (SqL K H p ys ∨ SqT K H p ys) ∧ Q (.int ys.length) H) (tCons (tVar 2) tNil)) (tC (.int 1)))) (tRet (tCallV (cxOf CX0 P w K mg base ["works", "call", "numbers", "called"] "answer" (defScope sAnswer) f cdv A outer s H E).nox 3 (tCons (tVar 0) (tCons (tOp (rIxL K) (tVar 2) (tC (.int 0))) tNil)))) tNext)
        (tRet (tCallV (cxOf CX0 P w K mg base ["works", "call", "numbers", "called"] "answer" (defScope sAnswer) f cdv A outer s H E).nox 3 (tCons (tVar 0) (tCons (tOp (rIxL K) (tVar 2) (tC (.int 0))) (tCons (tOp (rIxL K) (tVar 2) (tC (.int 1))) tNil)))))))
        { nx := fun _ H' => Q .non H', rt := Q } [some (.ref wa), some (nint (enc c).1), some (.ref nl), none] H := fun hb => by
      have hlt : (enc c).1 < fs.length := by rw [fl]; exact enc_lt c
      obtain ⟨g, hg⟩ : ∃ g, fs[(enc c).1]? = some g := ⟨_, List.getElem?_eq_getElem hlt⟩
      obtain ⟨kg, fdg, ps, Gg, Bg⟩ := G _ g hg
      refine ⟨_, rfl, tA, _, _, _, rfl, rfl, hT H, atI_nat (get_map hg), ?_⟩
      have len : ∀ {n : Nat} {A B : Prop}, ((enc c).2.length = n → A) → (¬ (enc c).2.length = n → B) → if decide (V.int ((((enc c).2.map nint).length : Nat) : Int) = V.int (n : Int)) = true then A else B := fun {n A B} h1 h2 => by
        by_cases e : (enc c).2.length = n
        · exact iteP (decide_eq_true (by rw [List.length_map, e])) (h1 e)
        · exact iteN (decide_eq_false (by rw [List.length_map]; intro z; injection z with z; exact e (by omega))) (h2 e)
      refine ⟨_, rfl, nl, _, rfl, .inl (SqL.of hnl), rfl, _, rfl, len (n := 0) (fun e => ?_) (fun e0 => ?_)⟩
      · refine ⟨g, rfl, kg, _, rfl, kc, fdg, ps, _, Gg, hr, Bg, wa, st, c, rfl, ?_, hb, rst, hargs, k⟩
        rw [List.length_eq_zero_iff.mp e]
        rfl
      · refine ⟨_, rfl, nl, _, rfl, .inl (SqL.of hnl), rfl, _, rfl, len (n := 1) (fun e => ?_) (fun e1 => ?_)⟩
        · obtain ⟨x, ex⟩ : ∃ x, (enc c).2 = [x] := List.length_eq_one_iff.mp e
          refine ⟨g, rfl, kg, _, rfl, _, rfl, nl, _, _, _, rfl, rfl, SqL.of hnl, at_of (j := 0) rfl (by rw [ex]; rfl), kc, fdg, ps, _, Gg, hr, Bg, wa, st, c, rfl, ?_, hb, rst, hargs, k⟩
          rw [ex]
          rfl
        · obtain ⟨x, y, ex⟩ : ∃ x y, (enc c).2 = [x, y] := by
            cases c <;> simp [enc] at e0 e1 ⊢
          refine ⟨g, rfl, kg, _, rfl, _, rfl, nl, _, _, _, rfl, rfl, SqL.of hnl, at_of (j := 0) rfl (by rw [ex]; rfl), _, rfl, nl, _, _, _, rfl, rfl, SqL.of hnl, at_of (j := 1) rfl (by rw [ex]; rfl), kc, fdg, ps, _, Gg, hr, Bg, wa, st, c, rfl, ?_, hb, rst, hargs, k⟩
          rw [ex]
          rfl
    refine ⟨_, rfl, rfl, _, rfl, ?_⟩
    by_cases e0 : (enc c).1 = 0
    · refine iteN (show (!decide (V.int (((enc c).1 : Nat) : Int) = V.int 0)) = false by rw [e0]; rfl) (iteF (rest (.inl e0)))
    · refine iteP (show (!decide (V.int (((enc c).1 : Nat) : Int) = V.int 0)) = true by rw [decide_eq_false (by intro z; injection z with z; exact e0 (by omega))]; rfl) ?_
      refine ⟨_, rfl, wa, C, dx, fls, _, rfl, hwa, cl, nB, hbeg, _, rfl, ?_⟩
      cases st with
      | none =>
        refine ⟨(by show 1 ≤ sizeLine; decide), fun p hp => ?_⟩
        obtain ⟨r1, o1, k1⟩ := Keep.new (o := .lst [V.int (-11)]) ZK rst hp
        refine k _ p ?_ ?_ hp o1 k1
        · rw [none_ans e0]; exact r1
        · rw [none_ans e0]; exact upd_same
      | some s => exact rest (.inr ⟨s, rfl⟩)
end
end Cut

set_option Elab.async false
set_option linter.all false
set_option maxRecDepth 100000
set_option maxHeartbeats 2000000
namespace Cut
open PySem PySem.Spec PyProof.Rows L2
/-! ### the object, its lengths, its orders -/
structure LR where
  r : Addr
  dx : Addr
  fa : Addr
structure Lay where
  dx : Addr
  la : Addr
  oa : Addr
  ls : List LR
  os : List Addr
def lf (c m : Nat) (fa : Addr) : List (Str × V) := [("cut_off", nint c), ("metres", nint m), ("faults", .ref fa)]
def wf (bg : Bool) (k : Nat) (la oa : Addr) (so br : Nat) : List (Str × V) := [("begun", .bl bg), ("kerf", nint k), ("lengths", .ref la), ("orders", .ref oa), ("sold", nint so), ("brought", nint br)]
theorem lf_cut {c m : Nat} {fa : Addr} : (lf c m fa).lookup ("cut_off" : Str) = some (nint c) := rfl
theorem lf_met {c m : Nat} {fa : Addr} : (lf c m fa).lookup ("metres" : Str) = some (nint m) := rfl
theorem lf_fau {c m : Nat} {fa : Addr} : (lf c m fa).lookup ("faults" : Str) = some (.ref fa) := rfl
theorem lf_put {c m d : Nat} {fa : Addr} : putF "cut_off" (nint d) (lf c m fa) = lf d m fa := rfl
section
variable {bg bg' : Bool} {k k' so so' br br' : Nat} {la la' oa oa' : Addr}
theorem wf_beg : (wf bg k la oa so br).lookup ("begun" : Str) = some (.bl bg) := rfl
theorem wf_ker : (wf bg k la oa so br).lookup ("kerf" : Str) = some (nint k) := rfl
theorem wf_len : (wf bg k la oa so br).lookup ("lengths" : Str) = some (.ref la) := rfl
theorem wf_ord : (wf bg k la oa so br).lookup ("orders" : Str) = some (.ref oa) := rfl
theorem wf_sol : (wf bg k la oa so br).lookup ("sold" : Str) = some (nint so) := rfl
theorem wf_bro : (wf bg k la oa so br).lookup ("brought" : Str) = some (nint br) := rfl
theorem wf_pbeg : putF "begun" (.bl bg') (wf bg k la oa so br) = wf bg' k la oa so br := rfl
theorem wf_pker : putF "kerf" (nint k') (wf bg k la oa so br) = wf bg k' la oa so br := rfl
theorem wf_plen : putF "lengths" (.ref la') (wf bg k la oa so br) = wf bg k la' oa so br := rfl
theorem wf_pord : putF "orders" (.ref oa') (wf bg k la oa so br) = wf bg k la oa' so br := rfl
theorem wf_psol : putF "sold" (nint so') (wf bg k la oa so br) = wf bg k la oa so' br := rfl
theorem wf_pbro : putF "brought" (nint br') (wf bg k la oa so br) = wf bg k la oa so br' := rfl
end
/-- the lengths' objects, and what they are -/
def LensIn (CL : Addr) (H : Hp) (ls : List LR) (raws : List Raw) : Prop := ls.length = raws.length ∧ ∀ (i : Nat) (x : LR) (w : Raw), ls[i]? = some x → raws[i]? = some w → H x.r = some (.ins CL x.dx (lf w.c w.m x.fa)) ∧ H x.fa = some (.lst (List.map nint w.fp))
abbrev lrefs (ls : List LR) : List V := ls.map fun x => V.ref x.r
theorem LensIn.same {CL : Addr} {H H' : Hp} {ls : List LR} {raws : List Raw} (s : Same H H') (h : LensIn CL H ls raws) : LensIn CL H' ls raws :=
  ⟨h.1, fun i x w e1 e2 => ⟨s _ _ (h.2 i x w e1 e2).1, s _ _ (h.2 i x w e1 e2).2⟩⟩
theorem LensIn.at_ {CL : Addr} {H : Hp} {ls : List LR} {raws : List Raw} (h : LensIn CL H ls raws) {i : Nat} {w : Raw} (e : raws[i]? = some w) : ∃ x, ls[i]? = some x ∧ H x.r = some (.ins CL x.dx (lf w.c w.m x.fa)) ∧ H x.fa = some (.lst (List.map nint w.fp)) := by
  have hi : i < ls.length := by rw [h.1]; exact (List.getElem?_eq_some_iff.mp e).1
  exact ⟨_, List.getElem?_eq_getElem hi, h.2 i _ w (List.getElem?_eq_getElem hi) e⟩
theorem LensIn.ref {CL : Addr} {H : Hp} {ls : List LR} {raws : List Raw} (h : LensIn CL H ls raws) {x : LR} (e : x ∈ ls) : ∃ w, w ∈ raws ∧ H x.r = some (.ins CL x.dx (lf w.c w.m x.fa)) ∧ H x.fa = some (.lst (List.map nint w.fp)) := by
  obtain ⟨i, hi, rfl⟩ := List.mem_iff_getElem.mp e
  have hj : i < raws.length := by rw [← h.1]; exact hi
  exact ⟨raws[i], List.getElem_mem hj, h.2 i _ _ (List.getElem?_eq_getElem hi) (List.getElem?_eq_getElem hj)⟩
theorem LensIn.det {CL : Addr} {H : Hp} : ∀ {ls ls' : List LR} {raws raws' : List Raw}, LensIn CL H ls raws → LensIn CL H ls' raws' → lrefs ls = lrefs ls' → ls = ls'
  | [], [], _, _, _, _, _ => rfl
  | [], _ :: _, _, _, _, _, e => by simp [lrefs] at e
  | _ :: _, [], _, _, _, _, e => by simp [lrefs] at e
  | x :: ls, y :: ls', raws, raws', h, h', e => by
    have e1 : V.ref x.r = V.ref y.r := (List.cons.inj e).1
    have e2 : lrefs ls = lrefs ls' := (List.cons.inj e).2
    cases raws with
    | nil => have := h.1; simp at this
    | cons w raws =>
      cases raws' with
      | nil => have := h'.1; simp at this
      | cons w' raws' =>
        have a := (h.2 0 x w rfl rfl).1
        have a' := (h'.2 0 y w' rfl rfl).1
        have e3 : x.r = y.r := by injection e1
        rw [← e3, a] at a'
        injection a' with a'
        injection a' with _ a2 a3
        have a4 : (lf w.c w.m x.fa).lookup ("faults" : Str) = (lf w'.c w'.m y.fa).lookup ("faults" : Str) := congrArg _ a3
        rw [lf_fau, lf_fau] at a4
        injection a4 with a4
        injection a4 with a4
        have ih := LensIn.det (ls := ls) (ls' := ls') (raws := raws) (raws' := raws') ⟨by simpa using h.1, fun i u v q1 q2 => h.2 (i + 1) u v q1 q2⟩ ⟨by simpa using h'.1, fun i u v q1 q2 => h'.2 (i + 1) u v q1 q2⟩ e2
        rw [ih]
        cases x
        cases y
        simp at e3 a2 a4
        subst e3 a2 a4
        rfl
/-- what stands for a state -/
structure Shape (C CL : Addr) (H : Hp) (wa : Addr) (L : Lay) (raws : List Raw) (bg : Bool) (s : Kp242.Store) : Prop where
  obj : H wa = some (.ins C L.dx (wf bg s.kerf L.la L.oa s.sold s.brought))
  lst : H L.la = some (.lst (lrefs L.ls))
  lens : LensIn CL H L.ls raws
  nd : (L.ls.map LR.r).Nodup
  ord : H L.oa = some (.lst (L.os.map V.ref))
  ords : PairsIn H L.os (s.orders.map prO)
  lo : L.la ≠ L.oa
  fal : ∀ x ∈ L.ls, x.fa ≠ L.la ∧ x.fa ≠ L.oa
  good : Good s raws
def Lay.own (L : Lay) (wa : Addr) : List Addr := wa :: L.la :: L.oa :: (L.ls.map LR.r ++ L.ls.map LR.fa ++ L.os)
theorem ne_own {l : List Addr} {b c : Addr} (hb : b ∉ l) (hc : c ∈ l) : b ≠ c := fun z => hb (z ▸ hc)
def empty : Kp242.Store := ⟨0, [], [], 0, 0⟩
/-- the face of Works -/
def ZF (C CL : Addr) : Face where
  R := fun H wa st => ∃ L raws, Shape C CL H wa L raws st.isSome (st.getD empty)
  Ow := fun H wa b => ∃ L raws bg s, Shape C CL H wa L raws bg s ∧ b ∈ L.own wa
section
variable {C CL : Addr} {H H' : Hp} {wa : Addr} {L L' : Lay} {raws raws' : List Raw} {bg bg' : Bool} {s s' : Kp242.Store}
theorem refs_inj : ∀ {as bs : List Addr}, as.map V.ref = bs.map V.ref → as = bs
  | [], [], _ => rfl
  | [], _ :: _, e => by simp at e
  | _ :: _, [], e => by simp at e
  | a :: as, b :: bs, e => by
    have e1 := (List.cons.inj e).1
    injection e1 with e1
    rw [e1, refs_inj (List.cons.inj e).2]
theorem Shape.det (h : Shape C CL H wa L raws bg s) (h' : Shape C CL H wa L' raws' bg' s') : L = L' := by
  have e := h.obj.symm.trans h'.obj
  injection e with e
  injection e with _ e1 e2
  have a1 : (wf bg s.kerf L.la L.oa s.sold s.brought).lookup ("lengths" : Str) = (wf bg' s'.kerf L'.la L'.oa s'.sold s'.brought).lookup ("lengths" : Str) := congrArg _ e2
  have a2 : (wf bg s.kerf L.la L.oa s.sold s.brought).lookup ("orders" : Str) = (wf bg' s'.kerf L'.la L'.oa s'.sold s'.brought).lookup ("orders" : Str) := congrArg _ e2
  rw [wf_len, wf_len] at a1
  rw [wf_ord, wf_ord] at a2
  injection a1 with a1
  injection a1 with a1
  injection a2 with a2
  injection a2 with a2
  have b1 := h.lst
  rw [a1, h'.lst] at b1
  injection b1 with b1
  injection b1 with b1
  have b2 := h.ord
  rw [a2, h'.ord] at b2
  injection b2 with b2
  injection b2 with b2
  have c1 := LensIn.det h.lens h'.lens b1.symm
  have c2 := refs_inj b2.symm
  cases L
  cases L'
  simp at e1 a1 a2 c1 c2
  subst e1 a1 a2 c1 c2
  rfl
theorem Shape.own_iff (h : Shape C CL H wa L raws bg s) {b : Addr} : (ZF C CL).Ow H wa b ↔ b ∈ L.own wa := by
  constructor
  · rintro ⟨L', raws', bg', s', h', hb⟩
    rw [h.det h']
    exact hb
  · intro hb
    exact ⟨L, raws, bg, s, h, hb⟩
theorem Shape.tracked (h : Shape C CL H wa L raws bg s) {b : Addr} (hb : b ∈ L.own wa) : ∃ o, H b = some o := by
  unfold Lay.own at hb
  rcases List.mem_cons.mp hb with e | hb
  · exact ⟨_, e ▸ h.obj⟩
  rcases List.mem_cons.mp hb with e | hb
  · exact ⟨_, e ▸ h.lst⟩
  rcases List.mem_cons.mp hb with e | hb
  · exact ⟨_, e ▸ h.ord⟩
  rcases List.mem_append.mp hb with hb | hb
  · rcases List.mem_append.mp hb with hb | hb
    · obtain ⟨x, hx, rfl⟩ := List.mem_map.mp hb
      obtain ⟨w, _, h1, _⟩ := h.lens.ref hx
      exact ⟨_, h1⟩
    · obtain ⟨x, hx, rfl⟩ := List.mem_map.mp hb
      obtain ⟨w, _, _, h1⟩ := h.lens.ref hx
      exact ⟨_, h1⟩
  · obtain ⟨i, hi, rfl⟩ := List.mem_iff_getElem.mp hb
    have hj : i < (s.orders.map prO).length := by rw [← h.ords.1]; exact hi
    obtain ⟨a, e1, e2⟩ := h.ords.2 i _ (List.getElem?_eq_getElem hj)
    rw [List.getElem?_eq_getElem hi] at e1
    injection e1 with e1
    exact ⟨_, e1 ▸ e2⟩
/-- it holds still where all that belongs to it does -/
theorem Shape.move (h : Shape C CL H wa L raws bg s) (k : ∀ b ∈ L.own wa, ∀ o, H b = some o → H' b = some o) : Shape C CL H' wa L raws bg s := by
  have mr : ∀ x ∈ L.ls, x.r ∈ L.own wa := fun x hx => by
    unfold Lay.own
    exact List.mem_cons_of_mem _ (List.mem_cons_of_mem _ (List.mem_cons_of_mem _ (List.mem_append_left _ (List.mem_append_left _ (List.mem_map_of_mem hx)))))
  have mf : ∀ x ∈ L.ls, x.fa ∈ L.own wa := fun x hx => by
    unfold Lay.own
    exact List.mem_cons_of_mem _ (List.mem_cons_of_mem _ (List.mem_cons_of_mem _ (List.mem_append_left _ (List.mem_append_right _ (List.mem_map_of_mem hx)))))
  have mo : ∀ x ∈ L.os, x ∈ L.own wa := fun x hx => by
    unfold Lay.own
    exact List.mem_cons_of_mem _ (List.mem_cons_of_mem _ (List.mem_cons_of_mem _ (List.mem_append_right _ hx)))
  refine ⟨k _ (by unfold Lay.own; simp) _ h.obj, k _ (by unfold Lay.own; simp) _ h.lst, ⟨h.lens.1, fun i x w e1 e2 => ?_⟩, h.nd, k _ (by unfold Lay.own; simp) _ h.ord, ⟨h.ords.1, fun i w e => ?_⟩, h.lo, h.fal, h.good⟩
  · obtain ⟨a, b⟩ := h.lens.2 i x w e1 e2
    exact ⟨k _ (mr x (List.mem_of_getElem? e1)) _ a, k _ (mf x (List.mem_of_getElem? e1)) _ b⟩
  · obtain ⟨a, b, c⟩ := h.ords.2 i w e
    exact ⟨a, b, k _ (mo a (List.mem_of_getElem? b)) _ c⟩
theorem Shape.same (h : Shape C CL H wa L raws bg s) (e : Same H H') : Shape C CL H' wa L raws bg s := h.move fun b _ o q => e b o q
theorem zf_ok : (ZF C CL).Ok where
  upd := fun H wa b st o ⟨L, raws, h⟩ nb => by
    have nb : b ∉ L.own wa := fun q => nb (h.own_iff.mpr q)
    have h' : Shape C CL (upd H b o) wa L raws st.isSome (st.getD empty) := h.move fun c hc u e => by
      rw [upd_ne (Ne.symm (ne_own nb hc))]
      exact e
    exact ⟨⟨L, raws, h'⟩, fun c hc => h.own_iff.mpr (h'.own_iff.mp hc)⟩
  tracked := fun H wa b st ⟨L, raws, h⟩ hb => h.tracked (h.own_iff.mp hb)
theorem zf_at : (ZF C CL).At C where
  begun := fun H wa st ⟨L, raws, h⟩ => ⟨_, _, h.obj, wf_beg⟩
/-! ### how a call ends -/
abbrev Fin (C CL : Addr) (H : Hp) (wa : Addr) (st' : Kp242.State) (ans : List Int) (Q : VK) : Prop :=
  ∀ (H' : Hp) (p : Addr), (ZF C CL).R H' wa st' → H' p = some (.lst (ans.map V.int)) → H p = none → ¬ (ZF C CL).Ow H' wa p → Keep (ZF C CL) H H' wa → Q (.ref p) H'
theorem fin_same {Q : VK} {p : Addr} {ans : List Int} {st : Kp242.State} (k : Fin C CL H wa st ans Q) (h : Shape C CL H wa L raws st.isSome (st.getD empty)) (e : Same H H') (hp : H p = none) (ha : H' p = some (.lst (ans.map V.int))) : Q (.ref p) H' := by
  have h' := h.same e
  refine k H' p ⟨L, raws, h'⟩ ha hp (fun z => ?_) fun b o q n => ⟨e _ _ q, fun z => n (h.own_iff.mpr (h'.own_iff.mp z))⟩
  obtain ⟨o, q⟩ := h.tracked (h'.own_iff.mp z)
  rw [hp] at q
  cases q
theorem fin_new {Q : VK} {p : Addr} {ans : List Int} {st : Kp242.State} (k : Fin C CL H wa st ans Q) (h : Shape C CL H wa L raws st.isSome (st.getD empty)) (hp : H p = none) : Q (.ref p) (upd H p (.lst (ans.map V.int))) :=
  fin_same k h (Same.fresh hp) hp upd_same
theorem fin_mut {Q : VK} {p : Addr} {ans : List Int} {st : Kp242.State} (k : Fin C CL H wa (some s') ans Q) (h : Shape C CL H wa L raws bg s) (h' : Shape C CL H' wa L' raws' true s') (ho : ∀ b ∈ L'.own wa, b ∈ L.own wa ∨ H b = none) (hk : ∀ b o, H b = some o → b ∉ L.own wa → H' b = some o)
    (hp : H p = none) (np : p ∉ L'.own wa) (ha : H' p = some (.lst (ans.map V.int))) : Q (.ref p) H' := by
  refine k H' p ⟨L', raws', h'⟩ ha hp (fun z => np (h'.own_iff.mp z)) fun b o q n => ⟨hk b o q fun z => n (h.own_iff.mpr z), fun z => ?_⟩
  rcases ho b (h'.own_iff.mp z) with y | y
  · exact n (h.own_iff.mpr y)
  · rw [y] at q
    cases q
end
end Cut

set_option Elab.async false
set_option linter.all false
set_option maxRecDepth 100000
set_option maxHeartbeats 2000000
namespace Cut
open PySem PySem.Spec PyProof.Rows L2
abbrev sPieces : Stmt := top 1
abbrev sGood : Stmt := top 2
abbrev sLong : Stmt := top 3
abbrev sRooms : Stmt := top 4
abbrev sTog : Stmt := top 9
theorem nints (l : List Nat) : (intsOf l).map V.int = List.map nint l := by
  unfold intsOf
  rw [List.map_map]
  rfl
theorem ints_len (l : List Nat) : (intsOf l).length = l.length := List.length_map _
theorem sorted_nat {ns : List Int} {l : List Nat} (p : ns.Perm (intsOf l)) (up : ns.Pairwise (· ≤ ·)) : ns = intsOf (isort l) := by
  have e1 : ns = intsOf (ns.map Int.toNat) := by
    unfold intsOf
    rw [List.map_map]
    conv => lhs; rw [← List.map_id ns]
    refine List.map_congr_left fun z hz => ?_
    obtain ⟨n, _, rfl⟩ := List.mem_map.mp (p.mem_iff.mp hz)
    show ((n : Nat) : Int) = ((Int.toNat (n : Int) : Nat) : Int)
    rw [Int.toNat_natCast]
  have e2 : (ns.map Int.toNat).Perm l := by
    have q := p.map Int.toNat
    unfold intsOf at q
    rw [List.map_map] at q
    have : l.map (Int.toNat ∘ fun n : Nat => (n : Int)) = l := by
      conv => rhs; rw [← List.map_id l]
      refine List.map_congr_left fun z _ => ?_
      show Int.toNat (z : Int) = z
      rw [Int.toNat_natCast]
    rw [this] at q
    exact q
  have e3 : (ns.map Int.toNat).Pairwise (· ≤ ·) := by
    rw [List.pairwise_map]
    exact up.imp fun {a b} h => by omega
  rw [e1, isort_of e3 e2]
theorem PairsIn.updL {H : Hp} {as : List Addr} {ws : List (Nat × Nat)} {q : Addr} {xs : List V} {o : HO} (h : PairsIn H as ws) (hq : H q = some (.lst xs)) : PairsIn (upd H q o) as ws :=
  ⟨h.1, fun i w e => by
    obtain ⟨a, h1, h2⟩ := h.2 i w e
    exact ⟨a, h1, by rw [upd_ne (ne_of h2 hq (by intro z; cases z))]; exact h2⟩⟩
theorem PairsIn.append {H : Hp} {as bs : List Addr} {ws vs : List (Nat × Nat)} (h : PairsIn H as ws) (h' : PairsIn H bs vs) : PairsIn H (as ++ bs) (ws ++ vs) := by
  refine ⟨by rw [List.length_append, List.length_append, h.1, h'.1], fun i w e => ?_⟩
  by_cases hi : i < ws.length
  · rw [List.getElem?_append_left hi] at e
    rw [List.getElem?_append_left (by rw [h.1]; exact hi)]
    exact h.2 i w e
  · rw [List.getElem?_append_right (by omega)] at e
    rw [List.getElem?_append_right (by rw [h.1]; omega), h.1]
    exact h'.2 _ w e
theorem PairsIn.elt {H : Hp} {as : List Addr} {ws : List (Nat × Nat)} (hp : PairsIn H as ws) {i : Nat} {x : V} (hx : (as.map V.ref)[i]? = some x) : ∃ t w, x = .ref t ∧ as[i]? = some t ∧ ws[i]? = some w ∧ H t = some (.tup [nint w.1, nint w.2]) := by
  obtain ⟨t, ht, rfl⟩ := map_get hx
  have hi : i < ws.length := by rw [← hp.1]; exact (List.getElem?_eq_some_iff.mp ht).1
  obtain ⟨t', h1, h2⟩ := hp.2 i ws[i] (List.getElem?_eq_getElem hi)
  rw [ht] at h1
  cases h1
  exact ⟨t, _, rfl, ht, List.getElem?_eq_getElem hi, h2⟩
def far (a : Nat) (xs : List Nat) : Nat := xs.foldl (fun s y => max s (y + 1)) a
theorem far_snoc (a x : Nat) (xs : List Nat) : far a (xs ++ [x]) = max (far a xs) (x + 1) := by
  unfold far
  rw [List.foldl_append]
  rfl
theorem go_snoc (a x : Nat) (xs : List Nat) : pieceGo a (xs ++ [x]) = pieceGo a xs ++ (if far a xs < x then [(far a xs, x)] else []) := pieceGo_snoc xs a x
theorem max_nint (m n : Nat) : nint (max m (n + 1)) = V.int (if ((n : Int) + 1) > (m : Int) then (n : Int) + 1 else (m : Int)) := by
  show V.int _ = V.int _
  congr 1
  split <;> omega
/-- a function that the text names -/
def Has (P : Program) (w : World) (K : PySem.W.Frag) (mg : Str → Option Value) (base : Heap) (x : Str) (k : Nat) (ps : List Str) (sp : Sp) : Prop :=
  ∃ (f : Addr) (fd : FuncData), FnOk P w K mg base CX0 k f fd ps sp ∧ mg x = some (.ref f) ∧ PySem.W.keepIn K (.ref f) = true ∧ Binds K fd ps []
section
variable {P : Program} {w : World} {K : PySem.W.Frag} {mg : Str → Option Value} {base : Heap}
/-! ### pieces_of -/
theorem scPi : FnScope ["begins", "ends", "faults", "pieces", "start", "stop"] ["begins", "ends", "faults"] (defScope sPieces) := ⟨rfl, rfl, rfl, by decide +kernel, rfl, by decide +kernel, by decide +kernel⟩
def spPieces : Sp := fun vs H Q _ => ∃ (a b : Nat) (fa : Addr) (fp : List Nat), vs = [nint a, nint b, .ref fa] ∧ H fa = some (.lst (List.map nint fp)) ∧ fp.length ≤ 3 ∧ ∀ (H' : Hp) (p : Addr), Same H H' → H p = none → PairsAt H' p (pieceGo a (isort fp ++ [b])) → Q (.ref p) H'
theorem ok_pieces {f : Addr} {fd : FuncData} (F : Fun K "pieces_of" "pieces_of" sPieces f fd) (O : Own mg) : FnOk P w K mg base CX0 1 f fd ["begins", "ends", "faults"] spPieces := by
  refine F.ok scPi (fun vs H Q E h => ?_) (fun cdv A outer s H vs Q E hr h => ?_)
  · obtain ⟨a, b, fa, fp, rfl, _⟩ := h
    rfl
  · obtain ⟨a, b, fa, fp, rfl, hfa, hfp, k⟩ := h
    refine ⟨_, pss_cons (ps_set (i := 3) scPi.nd rfl (Or.inl rfl) (pe_lst pa_nil))
      (pss_cons (ps_set (i := 4) scPi.nd rfl (Or.inl rfl) (pv 0))
      (pss_cons (ps_for PassesOwn.never rfl (pi_list (pe_op op_cat (pe_callB cr_sorted rfl O.sorted PyProof.Rows.boot_sorted (pa_cons (pv 2) pa_nil)) (pe_lst (pa_cons (pv 1) pa_nil)))) (pg_name (i := 5) scPi.nd rfl (Or.inl rfl))
        (pss_cons (ps_if (pt_cmpR op_gt (pv 5) (pv 4) (nomark _)) (pss_one (ps_expr (pe_bm PySem.F.plainAttrs_list PySem.F.slot_list_append PySem.F.type_list_append mt_append (pv 3) (pa_cons (pe_tup (pa_cons (pv 4) (pa_cons (pv 5) pa_nil))) pa_nil)))) pss_nil)
        (pss_one (ps_set (i := 4) scPi.nd rfl (Or.inl rfl) (pe_callB (call_max2 rfl) rfl O.max PyProof.Rows.boot_max (pa_cons (pv 4) (pa_cons (pe_op op_add (pv 5) pe_int) pa_nil)))))))
      (pss_one (ps_ret (pv 3))))), ?_⟩
    refine ⟨Nat.zero_le _, fun q hq => ?_⟩
    have sq : Same H (upd H q (.lst [])) := Same.fresh hq
    have q0 : upd H q (.lst []) q = some (.lst []) := upd_same
    refine ⟨_, rfl, _, rfl, fa, intsOf fp, rfl, SqL.of (by rw [nints]; exact sq _ _ hfa), by rw [ints_len]; omega, fun ns' p1 perm up hp1 => ?_⟩
    rw [sorted_nat perm up, nints]
    have s1 : Same (upd H q (.lst [])) (upd (upd H q (.lst [])) p1 (.lst (List.map nint (isort fp)))) := Same.fresh hp1
    refine ⟨_, rfl, (by show 1 ≤ sizeLine; decide), fun p2 hp2 => ?_⟩
    have s2 := s1.new (o := .lst [nint b]) (s1.free hp2)
    have n12 : p1 ≠ p2 := ne_of_none upd_same hp2
    refine ⟨p1, p2, _, _, rfl, rfl, by rw [upd_ne n12]; exact upd_same, upd_same, ?_, fun p3 hp3 => ?_⟩
    · rw [List.length_map, isort_len]
      exact line_small (by show fp.length + 1 ≤ 1000; omega)
    have exs : List.map nint (isort fp) ++ [nint b] = List.map nint (isort fp ++ [b]) := by
      rw [List.map_append]
      rfl
    rw [exs]
    have s3 := s2.new (o := .lst (List.map nint (isort fp ++ [b]))) (s2.free hp3)
    have hxl : (isort fp ++ [b]).length ≤ 4 := by
      rw [List.length_append, isort_len]
      show fp.length + 1 ≤ 4
      omega
    generalize isort fp ++ [b] = xs at *
    refine ⟨p3, rfl, ⟨_, SqL.of upd_same⟩, for_list (K := K) (a := p3) (xs := List.map nint xs) (fun i σ H' => ∃ (v5 : Option V) (ts : List Addr), σ = [some (nint a), some (nint b), some (.ref fa), some (.ref q), some (nint (far a (xs.take i))), v5] ∧ Same H H' ∧ H' p3 = some (.lst (List.map nint xs)) ∧ H' q = some (.lst (ts.map V.ref)) ∧ PairsIn H' ts (pieceGo a (xs.take i)))
      ⟨none, [], rfl, sq.trans s3, upd_same, s3 _ _ q0, rfl, fun i w e => by simp [pieceGo] at e⟩ (fun i σ H' _ ⟨_, _, _, _, h3, _⟩ => SqL.of h3) ?_ ?_⟩
    · rintro i x σ H1 hx ⟨v5, ts, rfl, s4, h3, hq1, hts⟩
      obtain ⟨n, hn, rfl⟩ := map_get hx
      have nq3 : p3 ≠ q := Ne.symm (ne_of_none (s2 _ _ q0) hp3)
      refine ⟨_, rfl, _, rfl, _, _, rfl, rfl, _, rfl, ?_⟩
      by_cases e : far a (xs.take i) < n
      · refine iteP (decide_eq_true (show ((far a (xs.take i) : Nat) : Int) < (n : Int) by omega)) ?_
        refine ⟨_, rfl, .inl ⟨rfl, _, SqL.of hq1⟩, _, rfl, _, rfl, (by show 2 ≤ sizeLine; decide), fun t ht => ?_⟩
        have nqt : q ≠ t := ne_of_none hq1 ht
        have hqt : upd H1 t (.tup [nint (far a (xs.take i)), nint n]) q = some (.lst (ts.map V.ref)) := by rw [upd_ne nqt]; exact hq1
        refine ⟨q, _, _, rfl, rfl, hqt, ?_, ?_⟩
        · rw [List.length_map, hts.1]
          have := go_len (xs.take i) a
          rw [List.length_take] at this
          exact small1000 (by omega)
        refine ⟨_, rfl, _, rfl, _, _, rfl, rfl, _, _, rfl, ?_⟩
        refine ⟨some (nint n), ts ++ [t], ?_, (s4.new (s4.free ht)).new hq, ?_, ?_, ?_⟩
        · rw [take_snoc hn, far_snoc, max_nint]
          rfl
        · rw [upd_ne nq3, upd_ne (ne_of_none h3 ht)]
          exact h3
        · rw [upd_same, List.map_append]
          rfl
        · rw [take_snoc hn, go_snoc, if_pos e]
          exact (hts.snoc (Same.fresh ht) (w := (far a (xs.take i), n)) upd_same).updL hqt
      · refine iteN (decide_eq_false (show ¬ ((far a (xs.take i) : Nat) : Int) < (n : Int) by omega)) ?_
        refine ⟨_, rfl, _, rfl, _, _, rfl, rfl, _, _, rfl, ?_⟩
        refine ⟨some (nint n), ts, ?_, s4, h3, hq1, ?_⟩
        · rw [take_snoc hn, far_snoc, max_nint]
          rfl
        · rw [take_snoc hn, go_snoc, if_neg e, List.append_nil]
          exact hts
    · rintro σ H1 ⟨v5, ts, rfl, s4, h3, hq1, hts⟩
      rw [List.length_map, List.take_length] at hts
      exact ⟨_, rfl, k H1 q s4 hq ⟨ts, hq1, hts⟩⟩
/-! ### good_at_first -/
theorem scGo : FnScope ["begins", "ends", "faults", "fault"] ["begins", "ends", "faults"] (defScope sGood) := ⟨rfl, rfl, rfl, by decide +kernel, rfl, by decide +kernel, by decide +kernel⟩
def spGood : Sp := fun vs H Q _ => ∃ (a b : Nat) (fa : Addr) (fp : List Nat), vs = [nint a, nint b, .ref fa] ∧ H fa = some (.lst (List.map nint fp)) ∧ fp.length ≤ 3 ∧
  ∀ (H' : Hp) (M : Nat), Same H H' → M ∈ fp.filter (fun f => decide (a ≤ f)) ++ [b] → (∀ y ∈ fp.filter (fun f => decide (a ≤ f)) ++ [b], M ≤ y) → Q (.int ((M : Int) - (a : Int))) H'
theorem ok_good {f : Addr} {fd : FuncData} (F : Fun K "good_at_first" "good_at_first" sGood f fd) (O : Own mg) : FnOk P w K mg base CX0 1 f fd ["begins", "ends", "faults"] spGood := by
  refine F.ok scGo (fun vs H Q E h => ?_) (fun cdv A outer s H vs Q E hr h => ?_)
  · obtain ⟨a, b, fa, fp, rfl, _⟩ := h
    rfl
  · obtain ⟨a, b, fa, fp, rfl, hfa, hfp, k⟩ := h
    refine ⟨_, pss_one (ps_ret (pe_op op_sub (pe_callB (cr_min rfl) rfl O.min PyProof.Rows.boot_min (pa_cons (pe_op op_cat
      (pe_lc (own := [("fault", 3)]) rfl scGo.nd (pi_list (pv 2)) (blkOk_by (by change blkC ["begins", "ends", "faults", "fault"] (defScope sGood) _ _ = true; decide +kernel)) (fun _ _ _ _ _ => pg_name (i := 3) scGo.nd rfl (Or.inl rfl)) (fun _ _ _ _ _ => pts_one (pt_cmpR op_ge (pv 3) (pv 0) (nomark _))) (fun _ _ _ _ _ => pv 3))
      (pe_lst (pa_cons (pv 1) pa_nil))) pa_nil)) (pv 0))), ?_⟩
    refine ⟨_, rfl, fa, rfl, ⟨_, SqL.of hfa⟩, fun D hD => lc_list (K := K) (xs := List.map nint fp) (fun i H' => Same H H' ∧ H' D = some (.lst (List.map nint ((fp.take i).filter fun f => decide (a ≤ f))))) ⟨Same.fresh hD, upd_same⟩ (fun i H' _ h => SqL.of (h.1 _ _ hfa)) (fun i x H1 hx h => ?_) (fun H1 h => ?_)⟩
    · obtain ⟨s1, hd1⟩ := h
      obtain ⟨n, hn, rfl⟩ := map_get hx
      refine ⟨rfl, _, rfl, _, rfl, _, _, rfl, rfl, _, rfl, ?_⟩
      by_cases e : a ≤ n
      · refine iteP (decide_eq_true (show (a : Int) ≤ (n : Int) by omega)) ⟨_, rfl, _, hd1, ?_, s1.new hD, ?_⟩
        · rw [List.length_map]
          refine Nat.lt_of_le_of_lt (List.length_filter_le _ _) ?_
          rw [List.length_take]
          exact small1000 (by omega)
        · rw [upd_same, take_snoc hn, List.filter_append, List.map_append, List.filter_cons, if_pos (decide_eq_true e)]
          rfl
      · refine iteN (decide_eq_false (show ¬ (a : Int) ≤ (n : Int) by omega)) ⟨s1, ?_⟩
        rw [hd1, take_snoc hn, List.filter_append, List.filter_cons, if_neg (by simpa using e)]
        simp
    · obtain ⟨s1, hd1⟩ := h
      rw [List.length_map, List.take_length] at hd1
      refine ⟨_, rfl, (by show 1 ≤ sizeLine; decide), fun p2 hp2 => ?_⟩
      have nD2 : D ≠ p2 := ne_of_none hd1 hp2
      have s2 := s1.new (o := .lst [nint b]) (s1.free hp2)
      refine ⟨D, p2, _, _, rfl, rfl, by rw [upd_ne nD2]; exact hd1, upd_same, ?_, fun p3 hp3 => ?_⟩
      · rw [List.length_map]
        have := List.length_filter_le (fun f => decide (a ≤ f)) fp
        exact line_small (by show _ + 1 ≤ 1000; omega)
      have exs : List.map nint (fp.filter fun f => decide (a ≤ f)) ++ [nint b] = List.map nint (fp.filter (fun f => decide (a ≤ f)) ++ [b]) := by
        rw [List.map_append]
        rfl
      rw [exs]
      have s3 := s2.new (o := .lst (List.map nint (fp.filter (fun f => decide (a ≤ f)) ++ [b]))) (s2.free hp3)
      refine ⟨p3, intsOf (fp.filter (fun f => decide (a ≤ f)) ++ [b]), rfl, SqL.of (by rw [nints]; exact upd_same), by rw [ints_len, List.length_append]; show 0 < _ + 1; omega, fun m h1 h2 => ?_⟩
      obtain ⟨M, hM, rfl⟩ := List.mem_map.mp h1
      refine ⟨_, rfl, _, _, rfl, rfl, k _ M s3 hM fun y hy => ?_⟩
      have := h2 _ (List.mem_map.mpr ⟨y, hy, rfl⟩)
      omega
/-! ### longest_of, rooms_of -/
theorem scLo : FnScope ["pieces", "start", "stop"] ["pieces"] (defScope sLong) := ⟨rfl, rfl, rfl, by decide +kernel, rfl, by decide +kernel, by decide +kernel⟩
def spLong : Sp := fun vs H Q _ => ∃ (b : Addr) (ps : List (Nat × Nat)), vs = [.ref b] ∧ PairsAt H b ps ∧ ps.length ≤ 1000 ∧ (∀ p ∈ ps, p.1 < p.2) ∧ ∀ H', Same H H' → Q (nint (maxOf (sizesR ps))) H'
theorem ok_long {f : Addr} {fd : FuncData} (F : Fun K "longest_of" "longest_of" sLong f fd) (O : Own mg) : FnOk P w K mg base CX0 1 f fd ["pieces"] spLong := by
  refine F.ok scLo (fun vs H Q E h => ?_) (fun cdv A outer s H vs Q E hr h => ?_)
  · obtain ⟨b, ps, rfl, _⟩ := h
    rfl
  · obtain ⟨b, ps, rfl, ⟨as, hb, hp⟩, hl, hlt, k⟩ := h
    refine ⟨_, pss_one (ps_ret (pe_maxD rfl rfl O.max (pa_cons (pe_lc (g := gTup K 2 (gCons (gName 1) (gCons (gName 2) gNil))) (own := [("start", 1), ("stop", 2)]) rfl scLo.nd (pi_list (pv 0)) (blkOk_by (by change blkC ["pieces", "start", "stop"] (defScope sLong) _ _ = true; decide +kernel)) (fun _ _ _ _ _ => pg_tup (n := 2) rfl (pgs_cons (pg_name (i := 1) scLo.nd rfl (Or.inl rfl) (Or.inr rfl)) (pgs_cons (pg_name (i := 2) scLo.nd rfl (Or.inl rfl) (Or.inr rfl)) pgs_nil))) (fun _ _ _ _ _ => pts_nil)
      (fun _ _ _ _ _ => pe_op op_sub (pv 2) (pv 1))) pa_nil) (pk_cons pe_int pk_nil))), ?_⟩
    refine ⟨_, rfl, b, rfl, ⟨_, SqL.of hb⟩, fun D hD => lc_map (K := K) (xs := as.map V.ref) (ys := List.map nint (sizesR ps)) (SqL.of hb) hD (by simp [hp.1, sizesR]) (by rw [List.length_map, hp.1]; exact line_small (by omega)) (fun i x y H1 R hx hy s1 r => ?_) (fun H1 s1 hD1 => ?_)⟩
    · obtain ⟨t, w, rfl, ht, hwi, hH⟩ := hp.elt hx
      have lt := hlt w (List.mem_of_getElem? hwi)
      have ey : y = V.int (((w.2 : Nat) : Int) - ((w.1 : Nat) : Int)) := by
        unfold sizesR at hy
        rw [List.map_map, List.getElem?_map, hwi] at hy
        exact (Option.some.inj hy).symm.trans (esub (by omega)).symm
      refine ⟨t, _, rfl, SqT.of (s1 _ _ hH), rfl, _, _, rfl, _, _, rfl, rfl, rfl, _, rfl, _, rfl, _, _, rfl, rfl, ?_⟩
      show R (V.int (((w.2 : Nat) : Int) - ((w.1 : Nat) : Int))) _
      rw [← ey]
      exact r _ (Same.refl _)
    · refine ⟨D, intsOf (sizesR ps), 0, rfl, rfl, SqL.of (by rw [nints]; exact hD1), fun M hM => ?_⟩
      rcases hM with ⟨e, rfl⟩ | ⟨h1, h2⟩
      · have e : sizesR ps = [] := List.map_eq_nil_iff.mp e
        have := k H1 s1
        rw [e] at this
        exact this
      · have hne : sizesR ps ≠ [] := fun e => by rw [e] at h1; simp [intsOf] at h1
        rw [max_cast hne h1 h2]
        exact k H1 s1
theorem scRo : FnScope ["pieces", "kerf", "start", "stop"] ["pieces", "kerf"] (defScope sRooms) := ⟨rfl, rfl, rfl, by decide +kernel, rfl, by decide +kernel, by decide +kernel⟩
def spRooms : Sp := fun vs H Q _ => ∃ (b : Addr) (kerf : Nat) (ps : List (Nat × Nat)), vs = [.ref b, nint kerf] ∧ PairsAt H b ps ∧ ps.length ≤ 1000 ∧ (∀ p ∈ ps, p.1 < p.2) ∧ ∀ (H' : Hp) (p : Addr), Same H H' → H p = none → H' p = some (.lst (List.map nint (roomsR kerf ps))) → Q (.ref p) H'
theorem ok_rooms {f : Addr} {fd : FuncData} (F : Fun K "rooms_of" "rooms_of" sRooms f fd) : FnOk P w K mg base CX0 1 f fd ["pieces", "kerf"] spRooms := by
  refine F.ok scRo (fun vs H Q E h => ?_) (fun cdv A outer s H vs Q E hr h => ?_)
  · obtain ⟨b, kerf, ps, rfl, _⟩ := h
    rfl
  · obtain ⟨b, kerf, ps, rfl, ⟨as, hb, hp⟩, hl, hlt, k⟩ := h
    refine ⟨_, pss_one (ps_ret (pe_lc (g := gTup K 2 (gCons (gName 2) (gCons (gName 3) gNil))) (own := [("start", 2), ("stop", 3)]) rfl scRo.nd (pi_list (pv 0)) (blkOk_by (by change blkC ["pieces", "kerf", "start", "stop"] (defScope sRooms) _ _ = true; decide +kernel)) (fun _ _ _ _ _ => pg_tup (n := 2) rfl (pgs_cons (pg_name (i := 2) scRo.nd rfl (Or.inl rfl) (Or.inr rfl)) (pgs_cons (pg_name (i := 3) scRo.nd rfl (Or.inl rfl) (Or.inr rfl)) pgs_nil))) (fun _ _ _ _ _ => pts_nil)
      (fun _ _ _ _ _ => pe_op op_add (pe_op op_sub (pv 3) (pv 2)) (pv 1)))), ?_⟩
    refine ⟨_, rfl, b, rfl, ⟨_, SqL.of hb⟩, fun D hD => lc_map (K := K) (xs := as.map V.ref) (ys := List.map nint (roomsR kerf ps)) (SqL.of hb) hD (by simp [hp.1, roomsR]) (by rw [List.length_map, hp.1]; exact line_small (by omega)) (fun i x y H1 R hx hy s1 r => ?_) (fun H1 s1 hD1 => k H1 D s1 hD hD1)⟩
    obtain ⟨t, w, rfl, ht, hwi, hH⟩ := hp.elt hx
    have lt := hlt w (List.mem_of_getElem? hwi)
    have ey : y = V.int (((w.2 : Nat) : Int) - ((w.1 : Nat) : Int) + (kerf : Int)) := by
      unfold roomsR at hy
      rw [List.map_map, List.getElem?_map, hwi] at hy
      refine (Option.some.inj hy).symm.trans ?_
      show V.int ((w.2 - w.1 + kerf : Nat) : Int) = _
      congr 1
      omega
    refine ⟨t, _, rfl, SqT.of (s1 _ _ hH), rfl, _, _, rfl, _, _, rfl, rfl, rfl, _, rfl, _, rfl, _, _, rfl, rfl, _, rfl, _, _, rfl, rfl, ?_⟩
    show R (V.int (((w.2 : Nat) : Int) - ((w.1 : Nat) : Int) + (kerf : Int))) _
    rw [← ey]
    exact r _ (Same.refl _)
/-! ### go_together -/
theorem scTo : FnScope ["rooms", "wants", "chosen", "need", "pays"] ["rooms", "wants", "chosen"] (defScope sTog) := ⟨rfl, rfl, rfl, by decide +kernel, rfl, by decide +kernel, by decide +kernel⟩
def spTog : Sp := fun vs H Q _ => ∃ (a b : Addr) (rooms : List Nat) (ws : List (Nat × Nat)) (m : Nat), vs = [.ref a, .ref b, nint m] ∧ H a = some (.lst (List.map nint rooms)) ∧ PairsAt H b ws ∧ ws.length ≤ 4 ∧ m < 2 ^ ws.length ∧
  ∀ (H' : Hp), Same H H' → Q (.bl ((fillable rooms (totals (ws.map (·.1)))).getD m false)) H'
theorem ok_tog {f : Addr} {fd : FuncData} (F : Fun K "go_together" "go_together" sTog f fd) (hT : Has P w K mg base "totals" 1 ["numbers"] spTotals) (hF : Has P w K mg base "fillable" 2 ["rooms", "needed"] spFill) : FnOk P w K mg base CX0 3 f fd ["rooms", "wants", "chosen"] spTog := by
  obtain ⟨fT, fdT, GT, mT, kT, bT⟩ := hT
  obtain ⟨fF, fdF, GF, mF, kF, bF⟩ := hF
  refine F.ok scTo (fun vs H Q E h => ?_) (fun cdv A outer s H vs Q E hr h => ?_)
  · obtain ⟨a, b, rooms, ws, m, rfl, _⟩ := h
    rfl
  · obtain ⟨a, b, rooms, ws, m, rfl, ha, ⟨as, hb, hp⟩, hw, hm, k⟩ := h
    have hr1 : Room 1 _ := hr.mono (by decide)
    refine ⟨_, pss_one (ps_ret (pe_ix ix_list (pe_call GF hr rfl mF kF bF .nil pass0 (pa_cons (pv 0) (pa_cons (pe_call GT hr1 rfl mT kT bT .nil pass0 (pa_cons
      (pe_lc (g := gTup K 2 (gCons (gName 3) (gCons (gName 4) gNil))) (own := [("need", 3), ("pays", 4)]) rfl scTo.nd (pi_list (pv 1)) (blkOk_by (by change blkC ["rooms", "wants", "chosen", "need", "pays"] (defScope sTog) _ _ = true; decide +kernel)) (fun _ _ _ _ _ => pg_tup (n := 2) rfl (pgs_cons (pg_name (i := 3) scTo.nd rfl (Or.inl rfl) (Or.inr rfl)) (pgs_cons (pg_name (i := 4) scTo.nd rfl (Or.inl rfl) (Or.inr rfl)) pgs_nil))) (fun _ _ _ _ _ => pts_nil) (fun _ _ _ _ _ => pv 3)) pa_nil)) pa_nil))) (pv 2) (fun _ _ => rfl))), ?_⟩
    refine ⟨_, rfl, _, rfl, b, rfl, ⟨_, SqL.of hb⟩, fun D hD => lc_map (K := K) (xs := as.map V.ref) (ys := List.map nint (ws.map (·.1))) (SqL.of hb) hD (by simp [hp.1]) (by rw [List.length_map, hp.1]; exact line_small (by omega)) (fun i x y H1 R hx hy s1 r => ?_) (fun H1 s1 hD1 => ?_)⟩
    · obtain ⟨t, w, rfl, ht, hwi, hH⟩ := hp.elt hx
      have ey : y = nint w.1 := by
        rw [List.map_map, List.getElem?_map, hwi] at hy
        exact (Option.some.inj hy).symm
      refine ⟨t, _, rfl, SqT.of (s1 _ _ hH), rfl, _, _, rfl, _, _, rfl, rfl, rfl, _, rfl, ?_⟩
      rw [← ey]
      exact r _ (Same.refl _)
    · refine ⟨D, ws.map (·.1), rfl, hD1, by rw [List.length_map]; exact hw, fun H2 p2 s2 hp2 hp3 => ?_⟩
      have s02 := s1.trans s2
      refine ⟨a, p2, rooms, totals (ws.map (·.1)), rfl, s02 _ _ ha, hp3, totals_small (by rw [List.length_map]; exact hw), fun H3 p4 s3 hp4 hp5 => ?_⟩
      have hlen : m < (fillable rooms (totals (ws.map (·.1)))).length := by
        rw [fillable_len, totals_len, List.length_map]
        exact hm
      have hget : (fillable rooms (totals (ws.map (·.1))))[m]? = some ((fillable rooms (totals (ws.map (·.1)))).getD m false) := by
        rw [List.getD_eq_getElem?_getD, List.getElem?_eq_getElem hlen]
        rfl
      exact ⟨_, rfl, p4, _, _, _, rfl, rfl, SqL.of hp5, atI_nat (get_map hget), k H3 (s02.trans s3)⟩
end
end Cut

set_option Elab.async false
set_option linter.all false
set_option maxRecDepth 100000
set_option maxHeartbeats 2000000
namespace Cut
open PySem PySem.Spec PyProof.Rows L2
abbrev sInitL : Stmt := inClass (top 28) 0
abbrev sInitW : Stmt := inClass (top 29) 0
abbrev sHas : Stmt := top 30
abbrev sMuch : Stmt := top 31
abbrev sLeftP : Stmt := top 32
abbrev sAll : Stmt := top 33
abbrev sWith : Stmt := top 34
abbrev sBrings : Stmt := top 35
abbrev sPlaces : Stmt := top 36
/-- the two classes -/
structure Txt (K : PySem.W.Frag) (C CL : Addr) : Prop where
  cl : Cls K C
  clL : Cls K CL
  nBeg : NoAttr K C "begun"
  nKer : NoAttr K C "kerf"
  nLen : NoAttr K C "lengths"
  nOrd : NoAttr K C "orders"
  nSol : NoAttr K C "sold"
  nBro : NoAttr K C "brought"
  nCut : NoAttr K CL "cut_off"
  nMet : NoAttr K CL "metres"
  nFau : NoAttr K CL "faults"
structure LensAt (CL : Addr) (H : Hp) (la : Addr) (ls : List LR) (raws : List Raw) : Prop where
  lst : H la = some (.lst (lrefs ls))
  lens : LensIn CL H ls raws
  three : raws.length ≤ 3
  few : ∀ w ∈ raws, w.fp.length ≤ 3
theorem LensAt.same {CL : Addr} {H H' : Hp} {la : Addr} {ls : List LR} {raws : List Raw} (h : LensAt CL H la ls raws) (s : Same H H') : LensAt CL H' la ls raws := ⟨s _ _ h.lst, h.lens.same s, h.three, h.few⟩
theorem LensAt.flat {CL : Addr} {H : Hp} {la : Addr} {ls : List LR} {raws : List Raw} (h : LensAt CL H la ls raws) : (raws.flatMap Raw.pieces).length ≤ 12 := by
  have := flat_len h.few
  have := h.three
  omega
theorem LensIn.set {CL : Addr} {H : Hp} {ls : List LR} {raws : List Raw} (h : LensIn CL H ls raws) {i : Nat} {x : LR} {w : Raw} (h1 : H x.r = some (.ins CL x.dx (lf w.c w.m x.fa))) (h2 : H x.fa = some (.lst (List.map nint w.fp))) : LensIn CL H (ls.set i x) (raws.set i w) := by
  refine ⟨by rw [List.length_set, List.length_set]; exact h.1, fun j y u e1 e2 => ?_⟩
  rw [List.getElem?_set] at e1 e2
  by_cases e : i = j
  · rw [if_pos e] at e1 e2
    split at e1
    · split at e2
      · cases e1
        cases e2
        exact ⟨h1, h2⟩
      · cases e2
    · cases e1
  · rw [if_neg e] at e1 e2
    exact h.2 j y u e1 e2
theorem lrefs_set (ls : List LR) (i : Nat) (x : LR) : lrefs (ls.set i x) = (lrefs ls).set i (.ref x.r) := by
  unfold lrefs
  rw [List.map_set]
theorem lrefs_get {ls : List LR} {i : Nat} {x : LR} (h : ls[i]? = some x) : (lrefs ls)[i]? = some (.ref x.r) := by
  unfold lrefs
  rw [List.getElem?_map, h]
  rfl
section
variable {P : Program} {w : World} {K : PySem.W.Frag} {mg : Str → Option Value} {base : Heap} {C CL : Addr}
/-! ### Length -/
theorem scIL : FnScope ["self", "cut_off", "metres", "faults"] ["self", "cut_off", "metres", "faults"] (defScope sInitL) := ⟨rfl, rfl, rfl, by decide +kernel, rfl, by decide +kernel, by decide +kernel⟩
def spInitL (CL : Addr) : Sp := fun vs H Q _ => ∃ (p dx fa : Addr) (c m : Nat), vs = [.ref p, nint c, nint m, .ref fa] ∧ H p = some (.ins CL dx []) ∧ Q .non (upd H p (.ins CL dx (lf c m fa)))
theorem ok_initL {f : Addr} {fd : FuncData} (F : Fun K "__init__" "Length.__init__" sInitL f fd) (T : Txt K C CL) : FnOk P w K mg base CX0 1 f fd ["self", "cut_off", "metres", "faults"] (spInitL CL) := by
  refine F.ok scIL (fun vs H Q E h => ?_) (fun cdv A outer s H vs Q E hr h => ?_)
  · obtain ⟨p, dx, fa, c, m, rfl, _⟩ := h
    rfl
  · obtain ⟨p, dx, fa, c, m, rfl, hp, k⟩ := h
    refine ⟨_, pss_cons (ps_fld (pv 0) (pv 1) rfl) (pss_cons (ps_fld (pv 0) (pv 2) rfl) (pss_one (ps_fld (pv 0) (pv 3) rfl))), ?_⟩
    refine ⟨_, rfl, _, rfl, p, CL, dx, [], rfl, hp, T.clL, T.nCut, (by show 0 < 1000; decide), ?_⟩
    refine ⟨_, rfl, _, rfl, p, CL, dx, _, rfl, upd_same, T.clL, T.nMet, (by show 1 < 1000; decide), ?_⟩
    refine ⟨_, rfl, _, rfl, p, CL, dx, _, rfl, upd_same, T.clL, T.nFau, (by show 2 < 1000; decide), ?_⟩
    rw [upd_upd, upd_upd]
    exact k
/-! ### has_left, how_much_is_left, pieces_left -/
theorem scHa : FnScope ["length", "metre"] ["length", "metre"] (defScope sHas) := ⟨rfl, rfl, rfl, by decide +kernel, rfl, by decide +kernel, by decide +kernel⟩
def spHas (CL : Addr) : Sp := fun vs H Q _ => ∃ (r dx fa : Addr) (c m f : Nat), vs = [.ref r, nint f] ∧ H r = some (.ins CL dx (lf c m fa)) ∧ Q (.bl (decide (c ≤ f) && decide (f < m))) H
theorem ok_has {f : Addr} {fd : FuncData} (F : Fun K "has_left" "has_left" sHas f fd) (T : Txt K C CL) : FnOk P w K mg base CX0 1 f fd ["length", "metre"] (spHas CL) := by
  refine F.ok scHa (fun vs H Q E h => ?_) (fun cdv A outer s H vs Q E hr h => ?_)
  · obtain ⟨r, dx, fa, c, m, f, rfl, _⟩ := h
    rfl
  · obtain ⟨r, dx, fa, c, m, f, rfl, hr0, k⟩ := h
    refine ⟨_, pss_one (ps_ret (pe_and (pe_cmpR op_le (pe_fld (pv 0) rfl) (pv 1) (nomark _)) (pe_one (pe_cmpR op_lt (pv 1) (pe_fld (pv 0) rfl) (nomark _))))), ?_⟩
    refine ⟨_, rfl, r, CL, dx, _, _, rfl, hr0, T.clL, T.nCut, lf_cut, _, rfl, _, _, rfl, rfl, _, rfl, ?_⟩
    by_cases e : c ≤ f
    · refine iteP (decide_eq_true (show (c : Int) ≤ (f : Int) by omega)) ⟨_, rfl, _, rfl, r, CL, dx, _, _, rfl, hr0, T.clL, T.nMet, lf_met, _, _, rfl, rfl, ?_⟩
      have e2 : decide ((f : Int) < (m : Int)) = (decide (c ≤ f) && decide (f < m)) := by
        rw [decide_eq_true e, Bool.true_and]
        by_cases q : f < m
        · rw [decide_eq_true q, decide_eq_true (by omega)]
        · rw [decide_eq_false q, decide_eq_false (by omega)]
      show Q (.bl (decide ((f : Int) < (m : Int)))) H
      rw [e2]
      exact k
    · refine iteN (decide_eq_false (show ¬ (c : Int) ≤ (f : Int) by omega)) ?_
      rw [decide_eq_false e, Bool.false_and] at k
      exact k
theorem scMu : FnScope ["length"] ["length"] (defScope sMuch) := ⟨rfl, rfl, rfl, by decide +kernel, rfl, by decide +kernel, by decide +kernel⟩
def spMuch (CL : Addr) : Sp := fun vs H Q _ => ∃ (r dx fa : Addr) (c m : Nat), vs = [.ref r] ∧ H r = some (.ins CL dx (lf c m fa)) ∧ c ≤ m ∧ Q (nint (m - c)) H
theorem ok_much {f : Addr} {fd : FuncData} (F : Fun K "how_much_is_left" "how_much_is_left" sMuch f fd) (T : Txt K C CL) : FnOk P w K mg base CX0 1 f fd ["length"] (spMuch CL) := by
  refine F.ok scMu (fun vs H Q E h => ?_) (fun cdv A outer s H vs Q E hr h => ?_)
  · obtain ⟨r, dx, fa, c, m, rfl, _⟩ := h
    rfl
  · obtain ⟨r, dx, fa, c, m, rfl, hr0, cm, k⟩ := h
    refine ⟨_, pss_one (ps_ret (pe_op op_sub (pe_fld (pv 0) rfl) (pe_fld (pv 0) rfl))), ?_⟩
    refine ⟨_, rfl, r, CL, dx, _, _, rfl, hr0, T.clL, T.nMet, lf_met, _, rfl, r, CL, dx, _, _, rfl, hr0, T.clL, T.nCut, lf_cut, _, _, rfl, rfl, ?_⟩
    show Q (V.int ((m : Int) - (c : Int))) H
    rw [esub cm]
    exact k
theorem scLP : FnScope ["length"] ["length"] (defScope sLeftP) := ⟨rfl, rfl, rfl, by decide +kernel, rfl, by decide +kernel, by decide +kernel⟩
def spLeftP (CL : Addr) : Sp := fun vs H Q _ => ∃ (x : LR) (w : Raw), vs = [.ref x.r] ∧ H x.r = some (.ins CL x.dx (lf w.c w.m x.fa)) ∧ H x.fa = some (.lst (List.map nint w.fp)) ∧ w.fp.length ≤ 3 ∧ ∀ (H' : Hp) (p : Addr), Same H H' → H p = none → PairsAt H' p w.pieces → Q (.ref p) H'
theorem ok_leftP {f : Addr} {fd : FuncData} (F : Fun K "pieces_left" "pieces_left" sLeftP f fd) (T : Txt K C CL) (hP : Has P w K mg base "pieces_of" 1 ["begins", "ends", "faults"] spPieces) : FnOk P w K mg base CX0 2 f fd ["length"] (spLeftP CL) := by
  obtain ⟨fP, fdP, GP, mP, kP, bP⟩ := hP
  refine F.ok scLP (fun vs H Q E h => ?_) (fun cdv A outer s H vs Q E hr h => ?_)
  · obtain ⟨x, w, rfl, _⟩ := h
    rfl
  · obtain ⟨x, w, rfl, h1, h2, hf, k⟩ := h
    refine ⟨_, pss_one (ps_ret (pe_call GP hr rfl mP kP bP .nil pass0 (pa_cons (pe_fld (pv 0) rfl) (pa_cons (pe_fld (pv 0) rfl) (pa_cons (pe_fld (pv 0) rfl) pa_nil))))), ?_⟩
    exact ⟨_, rfl, x.r, CL, x.dx, _, _, rfl, h1, T.clL, T.nCut, lf_cut, _, rfl, x.r, CL, x.dx, _, _, rfl, h1, T.clL, T.nMet, lf_met, _, rfl, x.r, CL, x.dx, _, _, rfl, h1, T.clL, T.nFau, lf_fau, w.c, w.m, x.fa, w.fp, rfl, h2, hf, k⟩
/-! ### all_pieces -/
theorem scAl : FnScope ["lengths", "pieces", "length"] ["lengths"] (defScope sAll) := ⟨rfl, rfl, rfl, by decide +kernel, rfl, by decide +kernel, by decide +kernel⟩
def spAll (CL : Addr) : Sp := fun vs H Q _ => ∃ (la : Addr) (ls : List LR) (raws : List Raw), vs = [.ref la] ∧ LensAt CL H la ls raws ∧ ∀ (H' : Hp) (p : Addr), Same H H' → H p = none → PairsAt H' p (raws.flatMap Raw.pieces) → Q (.ref p) H'
theorem ok_all {f : Addr} {fd : FuncData} (F : Fun K "all_pieces" "all_pieces" sAll f fd) (hL : Has P w K mg base "pieces_left" 2 ["length"] (spLeftP CL)) : FnOk P w K mg base CX0 3 f fd ["lengths"] (spAll CL) := by
  obtain ⟨fL, fdL, GL, mL, kL, bL⟩ := hL
  refine F.ok scAl (fun vs H Q E h => ?_) (fun cdv A outer s H vs Q E hr h => ?_)
  · obtain ⟨la, ls, raws, rfl, _⟩ := h
    rfl
  · obtain ⟨la, ls, raws, rfl, A0, k⟩ := h
    refine ⟨_, pss_cons (ps_set (i := 1) scAl.nd rfl (Or.inl rfl) (pe_lst pa_nil))
      (pss_cons (ps_for PassesOwn.never rfl (pi_list (pv 0)) (pg_name (i := 2) scAl.nd rfl (Or.inl rfl))
        (pss_one (ps_expr (pe_bm PySem.F.plainAttrs_list PySem.F.slot_list_extend PySem.F.type_list_extend mt_extend (pv 1) (pa_cons (pe_call GL hr rfl mL kL bL .nil pass0 (pa_cons (pv 2) pa_nil)) pa_nil)))))
      (pss_one (ps_ret (pv 1)))), ?_⟩
    refine ⟨Nat.zero_le _, fun q hq => ?_⟩
    have sq : Same H (upd H q (.lst [])) := Same.fresh hq
    refine ⟨_, rfl, la, rfl, ⟨_, SqL.of (sq _ _ A0.lst)⟩, for_list (K := K) (a := la) (xs := lrefs ls) (fun i σ H' => ∃ (v2 : Option V) (ts : List Addr), σ = [some (.ref la), some (.ref q), v2] ∧ Same H H' ∧ H' q = some (.lst (ts.map V.ref)) ∧ PairsIn H' ts ((raws.take i).flatMap Raw.pieces))
      ⟨none, [], rfl, sq, upd_same, rfl, fun i w e => by simp at e⟩ (fun i σ H' _ ⟨_, _, _, s1, _⟩ => SqL.of (s1 _ _ A0.lst)) ?_ ?_⟩
    · rintro i y σ H1 hy ⟨v2, ts, rfl, s1, hq1, hts⟩
      obtain ⟨x, hx, rfl⟩ := map_get hy
      have hi : i < raws.length := by rw [← A0.lens.1]; exact (List.getElem?_eq_some_iff.mp hx).1
      have hw := List.getElem?_eq_getElem hi
      obtain ⟨h1, h2⟩ := A0.lens.2 i x _ hx hw
      refine ⟨_, rfl, .inl ⟨rfl, _, SqL.of hq1⟩, _, rfl, x, raws[i], rfl, s1 _ _ h1, s1 _ _ h2, A0.few _ (List.getElem_mem hi), fun H2 p2 s2 hp2 ⟨us, hu, hus⟩ => ?_⟩
      refine ⟨q, p2, _, _, rfl, rfl, s2 _ _ hq1, hu, ?_, ?_⟩
      · rw [List.length_map, List.length_map, hts.1, hus.1]
        have a1 := flat_len (raws := raws.take i) fun w hw => A0.few w (List.mem_of_mem_take hw)
        have a2 := raw_len (A0.few _ (List.getElem_mem hi))
        have a3 := A0.three
        rw [List.length_take] at a1
        exact line_small (by omega)
      · refine ⟨some (.ref x.r), ts ++ us, rfl, (s1.trans s2).new hq, by rw [upd_same, List.map_append], ?_⟩
        rw [take_snoc hw, List.flatMap_append]
        have e1 : ([raws[i]] : List Raw).flatMap Raw.pieces = raws[i].pieces := by simp
        rw [e1]
        exact ((hts.same s2).append hus).updL (s2 _ _ hq1)
    · rintro σ H1 ⟨v2, ts, rfl, s1, hq1, hts⟩
      rw [List.length_map, A0.lens.1, List.take_length] at hts
      exact ⟨_, rfl, k H1 q s1 hq ⟨ts, hq1, hts⟩⟩
/-! ### with_fault -/
theorem scWi : FnScope ["lengths", "number", "metre", "length", "changed"] ["lengths", "number", "metre"] (defScope sWith) := ⟨rfl, rfl, rfl, by decide +kernel, rfl, by decide +kernel, by decide +kernel⟩
def spWith (CL : Addr) : Sp := fun vs H Q _ => ∃ (la : Addr) (ls : List LR) (raws : List Raw) (i f : Nat) (w : Raw), vs = [.ref la, nint i, nint f] ∧ H la = some (.lst (lrefs ls)) ∧ LensIn CL H ls raws ∧ raws[i]? = some w ∧ w.fp.length ≤ 3 ∧
  ∀ (H' : Hp) (p : Addr) (x : LR), Same H H' → H p = none → H x.r = none → H x.fa = none → p ≠ x.fa → H' p = some (.lst (lrefs (ls.set i x))) → LensIn CL H' (ls.set i x) (raws.set i (w.more f)) → Q (.ref p) H'
theorem ok_with {f fI : Addr} {fd fdI : FuncData} (F : Fun K "with_fault" "with_fault" sWith f fd) (T : Txt K C CL) (O : Own mg) (M : Mk K CL fI) (mC : mg "Length" = some (.ref CL)) (GI : FnOk P w K mg base CX0 1 fI fdI ["self", "cut_off", "metres", "faults"] (spInitL CL)) (bI : Binds K fdI ["self", "cut_off", "metres", "faults"] []) :
    FnOk P w K mg base CX0 3 f fd ["lengths", "number", "metre"] (spWith CL) := by
  refine F.ok scWi (fun vs H Q E h => ?_) (fun cdv A outer s H vs Q E hr h => ?_)
  · obtain ⟨la, ls, raws, i, f, w, rfl, _⟩ := h
    rfl
  · obtain ⟨la, ls, raws, i, f, w, rfl, hla, hl, hw, hf3, k⟩ := h
    obtain ⟨x, hx, h1, h2⟩ := hl.at_ hw
    have hi : i < ls.length := (List.getElem?_eq_some_iff.mp hx).1
    refine ⟨_, pss_cons (ps_set (i := 3) scWi.nd rfl (Or.inl rfl) (pe_ix ix_list (pv 0) (pv 1) (fun _ _ => rfl)))
      (pss_cons (ps_set (i := 4) scWi.nd rfl (Or.inl rfl) (pe_callTy call_list_of rfl O.list PyProof.Rows.boot_list (pa_cons (pv 0) pa_nil)))
      (pss_cons (ps_asg (pe_make M GI hr rfl mC bI .nil pass0 (pa_cons (pe_fld (pv 3) rfl) (pa_cons (pe_fld (pv 3) rfl) (pa_cons (pe_op op_cat (pe_fld (pv 3) rfl) (pe_lst (pa_cons (pv 2) pa_nil))) pa_nil)))) (pg_sub (pv 4) (pv 1) set_list))
      (pss_one (ps_ret (pv 4))))), ?_⟩
    refine ⟨_, rfl, _, rfl, la, _, _, _, rfl, rfl, SqL.of hla, atI_nat (lrefs_get hx), ?_⟩
    refine ⟨_, rfl, la, _, rfl, .inl (SqL.of hla), fun p hp => ?_⟩
    have s1 : Same H (upd H p (.lst (lrefs ls))) := Same.fresh hp
    refine ⟨_, rfl, x.r, CL, x.dx, _, _, rfl, s1 _ _ h1, T.clL, T.nCut, lf_cut, _, rfl, x.r, CL, x.dx, _, _, rfl, s1 _ _ h1, T.clL, T.nMet, lf_met, _, rfl, x.r, CL, x.dx, _, _, rfl, s1 _ _ h1, T.clL, T.nFau, lf_fau, _, rfl, (by show 1 ≤ sizeLine; decide), fun p1 hp1 => ?_⟩
    have s2 : Same (upd H p (.lst (lrefs ls))) (upd (upd H p (.lst (lrefs ls))) p1 (.lst [nint f])) := Same.fresh hp1
    refine ⟨x.fa, p1, _, _, rfl, rfl, s2 _ _ (s1 _ _ h2), upd_same, ?_, fun p2 hp2 => ?_⟩
    · rw [List.length_map]
      exact line_small (by show w.fp.length + 1 ≤ 1000; omega)
    have ef : List.map nint w.fp ++ [nint f] = List.map nint (w.fp ++ [f]) := by
      rw [List.map_append]
      rfl
    rw [ef]
    have s3 := s2.new (o := .lst (List.map nint (w.fp ++ [f]))) (s2.free hp2)
    have hp3 : (upd (upd (upd H p (.lst (lrefs ls))) p1 (.lst [nint f])) p2 (.lst (List.map nint (w.fp ++ [f])))) p = some (.lst (lrefs ls)) := s3 _ _ upd_same
    have hq3 : (upd (upd (upd H p (.lst (lrefs ls))) p1 (.lst [nint f])) p2 (.lst (List.map nint (w.fp ++ [f])))) p2 = some (.lst (List.map nint (w.fp ++ [f]))) := upd_same
    have s03 := s1.trans s3
    have npq : p ≠ p2 := ne_of_none (s2 _ _ upd_same) hp2
    have fq : H p2 = none := (s1.trans s2).free hp2
    generalize (upd (upd (upd H p (.lst (lrefs ls))) p1 (.lst [nint f])) p2 (.lst (List.map nint (w.fp ++ [f])))) = H3 at hp3 hq3 s03
    intro nr ndx n1 n2 n3
    refine ⟨nr, ndx, p2, w.c, w.m, rfl, upd_same, rfl, ?_⟩
    rw [upd_upd]
    have s4 : Same H3 (upd (upd H3 ndx (.own nr)) nr (.ins CL ndx (lf w.c w.m p2))) := (Same.fresh n2).new n1
    have npr : p ≠ nr := ne_of_none hp3 n1
    refine ⟨_, rfl, _, rfl, p, _, _, i, rfl, rfl, s4 _ _ hp3, ixN_nat (by rw [List.length_map]; exact hi), ?_⟩
    have s04 := (s03.trans s4).new (o := .lst ((lrefs ls).set i (.ref nr))) hp
    refine ⟨_, rfl, k _ p ⟨nr, ndx, p2⟩ s04 hp (s03.free n1) fq npq (by rw [upd_same, lrefs_set]) ?_⟩
    refine (hl.same s04).set ?_ ?_
    · show upd _ p _ nr = _
      rw [upd_ne (Ne.symm npr), upd_same]
      rfl
    · show upd _ p _ p2 = _
      rw [upd_ne (Ne.symm npq)]
      exact s4 _ _ hq3
/-! ### brings, places_of -/
theorem scBr : FnScope ["kerf", "lengths", "orders"] ["kerf", "lengths", "orders"] (defScope sBrings) := ⟨rfl, rfl, rfl, by decide +kernel, rfl, by decide +kernel, by decide +kernel⟩
def spBrings (CL : Addr) : Sp := fun vs H Q _ => ∃ (kerf : Nat) (la : Addr) (ls : List LR) (raws : List Raw) (oa : Addr) (os : List (Nat × Nat)), vs = [nint kerf, .ref la, .ref oa] ∧ LensAt CL H la ls raws ∧ PairsAt H oa os ∧ os.length ≤ 4 ∧
  ∀ (H' : Hp), Same H H' → Q (nint (mostBrought (roomsR kerf (raws.flatMap Raw.pieces)) (wantsR kerf os))) H'
theorem ok_brings {f : Addr} {fd : FuncData} (F : Fun K "brings" "brings" sBrings f fd) (hA : Has P w K mg base "all_pieces" 3 ["lengths"] (spAll CL)) (hR : Has P w K mg base "rooms_of" 1 ["pieces", "kerf"] spRooms) (hW : Has P w K mg base "wants_of" 1 ["orders", "kerf"] spWants) (hM : Has P w K mg base "most_brought" 3 ["rooms", "wants"] spMost) :
    FnOk P w K mg base CX0 4 f fd ["kerf", "lengths", "orders"] (spBrings CL) := by
  obtain ⟨fA, fdA, GA, mA, kA, bA⟩ := hA
  obtain ⟨fR, fdR, GR, mR, kR, bR⟩ := hR
  obtain ⟨fW, fdW, GW, mW, kW, bW⟩ := hW
  obtain ⟨fM, fdM, GM, mM, kM, bM⟩ := hM
  refine F.ok scBr (fun vs H Q E h => ?_) (fun cdv A outer s H vs Q E hr h => ?_)
  · obtain ⟨kerf, la, ls, raws, oa, os, rfl, _⟩ := h
    rfl
  · obtain ⟨kerf, la, ls, raws, oa, os, rfl, A0, hO, hos, k⟩ := h
    have hr1 : Room 1 _ := hr.mono (by decide)
    refine ⟨_, pss_one (ps_ret (pe_call GM hr rfl mM kM bM .nil pass0 (pa_cons (pe_call GR hr1 rfl mR kR bR .nil pass0 (pa_cons (pe_call GA hr rfl mA kA bA .nil pass0 (pa_cons (pv 1) pa_nil)) (pa_cons (pv 0) pa_nil))) (pa_cons (pe_call GW hr1 rfl mW kW bW .nil pass0 (pa_cons (pv 2) (pa_cons (pv 0) pa_nil))) pa_nil)))), ?_⟩
    refine ⟨_, rfl, la, ls, raws, rfl, A0, fun H1 p1 s1 hp1 P1 => ⟨_, rfl, p1, kerf, _, rfl, P1, by have := A0.flat; omega, fun p hp => flat_lt hp, fun H2 p2 s2 hp2 R2 => ⟨_, rfl, _, rfl, oa, kerf, os, rfl, hO.same (s1.trans s2), hos, fun H3 p3 s3 hp3 P3 => ⟨p2, p3, _, _, rfl, s3 _ _ R2, P3, by rw [List.length_map]; exact hos, fun H4 s4 => ?_⟩⟩⟩⟩
    exact k H4 (((s1.trans s2).trans s3).trans s4)
theorem scPl : FnScope ["works", "rooms"] ["works"] (defScope sPlaces) := ⟨rfl, rfl, rfl, by decide +kernel, rfl, by decide +kernel, by decide +kernel⟩
theorem Shape.at_ {H : Hp} {wa : Addr} {L : Lay} {raws : List Raw} {bg : Bool} {s : Kp242.Store} (h : Shape C CL H wa L raws bg s) : LensAt CL H L.la L.ls raws := ⟨h.lst, h.lens, h.good.ls, fun w hw => Nat.le_succ_of_le (h.good.each w hw).few⟩
theorem Shape.pairs {H : Hp} {wa : Addr} {L : Lay} {raws : List Raw} {bg : Bool} {s : Kp242.Store} (h : Shape C CL H wa L raws bg s) : PairsAt H L.oa (s.orders.map prO) := ⟨L.os, h.ord, h.ords⟩
def spPlaces (C CL : Addr) : Sp := fun vs H Q _ => ∃ (wa : Addr) (L : Lay) (raws : List Raw) (s : Kp242.Store), vs = [.ref wa] ∧ Shape C CL H wa L raws true s ∧ ∀ (H' : Hp) (p : Addr), Same H H' → H p = none → H' p = some (.lst (List.map nint (Kp242.best s))) → Q (.ref p) H'
theorem ok_places {f : Addr} {fd : FuncData} (F : Fun K "places_of" "places_of" sPlaces f fd) (T : Txt K C CL) (hA : Has P w K mg base "all_pieces" 3 ["lengths"] (spAll CL)) (hR : Has P w K mg base "rooms_of" 1 ["pieces", "kerf"] spRooms) (hW : Has P w K mg base "wants_of" 1 ["orders", "kerf"] spWants) (hB : Has P w K mg base "best_plan" 5 ["rooms", "wants"] spBest) :
    FnOk P w K mg base CX0 6 f fd ["works"] (spPlaces C CL) := by
  obtain ⟨fA, fdA, GA, mA, kA, bA⟩ := hA
  obtain ⟨fR, fdR, GR, mR, kR, bR⟩ := hR
  obtain ⟨fW, fdW, GW, mW, kW, bW⟩ := hW
  obtain ⟨fB, fdB, GB, mB, kB, bB⟩ := hB
  refine F.ok scPl (fun vs H Q E h => ?_) (fun cdv A outer s H vs Q E hr h => ?_)
  · obtain ⟨wa, L, raws, s, rfl, _⟩ := h
    rfl
  · obtain ⟨wa, L, raws, s, rfl, S, k⟩ := h
    have hr1 : Room 1 _ := hr.mono (by decide)
    have hr3 : Room 3 _ := hr.mono (by decide)
    refine ⟨_, pss_cons (ps_set (i := 1) scPl.nd rfl (Or.inl rfl) (pe_call GR hr1 rfl mR kR bR .nil pass0 (pa_cons (pe_call GA hr3 rfl mA kA bA .nil pass0 (pa_cons (pe_fld (pv 0) rfl) pa_nil)) (pa_cons (pe_fld (pv 0) rfl) pa_nil))))
      (pss_one (ps_ret (pe_call GB hr rfl mB kB bB .nil pass0 (pa_cons (pv 1) (pa_cons (pe_call GW hr1 rfl mW kW bW .nil pass0 (pa_cons (pe_fld (pv 0) rfl) (pa_cons (pe_fld (pv 0) rfl) pa_nil))) pa_nil))))), ?_⟩
    have hos : (s.orders.map prO).length ≤ 4 := by rw [List.length_map]; exact S.good.os
    refine ⟨_, rfl, wa, C, L.dx, _, _, rfl, S.obj, T.cl, T.nLen, wf_len, L.la, L.ls, raws, rfl, S.at_, fun H1 p1 s1 hp1 P1 => ⟨_, rfl, wa, C, L.dx, _, _, rfl, s1 _ _ S.obj, T.cl, T.nKer, wf_ker, p1, s.kerf, _, rfl, P1, by have := S.at_.flat; omega, fun p hp => flat_lt hp, fun H2 p2 s2 hp2 R2 => ?_⟩⟩
    have s02 := s1.trans s2
    refine ⟨_, rfl, _, rfl, wa, C, L.dx, _, _, rfl, s02 _ _ S.obj, T.cl, T.nOrd, wf_ord, _, rfl, wa, C, L.dx, _, _, rfl, s02 _ _ S.obj, T.cl, T.nKer, wf_ker, L.oa, s.kerf, _, rfl, S.pairs.same s02, hos, fun H3 p3 s3 hp3 P3 => ⟨p2, p3, _, _, rfl, s3 _ _ R2, P3, by rw [List.length_map]; exact hos, ?_, fun H4 p4 s4 hp4 R4 => ?_⟩⟩
    · unfold roomsR
      rw [List.length_map]
      have := S.at_.flat
      omega
    · have s03 := s02.trans s3
      refine k H4 p4 (s03.trans s4) (s03.free hp4) ?_
      rw [best_raw S.good]
      exact R4
/-! ### Works -/
theorem scIW : FnScope ["self"] ["self"] (defScope sInitW) := ⟨rfl, rfl, rfl, by decide +kernel, rfl, by decide +kernel, by decide +kernel⟩
theorem good_empty (k : Nat) : Good ⟨k, [], [], 0, 0⟩ [] := ⟨rfl, by decide, fun w hw => by simp at hw, by show 0 ≤ 4; decide, fun o ho => by simp at ho⟩
theorem ok_initW {f : Addr} {fd : FuncData} (F : Fun K "__init__" "Works.__init__" sInitW f fd) (T : Txt K C CL) : FnOk P w K mg base CX0 1 f fd ["self"] (spInitW (ZF C CL) C) := by
  refine F.ok scIW (fun vs H Q E h => ?_) (fun cdv A outer s H vs Q E hr h => ?_)
  · obtain ⟨p, dx, rfl, _⟩ := h
    rfl
  · obtain ⟨p, dx, rfl, hp, k⟩ := h
    refine ⟨_, pss_cons (ps_fld (pv 0) pe_bl rfl) (pss_cons (ps_fld (pv 0) pe_int rfl) (pss_cons (ps_fld (pv 0) (pe_lst pa_nil) rfl) (pss_cons (ps_fld (pv 0) (pe_lst pa_nil) rfl) (pss_cons (ps_fld (pv 0) pe_int rfl) (pss_one (ps_fld (pv 0) pe_int rfl)))))), ?_⟩
    refine ⟨_, rfl, p, C, dx, [], rfl, hp, T.cl, T.nBeg, (by show 0 < 1000; decide), ?_⟩
    refine ⟨_, rfl, p, C, dx, _, rfl, upd_same, T.cl, T.nKer, (by show 1 < 1000; decide), ?_⟩
    rw [upd_upd]
    refine ⟨Nat.zero_le _, fun la hla => ⟨_, rfl, p, C, dx, _, rfl, by rw [upd_ne (ne_of_none upd_same hla)]; exact upd_same, T.cl, T.nLen, (by show 2 < 1000; decide), ?_⟩⟩
    have npl : p ≠ la := ne_of_none upd_same hla
    refine ⟨Nat.zero_le _, fun oa hoa => ⟨_, rfl, p, C, dx, _, rfl, by rw [upd_ne (ne_of_none upd_same hoa)]; exact upd_same, T.cl, T.nOrd, (by show 3 < 1000; decide), ?_⟩⟩
    have npo : p ≠ oa := ne_of_none upd_same hoa
    have nlo : la ≠ oa := ne_of_none (by rw [upd_ne (Ne.symm npl)]; exact upd_same) hoa
    have fl : H la = none := by rw [upd_ne (Ne.symm npl)] at hla; exact hla
    have fo : H oa = none := by rw [upd_ne (Ne.symm npo), upd_ne (Ne.symm nlo), upd_ne (Ne.symm npo)] at hoa; exact hoa
    refine ⟨_, rfl, p, C, dx, _, rfl, upd_same, T.cl, T.nSol, (by show 4 < 1000; decide), ?_⟩
    refine ⟨_, rfl, p, C, dx, _, rfl, upd_same, T.cl, T.nBro, (by show 5 < 1000; decide), ?_⟩
    rw [upd_upd, upd_upd]
    have sh : Shape C CL (upd (upd (upd (upd (upd H p (.ins C dx [("begun", .bl false), ("kerf", nint 0)])) la (.lst [])) p (.ins C dx [("begun", .bl false), ("kerf", nint 0), ("lengths", .ref la)])) oa (.lst [])) p (.ins C dx (wf false 0 la oa 0 0))) p ⟨dx, la, oa, [], []⟩ [] false empty := by
      refine ⟨upd_same, ?_, ⟨rfl, fun i x w e => by simp at e⟩, by simp, ?_, ⟨rfl, fun i w e => by simp [empty] at e⟩, nlo, fun x hx => by simp at hx, good_empty 0⟩
      · rw [upd_ne (Ne.symm npl), upd_ne nlo, upd_ne (Ne.symm npl), upd_same]
        rfl
      · rw [upd_ne (Ne.symm npo), upd_same]
        rfl
    refine k _ ⟨_, _, sh⟩ fun b o e nb => ⟨?_, fun nd z => ?_⟩
    · rw [upd_ne nb, upd_ne (ne_of_none e fo), upd_ne nb, upd_ne (ne_of_none e fl), upd_ne nb]
      exact e
    · have z := sh.own_iff.mp z
      unfold Lay.own at z
      simp at z
      rcases z with z | z | z
      · exact nb z
      · rw [z, fl] at e; cases e
      · rw [z, fo] at e; cases e
end
end Cut

set_option Elab.async false
set_option linter.all false
set_option maxRecDepth 100000
set_option maxHeartbeats 2000000
namespace Cut
open PySem PySem.Spec PyProof.Rows L2
/-! ### the object changes -/
section
variable {C CL : Addr} {H H1 : Hp} {wa : Addr} {L : Lay} {raws : List Raw} {bg : Bool} {s : Kp242.Store}
theorem wf_lf {C CL dx dx' la oa fa : Addr} {bg : Bool} {k so br c m : Nat} : HO.ins C dx (wf bg k la oa so br) ≠ HO.ins CL dx' (lf c m fa) := by
  intro z
  injection z with _ _ z
  have := congrArg List.length z
  simp [wf, lf] at this
theorem own_wa : wa ∈ L.own wa := by unfold Lay.own; simp
theorem own_la : L.la ∈ L.own wa := by unfold Lay.own; simp
theorem own_oa : L.oa ∈ L.own wa := by unfold Lay.own; simp
theorem own_r {x : LR} (h : x ∈ L.ls) : x.r ∈ L.own wa := by
  unfold Lay.own
  exact List.mem_cons_of_mem _ (List.mem_cons_of_mem _ (List.mem_cons_of_mem _ (List.mem_append_left _ (List.mem_append_left _ (List.mem_map_of_mem h)))))
theorem own_fa {x : LR} (h : x ∈ L.ls) : x.fa ∈ L.own wa := by
  unfold Lay.own
  exact List.mem_cons_of_mem _ (List.mem_cons_of_mem _ (List.mem_cons_of_mem _ (List.mem_append_left _ (List.mem_append_right _ (List.mem_map_of_mem h)))))
theorem own_o {a : Addr} (h : a ∈ L.os) : a ∈ L.own wa := by
  unfold Lay.own
  exact List.mem_cons_of_mem _ (List.mem_cons_of_mem _ (List.mem_cons_of_mem _ (List.mem_append_right _ h)))
theorem own_cases {b : Addr} (h : b ∈ L.own wa) : b = wa ∨ b = L.la ∨ b = L.oa ∨ (∃ x ∈ L.ls, b = x.r) ∨ (∃ x ∈ L.ls, b = x.fa) ∨ b ∈ L.os := by
  unfold Lay.own at h
  simp only [List.mem_cons, List.mem_append, List.mem_map] at h
  rcases h with h | h | h | (⟨x, h1, h2⟩ | ⟨x, h1, h2⟩) | h
  · exact .inl h
  · exact .inr (.inl h)
  · exact .inr (.inr (.inl h))
  · exact .inr (.inr (.inr (.inl ⟨x, h1, h2.symm⟩)))
  · exact .inr (.inr (.inr (.inr (.inl ⟨x, h1, h2.symm⟩))))
  · exact .inr (.inr (.inr (.inr (.inr h))))
/-- other orders in the same list -/
theorem Shape.ordsAt (S : Shape C CL H wa L raws bg s) (e : Same H H1) {os : List Addr} {ods : List Kp242.Order} (hp : PairsIn H1 os (ods.map prO)) (g : Good { s with orders := ods } raws) :
    Shape C CL (upd H1 L.oa (.lst (os.map V.ref))) wa { L with os := os } raws bg { s with orders := ods } := by
  have ho := e _ _ S.ord
  refine ⟨?_, ?_, ⟨S.lens.1, fun i x w e1 e2 => ?_⟩, S.nd, upd_same, hp.updL ho, S.lo, S.fal, g⟩
  · rw [upd_ne (ne_of (e _ _ S.obj) ho (by intro z; cases z))]
    exact e _ _ S.obj
  · show upd _ _ _ L.la = _
    rw [upd_ne S.lo]
    exact e _ _ S.lst
  · obtain ⟨a, b⟩ := S.lens.2 i x w e1 e2
    refine ⟨?_, ?_⟩
    · rw [upd_ne (ne_of (e _ _ a) ho (by intro z; cases z))]
      exact e _ _ a
    · rw [upd_ne (S.fal x (List.mem_of_getElem? e1)).2]
      exact e _ _ b
/-- other lengths in the same list -/
theorem Shape.lensAt (S : Shape C CL H wa L raws bg s) (e : Same H H1) {ls : List LR} {raws' : List Raw} {lens : List Kp242.Length} (hl : LensIn CL H1 ls raws') (nd : (ls.map LR.r).Nodup) (fal : ∀ x ∈ ls, x.fa ≠ L.la ∧ x.fa ≠ L.oa) (g : Good { s with lengths := lens } raws') :
    Shape C CL (upd H1 L.la (.lst (lrefs ls))) wa { L with ls := ls } raws' bg { s with lengths := lens } := by
  have ho := e _ _ S.lst
  refine ⟨?_, upd_same, ⟨hl.1, fun i x w e1 e2 => ?_⟩, nd, ?_, (S.ords.same e).updL ho, S.lo, fal, g⟩
  · rw [upd_ne (ne_of (e _ _ S.obj) ho (by intro z; cases z))]
    exact e _ _ S.obj
  · obtain ⟨a, b⟩ := hl.2 i x w e1 e2
    refine ⟨?_, ?_⟩
    · rw [upd_ne (ne_of a ho (by intro z; cases z))]
      exact a
    · rw [upd_ne (fal x (List.mem_of_getElem? e1)).1]
      exact b
  · show upd _ _ _ L.oa = _
    rw [upd_ne (Ne.symm S.lo)]
    exact e _ _ S.ord
/-- another list of lengths -/
theorem Shape.lensPut (S : Shape C CL H wa L raws bg s) (e : Same H H1) {la : Addr} {ls : List LR} {raws' : List Raw} {lens : List Kp242.Length} (hla : H1 la = some (.lst (lrefs ls))) (hl : LensIn CL H1 ls raws') (nd : (ls.map LR.r).Nodup) (lo : la ≠ L.oa) (fal : ∀ x ∈ ls, x.fa ≠ la ∧ x.fa ≠ L.oa) (g : Good { s with lengths := lens } raws') :
    Shape C CL (upd H1 wa (.ins C L.dx (wf bg s.kerf la L.oa s.sold s.brought))) wa { L with la := la, ls := ls } raws' bg { s with lengths := lens } := by
  have ho := e _ _ S.obj
  refine ⟨upd_same, ?_, ⟨hl.1, fun i x w e1 e2 => ?_⟩, nd, ?_, ?_, lo, fal, g⟩
  · show upd _ _ _ la = _
    rw [upd_ne (ne_of hla ho (by intro z; cases z))]
    exact hla
  · obtain ⟨a, b⟩ := hl.2 i x w e1 e2
    refine ⟨?_, ?_⟩
    · rw [upd_ne (ne_of a ho (fun z => wf_lf z.symm))]
      exact a
    · rw [upd_ne (ne_of b ho (by intro z; cases z))]
      exact b
  · show upd _ _ _ L.oa = _
    rw [upd_ne (ne_of (e _ _ S.ord) ho (by intro z; cases z))]
    exact e _ _ S.ord
  · refine ⟨S.ords.1, fun i w q => ?_⟩
    obtain ⟨a, h1, h2⟩ := (S.ords.same e).2 i w q
    exact ⟨a, h1, by rw [upd_ne (ne_of h2 ho (by intro z; cases z))]; exact h2⟩
/-- other numbers -/
theorem Shape.objAt (S : Shape C CL H wa L raws bg s) {so br : Nat} : Shape C CL (upd H wa (.ins C L.dx (wf bg s.kerf L.la L.oa so br))) wa L raws bg { s with sold := so, brought := br } := by
  have ho := S.obj
  refine ⟨upd_same, ?_, ⟨S.lens.1, fun i x w e1 e2 => ?_⟩, S.nd, ?_, ⟨S.ords.1, fun i w q => ?_⟩, S.lo, S.fal, ⟨S.good.eq, S.good.ls, S.good.each, S.good.os, S.good.pos⟩⟩
  · rw [upd_ne (ne_of S.lst ho (by intro z; cases z))]
    exact S.lst
  · obtain ⟨a, b⟩ := S.lens.2 i x w e1 e2
    refine ⟨?_, ?_⟩
    · rw [upd_ne (ne_of a ho (fun z => wf_lf z.symm))]
      exact a
    · rw [upd_ne (ne_of b ho (by intro z; cases z))]
      exact b
  · rw [upd_ne (ne_of S.ord ho (by intro z; cases z))]
    exact S.ord
  · obtain ⟨a, h1, h2⟩ := S.ords.2 i w q
    exact ⟨a, h1, by rw [upd_ne (ne_of h2 ho (by intro z; cases z))]; exact h2⟩
/-- a length is cut -/
theorem Shape.cutAt (S : Shape C CL H wa L raws bg s) {i c : Nat} {x : LR} {w : Raw} {lens : List Kp242.Length} (hx : L.ls[i]? = some x) (hw : raws[i]? = some w) (g : Good { s with lengths := lens } (raws.set i ⟨c, w.m, w.fp⟩)) :
    Shape C CL (upd H x.r (.ins CL x.dx (lf c w.m x.fa))) wa L (raws.set i ⟨c, w.m, w.fp⟩) bg { s with lengths := lens } := by
  obtain ⟨hr, hf⟩ := S.lens.2 i x w hx hw
  refine ⟨?_, ?_, ⟨by rw [List.length_set]; exact S.lens.1, fun j y u e1 e2 => ?_⟩, S.nd, ?_, ⟨S.ords.1, fun j u q => ?_⟩, S.lo, S.fal, g⟩
  · rw [upd_ne (ne_of S.obj hr wf_lf)]
    exact S.obj
  · rw [upd_ne (ne_of S.lst hr (by intro z; cases z))]
    exact S.lst
  · rw [List.getElem?_set] at e2
    by_cases e : i = j
    · subst e
      rw [hx] at e1
      cases e1
      rw [if_pos rfl, if_pos (List.getElem?_eq_some_iff.mp hw).1] at e2
      cases e2
      exact ⟨upd_same, by rw [upd_ne (ne_of hf hr (by intro z; cases z))]; exact hf⟩
    · rw [if_neg e] at e2
      obtain ⟨a, b⟩ := S.lens.2 j y u e1 e2
      refine ⟨?_, ?_⟩
      · rw [upd_ne fun z => e (nd_ix S.nd (x := x.r) (by rw [List.getElem?_map, hx]; rfl) (by rw [List.getElem?_map, e1, ← z]; rfl))]
        exact a
      · rw [upd_ne (ne_of b hr (by intro z; cases z))]
        exact b
  · rw [upd_ne (ne_of S.ord hr (by intro z; cases z))]
    exact S.ord
  · obtain ⟨a, h1, h2⟩ := S.ords.2 j u q
    exact ⟨a, h1, by rw [upd_ne (ne_of h2 hr (by intro z; cases z))]; exact h2⟩
/-- begun anew -/
theorem Shape.anew (S : Shape C CL H wa L raws bg s) (e : Same H H1) {la oa : Addr} {k : Nat} (hla : H1 la = some (.lst [])) (hoa : H1 oa = some (.lst [])) (lo : la ≠ oa) :
    Shape C CL (upd H1 wa (.ins C L.dx (wf true k la oa 0 0))) wa ⟨L.dx, la, oa, [], []⟩ [] true ⟨k, [], [], 0, 0⟩ := by
  have ho := e _ _ S.obj
  refine ⟨upd_same, ?_, ⟨rfl, fun i x w e => by simp at e⟩, by simp, ?_, ⟨rfl, fun i w e => by simp at e⟩, lo, fun x hx => by simp at hx, good_empty k⟩
  · show upd _ _ _ la = _
    rw [upd_ne (ne_of hla ho (by intro z; cases z))]
    exact hla
  · show upd _ _ _ oa = _
    rw [upd_ne (ne_of hoa ho (by intro z; cases z))]
    exact hoa
end
/-! ### the store changes -/
section
variable {s : Kp242.Store} {raws : List Raw}
theorem good_length (g : Good s raws) {m : Nat} (h1 : 1 ≤ m) (h3 : raws.length < 3) : Good { s with lengths := s.lengths ++ [⟨0, m, []⟩] } (raws ++ [⟨0, m, []⟩]) := by
  refine ⟨?_, by rw [List.length_append]; show _ + 1 ≤ 3; omega, fun w hw => ?_, g.os, g.pos⟩
  · show s.lengths ++ _ = _
    rw [g.eq, List.map_append]
    rfl
  · rcases List.mem_append.mp hw with q | q
    · exact g.each w q
    · rw [List.mem_singleton] at q
      subst q
      exact ⟨Nat.zero_le _, by simp, fun f hf => by simp at hf, by show 0 ≤ 2; omega⟩
theorem good_order (g : Good s raws) {m p : Nat} (h1 : 1 ≤ m) (h4 : s.orders.length < 4) : Good { s with orders := s.orders ++ [⟨m, p⟩] } raws := by
  refine ⟨g.eq, g.ls, g.each, by show (s.orders ++ _).length ≤ 4; rw [List.length_append]; show _ + 1 ≤ 4; omega, fun o ho => ?_⟩
  rcases List.mem_append.mp ho with q | q
  · exact g.pos o q
  · rw [List.mem_singleton] at q
    subst q
    exact h1
theorem good_less (g : Good s raws) (o : Nat) : Good { s with orders := s.orders.take o ++ s.orders.drop (o + 1) } raws := by
  refine ⟨g.eq, g.ls, g.each, ?_, fun x hx => ?_⟩
  · show (s.orders.take o ++ s.orders.drop (o + 1)).length ≤ 4
    rw [List.length_append, List.length_take, List.length_drop]
    have := g.os
    omega
  · rcases List.mem_append.mp hx with q | q
    · exact g.pos x (List.mem_of_mem_take q)
    · exact g.pos x (List.mem_of_mem_drop q)
theorem good_cut (g : Good s raws) {l c : Nat} {w : Raw} (h : raws[l]? = some w) (hc : c ≤ w.m) : Good { s with lengths := s.lengths.set l ⟨c, w.m, isort w.fp⟩ } (raws.set l ⟨c, w.m, w.fp⟩) := by
  have gw := g.each w (List.mem_of_getElem? h)
  refine ⟨?_, by rw [List.length_set]; exact g.ls, fun u hu => ?_, g.os, g.pos⟩
  · show s.lengths.set l _ = _
    rw [g.eq, List.map_set]
    rfl
  · rcases List.mem_or_eq_of_mem_set hu with q | q
    · exact g.each u q
    · subst q
      exact ⟨hc, gw.nd, gw.lt, gw.few⟩
theorem erase_eq {α : Type} (l : List α) (i : Nat) : l.eraseIdx i = l.take i ++ l.drop (i + 1) := List.eraseIdx_eq_take_drop_succ l i
theorem PairsIn.erase {H : Hp} {as : List Addr} {ws : List (Nat × Nat)} (h : PairsIn H as ws) (o : Nat) : PairsIn H (as.eraseIdx o) (ws.eraseIdx o) := by
  refine ⟨?_, fun i w e => ?_⟩
  · rw [List.length_eraseIdx, List.length_eraseIdx, h.1]
  · rw [List.getElem?_eraseIdx] at e ⊢
    split at e
    · rename_i q
      rw [if_pos q]
      exact h.2 i w e
    · rename_i q
      rw [if_neg q]
      exact h.2 (i + 1) w e
end
end Cut

set_option Elab.async false
set_option linter.all false
set_option maxRecDepth 100000
set_option maxHeartbeats 2000000
namespace Cut
open PySem PySem.Spec PyProof.Rows L2
/-! ### what the calls' own functions lean on -/
structure Tools (P : Program) (w : World) (K : PySem.W.Frag) (mg : Str → Option Value) (base : Heap) (C CL : Addr) : Prop where
  T : Txt K C CL
  O : Own mg
  k2 : ∃ t, mg "NO_SUCH" = some (.int (-2) t)
  k12 : ∃ t, mg "LESS_IS_LEFT" = some (.int (-12) t)
  k17 : ∃ t, mg "THERE_IS_ONE" = some (.int (-17) t)
  k22 : ∃ t, mg "OUT_OF_RANGE" = some (.int (-22) t)
  k28 : ∃ t, mg "TOO_MANY" = some (.int (-28) t)
  k33 : ∃ t, mg "NO_SUCH_PIECE" = some (.int (-33) t)
  kKerf : ∃ t, mg "KERF_AT_MOST" = some (.int (10) t)
  kMet : ∃ t, mg "METRES_AT_MOST" = some (.int (10000) t)
  kPay : ∃ t, mg "PAYS_AT_MOST" = some (.int (10000) t)
  kLen : ∃ t, mg "LENGTHS_AT_MOST" = some (.int (3) t)
  kFau : ∃ t, mg "FAULTS_AT_MOST" = some (.int (2) t)
  kOrd : ∃ t, mg "ORDERS_AT_MOST" = some (.int (4) t)
  hAll : Has P w K mg base "all_pieces" 3 ["lengths"] (spAll CL)
  hBr : Has P w K mg base "brings" 4 ["kerf", "lengths", "orders"] (spBrings CL)
  hPl : Has P w K mg base "places_of" 6 ["works"] (spPlaces C CL)
  hWi : Has P w K mg base "with_fault" 3 ["lengths", "number", "metre"] (spWith CL)
  hHa : Has P w K mg base "has_left" 1 ["length", "metre"] (spHas CL)
  hMu : Has P w K mg base "how_much_is_left" 1 ["length"] (spMuch CL)
  hLP : Has P w K mg base "pieces_left" 2 ["length"] (spLeftP CL)
  hLo : Has P w K mg base "longest_of" 1 ["pieces"] spLong
  hRo : Has P w K mg base "rooms_of" 1 ["pieces", "kerf"] spRooms
  hWa : Has P w K mg base "wants_of" 1 ["orders", "kerf"] spWants
  hTo : Has P w K mg base "go_together" 3 ["rooms", "wants", "chosen"] spTog
  hGo : Has P w K mg base "good_at_first" 1 ["begins", "ends", "faults"] spGood
  mkL : ∃ (fI : Addr) (fdI : FuncData), Mk K CL fI ∧ mg "Length" = some (.ref CL) ∧ FnOk P w K mg base CX0 1 fI fdI ["self", "cut_off", "metres", "faults"] (spInitL CL) ∧ Binds K fdI ["self", "cut_off", "metres", "faults"] []
theorem pe_k {X : Cx} {x : Str} {n : Int} {t : Tok} {pos : Pos} (hg : Gl X x) (hm : X.mg x = some (.int n t)) (hd : (x == ("__debug__" : Str)) = false := by decide) : PE X (.Name x pos) (tC (.int n)) := pe_glob hg hm ⟨t, rfl⟩ hd
/-- a call's own function, opened -/
theorem open_call {C CL : Addr} {n : Nat} {vs : List V} {H : Hp} {Q : VK} {E : XK} (h : spCall (ZF C CL) n vs H Q E) (hn : n ≠ 0) : ∃ (wa : Addr) (L : Lay) (raws : List Raw) (s : Kp242.Store) (c : Kp242.Call), (enc c).1 = n ∧ vs = .ref wa :: (enc c).2.map nint ∧ Shape C CL H wa L raws true s ∧ Fin C CL H wa (Kp242.step (some s) c).1 (ansOf (Kp242.step (some s) c).2) Q := by
  obtain ⟨wa, st, c, h1, h2, h3, ⟨L, raws, S⟩, _, k⟩ := h
  rcases h3 with h3 | ⟨s, rfl⟩
  · exact absurd h3 hn
  · exact ⟨wa, L, raws, s, c, h1, h2, S, k⟩
theorem len_call {C CL : Addr} {n : Nat} {vs : List V} {H : Hp} {Q : VK} {E : XK} (h : spCall (ZF C CL) n vs H Q E) : hm[n]? = some (vs.length - 1) ∧ 1 ≤ vs.length := by
  obtain ⟨wa, st, c, h1, h2, _⟩ := h
  subst h1 h2
  rw [enc_hm]
  simp
theorem len_ok {C CL : Addr} {n k : Nat} {vs : List V} {H : Hp} {Q : VK} {E : XK} (h : spCall (ZF C CL) n vs H Q E) (e : hm[n]? = some k) : vs.length = k + 1 := by
  obtain ⟨h1, h2⟩ := len_call h
  rw [h1] at e
  injection e with e
  omega
theorem is_1 {c : Kp242.Call} (h : (enc c).1 = 1) : ∃ m, c = .length m := by
  cases c <;> first | exact ⟨_, rfl⟩ | (simp [enc] at h)
theorem is_2 {c : Kp242.Call} (h : (enc c).1 = 2) : ∃ l f, c = .fault l f := by
  cases c <;> first | exact ⟨_, _, rfl⟩ | (simp [enc] at h)
theorem is_3 {c : Kp242.Call} (h : (enc c).1 = 3) : ∃ m p, c = .order m p := by
  cases c <;> first | exact ⟨_, _, rfl⟩ | (simp [enc] at h)
theorem is_4 {c : Kp242.Call} (h : (enc c).1 = 4) : ∃ o, c = .cancel o := by
  cases c <;> first | exact ⟨_, rfl⟩ | (simp [enc] at h)
theorem is_5 {c : Kp242.Call} (h : (enc c).1 = 5) : c = .best := by
  cases c <;> first | rfl | (simp [enc] at h)
theorem is_6 {c : Kp242.Call} (h : (enc c).1 = 6) : c = .plan := by
  cases c <;> first | rfl | (simp [enc] at h)
theorem is_7 {c : Kp242.Call} (h : (enc c).1 = 7) : c = .fills := by
  cases c <;> first | rfl | (simp [enc] at h)
theorem is_8 {c : Kp242.Call} (h : (enc c).1 = 8) : ∃ o, c = .worth o := by
  cases c <;> first | exact ⟨_, rfl⟩ | (simp [enc] at h)
theorem is_9 {c : Kp242.Call} (h : (enc c).1 = 9) : ∃ l f, c = .hurts l f := by
  cases c <;> first | exact ⟨_, _, rfl⟩ | (simp [enc] at h)
theorem is_10 {c : Kp242.Call} (h : (enc c).1 = 10) : ∃ o, c = .could o := by
  cases c <;> first | exact ⟨_, rfl⟩ | (simp [enc] at h)
theorem is_11 {c : Kp242.Call} (h : (enc c).1 = 11) : ∃ m, c = .together m := by
  cases c <;> first | exact ⟨_, rfl⟩ | (simp [enc] at h)
theorem is_12 {c : Kp242.Call} (h : (enc c).1 = 12) : ∃ l o, c = .sell l o := by
  cases c <;> first | exact ⟨_, _, rfl⟩ | (simp [enc] at h)
theorem is_13 {c : Kp242.Call} (h : (enc c).1 = 13) : ∃ l n, c = .trim l n := by
  cases c <;> first | exact ⟨_, _, rfl⟩ | (simp [enc] at h)
theorem is_14 {c : Kp242.Call} (h : (enc c).1 = 14) : c = .pieces := by
  cases c <;> first | rfl | (simp [enc] at h)
theorem is_15 {c : Kp242.Call} (h : (enc c).1 = 15) : c = .longest := by
  cases c <;> first | rfl | (simp [enc] at h)
theorem is_16 {c : Kp242.Call} (h : (enc c).1 = 16) : ∃ l, c = .left l := by
  cases c <;> first | exact ⟨_, rfl⟩ | (simp [enc] at h)
theorem is_17 {c : Kp242.Call} (h : (enc c).1 = 17) : ∃ o, c = .look o := by
  cases c <;> first | exact ⟨_, rfl⟩ | (simp [enc] at h)
theorem is_18 {c : Kp242.Call} (h : (enc c).1 = 18) : c = .sums := by
  cases c <;> first | rfl | (simp [enc] at h)
theorem ints_nint (l : List Nat) : (Kp242.ints l).map V.int = List.map nint l := nints l
theorem ord_at {s : Kp242.Store} {o : Nat} (h : o < s.orders.length) : s.orders[o]? = some (Kp242.orderAt s o) := by
  rw [Kp242.orderAt, List.getD_eq_getElem?_getD, List.getElem?_eq_getElem h]
  rfl
theorem isO {s : Kp242.Store} {o : Nat} (h : o < s.orders.length) : ¬ Kp242.isOrder s o = false := by
  unfold Kp242.isOrder
  rw [decide_eq_true h]
  exact fun z => Bool.noConfusion z
theorem noO {s : Kp242.Store} {o : Nat} (h : ¬ o < s.orders.length) : Kp242.isOrder s o = false := decide_eq_false h
theorem isL {s : Kp242.Store} {l : Nat} (h : l < s.lengths.length) : ¬ Kp242.isLength s l = false := by
  unfold Kp242.isLength
  rw [decide_eq_true h]
  exact fun z => Bool.noConfusion z
theorem noL {s : Kp242.Store} {l : Nat} (h : ¬ l < s.lengths.length) : Kp242.isLength s l = false := decide_eq_false h
theorem raw_at {s : Kp242.Store} {raws : List Raw} (g : Good s raws) {l : Nat} (h : l < s.lengths.length) : ∃ w, raws[l]? = some w ∧ w.Good := by
  have hl : l < raws.length := by rw [g.eq, List.length_map] at h; exact h
  exact ⟨raws[l], List.getElem?_eq_getElem hl, g.each _ (List.getElem_mem hl)⟩
section
variable {C CL : Addr} {H : Hp} {wa : Addr} {L : Lay} {raws : List Raw} {bg : Bool} {s : Kp242.Store}
theorem Shape.olen (S : Shape C CL H wa L raws bg s) : (L.os.map V.ref).length = s.orders.length := by
  rw [List.length_map, S.ords.1, List.length_map]
theorem Shape.llen (S : Shape C CL H wa L raws bg s) : (lrefs L.ls).length = s.lengths.length := by
  unfold lrefs
  rw [List.length_map, S.lens.1, S.good.eq, List.length_map]
theorem Shape.no_o (S : Shape C CL H wa L raws bg s) {o : Nat} (h : ¬ o < s.orders.length) : decide ((((L.os.map V.ref).length : Nat) : Int) ≤ (o : Int)) = true := decide_eq_true (by rw [S.olen]; omega)
theorem Shape.is_o (S : Shape C CL H wa L raws bg s) {o : Nat} (h : o < s.orders.length) : decide ((((L.os.map V.ref).length : Nat) : Int) ≤ (o : Int)) = false := decide_eq_false (by rw [S.olen]; omega)
theorem Shape.no_l (S : Shape C CL H wa L raws bg s) {l : Nat} (h : ¬ l < s.lengths.length) : decide ((((lrefs L.ls).length : Nat) : Int) ≤ (l : Int)) = true := decide_eq_true (by rw [S.llen]; omega)
theorem Shape.is_l (S : Shape C CL H wa L raws bg s) {l : Nat} (h : l < s.lengths.length) : decide ((((lrefs L.ls).length : Nat) : Int) ≤ (l : Int)) = false := decide_eq_false (by rw [S.llen]; omega)
theorem LensAt.few2 {la : Addr} {ls : List LR} (h : LensAt CL H la ls raws) : (raws.flatMap Raw.pieces).length ≤ 1000 := Nat.le_trans h.flat (by decide)
theorem Shape.four (S : Shape C CL H wa L raws bg s) : (s.orders.map prO).length ≤ 4 := by
  rw [List.length_map]
  exact S.good.os
theorem Shape.tup (S : Shape C CL H wa L raws bg s) {o : Nat} (h : o < s.orders.length) : ∃ a, L.os[o]? = some a ∧ H a = some (.tup [nint (Kp242.orderAt s o).metres, nint (Kp242.orderAt s o).pays]) :=
  S.ords.2 o (prO (Kp242.orderAt s o)) (by rw [List.getElem?_map, ord_at h]; rfl)
end
end Cut

set_option Elab.async false
set_option linter.all false
set_option maxRecDepth 100000
set_option maxHeartbeats 2000000
namespace Cut
open PySem PySem.Spec PyProof.Rows L2
/-! ### the pieces, length by length -/
def upTo (s : Kp242.Store) (i : Nat) : List Nat := ((List.range i).flatMap (Kp242.piecesOf s)).flatMap fun p => [p.length, p.from_, p.to]
theorem upTo_all (s : Kp242.Store) : upTo s s.lengths.length = (Kp242.pieces s).flatMap fun p => [p.length, p.from_, p.to] := rfl
theorem between_no {l : Nat} : ∀ (ys : List Nat) (a b : Nat) (p : Kp242.Piece), p ∈ Kp242.between l a b ys → p.length = l
  | [], a, b, p, h => by
    unfold Kp242.between at h
    split at h
    · rw [List.mem_singleton] at h; rw [h]
    · simp at h
  | y :: ys, a, b, p, h => by
    rw [Kp242.between, List.mem_append] at h
    rcases h with h | h
    · split at h
      · rw [List.mem_singleton] at h; rw [h]
      · simp at h
    · exact between_no ys _ b p h
theorem trip_pr {l : Nat} : ∀ {ps : List Kp242.Piece}, (∀ p ∈ ps, p.length = l) → (ps.flatMap fun p => [p.length, p.from_, p.to]) = (ps.map pr).flatMap fun z => [l, z.1, z.2]
  | [], _ => rfl
  | p :: ps, h => by
    rw [List.flatMap_cons, List.map_cons, List.flatMap_cons, trip_pr fun q hq => h q (List.mem_cons_of_mem _ hq), h p (List.mem_cons_self ..)]
    rfl
theorem upTo_succ {s : Kp242.Store} {raws : List Raw} (g : Good s raws) {i : Nat} {w : Raw} (h : raws[i]? = some w) : upTo s (i + 1) = upTo s i ++ w.pieces.flatMap fun z => [i, z.1, z.2] := by
  unfold upTo
  rw [List.range_succ, List.flatMap_append, List.flatMap_append]
  congr 1
  have e1 : ([i] : List Nat).flatMap (Kp242.piecesOf s) = Kp242.piecesOf s i := by simp
  have e2 : Kp242.piecesOf s i = Kp242.between i w.c w.m ((isort w.fp).filter fun f => decide (w.c ≤ f) && decide (f < w.m)) := by
    show Kp242.between i (Kp242.lengthAt s i).from_ (Kp242.lengthAt s i).to ((Kp242.lengthAt s i).faults.filter fun f => decide ((Kp242.lengthAt s i).from_ ≤ f) && decide (f < (Kp242.lengthAt s i).to)) = _
    rw [at_raw g h]
    rfl
  rw [e1, e2, trip_pr fun p hp => between_no _ _ _ p hp, raw_between (g.each w (List.mem_of_getElem? h))]
theorem trip_len (l : Nat) : ∀ ps : List (Nat × Nat), (ps.flatMap fun z => [l, z.1, z.2]).length = 3 * ps.length
  | [] => rfl
  | p :: ps => by
    have ih := trip_len l ps
    rw [List.flatMap_cons, List.length_append, ih]
    show 3 + 3 * ps.length = 3 * (ps.length + 1)
    omega
theorem upTo_len {s : Kp242.Store} {raws : List Raw} (g : Good s raws) : ∀ {i : Nat}, i ≤ s.lengths.length → (upTo s i).length ≤ 12 * i
  | 0, _ => Nat.le_refl _
  | i + 1, h => by
    obtain ⟨w, hw, gw⟩ : ∃ w, raws[i]? = some w ∧ w.Good := by
      have hl : i < raws.length := by rw [g.eq, List.length_map] at h; omega
      exact ⟨raws[i], List.getElem?_eq_getElem hl, g.each _ (List.getElem_mem hl)⟩
    rw [upTo_succ g hw, List.length_append, trip_len]
    have a := upTo_len g (i := i) (by omega)
    have b := raw_len (w := w) (Nat.le_succ_of_le gw.few)
    omega
section
variable {P : Program} {w : World} {K : PySem.W.Frag} {mg : Str → Option Value} {base : Heap} {C CL : Addr}
/-! ### tell_best -/
abbrev s5 : Stmt := top 42
theorem sc5 : FnScope ["works"] ["works"] (defScope s5) := ⟨rfl, rfl, rfl, by decide +kernel, rfl, by decide +kernel, by decide +kernel⟩
theorem ok_c5 {f : Addr} {fd : FuncData} (F : Fun K "tell_best" "tell_best" s5 f fd) (U : Tools P w K mg base C CL) : FnOk P w K mg base CX0 7 f fd ["works"] (spCall (ZF C CL) 5) := by
  refine F.ok sc5 (fun vs H Q E h => len_ok h rfl) (fun cdv A outer s0 H vs Q E hr h => ?_)
  · obtain ⟨wa, L, raws, s, c, hc, rfl, S, k⟩ := open_call h (by decide)
    obtain rfl := is_5 hc
    have T := U.T
    have O := U.O
    obtain ⟨fBr, fdBr, GBr, mBr, kBr, bBr⟩ := U.hBr
    have k : Fin C CL H wa (some s) [0, (Kp242.bestPays s : Int)] Q := k
    refine ⟨_, (pss_one (ps_ret (pe_lst (pa_cons pe_int (pa_cons (pe_call GBr (hr.mono (by decide) : Room 4 _) rfl mBr kBr bBr .nil pass0 (pa_cons (pe_fld (pv 0) rfl) (pa_cons (pe_fld (pv 0) rfl) (pa_cons (pe_fld (pv 0) rfl) pa_nil)))) pa_nil))))), ?_⟩
    refine ⟨_, rfl, wa, C, L.dx, _, _, rfl, S.obj, T.cl, T.nKer, wf_ker, _, rfl, wa, C, L.dx, _, _, rfl, S.obj, T.cl, T.nLen, wf_len, _, rfl, wa, C, L.dx, _, _, rfl, S.obj, T.cl, T.nOrd, wf_ord, s.kerf, L.la, L.ls, raws, L.oa, _, rfl, S.at_, S.pairs, S.four, fun H1 s1 => ⟨(by show 2 ≤ sizeLine; decide), fun p hp => ?_⟩⟩
    refine fin_same k S (s1.new (s1.free hp)) (s1.free hp) ?_
    rw [upd_same, pays_raw S.good]
    rfl
/-! ### tell_plan -/
abbrev s6 : Stmt := top 43
theorem sc6 : FnScope ["works", "places"] ["works"] (defScope s6) := ⟨rfl, rfl, rfl, by decide +kernel, rfl, by decide +kernel, by decide +kernel⟩
theorem ok_c6 {f : Addr} {fd : FuncData} (F : Fun K "tell_plan" "tell_plan" s6 f fd) (U : Tools P w K mg base C CL) : FnOk P w K mg base CX0 7 f fd ["works"] (spCall (ZF C CL) 6) := by
  refine F.ok sc6 (fun vs H Q E h => len_ok h rfl) (fun cdv A outer s0 H vs Q E hr h => ?_)
  · obtain ⟨wa, L, raws, s, c, hc, rfl, S, k⟩ := open_call h (by decide)
    obtain rfl := is_6 hc
    have T := U.T
    have O := U.O
    obtain ⟨fPl, fdPl, GPl, mPl, kPl, bPl⟩ := U.hPl
    have k : Fin C CL H wa (some s) (((Kp242.best s).length : Int) :: Kp242.ints (Kp242.best s)) Q := k
    refine ⟨_, (pss_cons (ps_set (i := 1) sc6.nd rfl (Or.inl rfl) (pe_call GPl (hr.mono (by decide) : Room 6 _) rfl mPl kPl bPl .nil pass0 (pa_cons (pv 0) pa_nil)))
      (pss_one (ps_ret (pe_op op_cat (pe_lst (pa_cons (pe_callB call_len_seq rfl O.len PySem.boot_len (pa_cons (pv 1) pa_nil)) pa_nil)) (pv 1))))), ?_⟩
    refine ⟨_, rfl, wa, L, raws, s, rfl, S, fun H1 p1 s1 hp1 R1 => ?_⟩
    refine ⟨_, rfl, p1, _, rfl, .inl (SqL.of R1), (by show 1 ≤ sizeLine; decide), fun p2 hp2 => ?_⟩
    have n12 : p1 ≠ p2 := ne_of_none R1 hp2
    refine ⟨_, rfl, p2, p1, _, _, rfl, rfl, upd_same, by rw [upd_ne n12]; exact R1, ?_, fun p hp => ?_⟩
    · rw [List.length_map]
      have := (bestPlan_len (roomsR s.kerf (raws.flatMap Raw.pieces)) (wantsR s.kerf (s.orders.map prO))).1
      rw [← best_raw S.good] at this
      have h4 : (wantsR s.kerf (s.orders.map prO)).length ≤ 4 := by
        unfold wantsR
        rw [List.length_map]
        exact S.four
      exact line_small (by show 1 + _ ≤ 1000; omega)
    have s2 := s1.new (o := .lst [V.int ((List.map nint (Kp242.best s)).length : Nat)]) (s1.free hp2)
    refine fin_same k S (s2.new (s2.free hp)) (s2.free hp) ?_
    rw [upd_same, List.map_cons, ints_nint, List.length_map]
    rfl
/-! ### tell_fills -/
abbrev s7 : Stmt := top 44
theorem sc7 : FnScope ["works", "filled", "number", "place"] ["works"] (defScope s7) := ⟨rfl, rfl, rfl, by decide +kernel, rfl, by decide +kernel, by decide +kernel⟩
theorem ok_c7 {f : Addr} {fd : FuncData} (F : Fun K "tell_fills" "tell_fills" s7 f fd) (U : Tools P w K mg base C CL) : FnOk P w K mg base CX0 7 f fd ["works"] (spCall (ZF C CL) 7) := by
  refine F.ok sc7 (fun vs H Q E h => len_ok h rfl) (fun cdv A outer s0 H vs Q E hr h => ?_)
  · obtain ⟨wa, L, raws, s, c, hc, rfl, S, k⟩ := open_call h (by decide)
    obtain rfl := is_7 hc
    have T := U.T
    have O := U.O
    obtain ⟨fPl, fdPl, GPl, mPl, kPl, bPl⟩ := U.hPl
    have k : Fin C CL H wa (some s) (((Kp242.filled (Kp242.best s)).length : Int) :: Kp242.ints (Kp242.filled (Kp242.best s))) Q := k
    refine ⟨_, (pss_cons (ps_setLc (i := 1) (g := gTup K 2 (gCons (gName 2) (gCons (gName 3) gNil))) (own := [("number", 2), ("place", 3)]) rfl sc7.nd rfl rfl rfl (pi_enum rfl O.enumerate (pa_cons (pe_call GPl (hr.mono (by decide) : Room 6 _) rfl mPl kPl bPl .nil pass0 (pa_cons (pv 0) pa_nil)) pa_nil)) (blkOk_by (by change blkC ["works", "filled", "number", "place"] (defScope s7) _ _ = true; decide +kernel)) (fun _ _ _ _ _ => pg_tup (n := 2) rfl (pgs_cons (pg_name (i := 2) sc7.nd rfl (Or.inl rfl) (Or.inr rfl)) (pgs_cons (pg_name (i := 3) sc7.nd rfl (Or.inl rfl) (Or.inr rfl)) pgs_nil))) (fun _ _ _ _ _ => pts_one (pt_cmpR op_gt (pv 3) pe_int (nomark _))) (fun _ _ _ _ _ => pv 2))
      (pss_one (ps_ret (pe_op op_cat (pe_lst (pa_cons (pe_callB call_len_seq rfl O.len PySem.boot_len (pa_cons (pv 1) pa_nil)) pa_nil)) (pv 1))))), ?_⟩
    have h4 : (Kp242.best s).length ≤ 4 := by
      have := (bestPlan_len (roomsR s.kerf (raws.flatMap Raw.pieces)) (wantsR s.kerf (s.orders.map prO))).1
      rw [← best_raw S.good] at this
      have h4 : (wantsR s.kerf (s.orders.map prO)).length ≤ 4 := by
        unfold wantsR
        rw [List.length_map]
        exact S.four
      omega
    refine ⟨_, rfl, wa, L, raws, s, rfl, S, fun H1 p1 s1 hp1 R1 => ⟨p1, _, rfl, SqL.of R1, fun D hD => lc_enum (K := K) (xs := List.map nint (Kp242.best s)) (fun i H' => Same H1 H' ∧ H' D = some (.lst (List.map nint ((List.range i).filter fun o => (Kp242.best s).getD o 0 != 0)))) ⟨Same.fresh hD, upd_same⟩ (fun i H' _ h => SqL.of (h.1 _ _ R1)) (fun i y T0 H2 hy h hT => ?_) (fun H2 h => ?_)⟩⟩
    · obtain ⟨s2, hd2⟩ := h
      obtain ⟨n, hn, rfl⟩ := map_get hy
      have hi : i < (Kp242.best s).length := (List.getElem?_eq_some_iff.mp hn).1
      have eg : (Kp242.best s).getD i 0 = n := by rw [List.getD_eq_getElem?_getD, hn]; rfl
      have nDT : D ≠ T0 := ne_of_none hd2 hT
      have s3 := s2.new (o := .tup [.int (i : Nat), nint n]) (s2.free hT)
      refine ⟨T0, _, rfl, SqT.of upd_same, rfl, _, _, rfl, _, _, rfl, rfl, rfl, _, rfl, _, _, rfl, rfl, _, rfl, ?_⟩
      by_cases e : n = 0
      · refine iteN (decide_eq_false (show ¬ (0 : Int) < (n : Int) by omega)) ⟨s3, ?_⟩
        rw [upd_ne nDT, hd2, List.range_succ, List.filter_append, List.filter_cons, if_neg (by rw [eg, e]; decide)]
        simp
      · refine iteP (decide_eq_true (show (0 : Int) < (n : Int) by omega)) ⟨_, rfl, _, by rw [upd_ne nDT]; exact hd2, ?_, s3.new hD, ?_⟩
        · rw [List.length_map]
          refine Nat.lt_of_le_of_lt (List.length_filter_le _ _) ?_
          rw [List.length_range]
          exact small1000 (by omega)
        · rw [upd_same, List.range_succ, List.filter_append, List.map_append, List.filter_cons, if_pos (by rw [eg]; simpa using e)]
          rfl
    · obtain ⟨s2, hd2⟩ := h
      rw [List.length_map] at hd2
      have hd2 : H2 D = some (.lst (List.map nint (Kp242.filled (Kp242.best s)))) := hd2
      have s02 := s1.trans s2
      refine ⟨_, rfl, D, _, rfl, .inl (SqL.of hd2), (by show 1 ≤ sizeLine; decide), fun p2 hp2 => ?_⟩
      have n12 : D ≠ p2 := ne_of_none hd2 hp2
      refine ⟨_, rfl, p2, D, _, _, rfl, rfl, upd_same, by rw [upd_ne n12]; exact hd2, ?_, fun p hp => ?_⟩
      · rw [List.length_map]
        have h5 : (Kp242.filled (Kp242.best s)).length ≤ (Kp242.best s).length := by
          unfold Kp242.filled
          exact Nat.le_trans (List.length_filter_le _ _) (by rw [List.length_range]; exact Nat.le_refl _)
        exact line_small (by show 1 + _ ≤ 1000; omega)
      have s3 := s02.new (o := .lst [V.int ((List.map nint (Kp242.filled (Kp242.best s))).length : Nat)]) (s02.free hp2)
      refine fin_same k S (s3.new (s3.free hp)) (s3.free hp) ?_
      rw [upd_same, List.map_cons, ints_nint, List.length_map]
      rfl
/-! ### tell_worth -/
abbrev s8 : Stmt := top 45
theorem sc8 : FnScope ["works", "number", "others", "with_it"] ["works", "number"] (defScope s8) := ⟨rfl, rfl, rfl, by decide +kernel, rfl, by decide +kernel, by decide +kernel⟩
theorem ok_c8 {f : Addr} {fd : FuncData} (F : Fun K "tell_worth" "tell_worth" s8 f fd) (U : Tools P w K mg base C CL) : FnOk P w K mg base CX0 7 f fd ["works", "number"] (spCall (ZF C CL) 8) := by
  refine F.ok sc8 (fun vs H Q E h => len_ok h rfl) (fun cdv A outer s0 H vs Q E hr h => ?_)
  · obtain ⟨wa, L, raws, s, c, hc, rfl, S, k⟩ := open_call h (by decide)
    obtain ⟨o, rfl⟩ := is_8 hc
    have T := U.T
    have O := U.O
    obtain ⟨fBr, fdBr, GBr, mBr, kBr, bBr⟩ := U.hBr
    obtain ⟨tc2, c2⟩ := U.k2
    have k : Fin C CL H wa (some s) (ansOf (if Kp242.isOrder s o = false then Kp242.say (-2) else ⟨0, [(Kp242.bestPays s : Int) - (Kp242.bestPays (Kp242.withoutOrder s o) : Int)]⟩)) Q := k
    refine ⟨_, (pss_cons (ps_if (pt_cmpR op_ge (pv 1) (pe_callB call_len_seq rfl O.len PySem.boot_len (pa_cons (pe_fld (pv 0) rfl) pa_nil)) (nomark _)) (pss_one (ps_ret (pe_lst (pa_cons (pe_k rfl c2) pa_nil)))) pss_nil)
      (pss_cons (ps_set (i := 2) sc8.nd rfl (Or.inl rfl) (pe_op op_cat (pe_slice sl_list (pe_fld (pv 0) rfl) po_none (po_some (pv 1))) (pe_slice sl_list (pe_fld (pv 0) rfl) (po_some (pe_op op_add (pv 1) pe_int)) po_none)))
      (pss_cons (ps_set (i := 3) sc8.nd rfl (Or.inl rfl) (pe_call GBr (hr.mono (by decide) : Room 4 _) rfl mBr kBr bBr .nil pass0 (pa_cons (pe_fld (pv 0) rfl) (pa_cons (pe_fld (pv 0) rfl) (pa_cons (pe_fld (pv 0) rfl) pa_nil)))))
      (pss_one (ps_ret (pe_lst (pa_cons pe_int (pa_cons (pe_op op_sub (pv 3) (pe_call GBr (hr.mono (by decide) : Room 4 _) rfl mBr kBr bBr .nil pass0 (pa_cons (pe_fld (pv 0) rfl) (pa_cons (pe_fld (pv 0) rfl) (pa_cons (pv 2) pa_nil))))) pa_nil)))))))), ?_⟩
    refine ⟨_, rfl, _, rfl, wa, C, L.dx, _, _, rfl, S.obj, T.cl, T.nOrd, wf_ord, L.oa, _, rfl, .inl (SqL.of S.ord), _, _, rfl, rfl, _, rfl, ?_⟩
    by_cases ho : o < s.orders.length
    case neg =>
      refine iteP (S.no_o ho) ⟨(by show 1 ≤ sizeLine; decide), fun p hp => ?_⟩
      rw [if_pos (noO ho)] at k
      exact fin_new k S hp
    rw [if_neg (isO ho)] at k
    refine iteN (S.is_o ho) ?_
    refine ⟨_, rfl, wa, C, L.dx, _, _, rfl, S.obj, T.cl, T.nOrd, wf_ord, _, rfl, _, rfl, L.oa, _, rfl, SqL.of S.ord, fun p1 hp1 => ?_⟩
    rw [cut_to]
    have s1 : Same H (upd H p1 (.lst ((L.os.map V.ref).take o))) := Same.fresh hp1
    refine ⟨_, rfl, wa, C, L.dx, _, _, rfl, s1 _ _ S.obj, T.cl, T.nOrd, wf_ord, _, rfl, _, _, rfl, rfl, _, rfl, L.oa, _, rfl, SqL.of (s1 _ _ S.ord), fun p2 hp2 => ?_⟩
    rw [show ((o : Int) + 1) = ((o + 1 : Nat) : Int) by omega, cut_from]
    have n12 : p1 ≠ p2 := ne_of_none upd_same hp2
    have s2 := s1.new (o := .lst ((L.os.map V.ref).drop (o + 1))) (s1.free hp2)
    refine ⟨p1, p2, _, _, rfl, rfl, by rw [upd_ne n12]; exact upd_same, upd_same, ?_, fun p3 hp3 => ?_⟩
    · rw [List.length_take, List.length_drop, S.olen]
      have := S.good.os
      exact line_small (by omega)
    have eo : (L.os.map V.ref).take o ++ (L.os.map V.ref).drop (o + 1) = (L.os.eraseIdx o).map V.ref := by rw [erase_eq, List.map_append, List.map_take, List.map_drop]
    rw [eo]
    have s3 := s2.new (o := .lst ((L.os.eraseIdx o).map V.ref)) (s2.free hp3)
    have hO : PairsAt (upd (upd (upd H p1 (.lst ((L.os.map V.ref).take o))) p2 (.lst ((L.os.map V.ref).drop (o + 1)))) p3 (.lst ((L.os.eraseIdx o).map V.ref))) p3 ((s.orders.map prO).eraseIdx o) := ⟨_, upd_same, (S.ords.erase o).same s3⟩
    generalize (upd (upd (upd H p1 (.lst ((L.os.map V.ref).take o))) p2 (.lst ((L.os.map V.ref).drop (o + 1)))) p3 (.lst ((L.os.eraseIdx o).map V.ref))) = H3 at s3 hO
    have S3 := S.same s3
    refine ⟨_, rfl, wa, C, L.dx, _, _, rfl, S3.obj, T.cl, T.nKer, wf_ker, _, rfl, wa, C, L.dx, _, _, rfl, S3.obj, T.cl, T.nLen, wf_len, _, rfl, wa, C, L.dx, _, _, rfl, S3.obj, T.cl, T.nOrd, wf_ord, s.kerf, L.la, L.ls, raws, L.oa, _, rfl, S3.at_, S3.pairs, S.four, fun H4 s4 => ?_⟩
    have S4 := S3.same s4
    refine ⟨_, rfl, _, rfl, wa, C, L.dx, _, _, rfl, S4.obj, T.cl, T.nKer, wf_ker, _, rfl, wa, C, L.dx, _, _, rfl, S4.obj, T.cl, T.nLen, wf_len, _, rfl, s.kerf, L.la, L.ls, raws, p3, _, rfl, S4.at_, hO.same s4, ?_, fun H5 s5 => ⟨_, _, rfl, rfl, (by show 2 ≤ sizeLine; decide), fun p hp => ?_⟩⟩
    · rw [List.length_eraseIdx]
      have := S.four
      split <;> omega
    have s05 := (s3.trans s4).trans s5
    refine fin_same k S (s05.new (s05.free hp)) (s05.free hp) ?_
    have ee : (s.orders.take o ++ s.orders.drop (o + 1)).map prO = (s.orders.map prO).eraseIdx o := by rw [erase_eq, List.map_append, List.map_take, List.map_drop]
    rw [upd_same, pays_raw S.good, pays_less S.good, ee]
    rfl
/-! ### tell_hurts -/
abbrev s9 : Stmt := top 46
theorem sc9 : FnScope ["works", "number", "metre", "faulty", "without_it"] ["works", "number", "metre"] (defScope s9) := ⟨rfl, rfl, rfl, by decide +kernel, rfl, by decide +kernel, by decide +kernel⟩
theorem ok_c9 {f : Addr} {fd : FuncData} (F : Fun K "tell_hurts" "tell_hurts" s9 f fd) (U : Tools P w K mg base C CL) : FnOk P w K mg base CX0 7 f fd ["works", "number", "metre"] (spCall (ZF C CL) 9) := by
  refine F.ok sc9 (fun vs H Q E h => len_ok h rfl) (fun cdv A outer s0 H vs Q E hr h => ?_)
  · obtain ⟨wa, L, raws, s, c, hc, rfl, S, k⟩ := open_call h (by decide)
    obtain ⟨l, f, rfl⟩ := is_9 hc
    have T := U.T
    have O := U.O
    obtain ⟨fBr, fdBr, GBr, mBr, kBr, bBr⟩ := U.hBr
    obtain ⟨fHa, fdHa, GHa, mHa, kHa, bHa⟩ := U.hHa
    obtain ⟨fWi, fdWi, GWi, mWi, kWi, bWi⟩ := U.hWi
    obtain ⟨tc2, c2⟩ := U.k2
    obtain ⟨tc22, c22⟩ := U.k22
    have k : Fin C CL H wa (some s) (ansOf (if Kp242.isLength s l = false then Kp242.say (-2) else if f < (Kp242.lengthAt s l).from_ ∨ (Kp242.lengthAt s l).to ≤ f then Kp242.say (-22) else ⟨0, [(Kp242.bestPays s : Int) - (Kp242.bestPays (Kp242.withFault s l f) : Int)]⟩)) Q := k
    refine ⟨_, (pss_cons (ps_if (pt_cmpR op_ge (pv 1) (pe_callB call_len_seq rfl O.len PySem.boot_len (pa_cons (pe_fld (pv 0) rfl) pa_nil)) (nomark _)) (pss_one (ps_ret (pe_lst (pa_cons (pe_k rfl c2) pa_nil)))) pss_nil)
      (pss_cons (ps_if (pt_not (pt_val (pe_call GHa (hr.mono (by decide) : Room 1 _) rfl mHa kHa bHa .nil pass0 (pa_cons (pe_ix ix_list (pe_fld (pv 0) rfl) (pv 1) (fun _ _ => rfl)) (pa_cons (pv 2) pa_nil))))) (pss_one (ps_ret (pe_lst (pa_cons (pe_k rfl c22) pa_nil)))) pss_nil)
      (pss_cons (ps_set (i := 3) sc9.nd rfl (Or.inl rfl) (pe_call GWi (hr.mono (by decide) : Room 3 _) rfl mWi kWi bWi .nil pass0 (pa_cons (pe_fld (pv 0) rfl) (pa_cons (pv 1) (pa_cons (pv 2) pa_nil)))))
      (pss_cons (ps_set (i := 4) sc9.nd rfl (Or.inl rfl) (pe_call GBr (hr.mono (by decide) : Room 4 _) rfl mBr kBr bBr .nil pass0 (pa_cons (pe_fld (pv 0) rfl) (pa_cons (pe_fld (pv 0) rfl) (pa_cons (pe_fld (pv 0) rfl) pa_nil)))))
      (pss_one (ps_ret (pe_lst (pa_cons pe_int (pa_cons (pe_op op_sub (pv 4) (pe_call GBr (hr.mono (by decide) : Room 4 _) rfl mBr kBr bBr .nil pass0 (pa_cons (pe_fld (pv 0) rfl) (pa_cons (pv 3) (pa_cons (pe_fld (pv 0) rfl) pa_nil))))) pa_nil))))))))), ?_⟩
    refine ⟨_, rfl, _, rfl, wa, C, L.dx, _, _, rfl, S.obj, T.cl, T.nLen, wf_len, L.la, _, rfl, .inl (SqL.of S.lst), _, _, rfl, rfl, _, rfl, ?_⟩
    by_cases ho : l < s.lengths.length
    case neg =>
      refine iteP (S.no_l ho) ⟨(by show 1 ≤ sizeLine; decide), fun p hp => ?_⟩
      rw [if_pos (noL ho)] at k
      exact fin_new k S hp
    rw [if_neg (isL ho)] at k
    refine iteN (S.is_l ho) ?_
    obtain ⟨w, hw, gw⟩ := raw_at S.good ho
    obtain ⟨x, hx, hxr, hxf⟩ := S.lens.at_ hw
    have el := at_raw S.good hw
    refine ⟨_, rfl, wa, C, L.dx, _, _, rfl, S.obj, T.cl, T.nLen, wf_len, _, rfl, L.la, _, _, _, rfl, rfl, SqL.of S.lst, atI_nat (lrefs_get hx), _, rfl, x.r, x.dx, x.fa, w.c, w.m, f, rfl, hxr, _, rfl, ?_⟩
    rw [el] at k
    have ecd : (w.len.from_, w.len.to) = (w.c, w.m) := rfl
    by_cases hin : w.c ≤ f ∧ f < w.m
    case neg =>
      refine iteP (show (!(decide (w.c ≤ f) && decide (f < w.m))) = true by
        rw [Bool.not_eq_true', Bool.and_eq_false_iff]
        by_cases q : w.c ≤ f
        · exact .inr (decide_eq_false fun z => hin ⟨q, z⟩)
        · exact .inl (decide_eq_false q)) ⟨(by show 1 ≤ sizeLine; decide), fun p hp => ?_⟩
      rw [if_pos (show f < w.len.from_ ∨ w.len.to ≤ f by show f < w.c ∨ w.m ≤ f; omega)] at k
      exact fin_new k S hp
    rw [if_neg (show ¬ (f < w.len.from_ ∨ w.len.to ≤ f) by show ¬ (f < w.c ∨ w.m ≤ f); omega)] at k
    refine iteN (show (!(decide (w.c ≤ f) && decide (f < w.m))) = false by rw [decide_eq_true hin.1, decide_eq_true hin.2]; rfl) ?_
    refine ⟨_, rfl, wa, C, L.dx, _, _, rfl, S.obj, T.cl, T.nLen, wf_len, _, rfl, _, rfl, L.la, L.ls, raws, l, f, w, rfl, S.lst, S.lens, hw, Nat.le_succ_of_le gw.few, fun H1 p1 y s1 hp1 fy1 fy2 ny hp2 hl2 => ?_⟩
    have S1 := S.same s1
    refine ⟨_, rfl, wa, C, L.dx, _, _, rfl, S1.obj, T.cl, T.nKer, wf_ker, _, rfl, wa, C, L.dx, _, _, rfl, S1.obj, T.cl, T.nLen, wf_len, _, rfl, wa, C, L.dx, _, _, rfl, S1.obj, T.cl, T.nOrd, wf_ord, s.kerf, L.la, L.ls, raws, L.oa, _, rfl, S1.at_, S1.pairs, S.four, fun H2 s2 => ?_⟩
    have S2 := S1.same s2
    refine ⟨_, rfl, _, rfl, wa, C, L.dx, _, _, rfl, S2.obj, T.cl, T.nKer, wf_ker, _, rfl, _, rfl, wa, C, L.dx, _, _, rfl, S2.obj, T.cl, T.nOrd, wf_ord, s.kerf, p1, L.ls.set l y, raws.set l (w.more f), L.oa, _, rfl, ⟨s2 _ _ hp2, hl2.same s2, by rw [List.length_set]; exact S.good.ls, fun u hu => ?_⟩, S2.pairs, S.four, fun H3 s3 => ⟨_, _, rfl, rfl, (by show 2 ≤ sizeLine; decide), fun p hp => ?_⟩⟩
    · rcases List.mem_or_eq_of_mem_set hu with q | q
      · exact Nat.le_succ_of_le (S.good.each u q).few
      · rw [q]
        show (w.fp ++ [f]).length ≤ 3
        rw [List.length_append]
        have := gw.few
        show _ + 1 ≤ 3
        omega
    have s03 := (s1.trans s2).trans s3
    refine fin_same k S (s03.new (s03.free hp)) (s03.free hp) ?_
    rw [upd_same, pays_raw S.good, pays_more S.good hw hin.2]
    rfl
/-! ### tell_could -/
abbrev s10 : Stmt := top 47
theorem sc10 : FnScope ["works", "number"] ["works", "number"] (defScope s10) := ⟨rfl, rfl, rfl, by decide +kernel, rfl, by decide +kernel, by decide +kernel⟩
theorem ok_c10 {f : Addr} {fd : FuncData} (F : Fun K "tell_could" "tell_could" s10 f fd) (U : Tools P w K mg base C CL) : FnOk P w K mg base CX0 7 f fd ["works", "number"] (spCall (ZF C CL) 10) := by
  refine F.ok sc10 (fun vs H Q E h => len_ok h rfl) (fun cdv A outer s0 H vs Q E hr h => ?_)
  · obtain ⟨wa, L, raws, s, c, hc, rfl, S, k⟩ := open_call h (by decide)
    obtain ⟨o, rfl⟩ := is_10 hc
    have T := U.T
    have O := U.O
    obtain ⟨fAll, fdAll, GAll, mAll, kAll, bAll⟩ := U.hAll
    obtain ⟨fLo, fdLo, GLo, mLo, kLo, bLo⟩ := U.hLo
    obtain ⟨tc2, c2⟩ := U.k2
    have k : Fin C CL H wa (some s) (ansOf (if Kp242.isOrder s o = false then Kp242.say (-2) else Kp242.say (if Kp242.could s o then 1 else 0))) Q := k
    refine ⟨_, (pss_cons (ps_if (pt_cmpR op_ge (pv 1) (pe_callB call_len_seq rfl O.len PySem.boot_len (pa_cons (pe_fld (pv 0) rfl) pa_nil)) (nomark _)) (pss_one (ps_ret (pe_lst (pa_cons (pe_k rfl c2) pa_nil)))) pss_nil)
      (pss_one (ps_ret (pe_lst (pa_cons (pe_ifExp (pt_cmpR op_ge (pe_call GLo (hr.mono (by decide) : Room 1 _) rfl mLo kLo bLo .nil pass0 (pa_cons (pe_call GAll (hr.mono (by decide) : Room 3 _) rfl mAll kAll bAll .nil pass0 (pa_cons (pe_fld (pv 0) rfl) pa_nil)) pa_nil)) (pe_ix ix_tup (pe_ix ix_list (pe_fld (pv 0) rfl) (pv 1) (fun _ _ => rfl)) pe_int (fun _ _ => rfl)) (nomark _)) pe_int pe_int) pa_nil))))), ?_⟩
    refine ⟨_, rfl, _, rfl, wa, C, L.dx, _, _, rfl, S.obj, T.cl, T.nOrd, wf_ord, L.oa, _, rfl, .inl (SqL.of S.ord), _, _, rfl, rfl, _, rfl, ?_⟩
    by_cases ho : o < s.orders.length
    case neg =>
      refine iteP (S.no_o ho) ⟨(by show 1 ≤ sizeLine; decide), fun p hp => ?_⟩
      rw [if_pos (noO ho)] at k
      exact fin_new k S hp
    rw [if_neg (isO ho)] at k
    refine iteN (S.is_o ho) ?_
    obtain ⟨ta, ha, hta⟩ := S.tup ho
    refine ⟨_, rfl, wa, C, L.dx, _, _, rfl, S.obj, T.cl, T.nLen, wf_len, L.la, L.ls, raws, rfl, S.at_, fun H1 p1 s1 hp1 P1 => ⟨p1, _, rfl, P1, S.at_.few2, fun q hq => flat_lt hq, fun H2 s2 => ?_⟩⟩
    have s02 := s1.trans s2
    have S2 := S.same s02
    refine ⟨_, rfl, wa, C, L.dx, _, _, rfl, S2.obj, T.cl, T.nOrd, wf_ord, _, rfl, L.oa, _, _, _, rfl, rfl, SqL.of S2.ord, atI_nat (get_map ha), ta, _, _, _, rfl, rfl, SqT.of (s02 _ _ hta), at_of (j := 0) rfl rfl, _, _, rfl, rfl, _, rfl, ?_⟩
    rw [could_raw S.good ho] at k
    by_cases e : (Kp242.orderAt s o).metres ≤ maxOf (sizesR (raws.flatMap Raw.pieces))
    · refine iteP (decide_eq_true (show (((Kp242.orderAt s o).metres : Nat) : Int) ≤ ((maxOf (sizesR (raws.flatMap Raw.pieces)) : Nat) : Int) by omega)) ⟨(by show 1 ≤ sizeLine; decide), fun p hp => ?_⟩
      rw [decide_eq_true e] at k
      exact fin_same (ans := [1]) k S (s02.new (s02.free hp)) (s02.free hp) upd_same
    · refine iteN (decide_eq_false (show ¬ (((Kp242.orderAt s o).metres : Nat) : Int) ≤ ((maxOf (sizesR (raws.flatMap Raw.pieces)) : Nat) : Int) by omega)) ⟨(by show 1 ≤ sizeLine; decide), fun p hp => ?_⟩
      rw [decide_eq_false e] at k
      exact fin_same (ans := [0]) k S (s02.new (s02.free hp)) (s02.free hp) upd_same
/-! ### tell_together -/
abbrev s11 : Stmt := top 48
theorem sc11 : FnScope ["works", "chosen", "rooms"] ["works", "chosen"] (defScope s11) := ⟨rfl, rfl, rfl, by decide +kernel, rfl, by decide +kernel, by decide +kernel⟩
theorem ok_c11 {f : Addr} {fd : FuncData} (F : Fun K "tell_together" "tell_together" s11 f fd) (U : Tools P w K mg base C CL) : FnOk P w K mg base CX0 7 f fd ["works", "chosen"] (spCall (ZF C CL) 11) := by
  refine F.ok sc11 (fun vs H Q E h => len_ok h rfl) (fun cdv A outer s0 H vs Q E hr h => ?_)
  · obtain ⟨wa, L, raws, s, c, hc, rfl, S, k⟩ := open_call h (by decide)
    obtain ⟨m, rfl⟩ := is_11 hc
    have T := U.T
    have O := U.O
    obtain ⟨fAll, fdAll, GAll, mAll, kAll, bAll⟩ := U.hAll
    obtain ⟨fRo, fdRo, GRo, mRo, kRo, bRo⟩ := U.hRo
    obtain ⟨fWa, fdWa, GWa, mWa, kWa, bWa⟩ := U.hWa
    obtain ⟨fTo, fdTo, GTo, mTo, kTo, bTo⟩ := U.hTo
    obtain ⟨tc22, c22⟩ := U.k22
    have k : Fin C CL H wa (some s) (ansOf (if 2 ^ s.orders.length ≤ m then Kp242.say (-22) else Kp242.say (if Kp242.together s m then 1 else 0))) Q := k
    refine ⟨_, (pss_cons (ps_if (pt_cmpR op_gt (pe_op op_shr (pv 1) (pe_callB call_len_seq rfl O.len PySem.boot_len (pa_cons (pe_fld (pv 0) rfl) pa_nil))) pe_int (nomark _)) (pss_one (ps_ret (pe_lst (pa_cons (pe_k rfl c22) pa_nil)))) pss_nil)
      (pss_cons (ps_set (i := 2) sc11.nd rfl (Or.inl rfl) (pe_call GRo (hr.mono (by decide) : Room 1 _) rfl mRo kRo bRo .nil pass0 (pa_cons (pe_call GAll (hr.mono (by decide) : Room 3 _) rfl mAll kAll bAll .nil pass0 (pa_cons (pe_fld (pv 0) rfl) pa_nil)) (pa_cons (pe_fld (pv 0) rfl) pa_nil))))
      (pss_one (ps_ret (pe_lst (pa_cons (pe_ifExp (pt_val (pe_call GTo (hr.mono (by decide) : Room 3 _) rfl mTo kTo bTo .nil pass0 (pa_cons (pv 2) (pa_cons (pe_call GWa (hr.mono (by decide) : Room 1 _) rfl mWa kWa bWa .nil pass0 (pa_cons (pe_fld (pv 0) rfl) (pa_cons (pe_fld (pv 0) rfl) pa_nil))) (pa_cons (pv 1) pa_nil))))) pe_int pe_int) pa_nil)))))), ?_⟩
    refine ⟨_, rfl, _, rfl, wa, C, L.dx, _, _, rfl, S.obj, T.cl, T.nOrd, wf_ord, L.oa, _, rfl, .inl (SqL.of S.ord), _, _, rfl, rfl, by omega, _, _, rfl, rfl, _, rfl, ?_⟩
    have ed : (m : Int) / 2 ^ (((L.os.map V.ref).length : Nat) : Int).toNat = ((m / 2 ^ s.orders.length : Nat) : Int) := by
      rw [S.olen, Int.toNat_natCast, Int.natCast_ediv, Int.natCast_pow]
      rfl
    by_cases hm : 2 ^ s.orders.length ≤ m
    case pos =>
      have q : 0 < m / 2 ^ s.orders.length := Nat.div_pos hm (Nat.two_pow_pos _)
      refine iteP (decide_eq_true (show (0 : Int) < (m : Int) / 2 ^ (((L.os.map V.ref).length : Nat) : Int).toNat by rw [ed]; omega)) ⟨(by show 1 ≤ sizeLine; decide), fun p hp => ?_⟩
      rw [if_pos hm] at k
      exact fin_new k S hp
    have q : m / 2 ^ s.orders.length = 0 := Nat.div_eq_of_lt (by omega)
    rw [if_neg hm, together_raw S.good (by omega)] at k
    refine iteN (decide_eq_false (show ¬ (0 : Int) < (m : Int) / 2 ^ (((L.os.map V.ref).length : Nat) : Int).toNat by rw [ed, q]; omega)) ?_
    refine ⟨_, rfl, wa, C, L.dx, _, _, rfl, S.obj, T.cl, T.nLen, wf_len, L.la, L.ls, raws, rfl, S.at_, fun H1 p1 s1 hp1 P1 => ⟨_, rfl, wa, C, L.dx, _, _, rfl, s1 _ _ S.obj, T.cl, T.nKer, wf_ker, p1, s.kerf, _, rfl, P1, S.at_.few2, fun q hq => flat_lt hq, fun H2 p2 s2 hp2 R2 => ?_⟩⟩
    have s02 := s1.trans s2
    have S2 := S.same s02
    refine ⟨_, rfl, _, rfl, wa, C, L.dx, _, _, rfl, S2.obj, T.cl, T.nOrd, wf_ord, _, rfl, wa, C, L.dx, _, _, rfl, S2.obj, T.cl, T.nKer, wf_ker, L.oa, s.kerf, _, rfl, S2.pairs, S.four, fun H3 p3 s3 hp3 P3 => ⟨_, rfl, p2, p3, _, _, m, rfl, s3 _ _ R2, P3, by rw [List.length_map]; exact S.four, by rw [List.length_map, List.length_map]; omega, fun H4 s4 => ⟨_, rfl, ?_⟩⟩⟩
    have s04 := (s02.trans s3).trans s4
    have k : Fin C CL H wa (some s) (ansOf (Kp242.say (if (fillable (roomsR s.kerf (raws.flatMap Raw.pieces)) (totals ((wantsR s.kerf (s.orders.map prO)).map (·.1)))).getD m false = true then 1 else 0))) Q := k
    show (if (fillable (roomsR s.kerf (raws.flatMap Raw.pieces)) (totals ((wantsR s.kerf (s.orders.map prO)).map (·.1)))).getD m false = true then _ else _)
    cases e : (fillable (roomsR s.kerf (raws.flatMap Raw.pieces)) (totals ((wantsR s.kerf (s.orders.map prO)).map (·.1)))).getD m false with
    | true =>
      rw [e] at k
      refine iteT ⟨(by show 1 ≤ sizeLine; decide), fun p hp => ?_⟩
      exact fin_same (ans := [1]) k S (s04.new (s04.free hp)) (s04.free hp) upd_same
    | false =>
      rw [e] at k
      refine iteF ⟨(by show 1 ≤ sizeLine; decide), fun p hp => ?_⟩
      exact fin_same (ans := [0]) k S (s04.new (s04.free hp)) (s04.free hp) upd_same
/-! ### tell_longest -/
abbrev s15 : Stmt := top 52
theorem sc15 : FnScope ["works", "longest"] ["works"] (defScope s15) := ⟨rfl, rfl, rfl, by decide +kernel, rfl, by decide +kernel, by decide +kernel⟩
theorem ok_c15 {f : Addr} {fd : FuncData} (F : Fun K "tell_longest" "tell_longest" s15 f fd) (U : Tools P w K mg base C CL) : FnOk P w K mg base CX0 7 f fd ["works"] (spCall (ZF C CL) 15) := by
  refine F.ok sc15 (fun vs H Q E h => len_ok h rfl) (fun cdv A outer s0 H vs Q E hr h => ?_)
  · obtain ⟨wa, L, raws, s, c, hc, rfl, S, k⟩ := open_call h (by decide)
    obtain rfl := is_15 hc
    have T := U.T
    have O := U.O
    obtain ⟨fAll, fdAll, GAll, mAll, kAll, bAll⟩ := U.hAll
    obtain ⟨fLo, fdLo, GLo, mLo, kLo, bLo⟩ := U.hLo
    obtain ⟨tc33, c33⟩ := U.k33
    have k : Fin C CL H wa (some s) (ansOf (match Kp242.longest s with | some n => Kp242.say (n : Int) | none => Kp242.say (-33))) Q := k
    refine ⟨_, (pss_cons (ps_set (i := 1) sc15.nd rfl (Or.inl rfl) (pe_call GLo (hr.mono (by decide) : Room 1 _) rfl mLo kLo bLo .nil pass0 (pa_cons (pe_call GAll (hr.mono (by decide) : Room 3 _) rfl mAll kAll bAll .nil pass0 (pa_cons (pe_fld (pv 0) rfl) pa_nil)) pa_nil)))
      (pss_cons (ps_if (pt_cmpR op_eq (pv 1) pe_int (nomark _)) (pss_one (ps_ret (pe_lst (pa_cons (pe_k rfl c33) pa_nil)))) pss_nil)
      (pss_one (ps_ret (pe_lst (pa_cons (pv 1) pa_nil)))))), ?_⟩
    refine ⟨_, rfl, wa, C, L.dx, _, _, rfl, S.obj, T.cl, T.nLen, wf_len, L.la, L.ls, raws, rfl, S.at_, fun H1 p1 s1 hp1 P1 => ⟨p1, _, rfl, P1, S.at_.few2, fun q hq => flat_lt hq, fun H2 s2 => ?_⟩⟩
    have s02 := s1.trans s2
    rw [longest_raw S.good] at k
    refine ⟨_, rfl, rfl, _, rfl, ?_⟩
    by_cases e : maxOf (sizesR (raws.flatMap Raw.pieces)) = 0
    · refine iteP (decide_eq_true (by show V.int _ = V.int _; rw [e]; rfl)) ⟨(by show 1 ≤ sizeLine; decide), fun p hp => ?_⟩
      rw [if_pos e] at k
      exact fin_same (ans := [-33]) k S (s02.new (s02.free hp)) (s02.free hp) upd_same
    · refine iteN (decide_eq_false (by intro z; injection z with z; exact e (by omega))) ⟨_, rfl, (by show 1 ≤ sizeLine; decide), fun p hp => ?_⟩
      rw [if_neg e] at k
      exact fin_same (ans := [((maxOf (sizesR (raws.flatMap Raw.pieces)) : Nat) : Int)]) k S (s02.new (s02.free hp)) (s02.free hp) upd_same
/-! ### tell_left -/
abbrev s16 : Stmt := top 53
theorem sc16 : FnScope ["works", "number", "length"] ["works", "number"] (defScope s16) := ⟨rfl, rfl, rfl, by decide +kernel, rfl, by decide +kernel, by decide +kernel⟩
theorem ok_c16 {f : Addr} {fd : FuncData} (F : Fun K "tell_left" "tell_left" s16 f fd) (U : Tools P w K mg base C CL) : FnOk P w K mg base CX0 7 f fd ["works", "number"] (spCall (ZF C CL) 16) := by
  refine F.ok sc16 (fun vs H Q E h => len_ok h rfl) (fun cdv A outer s0 H vs Q E hr h => ?_)
  · obtain ⟨wa, L, raws, s, c, hc, rfl, S, k⟩ := open_call h (by decide)
    obtain ⟨l, rfl⟩ := is_16 hc
    have T := U.T
    have O := U.O
    obtain ⟨fMu, fdMu, GMu, mMu, kMu, bMu⟩ := U.hMu
    obtain ⟨tc2, c2⟩ := U.k2
    have k : Fin C CL H wa (some s) (ansOf (if Kp242.isLength s l = false then Kp242.say (-2) else ⟨((Kp242.lengthAt s l).to - (Kp242.lengthAt s l).from_ : Nat), Kp242.ints ([(Kp242.lengthAt s l).from_, (Kp242.lengthAt s l).to] ++ (Kp242.lengthAt s l).faults)⟩)) Q := k
    refine ⟨_, (pss_cons (ps_if (pt_cmpR op_ge (pv 1) (pe_callB call_len_seq rfl O.len PySem.boot_len (pa_cons (pe_fld (pv 0) rfl) pa_nil)) (nomark _)) (pss_one (ps_ret (pe_lst (pa_cons (pe_k rfl c2) pa_nil)))) pss_nil)
      (pss_cons (ps_set (i := 2) sc16.nd rfl (Or.inl rfl) (pe_ix ix_list (pe_fld (pv 0) rfl) (pv 1) (fun _ _ => rfl)))
      (pss_one (ps_ret (pe_op op_cat (pe_lst (pa_cons (pe_call GMu (hr.mono (by decide) : Room 1 _) rfl mMu kMu bMu .nil pass0 (pa_cons (pv 2) pa_nil)) (pa_cons (pe_fld (pv 2) rfl) (pa_cons (pe_fld (pv 2) rfl) pa_nil)))) (pe_callB cr_sorted rfl O.sorted PyProof.Rows.boot_sorted (pa_cons (pe_fld (pv 2) rfl) pa_nil))))))), ?_⟩
    refine ⟨_, rfl, _, rfl, wa, C, L.dx, _, _, rfl, S.obj, T.cl, T.nLen, wf_len, L.la, _, rfl, .inl (SqL.of S.lst), _, _, rfl, rfl, _, rfl, ?_⟩
    by_cases ho : l < s.lengths.length
    case neg =>
      refine iteP (S.no_l ho) ⟨(by show 1 ≤ sizeLine; decide), fun p hp => ?_⟩
      rw [if_pos (noL ho)] at k
      exact fin_new k S hp
    rw [if_neg (isL ho)] at k
    refine iteN (S.is_l ho) ?_
    obtain ⟨w, hw, gw⟩ := raw_at S.good ho
    obtain ⟨x, hx, hxr, hxf⟩ := S.lens.at_ hw
    have el := at_raw S.good hw
    rw [el] at k
    refine ⟨_, rfl, wa, C, L.dx, _, _, rfl, S.obj, T.cl, T.nLen, wf_len, _, rfl, L.la, _, _, _, rfl, rfl, SqL.of S.lst, atI_nat (lrefs_get hx), ?_⟩
    refine ⟨_, rfl, x.r, x.dx, x.fa, w.c, w.m, rfl, hxr, gw.cm, _, rfl, x.r, CL, x.dx, _, _, rfl, hxr, T.clL, T.nCut, lf_cut, _, rfl, x.r, CL, x.dx, _, _, rfl, hxr, T.clL, T.nMet, lf_met, (by show 3 ≤ sizeLine; decide), fun p1 hp1 => ?_⟩
    have s1 : Same H (upd H p1 (.lst [nint (w.m - w.c), nint w.c, nint w.m])) := Same.fresh hp1
    refine ⟨_, rfl, x.r, CL, x.dx, _, _, rfl, s1 _ _ hxr, T.clL, T.nFau, lf_fau, x.fa, intsOf w.fp, rfl, SqL.of (by rw [nints]; exact s1 _ _ hxf), by rw [ints_len]; have := gw.few; omega, fun ns p2 perm up hp2 => ?_⟩
    rw [sorted_nat perm up, nints]
    have n12 : p1 ≠ p2 := ne_of_none upd_same hp2
    have s2 := s1.new (o := .lst (List.map nint (isort w.fp))) (s1.free hp2)
    refine ⟨p1, p2, _, _, rfl, rfl, by rw [upd_ne n12]; exact upd_same, upd_same, ?_, fun p hp => ?_⟩
    · rw [List.length_map, isort_len]
      have := gw.few
      exact line_small (by show 3 + _ ≤ 1000; omega)
    refine fin_same k S (s2.new (s2.free hp)) (s2.free hp) ?_
    rw [upd_same]
    show _ = some (HO.lst (nint (w.m - w.c) :: (Kp242.ints ([w.c, w.m] ++ isort w.fp)).map V.int))
    rw [ints_nint]
    rfl
/-! ### tell_look -/
abbrev s17 : Stmt := top 54
theorem sc17 : FnScope ["works", "number"] ["works", "number"] (defScope s17) := ⟨rfl, rfl, rfl, by decide +kernel, rfl, by decide +kernel, by decide +kernel⟩
theorem ok_c17 {f : Addr} {fd : FuncData} (F : Fun K "tell_look" "tell_look" s17 f fd) (U : Tools P w K mg base C CL) : FnOk P w K mg base CX0 7 f fd ["works", "number"] (spCall (ZF C CL) 17) := by
  refine F.ok sc17 (fun vs H Q E h => len_ok h rfl) (fun cdv A outer s0 H vs Q E hr h => ?_)
  · obtain ⟨wa, L, raws, s, c, hc, rfl, S, k⟩ := open_call h (by decide)
    obtain ⟨o, rfl⟩ := is_17 hc
    have T := U.T
    have O := U.O
    obtain ⟨tc2, c2⟩ := U.k2
    have k : Fin C CL H wa (some s) (ansOf (if Kp242.isOrder s o = false then Kp242.say (-2) else ⟨((Kp242.orderAt s o).metres : Int), Kp242.ints [(Kp242.orderAt s o).pays]⟩)) Q := k
    refine ⟨_, (pss_cons (ps_if (pt_cmpR op_ge (pv 1) (pe_callB call_len_seq rfl O.len PySem.boot_len (pa_cons (pe_fld (pv 0) rfl) pa_nil)) (nomark _)) (pss_one (ps_ret (pe_lst (pa_cons (pe_k rfl c2) pa_nil)))) pss_nil)
      (pss_one (ps_ret (pe_callTy call_list_of rfl O.list PyProof.Rows.boot_list (pa_cons (pe_ix ix_list (pe_fld (pv 0) rfl) (pv 1) (fun _ _ => rfl)) pa_nil))))), ?_⟩
    refine ⟨_, rfl, _, rfl, wa, C, L.dx, _, _, rfl, S.obj, T.cl, T.nOrd, wf_ord, L.oa, _, rfl, .inl (SqL.of S.ord), _, _, rfl, rfl, _, rfl, ?_⟩
    by_cases ho : o < s.orders.length
    case neg =>
      refine iteP (S.no_o ho) ⟨(by show 1 ≤ sizeLine; decide), fun p hp => ?_⟩
      rw [if_pos (noO ho)] at k
      exact fin_new k S hp
    rw [if_neg (isO ho)] at k
    refine iteN (S.is_o ho) ?_
    obtain ⟨ta, ha, hta⟩ := S.tup ho
    refine ⟨_, rfl, wa, C, L.dx, _, _, rfl, S.obj, T.cl, T.nOrd, wf_ord, _, rfl, L.oa, _, _, _, rfl, rfl, SqL.of S.ord, atI_nat (get_map ha), ta, _, rfl, .inr (SqT.of hta), fun p hp => ?_⟩
    exact fin_same k S (Same.fresh hp) hp upd_same
/-! ### tell_sums -/
abbrev s18 : Stmt := top 55
theorem sc18 : FnScope ["works"] ["works"] (defScope s18) := ⟨rfl, rfl, rfl, by decide +kernel, rfl, by decide +kernel, by decide +kernel⟩
theorem ok_c18 {f : Addr} {fd : FuncData} (F : Fun K "tell_sums" "tell_sums" s18 f fd) (U : Tools P w K mg base C CL) : FnOk P w K mg base CX0 7 f fd ["works"] (spCall (ZF C CL) 18) := by
  refine F.ok sc18 (fun vs H Q E h => len_ok h rfl) (fun cdv A outer s0 H vs Q E hr h => ?_)
  · obtain ⟨wa, L, raws, s, c, hc, rfl, S, k⟩ := open_call h (by decide)
    obtain rfl := is_18 hc
    have T := U.T
    have O := U.O
    have k : Fin C CL H wa (some s) ((s.lengths.length : Int) :: Kp242.ints [s.orders.length, s.kerf, s.sold, s.brought]) Q := k
    refine ⟨_, (pss_one (ps_ret (pe_lst (pa_cons (pe_callB call_len_seq rfl O.len PySem.boot_len (pa_cons (pe_fld (pv 0) rfl) pa_nil)) (pa_cons (pe_callB call_len_seq rfl O.len PySem.boot_len (pa_cons (pe_fld (pv 0) rfl) pa_nil)) (pa_cons (pe_fld (pv 0) rfl) (pa_cons (pe_fld (pv 0) rfl) (pa_cons (pe_fld (pv 0) rfl) pa_nil)))))))), ?_⟩
    refine ⟨_, rfl, wa, C, L.dx, _, _, rfl, S.obj, T.cl, T.nLen, wf_len, L.la, _, rfl, .inl (SqL.of S.lst), _, rfl, wa, C, L.dx, _, _, rfl, S.obj, T.cl, T.nOrd, wf_ord, L.oa, _, rfl, .inl (SqL.of S.ord), _, rfl, wa, C, L.dx, _, _, rfl, S.obj, T.cl, T.nKer, wf_ker, _, rfl, wa, C, L.dx, _, _, rfl, S.obj, T.cl, T.nSol, wf_sol, _, rfl, wa, C, L.dx, _, _, rfl, S.obj, T.cl, T.nBro, wf_bro, (by show 5 ≤ sizeLine; decide), fun p hp => ?_⟩
    refine fin_same k S (Same.fresh hp) hp ?_
    rw [upd_same, S.llen, S.olen]
    rfl
/-! ### tell_pieces -/
abbrev s14 : Stmt := top 51
theorem sc14 : FnScope ["works", "told", "number", "length", "start", "stop"] ["works"] (defScope s14) := ⟨rfl, rfl, rfl, by decide +kernel, rfl, by decide +kernel, by decide +kernel⟩
theorem ok_c14 {f : Addr} {fd : FuncData} (F : Fun K "tell_pieces" "tell_pieces" s14 f fd) (U : Tools P w K mg base C CL) : FnOk P w K mg base CX0 7 f fd ["works"] (spCall (ZF C CL) 14) := by
  refine F.ok sc14 (fun vs H Q E h => len_ok h rfl) (fun cdv A outer s0 H vs Q E hr h => ?_)
  · obtain ⟨wa, L, raws, s, c, hc, rfl, S, k⟩ := open_call h (by decide)
    obtain rfl := is_14 hc
    have T := U.T
    have O := U.O
    obtain ⟨fAll, fdAll, GAll, mAll, kAll, bAll⟩ := U.hAll
    obtain ⟨fLP, fdLP, GLP, mLP, kLP, bLP⟩ := U.hLP
    have k : Fin C CL H wa (some s) (((Kp242.pieces s).length : Int) :: Kp242.ints ((Kp242.pieces s).flatMap fun p => [p.length, p.from_, p.to])) Q := k
    refine ⟨_, (pss_cons (ps_set (i := 1) sc14.nd rfl (Or.inl rfl) (pe_lst (pa_cons (pe_callB call_len_seq rfl O.len PySem.boot_len (pa_cons (pe_call GAll (hr.mono (by decide) : Room 3 _) rfl mAll kAll bAll .nil pass0 (pa_cons (pe_fld (pv 0) rfl) pa_nil)) pa_nil)) pa_nil)))
      (pss_cons (ps_for PassesOwn.never rfl (pi_enum rfl O.enumerate (pa_cons (pe_fld (pv 0) rfl) pa_nil)) (pg_tup rfl (pgs_cons (pg_name (i := 2) sc14.nd rfl (Or.inl rfl) (Or.inr rfl)) (pgs_cons (pg_name (i := 3) sc14.nd rfl (Or.inl rfl) (Or.inr rfl)) pgs_nil)))
        (pss_one (ps_for PassesOwn.never rfl (pi_list (pe_call GLP (hr.mono (by decide) : Room 2 _) rfl mLP kLP bLP .nil pass0 (pa_cons (pv 3) pa_nil))) (pg_tup rfl (pgs_cons (pg_name (i := 4) sc14.nd rfl (Or.inl rfl) (Or.inr rfl)) (pgs_cons (pg_name (i := 5) sc14.nd rfl (Or.inl rfl) (Or.inr rfl)) pgs_nil)))
          (pss_one (ps_expr (pe_bm PySem.F.plainAttrs_list PySem.F.slot_list_extend PySem.F.type_list_extend mt_extend (pv 1) (pa_cons (pe_lst (pa_cons (pv 2) (pa_cons (pv 4) (pa_cons (pv 5) pa_nil)))) pa_nil)))))))
      (pss_one (ps_ret (pv 1))))), ?_⟩
    refine ⟨_, rfl, wa, C, L.dx, _, _, rfl, S.obj, T.cl, T.nLen, wf_len, L.la, L.ls, raws, rfl, S.at_, fun H1 p1 s1 hp1 ⟨as1, ha1, P1⟩ => ⟨p1, _, rfl, .inl (SqL.of ha1), (by show 1 ≤ sizeLine; decide), fun q hq => ?_⟩⟩
    have s2 := s1.new (o := .lst [V.int ((as1.map V.ref).length : Nat)]) (s1.free hq)
    have fq : H q = none := s1.free hq
    have el : ((as1.map V.ref).length : Nat) = (Kp242.pieces s).length := by
      rw [List.length_map, P1.1, ← pieces_raw S.good, List.length_map]
    rw [el] at s2 ⊢
    refine ⟨_, rfl, wa, C, L.dx, _, _, rfl, s2 _ _ S.obj, T.cl, T.nLen, wf_len, L.la, _, rfl, SqL.of (s2 _ _ S.lst), for_enum (K := K) (a := L.la) (xs := lrefs L.ls) (fun i σ H' => ∃ v2 v3 v4 v5 : Option V, σ = [some (.ref wa), some (.ref q), v2, v3, v4, v5] ∧ Same H H' ∧ H' q = some (.lst (V.int ((Kp242.pieces s).length : Nat) :: List.map nint (upTo s i))))
      ⟨none, none, none, none, rfl, s2, upd_same⟩ (fun i σ H' _ ⟨_, _, _, _, _, s3, _⟩ => SqL.of (s3 _ _ S.lst)) ?_ ?_⟩
    · rintro i y T0 σ H2 hy ⟨v2, v3, v4, v5, rfl, s3, hq3⟩ hT
      obtain ⟨x, hx, rfl⟩ := map_get hy
      have hi : i < s.lengths.length := by rw [← S.llen]; unfold lrefs; rw [List.length_map]; exact (List.getElem?_eq_some_iff.mp hx).1
      obtain ⟨w, hw, gw⟩ := raw_at S.good hi
      obtain ⟨hxr, hxf⟩ := S.lens.2 i x w hx hw
      have sT : Same H2 (upd H2 T0 (.tup [.int (i : Nat), .ref x.r])) := Same.fresh hT
      have s4 := s3.trans sT
      refine ⟨T0, _, rfl, SqT.of upd_same, rfl, _, _, rfl, _, _, rfl, rfl, ?_⟩
      have hq4 := sT _ _ hq3
      generalize upd H2 T0 (.tup [.int (i : Nat), .ref x.r]) = H4 at s4 hq4
      refine ⟨_, rfl, x, w, rfl, s4 _ _ hxr, s4 _ _ hxf, Nat.le_succ_of_le gw.few, fun H5 p5 s5 hp5 ⟨as5, ha5, P5⟩ => ?_⟩
      have nq5 : q ≠ p5 := ne_of_none hq4 hp5
      have f5 : H p5 = none := s4.free hp5
      refine ⟨p5, rfl, ⟨_, SqL.of ha5⟩, for_list (K := K) (a := p5) (xs := as5.map V.ref) (fun j σ H' => ∃ v4 v5 : Option V, σ = [some (.ref wa), some (.ref q), some (nint i), some (.ref x.r), v4, v5] ∧ Same H H' ∧ H' p5 = some (.lst (as5.map V.ref)) ∧ PairsIn H' as5 w.pieces ∧ H' q = some (.lst (V.int ((Kp242.pieces s).length : Nat) :: List.map nint (upTo s i ++ (w.pieces.take j).flatMap fun z => [i, z.1, z.2]))))
        ⟨v4, v5, rfl, s4.trans s5, ha5, P5, by simpa using s5 _ _ hq4⟩ (fun j σ H' _ ⟨_, _, _, _, h, _⟩ => SqL.of h) ?_ ?_⟩
      · rintro j y σ H6 hy ⟨u4, u5, rfl, s6, ha6, P6, hq6⟩
        obtain ⟨t, z, rfl, ht, hz, hH⟩ := P6.elt hy
        refine ⟨t, _, rfl, SqT.of hH, rfl, _, _, rfl, _, _, rfl, rfl, ?_⟩
        refine ⟨_, rfl, .inl ⟨rfl, _, SqL.of hq6⟩, _, rfl, _, rfl, _, rfl, (by show 3 ≤ sizeLine; decide), fun p7 hp7 => ?_⟩
        have nq7 : q ≠ p7 := ne_of_none hq6 hp7
        have hq7 : upd H6 p7 (.lst [nint i, nint z.1, nint z.2]) q = some (.lst (V.int ((Kp242.pieces s).length : Nat) :: List.map nint (upTo s i ++ (w.pieces.take j).flatMap fun z => [i, z.1, z.2]))) := by rw [upd_ne nq7]; exact hq6
        refine ⟨q, p7, _, _, rfl, rfl, hq7, upd_same, ?_, ?_⟩
        · rw [List.length_cons, List.length_map, List.length_append]
          have b1 := upTo_len S.good (Nat.le_of_lt hi)
          have b2 := trip_len i (w.pieces.take j)
          have b3 := raw_len (w := w) (Nat.le_succ_of_le gw.few)
          have b4 := S.good.ls
          have b5 : s.lengths.length = raws.length := by rw [S.good.eq, List.length_map]
          rw [List.length_take] at b2
          exact line_small (by show _ + 1 + 3 ≤ 1000; omega)
        · refine ⟨some (nint z.1), some (nint z.2), rfl, (s6.new (s6.free hp7)).new fq, ?_, ?_, ?_⟩
          · rw [upd_ne (Ne.symm nq5), upd_ne (ne_of_none ha6 hp7)]
            exact ha6
          · exact (P6.same (Same.fresh hp7)).updL hq7
          · rw [upd_same, take_snoc hz, List.flatMap_append, ← List.append_assoc]
            show some (HO.lst (_ :: (List.map nint (upTo s i ++ (w.pieces.take j).flatMap fun z => [i, z.1, z.2]) ++ [nint i, nint z.1, nint z.2]))) = _
            rw [List.map_append (l₁ := upTo s i ++ (w.pieces.take j).flatMap fun z => [i, z.1, z.2])]
            simp
      · rintro σ H6 ⟨u4, u5, rfl, s6, ha6, P6, hq6⟩
        refine ⟨_, _, _, _, rfl, s6, ?_⟩
        rw [List.length_map, P5.1, List.take_length] at hq6
        rw [hq6, upTo_succ S.good hw]
    · rintro σ H2 ⟨v2, v3, v4, v5, rfl, s3, hq3⟩
      have e9 : (lrefs L.ls).length = s.lengths.length := S.llen
      rw [e9, upTo_all] at hq3
      refine ⟨_, rfl, fin_same k S s3 fq ?_⟩
      rw [hq3, List.map_cons, ints_nint]
end
end Cut

set_option Elab.async false
set_option linter.all false
set_option maxRecDepth 100000
set_option maxHeartbeats 2000000
namespace Cut
open PySem PySem.Spec PyProof.Rows L2
theorem nodup_set {l : List Addr} {i : Nat} {a : Addr} (h : l.Nodup) (ha : a ∉ l) : (l.set i a).Nodup := by
  induction l generalizing i with
  | nil => simp
  | cons b l ih =>
    rw [List.nodup_cons] at h
    cases i with
    | zero =>
      rw [List.set_cons_zero, List.nodup_cons]
      exact ⟨fun z => ha (List.mem_cons_of_mem _ z), h.2⟩
    | succ i =>
      rw [List.set_cons_succ, List.nodup_cons]
      refine ⟨fun z => ?_, ih h.2 fun z => ha (List.mem_cons_of_mem _ z)⟩
      rcases List.mem_or_eq_of_mem_set z with q | q
      · exact h.1 q
      · exact ha (q ▸ List.mem_cons_self ..)
theorem seqIndex_nat {j n : Nat} (h : j < n) : seqIndex? (j : Int) n = some j := by
  unfold seqIndex?
  simp
  rw [if_neg (by omega)]
  omega
section
variable {P : Program} {w : World} {K : PySem.W.Frag} {mg : Str → Option Value} {base : Heap} {C CL : Addr}
/-! ### begin -/
abbrev s0 : Stmt := top 37
theorem sc0 : FnScope ["works", "kerf"] ["works", "kerf"] (defScope s0) := ⟨rfl, rfl, rfl, by decide +kernel, rfl, by decide +kernel, by decide +kernel⟩
theorem ok_c0 {f : Addr} {fd : FuncData} (F : Fun K "begin" "begin" s0 f fd) (U : Tools P w K mg base C CL) : FnOk P w K mg base CX0 7 f fd ["works", "kerf"] (spCall (ZF C CL) 0) := by
  refine F.ok sc0 (fun vs H Q E h => len_ok h rfl) (fun cdv A outer s0 H vs Q E hr h => ?_)
  · obtain ⟨wa, st, c, hc, rfl, _, ⟨L, raws, S⟩, _, k⟩ := h
    obtain ⟨kf, rfl⟩ := zero_begin hc
    have T := U.T
    have O := U.O
    obtain ⟨t1, c22⟩ := U.k22
    obtain ⟨t2, cK⟩ := U.kKerf
    have e : Kp242.step st (.begin_ kf) = if 10 < kf then (st, Kp242.say (-22)) else (some ⟨kf, [], [], 0, 0⟩, Kp242.say 0) := rfl
    have k : Fin C CL H wa (Kp242.step st (.begin_ kf)).1 (ansOf (Kp242.step st (.begin_ kf)).2) Q := k
    rw [e] at k
    refine ⟨_, (pss_cons (ps_if (pt_cmpR op_gt (pv 1) (pe_k rfl cK) (nomark _)) (pss_one (ps_ret (pe_lst (pa_cons (pe_k rfl c22) pa_nil)))) pss_nil)
      (pss_cons (ps_fld (pv 0) pe_bl rfl)
      (pss_cons (ps_fld (pv 0) (pv 1) rfl)
      (pss_cons (ps_fld (pv 0) (pe_lst pa_nil) rfl)
      (pss_cons (ps_fld (pv 0) (pe_lst pa_nil) rfl)
      (pss_cons (ps_fld (pv 0) pe_int rfl)
      (pss_cons (ps_fld (pv 0) pe_int rfl)
      (pss_one (ps_ret (pe_lst (pa_cons pe_int pa_nil))))))))))), ?_⟩
    refine ⟨_, rfl, _, _, rfl, rfl, _, rfl, ?_⟩
    by_cases hk : 10 < kf
    · refine iteP (decide_eq_true (show (10 : Int) < (kf : Int) by omega)) ⟨(by show 1 ≤ sizeLine; decide), fun p hp => ?_⟩
      rw [if_pos hk] at k
      exact fin_new k S hp
    rw [if_neg hk] at k
    have k : Fin C CL H wa (some ⟨kf, [], [], 0, 0⟩) [0] Q := k
    refine iteN (decide_eq_false (show ¬ (10 : Int) < (kf : Int) by omega)) ?_
    refine ⟨_, rfl, wa, C, L.dx, _, rfl, S.obj, T.cl, T.nBeg, (by show 6 < 1000; decide), ?_⟩
    refine ⟨_, rfl, _, rfl, wa, C, L.dx, _, rfl, upd_same, T.cl, T.nKer, (by show 6 < 1000; decide), ?_⟩
    rw [upd_upd]
    refine ⟨Nat.zero_le _, fun la hla => ⟨_, rfl, wa, C, L.dx, _, rfl, by rw [upd_ne (ne_of_none upd_same hla)]; exact upd_same, T.cl, T.nLen, (by show 6 < 1000; decide), ?_⟩⟩
    have npl : wa ≠ la := ne_of_none upd_same hla
    refine ⟨Nat.zero_le _, fun oa hoa => ⟨_, rfl, wa, C, L.dx, _, rfl, by rw [upd_ne (ne_of_none upd_same hoa)]; exact upd_same, T.cl, T.nOrd, (by show 6 < 1000; decide), ?_⟩⟩
    have npo : wa ≠ oa := ne_of_none upd_same hoa
    have nlo : la ≠ oa := ne_of_none (by rw [upd_ne (Ne.symm npl)]; exact upd_same) hoa
    have fl : H la = none := by rw [upd_ne (Ne.symm npl)] at hla; exact hla
    have fo : H oa = none := by rw [upd_ne (Ne.symm npo), upd_ne (Ne.symm nlo), upd_ne (Ne.symm npo)] at hoa; exact hoa
    refine ⟨_, rfl, wa, C, L.dx, _, rfl, upd_same, T.cl, T.nSol, (by show 6 < 1000; decide), ?_⟩
    refine ⟨_, rfl, wa, C, L.dx, _, rfl, upd_same, T.cl, T.nBro, (by show 6 < 1000; decide), ?_⟩
    rw [upd_upd, upd_upd]
    refine ⟨(by show 1 ≤ sizeLine; decide), fun p hp => ?_⟩
    -- the heap before the answer, as one: H with la, oa and the object
    have eH : ∀ (o1 o2 o3 : HO), upd (upd (upd (upd (upd H wa o1) la (.lst [])) wa o2) oa (.lst [])) wa o3 = upd (upd (upd H la (.lst [])) oa (.lst [])) wa o3 := fun o1 o2 o3 => by
      funext b
      by_cases e1 : b = wa
      · subst e1
        rw [upd_same, upd_same]
      · rw [upd_ne e1, upd_ne e1]
        by_cases e2 : b = oa
        · subst e2
          rw [upd_same, upd_same]
        · rw [upd_ne e2, upd_ne e2, upd_ne e1]
          by_cases e3 : b = la
          · subst e3
            rw [upd_same, upd_same]
          · rw [upd_ne e3, upd_ne e3, upd_ne e1]
    rw [eH] at hp ⊢
    have s1 : Same H (upd (upd H la (.lst [])) oa (.lst [])) := (Same.fresh fl).new fo
    have sh := S.anew (k := kf) s1 (la := la) (oa := oa) (by rw [upd_ne nlo]; exact upd_same) upd_same nlo
    have hp' : upd (upd (upd H la (.lst [])) oa (.lst [])) wa (.ins C L.dx (wf true kf la oa 0 0)) p = none := hp
    have npw : p ≠ wa := fun z => by rw [z, upd_same] at hp'; cases hp'
    have fp : H p = none := by
      rw [upd_ne npw] at hp'
      exact s1.free hp'
    have sh2 := sh.same (Same.fresh (o := .lst [V.int 0]) hp')
    refine fin_mut (st := none) k S sh2 (fun b hb => ?_) (fun b o e nb => ?_) fp (fun z => ?_) upd_same
    · rcases own_cases hb with q | q | q | ⟨x, hx, _⟩ | ⟨x, hx, _⟩ | q
      · exact .inl (q ▸ own_wa)
      · exact .inr (q ▸ fl)
      · exact .inr (q ▸ fo)
      · simp at hx
      · simp at hx
      · simp at q
    · have nbw : b ≠ wa := fun z => nb (z ▸ own_wa)
      rw [upd_ne (ne_of_none e fp), upd_ne nbw]
      exact s1 _ _ e
    · obtain ⟨o, q⟩ := sh.tracked z
      rw [hp'] at q
      cases q
/-! ### add_length -/
abbrev s1 : Stmt := top 38
theorem sc1 : FnScope ["works", "metres"] ["works", "metres"] (defScope s1) := ⟨rfl, rfl, rfl, by decide +kernel, rfl, by decide +kernel, by decide +kernel⟩
theorem ok_c1 {f : Addr} {fd : FuncData} (F : Fun K "add_length" "add_length" s1 f fd) (U : Tools P w K mg base C CL) : FnOk P w K mg base CX0 7 f fd ["works", "metres"] (spCall (ZF C CL) 1) := by
  refine F.ok sc1 (fun vs H Q E h => len_ok h rfl) (fun cdv A outer s0 H vs Q E hr h => ?_)
  · obtain ⟨wa, L, raws, s, c, hc, rfl, S, k⟩ := open_call h (by decide)
    obtain ⟨m, rfl⟩ := is_1 hc
    have T := U.T
    have O := U.O
    obtain ⟨tc22, c22⟩ := U.k22
    obtain ⟨tc28, c28⟩ := U.k28
    obtain ⟨tcM, cM⟩ := U.kMet
    obtain ⟨tcL, cL⟩ := U.kLen
    obtain ⟨fI, fdI, M, mC, GI, bI⟩ := U.mkL
    have e : Kp242.step (some s) (.length m) = if m = 0 ∨ 10000 < m then (some s, Kp242.say (-22)) else if Kp242.LENGTHS ≤ s.lengths.length then (some s, Kp242.say (-28)) else (some { s with lengths := s.lengths ++ [⟨0, m, []⟩] }, Kp242.say (s.lengths.length : Int)) := rfl
    rw [e] at k
    refine ⟨_, (pss_cons (ps_if (PW.pt (pw_or (pt_cmpR op_lt (pv 1) pe_int (nomark _)) (pw_or1 (pt_cmpR op_gt (pv 1) (pe_k rfl cM) (nomark _))))) (pss_one (ps_ret (pe_lst (pa_cons (pe_k rfl c22) pa_nil)))) pss_nil)
      (pss_cons (ps_if (pt_cmpR op_ge (pe_callB call_len_seq rfl O.len PySem.boot_len (pa_cons (pe_fld (pv 0) rfl) pa_nil)) (pe_k rfl cL) (nomark _)) (pss_one (ps_ret (pe_lst (pa_cons (pe_k rfl c28) pa_nil)))) pss_nil)
      (pss_cons (ps_expr (pe_bm PySem.F.plainAttrs_list PySem.F.slot_list_append PySem.F.type_list_append mt_append (pe_fld (pv 0) rfl) (pa_cons (pe_make M GI (hr.mono (by decide) : Room 2 _) rfl mC bI .nil pass0 (pa_cons pe_int (pa_cons (pv 1) (pa_cons (pe_lst pa_nil) pa_nil)))) pa_nil)))
      (pss_one (ps_ret (pe_lst (pa_cons (pe_op op_sub (pe_callB call_len_seq rfl O.len PySem.boot_len (pa_cons (pe_fld (pv 0) rfl) pa_nil)) pe_int) pa_nil))))))), ?_⟩
    have refuse : (m = 0 ∨ 10000 < m) → ∀ p, H p = none → Q (.ref p) (upd H p (.lst [V.int (-22)])) := fun hm p hp => by
      rw [if_pos hm] at k
      exact fin_new k S hp
    refine ⟨_, rfl, _, _, rfl, rfl, _, rfl, ?_⟩
    by_cases h1 : m < 1
    · exact iteP (decide_eq_true (show (m : Int) < 1 by omega)) (iteT ⟨(by show 1 ≤ sizeLine; decide), fun p hp => refuse (by omega) p hp⟩)
    refine iteN (decide_eq_false (show ¬ (m : Int) < 1 by omega)) ⟨_, rfl, _, _, rfl, rfl, _, rfl, ?_⟩
    by_cases h2 : 10000 < m
    · exact iteP (decide_eq_true (show (10000 : Int) < (m : Int) by omega)) ⟨(by show 1 ≤ sizeLine; decide), fun p hp => refuse (by omega) p hp⟩
    refine iteN (decide_eq_false (show ¬ (10000 : Int) < (m : Int) by omega)) ?_
    rw [if_neg (show ¬ (m = 0 ∨ 10000 < m) by omega)] at k
    refine ⟨_, rfl, wa, C, L.dx, _, _, rfl, S.obj, T.cl, T.nLen, wf_len, L.la, _, rfl, .inl (SqL.of S.lst), _, _, rfl, rfl, _, rfl, ?_⟩
    by_cases h3 : 3 ≤ s.lengths.length
    · refine iteP (decide_eq_true (show (3 : Int) ≤ (((lrefs L.ls).length : Nat) : Int) by rw [S.llen]; omega)) ⟨(by show 1 ≤ sizeLine; decide), fun p hp => ?_⟩
      rw [if_pos (show Kp242.LENGTHS ≤ s.lengths.length from h3)] at k
      exact fin_new k S hp
    refine iteN (decide_eq_false (show ¬ (3 : Int) ≤ (((lrefs L.ls).length : Nat) : Int) by rw [S.llen]; omega)) ?_
    rw [if_neg (show ¬ Kp242.LENGTHS ≤ s.lengths.length from h3)] at k
    have k : Fin C CL H wa (some { s with lengths := s.lengths ++ [⟨0, m, []⟩] }) [(s.lengths.length : Int)] Q := k
    have rl : raws.length < 3 := by
      have : s.lengths.length = raws.length := by rw [S.good.eq, List.length_map]
      omega
    refine ⟨_, rfl, wa, C, L.dx, _, _, rfl, S.obj, T.cl, T.nLen, wf_len, .inl ⟨rfl, _, SqL.of S.lst⟩, _, rfl, Nat.zero_le _, fun fa hfa => ?_⟩
    intro nr ndx n1 n2 n3
    refine ⟨nr, ndx, fa, 0, m, rfl, upd_same, rfl, ?_⟩
    rw [upd_upd]
    have s1 : Same H (upd H fa (.lst [])) := Same.fresh hfa
    have s2 : Same (upd H fa (.lst [])) (upd (upd (upd H fa (.lst [])) ndx (.own nr)) nr (.ins CL ndx (lf 0 m fa))) := (Same.fresh n2).new n1
    have f2 : (upd (upd (upd H fa (.lst [])) ndx (.own nr)) nr (.ins CL ndx (lf 0 m fa))) fa = some (.lst []) := s2 _ _ upd_same
    have g2 : (upd (upd (upd H fa (.lst [])) ndx (.own nr)) nr (.ins CL ndx (lf 0 m fa))) nr = some (.ins CL ndx (lf 0 m fa)) := upd_same
    have s02 := s1.trans s2
    have fr : H nr = none := s1.free n1
    generalize (upd (upd (upd H fa (.lst [])) ndx (.own nr)) nr (.ins CL ndx (lf 0 m fa))) = H2 at s02 f2 g2
    refine ⟨L.la, _, _, rfl, rfl, s02 _ _ S.lst, by rw [S.llen]; exact small1000 (by omega), ?_⟩
    have en : lrefs L.ls ++ [V.ref nr] = lrefs (L.ls ++ [⟨nr, ndx, fa⟩]) := by
      unfold lrefs
      rw [List.map_append]
      rfl
    rw [en]
    have hl : LensIn CL H2 (L.ls ++ [(⟨nr, ndx, fa⟩ : LR)]) (raws ++ [(⟨0, m, []⟩ : Raw)]) := by
      refine ⟨by rw [List.length_append, List.length_append, S.lens.1]; rfl, fun i x u e1 e2 => ?_⟩
      by_cases hi : i < L.ls.length
      · rw [List.getElem?_append_left hi] at e1
        rw [List.getElem?_append_left (by rw [← S.lens.1]; exact hi)] at e2
        exact (S.lens.same s02).2 i x u e1 e2
      · rw [List.getElem?_append_right (by omega)] at e1
        rw [List.getElem?_append_right (by rw [← S.lens.1]; omega), ← S.lens.1] at e2
        have hz : i - L.ls.length = 0 := by
          have := (List.getElem?_eq_some_iff.mp e1).1
          simp at this
          omega
        rw [hz] at e1 e2
        cases e1
        cases e2
        exact ⟨g2, f2⟩
    have nd : ((L.ls ++ [(⟨nr, ndx, fa⟩ : LR)]).map LR.r).Nodup := by
      rw [List.map_append, List.nodup_append]
      refine ⟨S.nd, by simp, fun a ha b hb => ?_⟩
      obtain ⟨x, hx, rfl⟩ := List.mem_map.mp ha
      obtain ⟨u, _, q, _⟩ := S.lens.ref hx
      have hb : b = nr := by simpa using hb
      rw [hb]
      exact ne_of_none q fr
    have fal : ∀ x ∈ L.ls ++ [⟨nr, ndx, fa⟩], x.fa ≠ L.la ∧ x.fa ≠ L.oa := fun x hx => by
      rcases List.mem_append.mp hx with q | q
      · exact S.fal x q
      · have q : x = ⟨nr, ndx, fa⟩ := by simpa using q
        subst q
        exact ⟨Ne.symm (ne_of_none S.lst hfa), Ne.symm (ne_of_none S.ord hfa)⟩
    have sh := S.lensAt s02 hl nd fal (good_length S.good (by omega) rl)
    have kp : ∀ b o, H b = some o → b ∉ L.own wa → (upd H2 L.la (.lst (lrefs (L.ls ++ [⟨nr, ndx, fa⟩])))) b = some o := fun b o e nb => by
      rw [upd_ne (ne_own nb (own_la))]
      exact s02 _ _ e
    generalize (upd H2 L.la (.lst (lrefs (L.ls ++ [⟨nr, ndx, fa⟩])))) = H3 at sh kp
    have fresh3 : ∀ p, H3 p = none → H p = none := fun p hp => by
      cases q : H p with
      | none => rfl
      | some o =>
        by_cases z : p ∈ L.own wa
        · exfalso
          have z2 : p ∈ Lay.own { L with ls := L.ls ++ [⟨nr, ndx, fa⟩] } wa := by
            rcases own_cases z with y | y | y | ⟨x, hx, y⟩ | ⟨x, hx, y⟩ | y
            · exact y ▸ own_wa
            · exact y ▸ own_la (L := { L with ls := L.ls ++ [⟨nr, ndx, fa⟩] })
            · exact y ▸ own_oa (L := { L with ls := L.ls ++ [⟨nr, ndx, fa⟩] })
            · exact y ▸ own_r (L := { L with ls := L.ls ++ [⟨nr, ndx, fa⟩] }) (List.mem_append_left _ hx)
            · exact y ▸ own_fa (L := { L with ls := L.ls ++ [⟨nr, ndx, fa⟩] }) (List.mem_append_left _ hx)
            · exact own_o (L := { L with ls := L.ls ++ [⟨nr, ndx, fa⟩] }) y
          obtain ⟨o2, e2⟩ := sh.tracked z2
          rw [hp] at e2
          cases e2
        · rw [kp p o q z] at hp
          cases hp
    refine ⟨_, rfl, wa, C, L.dx, _, _, rfl, sh.obj, T.cl, T.nLen, wf_len, L.la, _, rfl, .inl (SqL.of sh.lst), _, _, rfl, rfl, (by show 1 ≤ sizeLine; decide), fun p hp => ?_⟩
    have fp := fresh3 p hp
    refine fin_mut (st := none) k S (sh.same (Same.fresh hp)) (fun b hb => ?_) (fun b o e nb => ?_) fp (fun z => ?_) ?_
    · rcases own_cases hb with q | q | q | ⟨x, hx, q⟩ | ⟨x, hx, q⟩ | q
      · exact .inl (q ▸ own_wa)
      · exact .inl (q ▸ own_la)
      · exact .inl (q ▸ own_oa)
      · rcases List.mem_append.mp hx with y | y
        · exact .inl (q ▸ own_r y)
        · have y : x = ⟨nr, ndx, fa⟩ := by simpa using y
          subst y
          exact .inr (q ▸ fr)
      · rcases List.mem_append.mp hx with y | y
        · exact .inl (q ▸ own_fa y)
        · have y : x = ⟨nr, ndx, fa⟩ := by simpa using y
          subst y
          exact .inr (q ▸ hfa)
      · exact .inl (own_o q)
    · rw [upd_ne (ne_of_none e fp)]
      exact kp b o e nb
    · obtain ⟨o, q⟩ := sh.tracked z
      rw [hp] at q
      cases q
    · rw [upd_same]
      show some (HO.lst [V.int ((((lrefs (L.ls ++ [⟨nr, ndx, fa⟩])).length : Nat) : Int) - 1)]) = some (HO.lst [V.int (s.lengths.length : Int)])
      have : (lrefs (L.ls ++ [⟨nr, ndx, fa⟩])).length = s.lengths.length + 1 := by
        rw [← en, List.length_append, S.llen]
        rfl
      rw [this, show (((s.lengths.length + 1 : Nat) : Int) - 1) = (s.lengths.length : Int) by omega]
/-! ### add_fault -/
abbrev s2 : Stmt := top 39
theorem sc2 : FnScope ["works", "number", "metre", "length"] ["works", "number", "metre"] (defScope s2) := ⟨rfl, rfl, rfl, by decide +kernel, rfl, by decide +kernel, by decide +kernel⟩
theorem ok_c2 {f : Addr} {fd : FuncData} (F : Fun K "add_fault" "add_fault" s2 f fd) (U : Tools P w K mg base C CL) : FnOk P w K mg base CX0 7 f fd ["works", "number", "metre"] (spCall (ZF C CL) 2) := by
  refine F.ok sc2 (fun vs H Q E h => len_ok h rfl) (fun cdv A outer s0 H vs Q E hr h => ?_)
  · obtain ⟨wa, L, raws, s, c, hc, rfl, S, k⟩ := open_call h (by decide)
    obtain ⟨l, f, rfl⟩ := is_2 hc
    have T := U.T
    have O := U.O
    obtain ⟨fAll, fdAll, GAll, mAll, kAll, bAll⟩ := U.hAll
    obtain ⟨fHa, fdHa, GHa, mHa, kHa, bHa⟩ := U.hHa
    obtain ⟨fWi, fdWi, GWi, mWi, kWi, bWi⟩ := U.hWi
    obtain ⟨tc2, c2⟩ := U.k2
    obtain ⟨tc22, c22⟩ := U.k22
    obtain ⟨tc17, c17⟩ := U.k17
    obtain ⟨tc28, c28⟩ := U.k28
    obtain ⟨tcF, cF⟩ := U.kFau
    have e : Kp242.step (some s) (.fault l f) = if Kp242.isLength s l = false then (some s, Kp242.say (-2)) else if f < (Kp242.lengthAt s l).from_ ∨ (Kp242.lengthAt s l).to ≤ f then (some s, Kp242.say (-22)) else if (Kp242.lengthAt s l).faults.contains f then (some s, Kp242.say (-17)) else if Kp242.FAULTS ≤ (Kp242.lengthAt s l).faults.length then (some s, Kp242.say (-28)) else
          (some (Kp242.withFault s l f), Kp242.say ((Kp242.pieces (Kp242.withFault s l f)).length : Int)) := rfl
    rw [e] at k
    refine ⟨_, (pss_cons (ps_if (pt_cmpR op_ge (pv 1) (pe_callB call_len_seq rfl O.len PySem.boot_len (pa_cons (pe_fld (pv 0) rfl) pa_nil)) (nomark _)) (pss_one (ps_ret (pe_lst (pa_cons (pe_k rfl c2) pa_nil)))) pss_nil)
      (pss_cons (ps_set (i := 3) sc2.nd rfl (Or.inl rfl) (pe_ix ix_list (pe_fld (pv 0) rfl) (pv 1) (fun _ _ => rfl)))
      (pss_cons (ps_if (pt_not (pt_val (pe_call GHa (hr.mono (by decide) : Room 1 _) rfl mHa kHa bHa .nil pass0 (pa_cons (pv 3) (pa_cons (pv 2) pa_nil))))) (pss_one (ps_ret (pe_lst (pa_cons (pe_k rfl c22) pa_nil)))) pss_nil)
      (pss_cons (ps_if (pt_cmpR op_in_seq (pv 2) (pe_fld (pv 3) rfl) rfl) (pss_one (ps_ret (pe_lst (pa_cons (pe_k rfl c17) pa_nil)))) pss_nil)
      (pss_cons (ps_if (pt_cmpR op_ge (pe_callB call_len_seq rfl O.len PySem.boot_len (pa_cons (pe_fld (pv 3) rfl) pa_nil)) (pe_k rfl cF) (nomark _)) (pss_one (ps_ret (pe_lst (pa_cons (pe_k rfl c28) pa_nil)))) pss_nil)
      (pss_cons (ps_fld (pv 0) (pe_call GWi (hr.mono (by decide) : Room 3 _) rfl mWi kWi bWi .nil pass0 (pa_cons (pe_fld (pv 0) rfl) (pa_cons (pv 1) (pa_cons (pv 2) pa_nil)))) rfl)
      (pss_one (ps_ret (pe_lst (pa_cons (pe_callB call_len_seq rfl O.len PySem.boot_len (pa_cons (pe_call GAll (hr.mono (by decide) : Room 3 _) rfl mAll kAll bAll .nil pass0 (pa_cons (pe_fld (pv 0) rfl) pa_nil)) pa_nil)) pa_nil)))))))))), ?_⟩
    refine ⟨_, rfl, _, rfl, wa, C, L.dx, _, _, rfl, S.obj, T.cl, T.nLen, wf_len, L.la, _, rfl, .inl (SqL.of S.lst), _, _, rfl, rfl, _, rfl, ?_⟩
    by_cases ho : l < s.lengths.length
    case neg =>
      refine iteP (S.no_l ho) ⟨(by show 1 ≤ sizeLine; decide), fun p hp => ?_⟩
      rw [if_pos (noL ho)] at k
      exact fin_new k S hp
    rw [if_neg (isL ho)] at k
    refine iteN (S.is_l ho) ?_
    obtain ⟨w, hw, gw⟩ := raw_at S.good ho
    obtain ⟨x, hx, hxr, hxf⟩ := S.lens.at_ hw
    have el := at_raw S.good hw
    refine ⟨_, rfl, wa, C, L.dx, _, _, rfl, S.obj, T.cl, T.nLen, wf_len, _, rfl, L.la, _, _, _, rfl, rfl, SqL.of S.lst, atI_nat (lrefs_get hx), ?_⟩
    refine ⟨_, rfl, _, rfl, x.r, x.dx, x.fa, w.c, w.m, f, rfl, hxr, _, rfl, ?_⟩
    rw [el] at k
    have ecd : (w.len.from_, w.len.to) = (w.c, w.m) := rfl
    by_cases hin : w.c ≤ f ∧ f < w.m
    case neg =>
      refine iteP (show (!(decide (w.c ≤ f) && decide (f < w.m))) = true by
        rw [Bool.not_eq_true', Bool.and_eq_false_iff]
        by_cases q : w.c ≤ f
        · exact .inr (decide_eq_false fun z => hin ⟨q, z⟩)
        · exact .inl (decide_eq_false q)) ⟨(by show 1 ≤ sizeLine; decide), fun p hp => ?_⟩
      rw [if_pos (show f < w.len.from_ ∨ w.len.to ≤ f by show f < w.c ∨ w.m ≤ f; omega)] at k
      exact fin_new k S hp
    rw [if_neg (show ¬ (f < w.len.from_ ∨ w.len.to ≤ f) by show ¬ (f < w.c ∨ w.m ≤ f); omega)] at k
    refine iteN (show (!(decide (w.c ≤ f) && decide (f < w.m))) = false by rw [decide_eq_true hin.1, decide_eq_true hin.2]; rfl) ?_
    have emem : inV (nint f) (List.map nint w.fp) = decide (f ∈ w.fp) := by
      unfold inV
      rw [Bool.eq_iff_iff, List.any_eq_true, decide_eq_true_iff]
      constructor
      · rintro ⟨y, hy, q⟩
        obtain ⟨n, hn, rfl⟩ := List.mem_map.mp hy
        have q : ((n : Int) == (f : Int)) = true := q
        have : n = f := by have := eq_of_beq q; omega
        rw [← this]
        exact hn
      · intro hf
        exact ⟨nint f, List.mem_map.mpr ⟨f, hf, rfl⟩, beq_self_eq_true (f : Int)⟩
    have flat : (List.map nint w.fp).all flatV = true := by
      rw [List.all_eq_true]
      intro y hy
      obtain ⟨n, hn, rfl⟩ := List.mem_map.mp hy
      rfl
    refine ⟨_, rfl, _, rfl, x.r, CL, x.dx, _, _, rfl, hxr, T.clL, T.nFau, lf_fau, x.fa, _, rfl, .inl (SqL.of hxf), rfl, flat, _, rfl, ?_⟩
    by_cases hm : f ∈ w.fp
    · refine iteP (show inV (nint f) (List.map nint w.fp) = true by rw [emem, decide_eq_true hm]) ⟨(by show 1 ≤ sizeLine; decide), fun p hp => ?_⟩
      rw [if_pos (show w.len.faults.contains f = true by rw [List.contains_iff_mem]; exact isort_mem.mpr hm)] at k
      exact fin_new k S hp
    refine iteN (show inV (nint f) (List.map nint w.fp) = false by rw [emem, decide_eq_false hm]) ?_
    rw [if_neg (show ¬ w.len.faults.contains f = true by rw [List.contains_iff_mem]; exact fun z => hm (isort_mem.mp z))] at k
    refine ⟨_, rfl, x.r, CL, x.dx, _, _, rfl, hxr, T.clL, T.nFau, lf_fau, x.fa, _, rfl, .inl (SqL.of hxf), _, _, rfl, rfl, _, rfl, ?_⟩
    by_cases h2 : 2 ≤ w.fp.length
    · refine iteP (decide_eq_true (show (2 : Int) ≤ (((List.map nint w.fp).length : Nat) : Int) by rw [List.length_map]; omega)) ⟨(by show 1 ≤ sizeLine; decide), fun p hp => ?_⟩
      rw [if_pos (show Kp242.FAULTS ≤ w.len.faults.length by show 2 ≤ (isort w.fp).length; rw [isort_len]; exact h2)] at k
      exact fin_new k S hp
    refine iteN (decide_eq_false (show ¬ (2 : Int) ≤ (((List.map nint w.fp).length : Nat) : Int) by rw [List.length_map]; omega)) ?_
    rw [if_neg (show ¬ Kp242.FAULTS ≤ w.len.faults.length by show ¬ 2 ≤ (isort w.fp).length; rw [isort_len]; exact h2)] at k
    have k : Fin C CL H wa (some (Kp242.withFault s l f)) [((Kp242.pieces (Kp242.withFault s l f)).length : Int)] Q := k
    refine ⟨_, rfl, wa, C, L.dx, _, _, rfl, S.obj, T.cl, T.nLen, wf_len, _, rfl, _, rfl, L.la, L.ls, raws, l, f, w, rfl, S.lst, S.lens, hw, Nat.le_succ_of_le gw.few, fun H1 p1 y s1 hp1 fy1 fy2 ny hp2 hl2 => ?_⟩
    refine ⟨_, rfl, wa, C, L.dx, _, rfl, s1 _ _ S.obj, T.cl, T.nLen, (by show 6 < 1000; decide), ?_⟩
    have g2 := good_more S.good hw hin.2 hm (by omega)
    have nd : ((L.ls.set l y).map LR.r).Nodup := by
      rw [List.map_set]
      refine nodup_set S.nd fun z => ?_
      obtain ⟨u, hu, q⟩ := List.mem_map.mp z
      obtain ⟨v, _, q2, _⟩ := S.lens.ref hu
      rw [q, fy1] at q2
      cases q2
    have fal : ∀ u ∈ L.ls.set l y, u.fa ≠ p1 ∧ u.fa ≠ L.oa := fun u hu => by
      rcases List.mem_or_eq_of_mem_set hu with q | q
      · obtain ⟨v, _, _, q2⟩ := S.lens.ref q
        exact ⟨ne_of_none q2 hp1, (S.fal u q).2⟩
      · subst q
        exact ⟨Ne.symm ny, Ne.symm (ne_of_none S.ord fy2)⟩
    have sh := S.lensPut s1 hp2 hl2 nd (Ne.symm (ne_of_none S.ord hp1)) fal (lens := (Kp242.withFault s l f).lengths) g2
    have sh : Shape C CL (upd H1 wa (.ins C L.dx (wf true s.kerf p1 L.oa s.sold s.brought))) wa { L with la := p1, ls := L.ls.set l y } (raws.set l (w.more f)) true (Kp242.withFault s l f) := sh
    have kp : ∀ b o, H b = some o → b ∉ L.own wa → (upd H1 wa (.ins C L.dx (wf true s.kerf p1 L.oa s.sold s.brought))) b = some o := fun b o e nb => by
      rw [upd_ne (ne_own nb (own_wa))]
      exact s1 _ _ e
    have fr3 : ∀ p, (upd H1 wa (.ins C L.dx (wf true s.kerf p1 L.oa s.sold s.brought))) p = none → H p = none := fun p hp => by
      refine s1.free ?_
      by_cases z : p = wa
      · rw [z, upd_same] at hp
        cases hp
      · rw [upd_ne z] at hp
        exact hp
    have eH : upd H1 wa (.ins C L.dx (putF "lengths" (.ref p1) (wf true s.kerf L.la L.oa s.sold s.brought))) = upd H1 wa (.ins C L.dx (wf true s.kerf p1 L.oa s.sold s.brought)) := rfl
    rw [eH]
    generalize (upd H1 wa (.ins C L.dx (wf true s.kerf p1 L.oa s.sold s.brought))) = H3 at sh kp fr3
    refine ⟨_, rfl, wa, C, L.dx, _, _, rfl, sh.obj, T.cl, T.nLen, wf_len, p1, L.ls.set l y, raws.set l (w.more f), rfl, sh.at_, fun H4 p4 s4 hp4 ⟨as4, ha4, P4⟩ => ⟨p4, _, rfl, .inl (SqL.of ha4), (by show 1 ≤ sizeLine; decide), fun p hp => ?_⟩⟩
    have hp3 : H3 p = none := s4.free hp
    have fp := fr3 p hp3
    have s5 := s4.new (o := .lst [V.int ((as4.map V.ref).length : Nat)]) (s4.free hp)
    refine fin_mut (st := none) k S (sh.same s5) (fun b hb => ?_) (fun b o e nb => s5 _ _ (kp b o e nb)) fp (fun z => ?_) ?_
    · rcases own_cases hb with q | q | q | ⟨u, hu, q⟩ | ⟨u, hu, q⟩ | q
      · exact .inl (q ▸ own_wa)
      · exact .inr (q ▸ hp1)
      · exact .inl (q ▸ own_oa)
      · rcases List.mem_or_eq_of_mem_set hu with z | z
        · exact .inl (q ▸ own_r z)
        · subst z
          exact .inr (q ▸ fy1)
      · rcases List.mem_or_eq_of_mem_set hu with z | z
        · exact .inl (q ▸ own_fa z)
        · subst z
          exact .inr (q ▸ fy2)
      · exact .inl (own_o q)
    · obtain ⟨o, q⟩ := sh.tracked z
      rw [hp3] at q
      cases q
    · rw [upd_same]
      have : (as4.map V.ref).length = (Kp242.pieces (Kp242.withFault s l f)).length := by
        rw [List.length_map, P4.1, ← pieces_more S.good hw hin.2, List.length_map]
      rw [this]
      rfl
/-! ### add_order -/
abbrev s3 : Stmt := top 40
theorem sc3 : FnScope ["works", "metres", "pays"] ["works", "metres", "pays"] (defScope s3) := ⟨rfl, rfl, rfl, by decide +kernel, rfl, by decide +kernel, by decide +kernel⟩
theorem ok_c3 {f : Addr} {fd : FuncData} (F : Fun K "add_order" "add_order" s3 f fd) (U : Tools P w K mg base C CL) : FnOk P w K mg base CX0 7 f fd ["works", "metres", "pays"] (spCall (ZF C CL) 3) := by
  refine F.ok sc3 (fun vs H Q E h => len_ok h rfl) (fun cdv A outer s0 H vs Q E hr h => ?_)
  · obtain ⟨wa, L, raws, s, c, hc, rfl, S, k⟩ := open_call h (by decide)
    obtain ⟨m, q, rfl⟩ := is_3 hc
    have T := U.T
    have O := U.O
    obtain ⟨tc22, c22⟩ := U.k22
    obtain ⟨tc28, c28⟩ := U.k28
    obtain ⟨tcM, cM⟩ := U.kMet
    obtain ⟨tcP, cP⟩ := U.kPay
    obtain ⟨tcO, cO⟩ := U.kOrd
    have e : Kp242.step (some s) (.order m q) = if m = 0 ∨ 10000 < m ∨ 10000 < q then (some s, Kp242.say (-22)) else if Kp242.ORDERS ≤ s.orders.length then (some s, Kp242.say (-28)) else (some { s with orders := s.orders ++ [⟨m, q⟩] }, Kp242.say (s.orders.length : Int)) := rfl
    rw [e] at k
    refine ⟨_, (pss_cons (ps_if (PW.pt (pw_or (pt_cmpR op_lt (pv 1) pe_int (nomark _)) (pw_or (pt_cmpR op_gt (pv 1) (pe_k rfl cM) (nomark _)) (pw_or1 (pt_cmpR op_gt (pv 2) (pe_k rfl cP) (nomark _)))))) (pss_one (ps_ret (pe_lst (pa_cons (pe_k rfl c22) pa_nil)))) pss_nil)
      (pss_cons (ps_if (pt_cmpR op_ge (pe_callB call_len_seq rfl O.len PySem.boot_len (pa_cons (pe_fld (pv 0) rfl) pa_nil)) (pe_k rfl cO) (nomark _)) (pss_one (ps_ret (pe_lst (pa_cons (pe_k rfl c28) pa_nil)))) pss_nil)
      (pss_cons (ps_expr (pe_bm PySem.F.plainAttrs_list PySem.F.slot_list_append PySem.F.type_list_append mt_append (pe_fld (pv 0) rfl) (pa_cons (pe_tup (pa_cons (pv 1) (pa_cons (pv 2) pa_nil))) pa_nil)))
      (pss_one (ps_ret (pe_lst (pa_cons (pe_op op_sub (pe_callB call_len_seq rfl O.len PySem.boot_len (pa_cons (pe_fld (pv 0) rfl) pa_nil)) pe_int) pa_nil))))))), ?_⟩
    have refuse : (m = 0 ∨ 10000 < m ∨ 10000 < q) → ∀ p, H p = none → Q (.ref p) (upd H p (.lst [V.int (-22)])) := fun hm p hp => by
      rw [if_pos hm] at k
      exact fin_new k S hp
    refine ⟨_, rfl, _, _, rfl, rfl, _, rfl, ?_⟩
    by_cases h1 : m < 1
    · exact iteP (decide_eq_true (show (m : Int) < 1 by omega)) (iteT ⟨(by show 1 ≤ sizeLine; decide), fun p hp => refuse (by omega) p hp⟩)
    refine iteN (decide_eq_false (show ¬ (m : Int) < 1 by omega)) ⟨_, rfl, _, _, rfl, rfl, _, rfl, ?_⟩
    by_cases h2 : 10000 < m
    · exact iteP (decide_eq_true (show (10000 : Int) < (m : Int) by omega)) (iteT ⟨(by show 1 ≤ sizeLine; decide), fun p hp => refuse (by omega) p hp⟩)
    refine iteN (decide_eq_false (show ¬ (10000 : Int) < (m : Int) by omega)) ⟨_, rfl, _, _, rfl, rfl, _, rfl, ?_⟩
    by_cases h2b : 10000 < q
    · exact iteP (decide_eq_true (show (10000 : Int) < (q : Int) by omega)) ⟨(by show 1 ≤ sizeLine; decide), fun p hp => refuse (by omega) p hp⟩
    refine iteN (decide_eq_false (show ¬ (10000 : Int) < (q : Int) by omega)) ?_
    rw [if_neg (show ¬ (m = 0 ∨ 10000 < m ∨ 10000 < q) by omega)] at k
    refine ⟨_, rfl, wa, C, L.dx, _, _, rfl, S.obj, T.cl, T.nOrd, wf_ord, L.oa, _, rfl, .inl (SqL.of S.ord), _, _, rfl, rfl, _, rfl, ?_⟩
    by_cases h3 : 4 ≤ s.orders.length
    · refine iteP (decide_eq_true (show (4 : Int) ≤ (((L.os.map V.ref).length : Nat) : Int) by rw [S.olen]; omega)) ⟨(by show 1 ≤ sizeLine; decide), fun p hp => ?_⟩
      rw [if_pos (show Kp242.ORDERS ≤ s.orders.length from h3)] at k
      exact fin_new k S hp
    refine iteN (decide_eq_false (show ¬ (4 : Int) ≤ (((L.os.map V.ref).length : Nat) : Int) by rw [S.olen]; omega)) ?_
    rw [if_neg (show ¬ Kp242.ORDERS ≤ s.orders.length from h3)] at k
    have k : Fin C CL H wa (some { s with orders := s.orders ++ [⟨m, q⟩] }) [(s.orders.length : Int)] Q := k
    refine ⟨_, rfl, wa, C, L.dx, _, _, rfl, S.obj, T.cl, T.nOrd, wf_ord, .inl ⟨rfl, _, SqL.of S.ord⟩, _, rfl, _, rfl, (by show 2 ≤ sizeLine; decide), fun ta hta => ?_⟩
    have s1 : Same H (upd H ta (.tup [nint m, nint q])) := Same.fresh hta
    refine ⟨L.oa, _, _, rfl, rfl, s1 _ _ S.ord, by rw [S.olen]; exact small1000 (by omega), ?_⟩
    have en : L.os.map V.ref ++ [V.ref ta] = (L.os ++ [ta]).map V.ref := by
      rw [List.map_append]
      rfl
    rw [en]
    have hp0 : PairsIn (upd H ta (.tup [nint m, nint q])) (L.os ++ [ta]) ((s.orders ++ [(⟨m, q⟩ : Kp242.Order)]).map prO) := by
      rw [List.map_append]
      exact S.ords.snoc s1 (w := (m, q)) upd_same
    have sh := S.ordsAt s1 hp0 (good_order S.good (by omega) (by omega))
    have kp : ∀ b u, H b = some u → b ∉ L.own wa → (upd (upd H ta (.tup [nint m, nint q])) L.oa (.lst ((L.os ++ [ta]).map V.ref))) b = some u := fun b u e nb => by
      rw [upd_ne (ne_own nb (own_oa))]
      exact s1 _ _ e
    have fr3 : ∀ p, (upd (upd H ta (.tup [nint m, nint q])) L.oa (.lst ((L.os ++ [ta]).map V.ref))) p = none → H p = none := fun p hp => by
      refine s1.free ?_
      by_cases z : p = L.oa
      · rw [z, upd_same] at hp
        cases hp
      · rw [upd_ne z] at hp
        exact hp
    generalize (upd (upd H ta (.tup [nint m, nint q])) L.oa (.lst ((L.os ++ [ta]).map V.ref))) = H3 at sh kp fr3
    refine ⟨_, rfl, wa, C, L.dx, _, _, rfl, sh.obj, T.cl, T.nOrd, wf_ord, L.oa, _, rfl, .inl (SqL.of sh.ord), _, _, rfl, rfl, (by show 1 ≤ sizeLine; decide), fun p hp => ?_⟩
    have fp := fr3 p hp
    refine fin_mut (st := none) k S (sh.same (Same.fresh hp)) (fun b hb => ?_) (fun b o e nb => ?_) fp (fun z => ?_) ?_
    · rcases own_cases hb with y | y | y | ⟨x, hx, y⟩ | ⟨x, hx, y⟩ | y
      · exact .inl (y ▸ own_wa)
      · exact .inl (y ▸ own_la)
      · exact .inl (y ▸ own_oa)
      · exact .inl (y ▸ own_r hx)
      · exact .inl (y ▸ own_fa hx)
      · rcases List.mem_append.mp (show b ∈ L.os ++ [ta] from y) with z | z
        · exact .inl (own_o z)
        · have z : b = ta := by simpa using z
          exact .inr (z ▸ hta)
    · rw [upd_ne (ne_of_none e fp)]
      exact kp b o e nb
    · obtain ⟨o, y⟩ := sh.tracked z
      rw [hp] at y
      cases y
    · rw [upd_same]
      show some (HO.lst [V.int (((((L.os ++ [ta]).map V.ref).length : Nat) : Int) - 1)]) = some (HO.lst [V.int (s.orders.length : Int)])
      have : ((L.os ++ [ta]).map V.ref).length = s.orders.length + 1 := by
        rw [← en, List.length_append, S.olen]
        rfl
      rw [this, show (((s.orders.length + 1 : Nat) : Int) - 1) = (s.orders.length : Int) by omega]
/-! ### cancel -/
abbrev s4 : Stmt := top 41
theorem sc4 : FnScope ["works", "number"] ["works", "number"] (defScope s4) := ⟨rfl, rfl, rfl, by decide +kernel, rfl, by decide +kernel, by decide +kernel⟩
theorem ok_c4 {f : Addr} {fd : FuncData} (F : Fun K "cancel" "cancel" s4 f fd) (U : Tools P w K mg base C CL) : FnOk P w K mg base CX0 7 f fd ["works", "number"] (spCall (ZF C CL) 4) := by
  refine F.ok sc4 (fun vs H Q E h => len_ok h rfl) (fun cdv A outer s0 H vs Q E hr h => ?_)
  · obtain ⟨wa, L, raws, s, c, hc, rfl, S, k⟩ := open_call h (by decide)
    obtain ⟨o, rfl⟩ := is_4 hc
    have T := U.T
    have O := U.O
    obtain ⟨tc2, c2⟩ := U.k2
    have e : Kp242.step (some s) (.cancel o) = if Kp242.isOrder s o = false then (some s, Kp242.say (-2)) else (some (Kp242.withoutOrder s o), Kp242.say (s.orders.length - 1 : Nat)) := rfl
    have hb32 : o < 4294967296 ∨ True := .inr trivial
    rw [e] at k
    refine ⟨_, (pss_cons (ps_if (pt_cmpR op_ge (pv 1) (pe_callB call_len_seq rfl O.len PySem.boot_len (pa_cons (pe_fld (pv 0) rfl) pa_nil)) (nomark _)) (pss_one (ps_ret (pe_lst (pa_cons (pe_k rfl c2) pa_nil)))) pss_nil)
      (pss_cons (ps_expr (pe_bm PySem.F.plainAttrs_list PySem.F.slot_list_pop PySem.F.type_list_pop mt_popAt (pe_fld (pv 0) rfl) (pa_cons (pv 1) pa_nil)))
      (pss_one (ps_ret (pe_lst (pa_cons (pe_callB call_len_seq rfl O.len PySem.boot_len (pa_cons (pe_fld (pv 0) rfl) pa_nil)) pa_nil)))))), ?_⟩
    refine ⟨_, rfl, _, rfl, wa, C, L.dx, _, _, rfl, S.obj, T.cl, T.nOrd, wf_ord, L.oa, _, rfl, .inl (SqL.of S.ord), _, _, rfl, rfl, _, rfl, ?_⟩
    by_cases ho : o < s.orders.length
    case neg =>
      refine iteP (S.no_o ho) ⟨(by show 1 ≤ sizeLine; decide), fun p hp => ?_⟩
      rw [if_pos (noO ho)] at k
      exact fin_new k S hp
    rw [if_neg (isO ho)] at k
    refine iteN (S.is_o ho) ?_
    have ee : s.orders.take o ++ s.orders.drop (o + 1) = s.orders.eraseIdx o := (erase_eq s.orders o).symm
    have ev : (L.os.map V.ref).eraseIdx o = (L.os.eraseIdx o).map V.ref := by rw [erase_eq, erase_eq, List.map_append, List.map_take, List.map_drop]
    have hp0 : PairsIn H (L.os.eraseIdx o) ((s.orders.take o ++ s.orders.drop (o + 1)).map prO) := by
      have em : (s.orders.take o ++ s.orders.drop (o + 1)).map prO = (s.orders.map prO).eraseIdx o := by rw [erase_eq, List.map_append, List.map_take, List.map_drop]
      rw [em]
      exact S.ords.erase o
    have small := S.good.os
    have six : seqIndex? (o : Int) (L.os.map V.ref).length = some o := seqIndex_nat (by rw [S.olen]; exact ho)
    obtain ⟨ta, ha, hta⟩ := S.tup ho
    have k : Fin C CL H wa (some (Kp242.withoutOrder s o)) [((s.orders.length - 1 : Nat) : Int)] Q := k
    refine ⟨_, rfl, wa, C, L.dx, _, _, rfl, S.obj, T.cl, T.nOrd, wf_ord, .inl ⟨rfl, _, SqL.of S.ord⟩, _, rfl, L.oa, _, _, o, _, rfl, rfl, S.ord, by omega, by omega, six, get_map ha, ?_⟩
    rw [ev]
    have sh := S.ordsAt (Same.refl H) hp0 (good_less S.good o)
    have sh : Shape C CL (upd H L.oa (.lst ((L.os.eraseIdx o).map V.ref))) wa { L with os := L.os.eraseIdx o } raws true (Kp242.withoutOrder s o) := sh
    have kp : ∀ b u, H b = some u → b ∉ L.own wa → (upd H L.oa (.lst ((L.os.eraseIdx o).map V.ref))) b = some u := fun b u e nb => by
      rw [upd_ne (ne_own nb (own_oa))]
      exact (Same.refl H) _ _ e
    have fr3 : ∀ p, (upd H L.oa (.lst ((L.os.eraseIdx o).map V.ref))) p = none → H p = none := fun p hp => by
      refine (Same.refl H).free ?_
      by_cases z : p = L.oa
      · rw [z, upd_same] at hp
        cases hp
      · rw [upd_ne z] at hp
        exact hp
    generalize (upd H L.oa (.lst ((L.os.eraseIdx o).map V.ref))) = H3 at sh kp fr3
    refine ⟨_, rfl, wa, C, L.dx, _, _, rfl, sh.obj, T.cl, T.nOrd, wf_ord, L.oa, _, rfl, .inl (SqL.of sh.ord), (by show 1 ≤ sizeLine; decide), fun p hp => ?_⟩
    have fp := fr3 p hp
    refine fin_mut (st := none) k S (sh.same (Same.fresh hp)) (fun b hb => ?_) (fun b u e nb => ?_) fp (fun z => ?_) ?_
    · rcases own_cases hb with y | y | y | ⟨x, hx, y⟩ | ⟨x, hx, y⟩ | y
      · exact .inl (y ▸ own_wa)
      · exact .inl (y ▸ own_la)
      · exact .inl (y ▸ own_oa)
      · exact .inl (y ▸ own_r hx)
      · exact .inl (y ▸ own_fa hx)
      · exact .inl (own_o (List.mem_of_mem_eraseIdx (show b ∈ L.os.eraseIdx o from y)))
    · rw [upd_ne (ne_of_none e fp)]
      exact kp b u e nb
    · obtain ⟨u, y⟩ := sh.tracked z
      rw [hp] at y
      cases y
    · rw [upd_same]
      show some (HO.lst [V.int ((((L.os.eraseIdx o).map V.ref).length : Nat) : Int)]) = some (HO.lst [V.int ((s.orders.length - 1 : Nat) : Int)])
      rw [← ev, List.length_eraseIdx, S.olen, if_pos ho]
/-! ### trim -/
abbrev s13 : Stmt := top 50
theorem sc13 : FnScope ["works", "number", "metres", "length"] ["works", "number", "metres"] (defScope s13) := ⟨rfl, rfl, rfl, by decide +kernel, rfl, by decide +kernel, by decide +kernel⟩
theorem ok_c13 {f : Addr} {fd : FuncData} (F : Fun K "trim" "trim" s13 f fd) (U : Tools P w K mg base C CL) : FnOk P w K mg base CX0 7 f fd ["works", "number", "metres"] (spCall (ZF C CL) 13) := by
  refine F.ok sc13 (fun vs H Q E h => len_ok h rfl) (fun cdv A outer s0 H vs Q E hr h => ?_)
  · obtain ⟨wa, L, raws, s, c, hc, rfl, S, k⟩ := open_call h (by decide)
    obtain ⟨l, n, rfl⟩ := is_13 hc
    have T := U.T
    have O := U.O
    obtain ⟨fMu, fdMu, GMu, mMu, kMu, bMu⟩ := U.hMu
    obtain ⟨tc2, c2⟩ := U.k2
    obtain ⟨tc12, c12⟩ := U.k12
    have e : Kp242.step (some s) (.trim l n) = if Kp242.isLength s l = false then (some s, Kp242.say (-2)) else if (Kp242.lengthAt s l).to - (Kp242.lengthAt s l).from_ < n then (some s, Kp242.say (-12)) else (some { s with lengths := s.lengths.set l (Kp242.cutFrom (Kp242.lengthAt s l) n 0) }, Kp242.say ((Kp242.lengthAt s l).to - (Kp242.lengthAt s l).from_ - n : Nat)) := rfl
    rw [e] at k
    refine ⟨_, (pss_cons (ps_if (pt_cmpR op_ge (pv 1) (pe_callB call_len_seq rfl O.len PySem.boot_len (pa_cons (pe_fld (pv 0) rfl) pa_nil)) (nomark _)) (pss_one (ps_ret (pe_lst (pa_cons (pe_k rfl c2) pa_nil)))) pss_nil)
      (pss_cons (ps_set (i := 3) sc13.nd rfl (Or.inl rfl) (pe_ix ix_list (pe_fld (pv 0) rfl) (pv 1) (fun _ _ => rfl)))
      (pss_cons (ps_if (pt_cmpR op_lt (pe_call GMu (hr.mono (by decide) : Room 1 _) rfl mMu kMu bMu .nil pass0 (pa_cons (pv 3) pa_nil)) (pv 2) (nomark _)) (pss_one (ps_ret (pe_lst (pa_cons (pe_k rfl c12) pa_nil)))) pss_nil)
      (pss_cons (ps_fld (pv 3) (pe_op op_add (pe_fld (pv 3) rfl) (pv 2)) rfl)
      (pss_one (ps_ret (pe_lst (pa_cons (pe_call GMu (hr.mono (by decide) : Room 1 _) rfl mMu kMu bMu .nil pass0 (pa_cons (pv 3) pa_nil)) pa_nil)))))))), ?_⟩
    refine ⟨_, rfl, _, rfl, wa, C, L.dx, _, _, rfl, S.obj, T.cl, T.nLen, wf_len, L.la, _, rfl, .inl (SqL.of S.lst), _, _, rfl, rfl, _, rfl, ?_⟩
    by_cases ho : l < s.lengths.length
    case neg =>
      refine iteP (S.no_l ho) ⟨(by show 1 ≤ sizeLine; decide), fun p hp => ?_⟩
      rw [if_pos (noL ho)] at k
      exact fin_new k S hp
    rw [if_neg (isL ho)] at k
    refine iteN (S.is_l ho) ?_
    obtain ⟨w, hw, gw⟩ := raw_at S.good ho
    obtain ⟨x, hx, hxr, hxf⟩ := S.lens.at_ hw
    have el := at_raw S.good hw
    refine ⟨_, rfl, wa, C, L.dx, _, _, rfl, S.obj, T.cl, T.nLen, wf_len, _, rfl, L.la, _, _, _, rfl, rfl, SqL.of S.lst, atI_nat (lrefs_get hx), ?_⟩
    rw [el] at k
    have k : Fin C CL H wa (if w.m - w.c < n then (some s, Kp242.say (-12)) else (some { s with lengths := s.lengths.set l (Kp242.cutFrom w.len n 0) }, Kp242.say (w.m - w.c - n : Nat))).1 (ansOf (if w.m - w.c < n then (some s, Kp242.say (-12)) else (some { s with lengths := s.lengths.set l (Kp242.cutFrom w.len n 0) }, Kp242.say (w.m - w.c - n : Nat))).2) Q := k
    refine ⟨_, rfl, x.r, x.dx, x.fa, w.c, w.m, rfl, hxr, gw.cm, _, rfl, _, _, rfl, rfl, _, rfl, ?_⟩
    by_cases h1 : w.m - w.c < n
    · refine iteP (decide_eq_true (show (((w.m - w.c : Nat) : Nat) : Int) < (n : Int) by omega)) ⟨(by show 1 ≤ sizeLine; decide), fun p hp => ?_⟩
      rw [if_pos h1] at k
      exact fin_new k S hp
    refine iteN (decide_eq_false (show ¬ (((w.m - w.c : Nat) : Nat) : Int) < (n : Int) by omega)) ?_
    rw [if_neg h1] at k
    have cm := gw.cm
    have ec : Kp242.cutFrom w.len n 0 = ⟨w.c + n, w.m, isort w.fp⟩ := by
      show (⟨min w.m (w.c + n + 0), w.m, isort w.fp⟩ : Kp242.Length) = _
      rw [show min w.m (w.c + n + 0) = w.c + n by omega]
    rw [ec] at k
    have k : Fin C CL H wa (some { s with lengths := s.lengths.set l ⟨w.c + n, w.m, isort w.fp⟩ }) [((w.m - w.c - n : Nat) : Int)] Q := k
    refine ⟨_, rfl, x.r, CL, x.dx, _, _, rfl, hxr, T.clL, T.nCut, lf_cut, _, rfl, _, _, rfl, rfl, _, rfl, x.r, CL, x.dx, _, rfl, hxr, T.clL, T.nCut, (by show 3 < 1000; decide), ?_⟩
    have eH : upd H x.r (.ins CL x.dx (putF "cut_off" (V.int ((w.c : Int) + (n : Int))) (lf w.c w.m x.fa))) = upd H x.r (.ins CL x.dx (lf (w.c + n) w.m x.fa)) := by
      rw [eadd]
      rfl
    rw [eH]
    have sh := S.cutAt hx hw (good_cut S.good hw (show w.c + n ≤ w.m by omega))
    have kp : ∀ b o, H b = some o → b ∉ L.own wa → (upd H x.r (.ins CL x.dx (lf (w.c + n) w.m x.fa))) b = some o := fun b o e nb => by
      rw [upd_ne (ne_own nb (own_r (List.mem_of_getElem? hx)))]
      exact e
    have fr3 : ∀ p, (upd H x.r (.ins CL x.dx (lf (w.c + n) w.m x.fa))) p = none → H p = none := fun p hp => by
      by_cases z : p = x.r
      · rw [z, upd_same] at hp
        cases hp
      · rw [upd_ne z] at hp
        exact hp
    have xr3 : (upd H x.r (.ins CL x.dx (lf (w.c + n) w.m x.fa))) x.r = some (.ins CL x.dx (lf (w.c + n) w.m x.fa)) := upd_same
    generalize (upd H x.r (.ins CL x.dx (lf (w.c + n) w.m x.fa))) = H3 at sh kp fr3 xr3
    refine ⟨_, rfl, x.r, x.dx, x.fa, w.c + n, w.m, rfl, xr3, by omega, (by show 1 ≤ sizeLine; decide), fun p hp => ?_⟩
    have fp := fr3 p hp
    refine fin_mut (st := none) k S (sh.same (Same.fresh hp)) (fun b hb => .inl hb) (fun b u e nb => ?_) fp (fun z => ?_) ?_
    · rw [upd_ne (ne_of_none e fp)]
      exact kp b u e nb
    · obtain ⟨u, y⟩ := sh.tracked z
      rw [hp] at y
      cases y
    · rw [upd_same, show w.m - (w.c + n) = w.m - w.c - n by omega]
      rfl
/-! ### sell -/
abbrev s12 : Stmt := top 49
theorem sc12 : FnScope ["works", "length_number", "order_number", "length", "metres", "pays"] ["works", "length_number", "order_number"] (defScope s12) := ⟨rfl, rfl, rfl, by decide +kernel, rfl, by decide +kernel, by decide +kernel⟩
theorem ok_c12 {f : Addr} {fd : FuncData} (F : Fun K "sell" "sell" s12 f fd) (U : Tools P w K mg base C CL) : FnOk P w K mg base CX0 7 f fd ["works", "length_number", "order_number"] (spCall (ZF C CL) 12) := by
  refine F.ok sc12 (fun vs H Q E h => len_ok h rfl) (fun cdv A outer s0 H vs Q E hr h => ?_)
  · obtain ⟨wa, L, raws, s, c, hc, rfl, S, k⟩ := open_call h (by decide)
    obtain ⟨l, o, rfl⟩ := is_12 hc
    have T := U.T
    have O := U.O
    obtain ⟨fGo, fdGo, GGo, mGo, kGo, bGo⟩ := U.hGo
    obtain ⟨tc2, c2⟩ := U.k2
    obtain ⟨tc33, c33⟩ := U.k33
    have e : Kp242.step (some s) (.sell l o) = if Kp242.isLength s l = false ∨ Kp242.isOrder s o = false then (some s, Kp242.say (-2)) else if Kp242.firstPiece s l < (Kp242.orderAt s o).metres then (some s, Kp242.say (-33)) else
          (some { Kp242.withoutOrder s o with lengths := s.lengths.set l (Kp242.cutFrom (Kp242.lengthAt s l) (Kp242.orderAt s o).metres s.kerf), sold := s.sold + (Kp242.orderAt s o).metres, brought := s.brought + (Kp242.orderAt s o).pays }, ⟨0, [((Kp242.orderAt s o).pays : Int)]⟩) := rfl
    rw [e] at k
    refine ⟨_, (pss_cons (ps_if (PW.pt (pw_or (pt_cmpR op_ge (pv 1) (pe_callB call_len_seq rfl O.len PySem.boot_len (pa_cons (pe_fld (pv 0) rfl) pa_nil)) (nomark _)) (pw_or1 (pt_cmpR op_ge (pv 2) (pe_callB call_len_seq rfl O.len PySem.boot_len (pa_cons (pe_fld (pv 0) rfl) pa_nil)) (nomark _))))) (pss_one (ps_ret (pe_lst (pa_cons (pe_k rfl c2) pa_nil)))) pss_nil)
      (pss_cons (ps_set (i := 3) sc12.nd rfl (Or.inl rfl) (pe_ix ix_list (pe_fld (pv 0) rfl) (pv 1) (fun _ _ => rfl)))
      (pss_cons (ps_set (i := 4) sc12.nd rfl (Or.inl rfl) (pe_ix ix_tup (pe_ix ix_list (pe_fld (pv 0) rfl) (pv 2) (fun _ _ => rfl)) pe_int (fun _ _ => rfl)))
      (pss_cons (ps_set (i := 5) sc12.nd rfl (Or.inl rfl) (pe_ix ix_tup (pe_ix ix_list (pe_fld (pv 0) rfl) (pv 2) (fun _ _ => rfl)) pe_int (fun _ _ => rfl)))
      (pss_cons (ps_if (pt_cmpR op_lt (pe_call GGo (hr.mono (by decide) : Room 1 _) rfl mGo kGo bGo .nil pass0 (pa_cons (pe_fld (pv 3) rfl) (pa_cons (pe_fld (pv 3) rfl) (pa_cons (pe_fld (pv 3) rfl) pa_nil)))) (pv 4) (nomark _)) (pss_one (ps_ret (pe_lst (pa_cons (pe_k rfl c33) pa_nil)))) pss_nil)
      (pss_cons (ps_fld (pv 3) (pe_callB (call_min2 rfl) rfl O.min PyProof.Rows.boot_min (pa_cons (pe_op op_add (pe_op op_add (pe_fld (pv 3) rfl) (pv 4)) (pe_fld (pv 0) rfl)) (pa_cons (pe_fld (pv 3) rfl) pa_nil))) rfl)
      (pss_cons (ps_expr (pe_bm PySem.F.plainAttrs_list PySem.F.slot_list_pop PySem.F.type_list_pop mt_popAt (pe_fld (pv 0) rfl) (pa_cons (pv 2) pa_nil)))
      (pss_cons (ps_fld (pv 0) (pe_op op_add (pe_fld (pv 0) rfl) (pv 4)) rfl)
      (pss_cons (ps_fld (pv 0) (pe_op op_add (pe_fld (pv 0) rfl) (pv 5)) rfl)
      (pss_one (ps_ret (pe_lst (pa_cons pe_int (pa_cons (pv 5) pa_nil)))))))))))))), ?_⟩
    have refuse : (Kp242.isLength s l = false ∨ Kp242.isOrder s o = false) → ∀ p, H p = none → Q (.ref p) (upd H p (.lst [V.int (-2)])) := fun hm p hp => by
      rw [if_pos hm] at k
      exact fin_new k S hp
    refine ⟨_, rfl, _, rfl, wa, C, L.dx, _, _, rfl, S.obj, T.cl, T.nLen, wf_len, L.la, _, rfl, .inl (SqL.of S.lst), _, _, rfl, rfl, _, rfl, ?_⟩
    by_cases hl : l < s.lengths.length
    case neg =>
      exact iteP (S.no_l hl) (iteT ⟨(by show 1 ≤ sizeLine; decide), fun p hp => refuse (.inl (noL hl)) p hp⟩)
    refine iteN (S.is_l hl) ?_
    refine ⟨_, rfl, _, rfl, wa, C, L.dx, _, _, rfl, S.obj, T.cl, T.nOrd, wf_ord, L.oa, _, rfl, .inl (SqL.of S.ord), _, _, rfl, rfl, _, rfl, ?_⟩
    by_cases ho : o < s.orders.length
    case neg =>
      exact iteP (S.no_o ho) ⟨(by show 1 ≤ sizeLine; decide), fun p hp => refuse (.inr (noO ho)) p hp⟩
    refine iteN (S.is_o ho) ?_
    rw [if_neg (show ¬ (Kp242.isLength s l = false ∨ Kp242.isOrder s o = false) from fun z => z.elim (isL hl) (isO ho))] at k
    obtain ⟨w, hw, gw⟩ := raw_at S.good hl
    obtain ⟨x, hx, hxr, hxf⟩ := S.lens.at_ hw
    have el := at_raw S.good hw
    have ee : s.orders.take o ++ s.orders.drop (o + 1) = s.orders.eraseIdx o := (erase_eq s.orders o).symm
    have ev : (L.os.map V.ref).eraseIdx o = (L.os.eraseIdx o).map V.ref := by rw [erase_eq, erase_eq, List.map_append, List.map_take, List.map_drop]
    have hp0 : PairsIn H (L.os.eraseIdx o) ((s.orders.take o ++ s.orders.drop (o + 1)).map prO) := by
      have em : (s.orders.take o ++ s.orders.drop (o + 1)).map prO = (s.orders.map prO).eraseIdx o := by rw [erase_eq, List.map_append, List.map_take, List.map_drop]
      rw [em]
      exact S.ords.erase o
    have small := S.good.os
    have six : seqIndex? (o : Int) (L.os.map V.ref).length = some o := seqIndex_nat (by rw [S.olen]; exact ho)
    obtain ⟨ta, ha, hta⟩ := S.tup ho
    refine ⟨_, rfl, wa, C, L.dx, _, _, rfl, S.obj, T.cl, T.nLen, wf_len, _, rfl, L.la, _, _, _, rfl, rfl, SqL.of S.lst, atI_nat (lrefs_get hx), ?_⟩
    refine ⟨_, rfl, wa, C, L.dx, _, _, rfl, S.obj, T.cl, T.nOrd, wf_ord, _, rfl, L.oa, _, _, _, rfl, rfl, SqL.of S.ord, atI_nat (get_map ha), ta, _, _, _, rfl, rfl, SqT.of hta, at_of (j := 0) rfl rfl, ?_⟩
    refine ⟨_, rfl, wa, C, L.dx, _, _, rfl, S.obj, T.cl, T.nOrd, wf_ord, _, rfl, L.oa, _, _, _, rfl, rfl, SqL.of S.ord, atI_nat (get_map ha), ta, _, _, _, rfl, rfl, SqT.of hta, at_of (j := 1) rfl rfl, ?_⟩
    generalize hm : (Kp242.orderAt s o).metres = m at k hta ⊢
    generalize hq : (Kp242.orderAt s o).pays = q at k hta ⊢
    refine ⟨_, rfl, x.r, CL, x.dx, _, _, rfl, hxr, T.clL, T.nCut, lf_cut, _, rfl, x.r, CL, x.dx, _, _, rfl, hxr, T.clL, T.nMet, lf_met, _, rfl, x.r, CL, x.dx, _, _, rfl, hxr, T.clL, T.nFau, lf_fau, w.c, w.m, x.fa, w.fp, rfl, hxf, Nat.le_succ_of_le gw.few, fun H1 M s1 h1 h2 => ?_⟩
    obtain ⟨efp, hcM⟩ := first_raw S.good hw h1 h2
    rw [efp] at k
    refine ⟨_, rfl, _, _, rfl, rfl, _, rfl, ?_⟩
    by_cases hlt : M - w.c < m
    · refine iteP (decide_eq_true (show ((M : Int) - (w.c : Int)) < (m : Int) by omega)) ⟨(by show 1 ≤ sizeLine; decide), fun p hp => ?_⟩
      rw [if_pos hlt] at k
      exact fin_same (ans := [-33]) k S (s1.new (s1.free hp)) (s1.free hp) upd_same
    refine iteN (decide_eq_false (show ¬ ((M : Int) - (w.c : Int)) < (m : Int) by omega)) ?_
    rw [if_neg hlt, el] at k
    have ec : Kp242.cutFrom w.len m s.kerf = ⟨min (w.c + m + s.kerf) w.m, w.m, isort w.fp⟩ := by
      show (⟨min w.m (w.c + m + s.kerf), w.m, isort w.fp⟩ : Kp242.Length) = _
      rw [Nat.min_comm]
    rw [ec] at k
    have k : Fin C CL H wa (some { Kp242.withoutOrder s o with lengths := s.lengths.set l ⟨min (w.c + m + s.kerf) w.m, w.m, isort w.fp⟩, sold := s.sold + m, brought := s.brought + q }) [0, (q : Int)] Q := k
    have S1 := S.same s1
    have xr1 := s1 _ _ hxr
    -- length.cut_off = min(..)
    refine ⟨_, rfl, x.r, CL, x.dx, _, _, rfl, xr1, T.clL, T.nCut, lf_cut, _, rfl, _, _, rfl, rfl, _, rfl, wa, C, L.dx, _, _, rfl, S1.obj, T.cl, T.nKer, wf_ker, _, _, rfl, rfl, _, rfl, x.r, CL, x.dx, _, _, rfl, xr1, T.clL, T.nMet, lf_met, _, _, rfl, _, rfl, x.r, CL, x.dx, _, rfl, xr1, T.clL, T.nCut, (by show 3 < 1000; decide), ?_⟩
    have emin : V.int (if ((w.m : Nat) : Int) < ((w.c : Nat) : Int) + (m : Int) + ((s.kerf : Nat) : Int) then ((w.m : Nat) : Int) else ((w.c : Nat) : Int) + (m : Int) + ((s.kerf : Nat) : Int)) = nint (min (w.c + m + s.kerf) w.m) := by
      show V.int _ = V.int _
      congr 1
      split <;> omega
    have eH : upd H1 x.r (.ins CL x.dx (putF "cut_off" (V.int (if ((w.m : Nat) : Int) < ((w.c : Nat) : Int) + (m : Int) + ((s.kerf : Nat) : Int) then ((w.m : Nat) : Int) else ((w.c : Nat) : Int) + (m : Int) + ((s.kerf : Nat) : Int))) (lf w.c w.m x.fa))) = upd H1 x.r (.ins CL x.dx (lf (min (w.c + m + s.kerf) w.m) w.m x.fa)) := by
      rw [emin]
      rfl
    rw [eH]
    have sh2 := S1.cutAt hx hw (good_cut S.good hw (Nat.min_le_right (w.c + m + s.kerf) w.m))
    have kp2 : ∀ b o, H b = some o → b ∉ L.own wa → (upd H1 x.r (.ins CL x.dx (lf (min (w.c + m + s.kerf) w.m) w.m x.fa))) b = some o := fun b o e nb => by
      rw [upd_ne (ne_own nb (own_r (List.mem_of_getElem? hx)))]
      exact s1 _ _ e
    have fr2 : ∀ p, (upd H1 x.r (.ins CL x.dx (lf (min (w.c + m + s.kerf) w.m) w.m x.fa))) p = none → H p = none := fun p hp => by
      refine s1.free ?_
      by_cases z : p = x.r
      · rw [z, upd_same] at hp
        cases hp
      · rw [upd_ne z] at hp
        exact hp
    generalize (upd H1 x.r (.ins CL x.dx (lf (min (w.c + m + s.kerf) w.m) w.m x.fa))) = H2 at sh2 kp2 fr2
    have hp2 : PairsIn H2 (L.os.eraseIdx o) ((s.orders.take o ++ s.orders.drop (o + 1)).map prO) := by
      have em : (s.orders.take o ++ s.orders.drop (o + 1)).map prO = (s.orders.map prO).eraseIdx o := by rw [erase_eq, List.map_append, List.map_take, List.map_drop]
      rw [em]
      exact sh2.ords.erase o
    -- works.orders.pop(order_number)
    refine ⟨_, rfl, wa, C, L.dx, _, _, rfl, sh2.obj, T.cl, T.nOrd, wf_ord, .inl ⟨rfl, _, SqL.of sh2.ord⟩, _, rfl, L.oa, _, _, o, _, rfl, rfl, sh2.ord, by omega, by omega, six, get_map ha, ?_⟩
    rw [ev]
    have sh3 := sh2.ordsAt (Same.refl H2) hp2 (good_less sh2.good o)
    have kp3 : ∀ b u, H b = some u → b ∉ L.own wa → (upd H2 L.oa (.lst ((L.os.eraseIdx o).map V.ref))) b = some u := fun b u e nb => by
      rw [upd_ne (ne_own nb (own_oa))]
      exact kp2 b u e nb
    have fr3 : ∀ p, (upd H2 L.oa (.lst ((L.os.eraseIdx o).map V.ref))) p = none → H p = none := fun p hp => by
      refine fr2 p ?_
      by_cases z : p = L.oa
      · rw [z, upd_same] at hp
        cases hp
      · rw [upd_ne z] at hp
        exact hp
    generalize (upd H2 L.oa (.lst ((L.os.eraseIdx o).map V.ref))) = H3 at sh3 kp3 fr3
    -- works.sold, works.brought
    refine ⟨_, rfl, wa, C, L.dx, _, _, rfl, sh3.obj, T.cl, T.nSol, wf_sol, _, rfl, _, _, rfl, rfl, _, rfl, wa, C, L.dx, _, rfl, sh3.obj, T.cl, T.nSol, (by show 6 < 1000; decide), ?_⟩
    refine ⟨_, rfl, wa, C, L.dx, _, _, rfl, upd_same, T.cl, T.nBro, (show _ = some (nint s.brought) from rfl), _, rfl, _, _, rfl, rfl, _, rfl, wa, C, L.dx, _, rfl, upd_same, T.cl, T.nBro, (by show 6 < 1000; decide), ?_⟩
    rw [upd_upd]
    have sh4 := sh3.objAt (so := s.sold + m) (br := s.brought + q)
    have eH4 : upd H3 wa (.ins C L.dx (putF "brought" (V.int (((s.brought : Nat) : Int) + ((q : Nat) : Int))) (putF "sold" (V.int (((s.sold : Nat) : Int) + ((m : Nat) : Int))) (wf true s.kerf L.la L.oa s.sold s.brought)))) = upd H3 wa (.ins C L.dx (wf true s.kerf L.la L.oa (s.sold + m) (s.brought + q))) := by
      rw [eadd, eadd]
      rfl
    refine ⟨_, rfl, (by show 2 ≤ sizeLine; decide), fun p hp => ?_⟩
    have hp : upd H3 wa (.ins C L.dx (wf true s.kerf L.la L.oa (s.sold + m) (s.brought + q))) p = none := by
      rw [← eH4]
      exact hp
    show Q (.ref p) (upd (upd H3 wa (.ins C L.dx (putF "brought" (V.int (((s.brought : Nat) : Int) + ((q : Nat) : Int))) (putF "sold" (V.int (((s.sold : Nat) : Int) + ((m : Nat) : Int))) (wf true s.kerf L.la L.oa s.sold s.brought))))) p (.lst [V.int 0, nint q]))
    rw [eH4]
    have kp4 : ∀ b u, H b = some u → b ∉ L.own wa → (upd H3 wa (.ins C L.dx (wf true s.kerf L.la L.oa (s.sold + m) (s.brought + q)))) b = some u := fun b u e nb => by
      rw [upd_ne (ne_own nb (own_wa))]
      exact kp3 b u e nb
    have fp : H p = none := by
      refine fr3 p ?_
      by_cases z : p = wa
      · rw [z, upd_same] at hp
        cases hp
      · rw [upd_ne z] at hp
        exact hp
    refine fin_mut (st := none) k S (sh4.same (Same.fresh hp)) (fun b hb => ?_) (fun b u e nb => ?_) fp (fun z => ?_) upd_same
    · rcases own_cases hb with y | y | y | ⟨x, hx, y⟩ | ⟨x, hx, y⟩ | y
      · exact .inl (y ▸ own_wa)
      · exact .inl (y ▸ own_la)
      · exact .inl (y ▸ own_oa)
      · exact .inl (y ▸ own_r hx)
      · exact .inl (y ▸ own_fa hx)
      · exact .inl (own_o (List.mem_of_mem_eraseIdx (show b ∈ L.os.eraseIdx o from y)))
    · rw [upd_ne (ne_of_none e fp)]
      exact kp4 b u e nb
    · obtain ⟨u, y⟩ := sh4.tracked z
      rw [hp] at y
      cases y
end
end Cut

set_option Elab.async false
set_option linter.all false
set_option maxRecDepth 100000
set_option maxHeartbeats 2000000
namespace Cut
open PySem PySem.Spec PyProof.Rows L2
theorem us1 {l : List Value} (h : l.length = 1) : ∃ a, l = [a] := List.length_eq_one_iff.mp h
theorem us2 {l : List Value} (h : l.length = 2) : ∃ a b, l = [a, b] := by
  cases l with
  | nil => cases h
  | cons a l =>
    obtain ⟨b, rfl⟩ := us1 (Nat.succ.inj h)
    exact ⟨a, b, rfl⟩
theorem us3 {l : List Value} (h : l.length = 3) : ∃ a b c, l = [a, b, c] := by
  cases l with
  | nil => cases h
  | cons a l =>
    obtain ⟨b, c, rfl⟩ := us2 (Nat.succ.inj h)
    exact ⟨a, b, c, rfl⟩
theorem us4 {l : List Value} (h : l.length = 4) : ∃ a b c d, l = [a, b, c, d] := by
  cases l with
  | nil => cases h
  | cons a l =>
    obtain ⟨b, c, d, rfl⟩ := us3 (Nat.succ.inj h)
    exact ⟨a, b, c, d, rfl⟩
theorem at_cons {P : Nat → Addr → Prop} {a : Addr} {l : List Addr} (h0 : P 0 a) (h : ∀ n g, l[n]? = some g → P (n + 1) g) : ∀ n g, (a :: l)[n]? = some g → P n g
  | 0, g, e => by
    cases e
    exact h0
  | n + 1, g, e => h n g e
theorem at_nil {P : Nat → Addr → Prop} : ∀ n g, ([] : List Addr)[n]? = some g → P n g := fun n g e => by simp at e
/-- a def of the text, at its address -/
def Def (K : PySem.W.Frag) (mg : Str → Option Value) (x : Str) (st : Stmt) (f : Addr) : Prop := ∃ fd, Fun K x x st f fd ∧ mg x = some (.ref f)
theorem def_mk {K : PySem.W.Frag} {h : Heap} {mg : Str → Option Value} {x : Str} {st : Stmt} {f : Addr} {oc : Value} {od an : Option Addr} {osl : Array (Option Value)} {kV doc pm cdv ct : Value} (X : K.In h) (G : h.Ns mainGlobals mg) (a : PySem.W.nsIn K mainGlobals x = some (some (.ref f)))
    (l : K.lookup f = some ⟨oc, od, .func (PySem.W.fnOf x x (defArgs st) (defBody st) (defScope st) .none kV doc pm an cdv ct), osl⟩) (c : PySem.W.codeIn K cdv x = true) (k : PySem.W.keepIn K (.ref f) = true) : Def K mg x st f :=
  ⟨_, fun_mk (st := st) l c k, PySem.W.mg_of X G a⟩
/-- a class with its __init__ -/
structure ClsOf (K : PySem.W.Frag) (mg : Str → Option Value) (n q : Str) (st : Stmt) (C f : Addr) : Prop where
  cl : Cls K C
  mke : Mk K C f
  nm : mg n = some (.ref C)
  fn : ∃ fd, Fun K "__init__" q st f fd
theorem cls_mk {K : PySem.W.Frag} {h : Heap} {mg : Str → Option Value} {n q : Str} {st : Stmt} {C f : Addr} {oc : Value} {od an : Option Addr} {osl : Array (Option Value)} {kV doc pm cdv ct : Value} (X : K.In h) (G : h.Ns mainGlobals mg) (aC : PySem.W.nsIn K mainGlobals n = some (some (.ref C)))
    (a : PySem.W.findIn K (.ref C) "__init__" = some (some (.ref f))) (i : PySem.W.isFn K (.ref f) = true) (l : K.lookup f = some ⟨oc, od, .func (PySem.W.fnOf "__init__" q (defArgs st) (defBody st) (defScope st) .none kV doc pm an cdv ct), osl⟩) (c : PySem.W.codeIn K cdv q = true) (k : PySem.W.keepIn K (.ref f) = true)
    (pg : PySem.W.plainGet K C Str.empty = true) (hd : PySem.W.hasDictIn K C = true) (po : PySem.W.plainOver K C = true) (sa : PySem.W.findIn K (.ref C) "__setattr__" = some (some (.builtin "object.__setattr__"))) (mk : PySem.W.makesIn K C = true) (kc : PySem.W.keepIn K (.ref C) = true) : ClsOf K mg n q st C f :=
  ⟨⟨pg, hd, po, sa⟩, ⟨mk, a, i, kc⟩, PySem.W.mg_of X G aC, _, fun_mk (st := st) l c k⟩
theorem all_mk {P : Program} {w : World} {K : PySem.W.Frag} {h : Heap} {mg : Str → Option Value} {fa C CL fI fIL tT tH : Addr} {fPi fGo fLo fRo fWa fTt fGw fFi fTo fMo fFp fBp fHa fMu fLP fAll fWi fBr fPl g0 g1 g2 g3 g4 g5 g6 g7 g8 g9 g10 g11 g12 g13 g14 g15 g16 g17 g18 fAn fAs : Addr} {tk2 tk12 tk17 tk22 tk28 tk33 tkKerf tkMet tkPay tkLen tkFau tkOrd tkB tkN : Tok} {oT oH : Obj} {isT isH : Array Value} {nT nH : Nat}
    (X : K.In h) (G : h.Ns mainGlobals mg) (hfa : mg "answers" = some (.ref fa))
    (dC : ClsOf K mg "Works" "Works.__init__" sInitW C fI) (dCL : ClsOf K mg "Length" "Length.__init__" sInitL CL fIL)
    (n_begun : NoAttr K C "begun")    (n_kerf : NoAttr K C "kerf")    (n_lengths : NoAttr K C "lengths")    (n_orders : NoAttr K C "orders")    (n_sold : NoAttr K C "sold")    (n_brought : NoAttr K C "brought")
    (n_cut_off : NoAttr K CL "cut_off")    (n_metres : NoAttr K CL "metres")    (n_faults : NoAttr K CL "faults")
    (dPi : Def K mg "pieces_of" sPieces fPi)
    (dGo : Def K mg "good_at_first" sGood fGo)
    (dLo : Def K mg "longest_of" sLong fLo)
    (dRo : Def K mg "rooms_of" sRooms fRo)
    (dWa : Def K mg "wants_of" sWants fWa)
    (dTt : Def K mg "totals" sTotals fTt)
    (dGw : Def K mg "goes_with" sGoes fGw)
    (dFi : Def K mg "fillable" sFill fFi)
    (dTo : Def K mg "go_together" sTog fTo)
    (dMo : Def K mg "most_brought" sMost fMo)
    (dFp : Def K mg "first_place" sFirst fFp)
    (dBp : Def K mg "best_plan" sBest fBp)
    (dHa : Def K mg "has_left" sHas fHa)
    (dMu : Def K mg "how_much_is_left" sMuch fMu)
    (dLP : Def K mg "pieces_left" sLeftP fLP)
    (dAll : Def K mg "all_pieces" sAll fAll)
    (dWi : Def K mg "with_fault" sWith fWi)
    (dBr : Def K mg "brings" sBrings fBr)
    (dPl : Def K mg "places_of" sPlaces fPl)
    (e0 : Def K mg "begin" s0 g0)
    (e1 : Def K mg "add_length" s1 g1)
    (e2 : Def K mg "add_fault" s2 g2)
    (e3 : Def K mg "add_order" s3 g3)
    (e4 : Def K mg "cancel" s4 g4)
    (e5 : Def K mg "tell_best" s5 g5)
    (e6 : Def K mg "tell_plan" s6 g6)
    (e7 : Def K mg "tell_fills" s7 g7)
    (e8 : Def K mg "tell_worth" s8 g8)
    (e9 : Def K mg "tell_hurts" s9 g9)
    (e10 : Def K mg "tell_could" s10 g10)
    (e11 : Def K mg "tell_together" s11 g11)
    (e12 : Def K mg "sell" s12 g12)
    (e13 : Def K mg "trim" s13 g13)
    (e14 : Def K mg "tell_pieces" s14 g14)
    (e15 : Def K mg "tell_longest" s15 g15)
    (e16 : Def K mg "tell_left" s16 g16)
    (e17 : Def K mg "tell_look" s17 g17)
    (e18 : Def K mg "tell_sums" s18 g18)
    (dAn : Def K mg "answer" sAnswer fAn) (dAs : Def K mg "answers" sAns fAs)
    (ck2 : PySem.W.nsIn K mainGlobals "NO_SUCH" = some (some (.int (-2) tk2)))
    (ck12 : PySem.W.nsIn K mainGlobals "LESS_IS_LEFT" = some (some (.int (-12) tk12)))
    (ck17 : PySem.W.nsIn K mainGlobals "THERE_IS_ONE" = some (some (.int (-17) tk17)))
    (ck22 : PySem.W.nsIn K mainGlobals "OUT_OF_RANGE" = some (some (.int (-22) tk22)))
    (ck28 : PySem.W.nsIn K mainGlobals "TOO_MANY" = some (some (.int (-28) tk28)))
    (ck33 : PySem.W.nsIn K mainGlobals "NO_SUCH_PIECE" = some (some (.int (-33) tk33)))
    (ckKerf : PySem.W.nsIn K mainGlobals "KERF_AT_MOST" = some (some (.int (10) tkKerf)))
    (ckMet : PySem.W.nsIn K mainGlobals "METRES_AT_MOST" = some (some (.int (10000) tkMet)))
    (ckPay : PySem.W.nsIn K mainGlobals "PAYS_AT_MOST" = some (some (.int (10000) tkPay)))
    (ckLen : PySem.W.nsIn K mainGlobals "LENGTHS_AT_MOST" = some (some (.int (3) tkLen)))
    (ckFau : PySem.W.nsIn K mainGlobals "FAULTS_AT_MOST" = some (some (.int (2) tkFau)))
    (ckOrd : PySem.W.nsIn K mainGlobals "ORDERS_AT_MOST" = some (some (.int (4) tkOrd)))
    (cB : PySem.W.nsIn K mainGlobals "BEGIN" = some (some (.int 0 tkB))) (cN : PySem.W.nsIn K mainGlobals "NOT_BEGUN" = some (some (.int (-11) tkN)))
    (o_range : PySem.W.nsIn K mainGlobals "range" = some none)    (o_len : PySem.W.nsIn K mainGlobals "len" = some none)    (o_max : PySem.W.nsIn K mainGlobals "max" = some none)    (o_min : PySem.W.nsIn K mainGlobals "min" = some none)    (o_zip : PySem.W.nsIn K mainGlobals "zip" = some none)    (o_enumerate : PySem.W.nsIn K mainGlobals "enumerate" = some none)    (o_list : PySem.W.nsIn K mainGlobals "list" = some none)    (o_sorted : PySem.W.nsIn K mainGlobals "sorted" = some none)
    (aT : PySem.W.nsIn K mainGlobals "CALLED" = some (some (.ref tT))) (lT : K.lookup tT = some oT) (T1 : oT.cls = .type "tuple") (T2 : oT.data = .seq isT nT) (T3 : isT.size ≤ sizeLine) (T4 : Vals (List.map V.ref [g0, g1, g2, g3, g4, g5, g6, g7, g8, g9, g10, g11, g12, g13, g14, g15, g16, g17, g18]) isT.toList)
    (aH : PySem.W.nsIn K mainGlobals "HOW_MANY_NUMBERS" = some (some (.ref tH))) (lH : K.lookup tH = some oH) (H1 : oH.cls = .type "tuple") (H2 : oH.data = .seq isH nH) (H3 : isH.size ≤ sizeLine) (H4 : Vals (hm.map nint) isH.toList) :
    ∃ fd : FuncData, (∀ (s : Shared) (us : List Value), us.length = (["calls"] : List Str).length → BindsTo s fd ⟨us, []⟩ ((["calls"] : List Str).zip us)) ∧ ∀ base : Heap, K.In base → base.Ns mainGlobals mg → FnOk P w K mg base CX0 9 fa fd ["calls"] (spAnswers K) := by
  have O : Own mg := ⟨PySem.W.mg_none_of X G o_range, PySem.W.mg_none_of X G o_len, PySem.W.mg_none_of X G o_max, PySem.W.mg_none_of X G o_min, PySem.W.mg_none_of X G o_zip, PySem.W.mg_none_of X G o_enumerate, PySem.W.mg_none_of X G o_list, PySem.W.mg_none_of X G o_sorted⟩
  have T : Txt K C CL := ⟨dC.cl, dCL.cl, n_begun, n_kerf, n_lengths, n_orders, n_sold, n_brought, n_cut_off, n_metres, n_faults⟩
  obtain ⟨fdPi, FPi, mPi⟩ := dPi
  have bPi := FPi.binds (ps := ["begins", "ends", "faults"]) fun _ _ _ _ _ _ us hl => by obtain ⟨a, b, c, rfl⟩ := us3 hl; rfl
  obtain ⟨fdGo, FGo, mGo⟩ := dGo
  have bGo := FGo.binds (ps := ["begins", "ends", "faults"]) fun _ _ _ _ _ _ us hl => by obtain ⟨a, b, c, rfl⟩ := us3 hl; rfl
  obtain ⟨fdLo, FLo, mLo⟩ := dLo
  have bLo := FLo.binds (ps := ["pieces"]) fun _ _ _ _ _ _ us hl => by obtain ⟨a, rfl⟩ := us1 hl; rfl
  obtain ⟨fdRo, FRo, mRo⟩ := dRo
  have bRo := FRo.binds (ps := ["pieces", "kerf"]) fun _ _ _ _ _ _ us hl => by obtain ⟨a, b, rfl⟩ := us2 hl; rfl
  obtain ⟨fdWa, FWa, mWa⟩ := dWa
  have bWa := FWa.binds (ps := ["orders", "kerf"]) fun _ _ _ _ _ _ us hl => by obtain ⟨a, b, rfl⟩ := us2 hl; rfl
  obtain ⟨fdTt, FTt, mTt⟩ := dTt
  have bTt := FTt.binds (ps := ["numbers"]) fun _ _ _ _ _ _ us hl => by obtain ⟨a, rfl⟩ := us1 hl; rfl
  obtain ⟨fdGw, FGw, mGw⟩ := dGw
  have bGw := FGw.binds (ps := ["chosen", "needed", "room", "before"]) fun _ _ _ _ _ _ us hl => by obtain ⟨a, b, c, d, rfl⟩ := us4 hl; rfl
  obtain ⟨fdFi, FFi, mFi⟩ := dFi
  have bFi := FFi.binds (ps := ["rooms", "needed"]) fun _ _ _ _ _ _ us hl => by obtain ⟨a, b, rfl⟩ := us2 hl; rfl
  obtain ⟨fdTo, FTo, mTo⟩ := dTo
  have bTo := FTo.binds (ps := ["rooms", "wants", "chosen"]) fun _ _ _ _ _ _ us hl => by obtain ⟨a, b, c, rfl⟩ := us3 hl; rfl
  obtain ⟨fdMo, FMo, mMo⟩ := dMo
  have bMo := FMo.binds (ps := ["rooms", "wants"]) fun _ _ _ _ _ _ us hl => by obtain ⟨a, b, rfl⟩ := us2 hl; rfl
  obtain ⟨fdFp, FFp, mFp⟩ := dFp
  have bFp := FFp.binds (ps := ["rooms", "wants", "goal"]) fun _ _ _ _ _ _ us hl => by obtain ⟨a, b, c, rfl⟩ := us3 hl; rfl
  obtain ⟨fdBp, FBp, mBp⟩ := dBp
  have bBp := FBp.binds (ps := ["rooms", "wants"]) fun _ _ _ _ _ _ us hl => by obtain ⟨a, b, rfl⟩ := us2 hl; rfl
  obtain ⟨fdHa, FHa, mHa⟩ := dHa
  have bHa := FHa.binds (ps := ["length", "metre"]) fun _ _ _ _ _ _ us hl => by obtain ⟨a, b, rfl⟩ := us2 hl; rfl
  obtain ⟨fdMu, FMu, mMu⟩ := dMu
  have bMu := FMu.binds (ps := ["length"]) fun _ _ _ _ _ _ us hl => by obtain ⟨a, rfl⟩ := us1 hl; rfl
  obtain ⟨fdLP, FLP, mLP⟩ := dLP
  have bLP := FLP.binds (ps := ["length"]) fun _ _ _ _ _ _ us hl => by obtain ⟨a, rfl⟩ := us1 hl; rfl
  obtain ⟨fdAll, FAll, mAll⟩ := dAll
  have bAll := FAll.binds (ps := ["lengths"]) fun _ _ _ _ _ _ us hl => by obtain ⟨a, rfl⟩ := us1 hl; rfl
  obtain ⟨fdWi, FWi, mWi⟩ := dWi
  have bWi := FWi.binds (ps := ["lengths", "number", "metre"]) fun _ _ _ _ _ _ us hl => by obtain ⟨a, b, c, rfl⟩ := us3 hl; rfl
  obtain ⟨fdBr, FBr, mBr⟩ := dBr
  have bBr := FBr.binds (ps := ["kerf", "lengths", "orders"]) fun _ _ _ _ _ _ us hl => by obtain ⟨a, b, c, rfl⟩ := us3 hl; rfl
  obtain ⟨fdPl, FPl, mPl⟩ := dPl
  have bPl := FPl.binds (ps := ["works"]) fun _ _ _ _ _ _ us hl => by obtain ⟨a, rfl⟩ := us1 hl; rfl
  obtain ⟨fdI, FI⟩ := dC.fn
  obtain ⟨fdIL, FIL⟩ := dCL.fn
  have bI := FI.binds (ps := ["self"]) fun _ _ _ _ _ _ us hl => by obtain ⟨a, rfl⟩ := us1 hl; rfl
  have bIL := FIL.binds (ps := ["self", "cut_off", "metres", "faults"]) fun _ _ _ _ _ _ us hl => by obtain ⟨a, b, c, d, rfl⟩ := us4 hl; rfl
  obtain ⟨fdAn, FAn, mAn⟩ := dAn
  have bAn := FAn.binds (ps := ["works", "call", "numbers"]) fun _ _ _ _ _ _ us hl => by obtain ⟨a, b, c, rfl⟩ := us3 hl; rfl
  obtain ⟨fdAs, FAs, mAs⟩ := dAs
  rw [mAs] at hfa
  injection hfa with hfa
  injection hfa with hfa
  subst hfa
  obtain ⟨h0, E0, q0⟩ := e0
  have w0 := E0.binds (ps := ["works", "kerf"]) fun _ _ _ _ _ _ us hl => by obtain ⟨a, b, rfl⟩ := us2 hl; rfl
  obtain ⟨h1, E1, q1⟩ := e1
  have w1 := E1.binds (ps := ["works", "metres"]) fun _ _ _ _ _ _ us hl => by obtain ⟨a, b, rfl⟩ := us2 hl; rfl
  obtain ⟨h2, E2, q2⟩ := e2
  have w2 := E2.binds (ps := ["works", "number", "metre"]) fun _ _ _ _ _ _ us hl => by obtain ⟨a, b, c, rfl⟩ := us3 hl; rfl
  obtain ⟨h3, E3, q3⟩ := e3
  have w3 := E3.binds (ps := ["works", "metres", "pays"]) fun _ _ _ _ _ _ us hl => by obtain ⟨a, b, c, rfl⟩ := us3 hl; rfl
  obtain ⟨h4, E4, q4⟩ := e4
  have w4 := E4.binds (ps := ["works", "number"]) fun _ _ _ _ _ _ us hl => by obtain ⟨a, b, rfl⟩ := us2 hl; rfl
  obtain ⟨h5, E5, q5⟩ := e5
  have w5 := E5.binds (ps := ["works"]) fun _ _ _ _ _ _ us hl => by obtain ⟨a, rfl⟩ := us1 hl; rfl
  obtain ⟨h6, E6, q6⟩ := e6
  have w6 := E6.binds (ps := ["works"]) fun _ _ _ _ _ _ us hl => by obtain ⟨a, rfl⟩ := us1 hl; rfl
  obtain ⟨h7, E7, q7⟩ := e7
  have w7 := E7.binds (ps := ["works"]) fun _ _ _ _ _ _ us hl => by obtain ⟨a, rfl⟩ := us1 hl; rfl
  obtain ⟨h8, E8, q8⟩ := e8
  have w8 := E8.binds (ps := ["works", "number"]) fun _ _ _ _ _ _ us hl => by obtain ⟨a, b, rfl⟩ := us2 hl; rfl
  obtain ⟨h9, E9, q9⟩ := e9
  have w9 := E9.binds (ps := ["works", "number", "metre"]) fun _ _ _ _ _ _ us hl => by obtain ⟨a, b, c, rfl⟩ := us3 hl; rfl
  obtain ⟨h10, E10, q10⟩ := e10
  have w10 := E10.binds (ps := ["works", "number"]) fun _ _ _ _ _ _ us hl => by obtain ⟨a, b, rfl⟩ := us2 hl; rfl
  obtain ⟨h11, E11, q11⟩ := e11
  have w11 := E11.binds (ps := ["works", "chosen"]) fun _ _ _ _ _ _ us hl => by obtain ⟨a, b, rfl⟩ := us2 hl; rfl
  obtain ⟨h12, E12, q12⟩ := e12
  have w12 := E12.binds (ps := ["works", "length_number", "order_number"]) fun _ _ _ _ _ _ us hl => by obtain ⟨a, b, c, rfl⟩ := us3 hl; rfl
  obtain ⟨h13, E13, q13⟩ := e13
  have w13 := E13.binds (ps := ["works", "number", "metres"]) fun _ _ _ _ _ _ us hl => by obtain ⟨a, b, c, rfl⟩ := us3 hl; rfl
  obtain ⟨h14, E14, q14⟩ := e14
  have w14 := E14.binds (ps := ["works"]) fun _ _ _ _ _ _ us hl => by obtain ⟨a, rfl⟩ := us1 hl; rfl
  obtain ⟨h15, E15, q15⟩ := e15
  have w15 := E15.binds (ps := ["works"]) fun _ _ _ _ _ _ us hl => by obtain ⟨a, rfl⟩ := us1 hl; rfl
  obtain ⟨h16, E16, q16⟩ := e16
  have w16 := E16.binds (ps := ["works", "number"]) fun _ _ _ _ _ _ us hl => by obtain ⟨a, b, rfl⟩ := us2 hl; rfl
  obtain ⟨h17, E17, q17⟩ := e17
  have w17 := E17.binds (ps := ["works", "number"]) fun _ _ _ _ _ _ us hl => by obtain ⟨a, b, rfl⟩ := us2 hl; rfl
  obtain ⟨h18, E18, q18⟩ := e18
  have w18 := E18.binds (ps := ["works"]) fun _ _ _ _ _ _ us hl => by obtain ⟨a, rfl⟩ := us1 hl; rfl
  refine ⟨fdAs, ?_, fun base _ _ => ?_⟩
  · obtain ⟨oc, od, kV, doc, pm, an, cdv, ct, osl, rfl, lk, hcd⟩ := FAs.ex
    exact fun s us hu => by obtain ⟨a, rfl⟩ := us1 hu; exact .of_eq rfl
  have HPi : Has P w K mg base "pieces_of" 1 ["begins", "ends", "faults"] spPieces := ⟨fPi, fdPi, ok_pieces FPi O, mPi, FPi.kp, bPi⟩
  have HGo : Has P w K mg base "good_at_first" 1 ["begins", "ends", "faults"] spGood := ⟨fGo, fdGo, ok_good FGo O, mGo, FGo.kp, bGo⟩
  have HLo : Has P w K mg base "longest_of" 1 ["pieces"] spLong := ⟨fLo, fdLo, ok_long FLo O, mLo, FLo.kp, bLo⟩
  have HRo : Has P w K mg base "rooms_of" 1 ["pieces", "kerf"] spRooms := ⟨fRo, fdRo, ok_rooms FRo, mRo, FRo.kp, bRo⟩
  have HWa : Has P w K mg base "wants_of" 1 ["orders", "kerf"] spWants := ⟨fWa, fdWa, ok_wants FWa, mWa, FWa.kp, bWa⟩
  have HTt : Has P w K mg base "totals" 1 ["numbers"] spTotals := ⟨fTt, fdTt, ok_totals FTt, mTt, FTt.kp, bTt⟩
  have GGw : FnOk P w K mg base CX0 1 fGw fdGw ["chosen", "needed", "room", "before"] spGoes := ok_goes FGw O
  have HFi : Has P w K mg base "fillable" 2 ["rooms", "needed"] spFill := ⟨fFi, fdFi, ok_fill FFi O GGw mGw FGw.kp bGw, mFi, FFi.kp, bFi⟩
  have HTo : Has P w K mg base "go_together" 3 ["rooms", "wants", "chosen"] spTog := ⟨fTo, fdTo, ok_tog FTo HTt HFi, mTo, FTo.kp, bTo⟩
  have GTt : FnOk P w K mg base CX0 1 fTt fdTt ["numbers"] spTotals := ok_totals FTt
  have GFi : FnOk P w K mg base CX0 2 fFi fdFi ["rooms", "needed"] spFill := ok_fill FFi O GGw mGw FGw.kp bGw
  have GMo : FnOk P w K mg base CX0 3 fMo fdMo ["rooms", "wants"] spMost := ok_most FMo O GTt mTt FTt.kp bTt GFi mFi FFi.kp bFi
  have HMo : Has P w K mg base "most_brought" 3 ["rooms", "wants"] spMost := ⟨fMo, fdMo, GMo, mMo, FMo.kp, bMo⟩
  have GFp : FnOk P w K mg base CX0 4 fFp fdFp ["rooms", "wants", "goal"] spFirst := ok_first FFp O GMo mMo FMo.kp bMo
  have HBp : Has P w K mg base "best_plan" 5 ["rooms", "wants"] spBest := ⟨fBp, fdBp, ok_best FBp O GMo mMo FMo.kp bMo GFp mFp FFp.kp bFp, mBp, FBp.kp, bBp⟩
  have HHa : Has P w K mg base "has_left" 1 ["length", "metre"] (spHas CL) := ⟨fHa, fdHa, ok_has FHa T, mHa, FHa.kp, bHa⟩
  have HMu : Has P w K mg base "how_much_is_left" 1 ["length"] (spMuch CL) := ⟨fMu, fdMu, ok_much FMu T, mMu, FMu.kp, bMu⟩
  have HLP : Has P w K mg base "pieces_left" 2 ["length"] (spLeftP CL) := ⟨fLP, fdLP, ok_leftP FLP T HPi, mLP, FLP.kp, bLP⟩
  have HAll : Has P w K mg base "all_pieces" 3 ["lengths"] (spAll CL) := ⟨fAll, fdAll, ok_all FAll HLP, mAll, FAll.kp, bAll⟩
  have GIL : FnOk P w K mg base CX0 1 fIL fdIL ["self", "cut_off", "metres", "faults"] (spInitL CL) := ok_initL FIL T
  have HWi : Has P w K mg base "with_fault" 3 ["lengths", "number", "metre"] (spWith CL) := ⟨fWi, fdWi, ok_with FWi T O dCL.mke dCL.nm GIL bIL, mWi, FWi.kp, bWi⟩
  have HBr : Has P w K mg base "brings" 4 ["kerf", "lengths", "orders"] (spBrings CL) := ⟨fBr, fdBr, ok_brings FBr HAll HRo HWa HMo, mBr, FBr.kp, bBr⟩
  have HPl : Has P w K mg base "places_of" 6 ["works"] (spPlaces C CL) := ⟨fPl, fdPl, ok_places FPl T HAll HRo HWa HBp, mPl, FPl.kp, bPl⟩
  have U : Tools P w K mg base C CL := ⟨T, O, ⟨_, PySem.W.mg_of X G ck2⟩, ⟨_, PySem.W.mg_of X G ck12⟩, ⟨_, PySem.W.mg_of X G ck17⟩, ⟨_, PySem.W.mg_of X G ck22⟩, ⟨_, PySem.W.mg_of X G ck28⟩, ⟨_, PySem.W.mg_of X G ck33⟩, ⟨_, PySem.W.mg_of X G ckKerf⟩, ⟨_, PySem.W.mg_of X G ckMet⟩, ⟨_, PySem.W.mg_of X G ckPay⟩, ⟨_, PySem.W.mg_of X G ckLen⟩, ⟨_, PySem.W.mg_of X G ckFau⟩, ⟨_, PySem.W.mg_of X G ckOrd⟩, HAll, HBr, HPl, HWi, HHa, HMu, HLP, HLo, HRo, HWa, HTo, HGo, fIL, fdIL, dCL.mke, dCL.nm, GIL, bIL⟩
  have GI : FnOk P w K mg base CX0 1 fI fdI ["self"] (spInitW (ZF C CL) C) := ok_initW FI T
  have GT : ∀ H : Hp, SqT K H tT (List.map V.ref [g0, g1, g2, g3, g4, g5, g6, g7, g8, g9, g10, g11, g12, g13, g14, g15, g16, g17, g18]) := fun H => .inr ⟨oT, isT, nT, lT, T1, T2, T3, T4⟩
  have GH : ∀ H : Hp, SqT K H tH (hm.map nint) := fun H => .inr ⟨oH, isH, nH, lH, H1, H2, H3, H4⟩
  have GAn : FnOk P w K mg base CX0 8 fAn fdAn ["works", "call", "numbers"] (spAnswer (ZF C CL)) := by
    refine ok_answer (kc := 7) (fs := [g0, g1, g2, g3, g4, g5, g6, g7, g8, g9, g10, g11, g12, g13, g14, g15, g16, g17, g18]) zf_ok zf_at FAn O dC.cl n_begun (PySem.W.mg_of X G cB) (PySem.W.mg_of X G cN) (PySem.W.mg_of X G aT) GT rfl ?_
    exact (at_cons ⟨E0.kp, h0, ["works", "kerf"], ok_c0 E0 U, w0⟩
      (at_cons ⟨E1.kp, h1, ["works", "metres"], ok_c1 E1 U, w1⟩
      (at_cons ⟨E2.kp, h2, ["works", "number", "metre"], ok_c2 E2 U, w2⟩
      (at_cons ⟨E3.kp, h3, ["works", "metres", "pays"], ok_c3 E3 U, w3⟩
      (at_cons ⟨E4.kp, h4, ["works", "number"], ok_c4 E4 U, w4⟩
      (at_cons ⟨E5.kp, h5, ["works"], ok_c5 E5 U, w5⟩
      (at_cons ⟨E6.kp, h6, ["works"], ok_c6 E6 U, w6⟩
      (at_cons ⟨E7.kp, h7, ["works"], ok_c7 E7 U, w7⟩
      (at_cons ⟨E8.kp, h8, ["works", "number"], ok_c8 E8 U, w8⟩
      (at_cons ⟨E9.kp, h9, ["works", "number", "metre"], ok_c9 E9 U, w9⟩
      (at_cons ⟨E10.kp, h10, ["works", "number"], ok_c10 E10 U, w10⟩
      (at_cons ⟨E11.kp, h11, ["works", "chosen"], ok_c11 E11 U, w11⟩
      (at_cons ⟨E12.kp, h12, ["works", "length_number", "order_number"], ok_c12 E12 U, w12⟩
      (at_cons ⟨E13.kp, h13, ["works", "number", "metres"], ok_c13 E13 U, w13⟩
      (at_cons ⟨E14.kp, h14, ["works"], ok_c14 E14 U, w14⟩
      (at_cons ⟨E15.kp, h15, ["works"], ok_c15 E15 U, w15⟩
      (at_cons ⟨E16.kp, h16, ["works", "number"], ok_c16 E16 U, w16⟩
      (at_cons ⟨E17.kp, h17, ["works", "number"], ok_c17 E17 U, w17⟩
      (at_cons ⟨E18.kp, h18, ["works"], ok_c18 E18 U, w18⟩
      at_nil)))))))))))))))))))
  exact ok_answers (kA := 8) zf_ok FAs O dC.mke dC.nm GI bI (by decide) GAn mAn FAn.kp bAn (PySem.W.mg_of X G aH) GH
end Cut

set_option Elab.async false
set_option linter.all false
open PySem PySem.W PyProof.Rows
set_option maxRecDepth 100000 in
set_option maxHeartbeats 0 in
theorem PySem.Challenge.cw_cutorders_s01_answers_holds : PySem.Challenge.rw_cutorders_s01_answers.Holds := by
  w_on; k_headS; (case hw => exact ⟨[.list [.int 5]], by decide +kernel, by decide +kernel⟩)
  k_fillS
  refine L2.walk_specK (r := PySem.Challenge.rw_cutorders_s01_answers) (k := 9) (CX := L2.CX0) (ps := ["calls"]) (sp := Cut.spAnswers) (by decide +kernel) rfl rfl ⟨rfl, by decide, by decide⟩ (fun w h Y => PySem.W.kIn_of Y) ?F ?S (fun _ _ _ _ z => z)
  case F =>
    intro w mg fa h Y KX G hmg
    refine' Cut.all_mk KX G hmg ?dC ?dCL ?n0 ?n1 ?n2 ?n3 ?n4 ?n5 ?n6 ?n7 ?n8 ?dPi ?dGo ?dLo ?dRo ?dWa ?dTt ?dGw ?dFi ?dTo ?dMo ?dFp ?dBp ?dHa ?dMu ?dLP ?dAll ?dWi ?dBr ?dPl ?e0 ?e1 ?e2 ?e3 ?e4 ?e5 ?e6 ?e7 ?e8 ?e9 ?e10 ?e11 ?e12 ?e13 ?e14 ?e15 ?e16 ?e17 ?e18 ?dAn ?dAs ?ck2 ?ck12 ?ck17 ?ck22 ?ck28 ?ck33 ?ckKerf ?ckMet ?ckPay ?ckLen ?ckFau ?ckOrd ?cB ?cN ?o_range ?o_len ?o_max ?o_min ?o_zip ?o_enumerate ?o_list ?o_sorted ?aT ?lT ?T1 ?T2 ?T3 ?T4 ?aH ?lH ?H1 ?H2 ?H3 ?H4
    (case dC => refine' Cut.cls_mk KX G ?aC ?a ?i ?l ?c ?k ?pg ?hd ?po ?sa ?mk ?kc; (case aC => k_is); (case a => k_is); (case i => k_is); (case l => k_is); (case c => k_is); (case k => k_is); (case pg => k_is); (case hd => k_is); (case po => k_is); (case sa => k_is); (case mk => k_is); (case kc => k_is))
    (case dCL => refine' Cut.cls_mk KX G ?aC ?a ?i ?l ?c ?k ?pg ?hd ?po ?sa ?mk ?kc; (case aC => k_is); (case a => k_is); (case i => k_is); (case l => k_is); (case c => k_is); (case k => k_is); (case pg => k_is); (case hd => k_is); (case po => k_is); (case sa => k_is); (case mk => k_is); (case kc => k_is))
    (case n0 => unfold L2.NoAttr; k_is)
    (case n1 => unfold L2.NoAttr; k_is)
    (case n2 => unfold L2.NoAttr; k_is)
    (case n3 => unfold L2.NoAttr; k_is)
    (case n4 => unfold L2.NoAttr; k_is)
    (case n5 => unfold L2.NoAttr; k_is)
    (case n6 => unfold L2.NoAttr; k_is)
    (case n7 => unfold L2.NoAttr; k_is)
    (case n8 => unfold L2.NoAttr; k_is)
    (case dPi => refine' Cut.def_mk KX G ?a ?l ?c ?k; (case a => k_is); (case l => k_is); (case c => k_is); (case k => k_is))
    (case dGo => refine' Cut.def_mk KX G ?a ?l ?c ?k; (case a => k_is); (case l => k_is); (case c => k_is); (case k => k_is))
    (case dLo => refine' Cut.def_mk KX G ?a ?l ?c ?k; (case a => k_is); (case l => k_is); (case c => k_is); (case k => k_is))
    (case dRo => refine' Cut.def_mk KX G ?a ?l ?c ?k; (case a => k_is); (case l => k_is); (case c => k_is); (case k => k_is))
    (case dWa => refine' Cut.def_mk KX G ?a ?l ?c ?k; (case a => k_is); (case l => k_is); (case c => k_is); (case k => k_is))
    (case dTt => refine' Cut.def_mk KX G ?a ?l ?c ?k; (case a => k_is); (case l => k_is); (case c => k_is); (case k => k_is))
    (case dGw => refine' Cut.def_mk KX G ?a ?l ?c ?k; (case a => k_is); (case l => k_is); (case c => k_is); (case k => k_is))
    (case dFi => refine' Cut.def_mk KX G ?a ?l ?c ?k; (case a => k_is); (case l => k_is); (case c => k_is); (case k => k_is))
    (case dTo => refine' Cut.def_mk KX G ?a ?l ?c ?k; (case a => k_is); (case l => k_is); (case c => k_is); (case k => k_is))
    (case dMo => refine' Cut.def_mk KX G ?a ?l ?c ?k; (case a => k_is); (case l => k_is); (case c => k_is); (case k => k_is))
    (case dFp => refine' Cut.def_mk KX G ?a ?l ?c ?k; (case a => k_is); (case l => k_is); (case c => k_is); (case k => k_is))
    (case dBp => refine' Cut.def_mk KX G ?a ?l ?c ?k; (case a => k_is); (case l => k_is); (case c => k_is); (case k => k_is))
    (case dHa => refine' Cut.def_mk KX G ?a ?l ?c ?k; (case a => k_is); (case l => k_is); (case c => k_is); (case k => k_is))
    (case dMu => refine' Cut.def_mk KX G ?a ?l ?c ?k; (case a => k_is); (case l => k_is); (case c => k_is); (case k => k_is))
    (case dLP => refine' Cut.def_mk KX G ?a ?l ?c ?k; (case a => k_is); (case l => k_is); (case c => k_is); (case k => k_is))
    (case dAll => refine' Cut.def_mk KX G ?a ?l ?c ?k; (case a => k_is); (case l => k_is); (case c => k_is); (case k => k_is))
    (case dWi => refine' Cut.def_mk KX G ?a ?l ?c ?k; (case a => k_is); (case l => k_is); (case c => k_is); (case k => k_is))
    (case dBr => refine' Cut.def_mk KX G ?a ?l ?c ?k; (case a => k_is); (case l => k_is); (case c => k_is); (case k => k_is))
    (case dPl => refine' Cut.def_mk KX G ?a ?l ?c ?k; (case a => k_is); (case l => k_is); (case c => k_is); (case k => k_is))
    (case e0 => refine' Cut.def_mk KX G ?a ?l ?c ?k; (case a => k_is); (case l => k_is); (case c => k_is); (case k => k_is))
    (case e1 => refine' Cut.def_mk KX G ?a ?l ?c ?k; (case a => k_is); (case l => k_is); (case c => k_is); (case k => k_is))
    (case e2 => refine' Cut.def_mk KX G ?a ?l ?c ?k; (case a => k_is); (case l => k_is); (case c => k_is); (case k => k_is))
    (case e3 => refine' Cut.def_mk KX G ?a ?l ?c ?k; (case a => k_is); (case l => k_is); (case c => k_is); (case k => k_is))
    (case e4 => refine' Cut.def_mk KX G ?a ?l ?c ?k; (case a => k_is); (case l => k_is); (case c => k_is); (case k => k_is))
    (case e5 => refine' Cut.def_mk KX G ?a ?l ?c ?k; (case a => k_is); (case l => k_is); (case c => k_is); (case k => k_is))
    (case e6 => refine' Cut.def_mk KX G ?a ?l ?c ?k; (case a => k_is); (case l => k_is); (case c => k_is); (case k => k_is))
    (case e7 => refine' Cut.def_mk KX G ?a ?l ?c ?k; (case a => k_is); (case l => k_is); (case c => k_is); (case k => k_is))
    (case e8 => refine' Cut.def_mk KX G ?a ?l ?c ?k; (case a => k_is); (case l => k_is); (case c => k_is); (case k => k_is))
    (case e9 => refine' Cut.def_mk KX G ?a ?l ?c ?k; (case a => k_is); (case l => k_is); (case c => k_is); (case k => k_is))
    (case e10 => refine' Cut.def_mk KX G ?a ?l ?c ?k; (case a => k_is); (case l => k_is); (case c => k_is); (case k => k_is))
    (case e11 => refine' Cut.def_mk KX G ?a ?l ?c ?k; (case a => k_is); (case l => k_is); (case c => k_is); (case k => k_is))
    (case e12 => refine' Cut.def_mk KX G ?a ?l ?c ?k; (case a => k_is); (case l => k_is); (case c => k_is); (case k => k_is))
    (case e13 => refine' Cut.def_mk KX G ?a ?l ?c ?k; (case a => k_is); (case l => k_is); (case c => k_is); (case k => k_is))
    (case e14 => refine' Cut.def_mk KX G ?a ?l ?c ?k; (case a => k_is); (case l => k_is); (case c => k_is); (case k => k_is))
    (case e15 => refine' Cut.def_mk KX G ?a ?l ?c ?k; (case a => k_is); (case l => k_is); (case c => k_is); (case k => k_is))
    (case e16 => refine' Cut.def_mk KX G ?a ?l ?c ?k; (case a => k_is); (case l => k_is); (case c => k_is); (case k => k_is))
    (case e17 => refine' Cut.def_mk KX G ?a ?l ?c ?k; (case a => k_is); (case l => k_is); (case c => k_is); (case k => k_is))
    (case e18 => refine' Cut.def_mk KX G ?a ?l ?c ?k; (case a => k_is); (case l => k_is); (case c => k_is); (case k => k_is))
    (case dAn => refine' Cut.def_mk KX G ?a ?l ?c ?k; (case a => k_is); (case l => k_is); (case c => k_is); (case k => k_is))
    (case dAs => refine' Cut.def_mk KX G ?a ?l ?c ?k; (case a => k_is); (case l => k_is); (case c => k_is); (case k => k_is))
    (case ck2 => k_is)
    (case ck12 => k_is)
    (case ck17 => k_is)
    (case ck22 => k_is)
    (case ck28 => k_is)
    (case ck33 => k_is)
    (case ckKerf => k_is)
    (case ckMet => k_is)
    (case ckPay => k_is)
    (case ckLen => k_is)
    (case ckFau => k_is)
    (case ckOrd => k_is)
    (case cB => k_is)
    (case cN => k_is)
    (case o_range => k_is)
    (case o_len => k_is)
    (case o_max => k_is)
    (case o_min => k_is)
    (case o_zip => k_is)
    (case o_enumerate => k_is)
    (case o_list => k_is)
    (case o_sorted => k_is)
    (case aT => k_is)
    (case lT => k_is)
    (case T1 => exact rfl); (case T2 => exact rfl); (case T3 => decide +kernel)
    (case T4 => exact .cons rfl (.cons rfl (.cons rfl (.cons rfl (.cons rfl (.cons rfl (.cons rfl (.cons rfl (.cons rfl (.cons rfl (.cons rfl (.cons rfl (.cons rfl (.cons rfl (.cons rfl (.cons rfl (.cons rfl (.cons rfl (.cons rfl (.nil))))))))))))))))))))
    (case aH => k_is); (case lH => k_is); (case H1 => exact rfl); (case H2 => exact rfl); (case H3 => decide +kernel)
    (case H4 => exact .cons ⟨_, rfl⟩ (.cons ⟨_, rfl⟩ (.cons ⟨_, rfl⟩ (.cons ⟨_, rfl⟩ (.cons ⟨_, rfl⟩ (.cons ⟨_, rfl⟩ (.cons ⟨_, rfl⟩ (.cons ⟨_, rfl⟩ (.cons ⟨_, rfl⟩ (.cons ⟨_, rfl⟩ (.cons ⟨_, rfl⟩ (.cons ⟨_, rfl⟩ (.cons ⟨_, rfl⟩ (.cons ⟨_, rfl⟩ (.cons ⟨_, rfl⟩ (.cons ⟨_, rfl⟩ (.cons ⟨_, rfl⟩ (.cons ⟨_, rfl⟩ (.cons ⟨_, rfl⟩ (.nil))))))))))))))))))))
  case S =>
    intro K H xs a hO hwi hask hx
    cases hx with
    | cons h1 h2 =>
      cases h2
      cases h1 with
      | lst hs ha =>
        have e := L2.ints_dw a.1 _ ha
        subst e
        have q : ((Codec.inLen 0 1000 a.1 && a.1.all (Codec.inInt 0 4294967295)) && true) = true := hwi
        rw [Bool.and_eq_true, Bool.and_eq_true] at q
        exact ⟨_, a.1, rfl, hs, (Codec.inNat_iff.mp q.1.1).2, hask, fun H' p hp => .lst (L2.SqL.of hp) (L2.dw_ints _)⟩

