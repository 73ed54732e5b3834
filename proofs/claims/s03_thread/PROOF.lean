import PyProof.Rows.All
import Wide.All
import OpenK.AllK
import Wide.FinOn
import PyProof.EqAt
import PyProof.EqKinds
import PyProof.TupleCall
import KE.BitLaws
import KE.OsGo
import Open.SpecLaws
import PySem.Challenge.RW_bobbinlace_s03_thread
set_option Elab.async false
set_option linter.all false
set_option maxRecDepth 100000
/-! THE HAND LAYER, for ints, bools, texts, own classes, lists, tuples, dicts, comprehensions, walks over dicts, enumerate, zip, reversed, texts, calls, loops. Paste it whole ahead of your own text; what your proof does not reach may be deleted. -/
namespace L2
open PySem PySem.Spec PyProof.Rows

/-- a key: an int or a str -/
abbrev Key := Sum Int Str
def keyIs : Key → Value → Bool
  | .inl k, v => Value.isInt k v
  | .inr x, v => Value.isStrOf x v
def keyH (w : World) : Key → Int
  | .inl k => hashInt k
  | .inr x => hashStr w x
theorem keyIs_shape : ∀ {k : Key} {v : Value}, keyIs k v = true → (∃ i t, k = Sum.inl i ∧ v = Value.int i t) ∨ (∃ x t, k = Sum.inr x ∧ v = Value.str x t)
  | .inl i, v, h => by
    obtain ⟨t, e⟩ := Value.isInt_shape (k := i) (v := v) h
    exact .inl ⟨i, t, rfl, e⟩
  | .inr x, v, h => by
    obtain ⟨t, e⟩ := Value.isStrOf_shape (x := x) (v := v) h
    exact .inr ⟨x, t, rfl, e⟩
theorem key_ll (a b : Int) : decide ((Sum.inl a : Key) = Sum.inl b) = (a == b) := by
  by_cases e : a = b
  · subst e; simp
  · have h : ¬ (Sum.inl a : Key) = Sum.inl b := fun q => e (Sum.inl.inj q)
    rw [decide_eq_false h]
    exact (beq_eq_false_iff_ne.mpr e).symm
theorem key_rr (a b : Str) : decide ((Sum.inr a : Key) = Sum.inr b) = decide (a = b) := by
  by_cases e : a = b
  · subst e; simp
  · have h : ¬ (Sum.inr a : Key) = Sum.inr b := fun q => e (Sum.inr.inj q)
    rw [decide_eq_false h, decide_eq_false e]
theorem key_lr (a : Int) (b : Str) : decide ((Sum.inl a : Key) = Sum.inr b) = false := decide_eq_false (fun q => nomatch q)
theorem key_rl (a : Str) (b : Int) : decide ((Sum.inr a : Key) = Sum.inl b) = false := decide_eq_false (fun q => nomatch q)

def mixKind (prog : Program) (w : World) : PySem.KeyKind prog w Key where
  is := keyIs
  hash := keyH w
  inj := fun v a b ha hb => by
    rcases keyIs_shape ha with ⟨i, t, rfl, rfl⟩ | ⟨x, t, rfl, rfl⟩
    · rcases keyIs_shape hb with ⟨j, u, rfl, e⟩ | ⟨y, u, rfl, e⟩
      · injection e with e1 _; rw [e1]
      · exact nomatch e
    · rcases keyIs_shape hb with ⟨j, u, rfl, e⟩ | ⟨y, u, rfl, e⟩
      · exact nomatch e
      · injection e with e1 _; rw [e1]
  byValue := fun k v h => by
    rcases keyIs_shape h with ⟨i, t, rfl, rfl⟩ | ⟨x, t, rfl, rfl⟩ <;> rfl
  pyHash := fun hv h => by
    rcases keyIs_shape hv with ⟨i, t, rfl, rfl⟩ | ⟨x, t, rfl, rfl⟩
    · exact wpAny_pyHash_int h
    · exact wpAny_pyHash_str h
  eqBool := fun hu hv h => by
    rcases keyIs_shape hu with ⟨i, t, rfl, rfl⟩ | ⟨x, t, rfl, rfl⟩
    · rcases keyIs_shape hv with ⟨j, u, rfl, rfl⟩ | ⟨y, u, rfl, rfl⟩
      · rw [key_ll] at h; exact wpAny_eqBool_int h
      · rw [key_lr] at h; exact SeqAt.EqAt.int_str i t y u _ _ _ _ h
    · rcases keyIs_shape hv with ⟨j, u, rfl, rfl⟩ | ⟨y, u, rfl, rfl⟩
      · rw [key_rl] at h; exact SeqAt.EqAt.str_int x t j u _ _ _ _ h
      · rw [key_rr] at h; exact wpAny_eqBool_str h
  «strs» := fun k x t v h => by
    rcases keyIs_shape h with ⟨i, u, rfl, e⟩ | ⟨y, u, rfl, e⟩
    · exact nomatch e
    · injection e with e1 _
      subst e1
      cases v <;> rfl

end L2

namespace L2
open PySem PySem.Spec PyProof.Rows

/-- a value, without the heap -/
inductive V where
  | non | bl (b : Bool) | int (i : Int) | str (x : Str) | byt (b : Array UInt8) | flt (b : UInt64) | ref (a : Addr) | ty (n : String)
  deriving DecidableEq

def RelV : V → Value → Prop
  | .non, u => u = Value.none
  | .bl b, u => u = Value.bool b
  | .int i, u => ∃ t, u = Value.int i t
  | .str x, u => ∃ t, u = Value.str x t
  | .byt b, u => ∃ t, u = Value.bytes b t
  | .flt b, u => ∃ t, u = Value.float b t
  | .ref a, u => u = Value.ref a
  | .ty n, u => u = Value.type n

abbrev Vals : List V → List Value → Prop := Paired RelV
theorem Vals.length {xs : List V} {us : List Value} (r : Vals xs us) : xs.length = us.length := Paired.length r
theorem Vals.get : ∀ {xs : List V} {us : List Value} {i : Nat} {x : V}, Vals xs us → xs[i]? = some x → ∃ u, us[i]? = some u ∧ RelV x u
  | _, _, _, _, .nil, e => by simp at e
  | _, _, 0, _, .cons r _, e => by simp at e; subst e; exact ⟨_, rfl, r⟩
  | _, _, i + 1, x, .cons _ t, e => by
    obtain ⟨u, h1, h2⟩ := Vals.get (i := i) (x := x) t (by simpa using e)
    exact ⟨u, by simpa using h1, h2⟩
theorem Vals.set {x : V} {u : Value} (r : RelV x u) : ∀ {xs : List V} {us : List Value} (i : Nat), Vals xs us → Vals (xs.set i x) (us.set i u)
  | _, _, _, .nil => .nil
  | _, _, 0, .cons _ t => .cons r t
  | _, _, i + 1, .cons q t => .cons q (Vals.set r i t)
theorem Vals.append : ∀ {xs ys : List V} {us ws : List Value}, Vals xs us → Vals ys ws → Vals (xs ++ ys) (us ++ ws)
  | _, _, _, _, .nil, s => s
  | _, _, _, _, .cons r t, s => .cons r (Vals.append t s)
def RelO : Option V → Option Value → Prop
  | some v, some u => RelV v u
  | none, none => True
  | _, _ => False
def KV {κ : Type} : List (κ × V) → List (κ × Value) → Prop := Paired fun (p : κ × V) (q : κ × Value) => p.1 = q.1 ∧ RelV p.2 q.2

/-- a key of a dict (00_mix): an int or a text -/
def kV : Key → V
  | .inl i => .int i
  | .inr x => .str x

/-- what stands at a tracked address -/
inductive HO where
  /-- a list -/
  | lst (xs : List V)
  /-- a tuple (never changes) -/
  | tup (xs : List V)
  /-- a dict whose keys are ints and texts; one whose keys are tuples of ints and texts (the empty one is both) -/
  | dK (kvs : List (Key × V)) | dT (kvs : List (List Key × V))
  /-- a set of ints: its members, its size -/
  | set (S : Int → Bool) (n : Nat)
  /-- an instance of the class at C, its dict at dx, its attributes -/
  | ins (C dx : Addr) (fs : List (Str × V))
  /-- the dict of the instance at x -/
  | own (x : Addr)
  /-- the dict of an exception -/
  | xd (fs : List (Str × V))
  /-- a bound method, f of x -/
  | met (f x : Addr)
  /-- a range object lo, lo + 1, .. below hi -/
  | rng (lo hi : Int)
  /-- a thing that is known to the object (the script; a dict while a loop walks it): read, never written while it is so -/
  | frz (o : Obj) (u : HO)
  /-- a code object's table -/
  | tbl (ps : Array Value)
  /-- any other thing, by what is true of its one object (a def of one's own: SetO a S n := HO.ext fun h => ..) -/
  | ext (φ : Heap → Prop)

abbrev Hp := Addr → Option HO
def upd (H : Hp) (a : Addr) (o : HO) : Hp := fun b => if b = a then some o else H b
theorem upd_same {H : Hp} {a : Addr} {o : HO} : upd H a o a = some o := by unfold upd; rw [if_pos rfl]
theorem upd_ne {H : Hp} {a b : Addr} {o : HO} (h : b ≠ a) : upd H a o b = H b := by unfold upd; rw [if_neg h]
theorem ne_of_none {H : Hp} {a b : Addr} {o : HO} (h : H a = some o) (h' : H b = none) : a ≠ b := by
  intro e; subst e; rw [h] at h'; cases h'

section
variable (P : Program) (w : World)
def ObjOk (H : Hp) (h : Heap) (a : Addr) : HO → Prop
  | .lst xs => xs.length ≤ sizeLine ∧ ∃ (its : List Value) (n : Nat), Vals xs its ∧ h.get? a = some { cls := .type "list", data := .seq its.toArray n }
  | .tup xs => xs.length ≤ sizeLine ∧ ∃ its : List Value, Vals xs its ∧ IsTup h a its.toArray
  | .dK kvs => kvs.length ≤ sizeLine ∧ (a == sysModules) = false ∧ ∃ vs, KV kvs vs ∧ h.DictOf (mixKind P w) a vs
  | .dT kvs => kvs.length ≤ sizeLine ∧ (a == sysModules) = false ∧ ∃ xs : List (List Key × Addr × Value),
      Paired (fun (p : List Key × V) (q : List Key × Addr × Value) => p.1 = q.1 ∧ H q.2.1 = some (.tup (p.1.map kV)) ∧ RelV p.2 q.2.2) kvs xs ∧
      ∃ o es ep, h.get? a = some o ∧ o.ExactDict ∧ o.data = .dict es ep ∧ es.toList = xs.map (entryOfKey (tupleKind (mixKind P w))) ∧ (xs.map (·.1)).Nodup
  | .set S n => h.SetOf (intKind P w) a S n
  | .ins C dx fs => H dx = some (.own a) ∧ fs.length ≤ 1000 ∧ dx ≠ a ∧ h.get? a = some (PySem.W.instObj C dx) ∧
      ∃ mA, h.Ns1 dx mA ∧ (∀ f, RelO (fs.lookup f) (mA f)) ∧ PySem.Within mA (fs.map (·.1))
  | .own _ => ∃ o, h.get? a = some o
  | .xd fs => ∃ mA, h.Ns1 a mA ∧ ∀ f, RelO (fs.lookup f) (mA f)
  | .rng lo hi => ∃ t u v, h.get? a = some { cls := .type "range", data := .fields #[.int lo t, .int hi u, .int 1 v] }
  | .frz o u => h.get? a = some o ∧ ObjOk H h a u
  | .tbl ps => h.get? a = some { cls := .none, data := .fields ps }
  | .met f x => h.get? a = some (PySem.W.methodObj (.ref f) (.ref x))
  | .ext φ => φ h ∧ (∃ o, h.get? a = some o) ∧ ∀ h1 h2 : Heap, φ h1 → (∀ o, h1.get? a = some o → h2.get? a = some o) → φ h2
/-- the abstract heap is held -/
def HOk (H : Hp) (h : Heap) : Prop := ∀ a o, H a = some o → ObjOk P w H h a o
end

section
variable {P : Program} {w : World} {H H' : Hp} {h h' : Heap} {a : Addr} {o : HO}
theorem ObjOk.lt (x : ObjOk P w H h a o) : a < h.objs.size := by
  cases o with
  | lst xs => obtain ⟨_, _, _, _, e⟩ := x; exact Heap.lt_size e
  | tup xs => obtain ⟨_, _, _, p⟩ := x; exact p.lt
  | dK kvs => obtain ⟨_, _, _, _, o, _, _, e, _⟩ := x; exact Heap.lt_size e
  | dT kvs => obtain ⟨_, _, _, _, o, _, _, e, _⟩ := x; exact Heap.lt_size e
  | set S n => obtain ⟨o, _, _, _, e, _⟩ := x; exact Heap.lt_size e
  | ins C dx fs => obtain ⟨_, _, _, e, _⟩ := x; exact Heap.lt_size e
  | own y => obtain ⟨_, e⟩ := x; exact Heap.lt_size e
  | xd fs => obtain ⟨_, ⟨_, _, _, e, _⟩, _⟩ := x; exact Heap.lt_size e
  | rng lo hi => obtain ⟨_, _, _, e⟩ := x; exact Heap.lt_size e
  | frz ob u => obtain ⟨e, _⟩ := x; exact Heap.lt_size e
  | tbl ps => exact Heap.lt_size (show h.get? a = some _ from x)
  | met f y => exact Heap.lt_size (show h.get? a = some _ from x)
  | ext φ => obtain ⟨_, ⟨_, e⟩, _⟩ := x; exact Heap.lt_size e
theorem Paired.mapP {α β : Type} {F G : α → β → Prop} : ∀ {l₁ : List α} {l₂ : List β}, Paired F l₁ l₂ → (∀ a b, F a b → G a b) → Paired G l₁ l₂
  | _, _, .nil, _ => .nil
  | _, _, .cons r t, f => .cons (f _ _ r) (Paired.mapP t f)
/-- what an object's description leans on: its own object, its own dict, the tuples -/
theorem ObjOk.stay (x : ObjOk P w H h a o) (k : ∀ b u, (b = a ∨ H b = some (.own a)) → h.get? b = some u → h'.get? b = some u)
    (ho : ∀ b, H b = some (.own a) → H' b = some (.own a)) (ht : ∀ b xs, H b = some (.tup xs) → H' b = some (.tup xs)) : ObjOk P w H' h' a o := by
  induction o with
  | lst xs => obtain ⟨z, its, n, r, e⟩ := x; exact ⟨z, its, n, r, k _ _ (.inl rfl) e⟩
  | tup xs => obtain ⟨z, its, r, ob, e, c⟩ := x; exact ⟨z, its, r, ob, k _ _ (.inl rfl) e, c⟩
  | dK kvs => obtain ⟨z, y, vs, r, ob, es, ep, e, c⟩ := x; exact ⟨z, y, vs, r, ob, es, ep, k _ _ (.inl rfl) e, c⟩
  | dT kvs =>
    obtain ⟨z, y, xs, r, ob, es, ep, e, c⟩ := x
    exact ⟨z, y, xs, Paired.mapP r fun p q z => ⟨z.1, ht _ _ z.2.1, z.2.2⟩, ob, es, ep, k _ _ (.inl rfl) e, c⟩
  | set S n => obtain ⟨ob, es, ep, t, e, c⟩ := x; exact ⟨ob, es, ep, t, k _ _ (.inl rfl) e, c⟩
  | ins C dx fs =>
    obtain ⟨d, z, ne, e, mA, ⟨od, es, ep, e2, c⟩, r⟩ := x
    exact ⟨ho _ d, z, ne, k _ _ (.inl rfl) e, mA, ⟨od, es, ep, k _ _ (.inr d) e2, c⟩, r⟩
  | own y => obtain ⟨ob, e⟩ := x; exact ⟨ob, k _ _ (.inl rfl) e⟩
  | xd fs => obtain ⟨mA, ⟨od, es, ep, e, c⟩, r⟩ := x; exact ⟨mA, ⟨od, es, ep, k _ _ (.inl rfl) e, c⟩, r⟩
  | rng lo hi => obtain ⟨t, u, v, e⟩ := x; exact ⟨t, u, v, k _ _ (.inl rfl) e⟩
  | frz ob u ih => obtain ⟨e, q⟩ := x; exact ⟨k _ _ (.inl rfl) e, ih q⟩
  | tbl ps =>
    have e : h.get? a = some { cls := .none, data := .fields ps } := x
    show h'.get? a = some { cls := .none, data := .fields ps }
    exact k a _ (.inl rfl) e
  | met f y =>
    have e : h.get? a = some (PySem.W.methodObj (.ref f) (.ref y)) := x
    show h'.get? a = some (PySem.W.methodObj (.ref f) (.ref y))
    exact k a _ (.inl rfl) e
  | ext φ => obtain ⟨p, ⟨o, e⟩, st⟩ := x; exact ⟨st _ _ p fun o q => k _ _ (.inl rfl) q, ⟨o, k _ _ (.inl rfl) e⟩, st⟩
theorem HOk.lt (x : HOk P w H h) (e : H a = some o) : a < h.objs.size := (x a o e).lt
theorem HOk.fresh (x : HOk P w H h) (e : h.objs.size ≤ a) : H a = none := by
  cases q : H a with
  | none => rfl
  | some u => exact absurd (Nat.lt_of_lt_of_le (x.lt q) e) (Nat.lt_irrefl _)
/-- every object of the heap is kept -/
theorem HOk.kept (x : HOk P w H h) (k : ∀ b u, h.get? b = some u → h'.get? b = some u) : HOk P w H h' := fun a o e =>
  (x a o e).stay (fun b u _ q => k b u q) (fun _ q => q) fun _ _ q => q
/-- a new object is laid and tracked -/
theorem HOk.laid (x : HOk P w H h) (k : ∀ b u, h.get? b = some u → h'.get? b = some u) (hp : h.objs.size ≤ a) (new : ObjOk P w (upd H a o) h' a o) : HOk P w (upd H a o) h' := fun b u e => by
  have hn := x.fresh hp
  by_cases hb : b = a
  · subst hb; rw [upd_same] at e; cases e; exact new
  · rw [upd_ne hb] at e
    exact (x b u e).stay (fun c v _ q => k c v q) (fun c q => by rw [upd_ne (ne_of_none q hn)]; exact q) fun c xs q => by rw [upd_ne (ne_of_none q hn)]; exact q
end

/-- what may be read as u: it is u, or a known u -/
def Rd (H : Hp) (a : Addr) (u : HO) : Prop := H a = some u ∨ ∃ o, H a = some (.frz o u)
theorem Rd.ok {P : Program} {w : World} {H : Hp} {h : Heap} {a : Addr} {u : HO} (r : Rd H a u) (x : HOk P w H h) : ObjOk P w H h a u := by
  rcases r with r | ⟨o, r⟩
  · exact x a u r
  · obtain ⟨_, q⟩ := x a _ r
    exact q
/-- what may be written -/
def Mut : Option HO → Prop
  | some (.lst _) => True
  | some (.dK _) => True
  | some (.dT _) => True
  | some (.set _ _) => True
  | some (.ins _ _ _) => True
  | some (.ext _) => True
  | _ => False
section
variable {P : Program} {w : World} {H : Hp} {h h' : Heap} {x e : Addr} {o' : HO}
/-- the object at e is changed: x itself, or the dict of the instance x -/
theorem HOk.write (ok : HOk P w H h) (mu : Mut (H x)) (he : e = x ∨ H e = some (.own x)) (k : ∀ b u, b ≠ e → h.get? b = some u → h'.get? b = some u) (heo : ∃ u, h'.get? e = some u)
    (new : ObjOk P w (upd H x o') h' x o') : HOk P w (upd H x o') h' := fun b u q => by
  have nown : ∀ c y, H c = some (.own y) → c ≠ x := fun c y r z => by subst z; rw [r] at mu; exact mu
  have ntup : ∀ c xs, H c = some (.tup xs) → c ≠ x := fun c xs r z => by subst z; rw [r] at mu; exact mu
  by_cases hb : b = x
  · subst hb; rw [upd_same] at q; cases q; exact new
  · rw [upd_ne hb] at q
    by_cases hbe : b = e
    · have q' : H b = some (.own x) := by
        rcases he with z | z
        · exact absurd (hbe.trans z) hb
        · rw [hbe]; exact z
      rw [q] at q'; cases q'
      obtain ⟨v, hv⟩ := heo
      exact ⟨v, by rw [hbe]; exact hv⟩
    · refine (ok b u q).stay (fun c v hc r => k c v ?_ r) (fun c r => by rw [upd_ne (nown c b r)]; exact r) fun c xs r => by rw [upd_ne (ntup c xs r)]; exact r
      rcases hc with rfl | hc
      · exact hbe
      · rintro rfl
        rcases he with z | z
        · exact nown c b hc z
        · rw [hc] at z; cases z; exact hb rfl
end

/-! ### kept unless tracked; of the frames at fs (the callers') the slots may change (an exception that passes writes there); of the records at ex (iterators) nothing is said -/
structure Un (fs ex : List Addr) (H H' : Hp) (h h' : Heap) : Prop where
  keep : ∀ b o, h.get? b = some o → H b = none → b ∉ fs → b ∉ ex → h'.get? b = some o
  slot : ∀ b o, h.get? b = some o → H b = none → b ∈ fs → b ∉ ex → ∃ sl, h'.get? b = some { o with slots := sl }
  free : ∀ b o, h.get? b = some o → H b = none → b ∉ ex → H' b = none
  there : ∀ b o, h.get? b = some o → b ∉ ex → ∃ o', h'.get? b = some o'
  tups : ∀ b xs, H b = some (.tup xs) → H' b = some (.tup xs)
  frzs : ∀ b o u, H b = some (.frz o u) → H' b = some (.frz o u)
  tbls : ∀ b ps, H b = some (.tbl ps) → ∃ more, H' b = some (.tbl (ps ++ more))
section
variable {fs fs' ex ex' : List Addr} {H H1 H2 : Hp} {h h1 h2 h' : Heap} {a x e : Addr} {o : HO}
theorem Un.any (u : Un fs ex H H1 h h1) {b : Addr} {ob : Obj} (q : h.get? b = some ob) (n : H b = none) (hx : b ∉ ex) : ∃ sl, h1.get? b = some { ob with slots := sl } := by
  by_cases hb : b ∈ fs
  · exact u.slot b ob q n hb hx
  · exact ⟨ob.slots, u.keep b ob q n hb hx⟩
theorem Un.kept (k : ∀ b u, h.get? b = some u → h'.get? b = some u) : Un fs ex H H h h' :=
  ⟨fun b ob q _ _ _ => k b ob q, fun b ob q _ _ _ => ⟨ob.slots, k b ob q⟩, fun _ _ _ n _ => n, fun b ob q _ => ⟨ob, k b ob q⟩, fun _ _ q => q, fun _ _ _ q => q, fun _ ps q => ⟨#[], by rw [q]; simp⟩⟩
theorem Un.refl : Un fs ex H H h h := Un.kept fun _ _ q => q
theorem Un.laid (k : ∀ b u, h.get? b = some u → h'.get? b = some u) (hp : h.objs.size ≤ a) (hn : H a = none) : Un fs ex H (upd H a o) h h' where
  keep := fun b u q _ _ _ => k b u q
  slot := fun b u q _ _ _ => ⟨u.slots, k b u q⟩
  free := fun b u q n _ => by rw [upd_ne (Nat.ne_of_lt (Nat.lt_of_lt_of_le (Heap.lt_size q) hp))]; exact n
  there := fun b u q _ => ⟨u, k b u q⟩
  tups := fun b xs q => by rw [upd_ne (ne_of_none q hn)]; exact q
  frzs := fun b u xs q => by rw [upd_ne (ne_of_none q hn)]; exact q
  tbls := fun b ps q => ⟨#[], by rw [upd_ne (ne_of_none q hn), q]; simp⟩
theorem Un.write (mu : Mut (H x)) (he : e = x ∨ H e = some (.own x)) (k : ∀ b u, b ≠ e → h.get? b = some u → h'.get? b = some u) (heo : ∃ u, h'.get? e = some u) : Un fs ex H (upd H x o) h h' := by
  have hx : ∀ b, H b = none → b ≠ x := fun b n z => by subst z; rw [n] at mu; exact mu
  have hb : ∀ b, H b = none → b ≠ e := fun b n z => by
    subst z
    rcases he with r | r
    · exact hx b n r
    · rw [n] at r; cases r
  have hm : ∀ b u, H b = some u → ¬ Mut (some u) → b ≠ x := fun b u q nm z => by subst z; rw [q] at mu; exact nm mu
  refine ⟨fun b u q n _ _ => k b u (hb b n) q, fun b u q n _ _ => ⟨u.slots, k b u (hb b n) q⟩, fun b u q n _ => by rw [upd_ne (hx b n)]; exact n, fun b u q _ => ?_,
    fun b xs q => by rw [upd_ne (hm b _ q fun z => z)]; exact q, fun b u xs q => by rw [upd_ne (hm b _ q fun z => z)]; exact q, fun b ps q => ⟨#[], by rw [upd_ne (hm b _ q fun z => z), q]; simp⟩⟩
  by_cases hbe : b = e
  · subst hbe; exact heo
  · exact ⟨u, k b u hbe q⟩
end

/-! ### the heap without what is tracked -/
def trk (h : Heap) (H : Hp) : List Addr := (List.range h.objs.size).filter fun a => (H a).isSome
def hidT (h : Heap) (H : Hp) : Heap := PySem.W.hideAll h (trk h H)
theorem hidT_size (h : Heap) (H : Hp) : (hidT h H).objs.size = h.objs.size := PySem.W.hideAll_size _ _
theorem hidT_get {h : Heap} {H : Hp} {b : Addr} {o : Obj} (e : h.get? b = some o) (n : H b = none) : (hidT h H).get? b = some o :=
  PySem.W.hideAll_get _ e fun hm => by
    have q : (H b).isSome = true := (List.mem_filter.mp hm).2
    rw [n] at q; simp at q
theorem of_hidT {h : Heap} {H : Hp} {b : Addr} {o : Obj} (e : (hidT h H).get? b = some o) : h.get? b = some o ∧ H b = none := by
  have e' : h.get? b = some o := PySem.W.of_hideAll (trk h H) e
  refine ⟨e', ?_⟩
  cases q : H b with
  | none => rfl
  | some x =>
    have hm : b ∈ trk h H := List.mem_filter.mpr ⟨List.mem_range.mpr (Heap.lt_size e'), by simp [q]⟩
    have z : (hidT h H).get? b = none := PySem.W.hideAll_none (trk h H) hm
    rw [z] at e; cases e

end L2

namespace L2
open PySem PySem.Spec PyProof.Rows

/-- the module's facts, over the base: the heap at the law's entry without what is tracked there -/
structure Mod (K : PySem.W.Frag) (mg : Str → Option Value) (base : Heap) : Prop where
  kin : K.In base
  glob : base.Ns mainGlobals mg
  blt : ∃ mb, base.Ns builtinsNs mb ∧ ∀ x : Str, x ≠ "__name__" → mb x = bootBuiltins x
  nolimit : base.NoLimit

/-- the context: a def's body (or a comprehension's block) running. base: fixed through the whole law; s₀, H₀: the entry; outer: the frames whose slots others may change (a def's callers); stack: all frames that run;
   ex: iterators that were made ahead of the entry and are walked here (a comprehension's); fn: the names whose cells were made at the entry (a def: all; a comprehension's block: its own); calm: not within an except suite; pn: pins that every state bears; xe: what is wanted of an exception that leaves the code -/
structure Cx where
  prog : Program
  w : World
  K : PySem.W.Frag
  mg : Str → Option Value
  base : Heap
  A : Around
  N : List Str
  s_0 : Shared
  H_0 : Hp
  env : Env
  outer : List Env
  stack : List Env
  ex : List Addr
  fn : Str → Bool
  calm : Bool
  pn : List (Addr × Obj)
  xe : Value → Shared → Prop
/-- the callers' frames -/
def frs (l : List Env) : List Addr := l.filterMap (·.frame)
abbrev Cx.fs (X : Cx) : List Addr := frs X.outer

def Vis (sc : Scope) (x : Str) : Prop := sc.names.lookup x = some .local ∨ sc.names.lookup x = some .cell ∨ sc.names.lookup x = some .free
def Loc (sc : Scope) (x : Str) : Prop := sc.names.lookup x = some .local ∨ sc.names.lookup x = some .cell
def Look (env : Env) (h : Heap) (m : Str → Option Value) (x : Str) (u : Value) : Prop :=
  (env.kindOf x = some .local ∧ m x = some u) ∨ ((env.kindOf x = some .cell ∨ env.kindOf x = some .free) ∧ ∃ c, env.cells.lookup x = some c ∧ h.IsCell c (some u))

structure Cx.Ok (X : Cx) : Prop where
  mod : Mod X.K X.mg X.base
  kind : X.env.scope.kind = .function
  glob : X.env.globals = mainGlobals
  blt : X.env.builtins = builtinsNs
  above : X.s_0.heap.objs.size ≤ X.env.locals
  inj : ∀ x y c, X.env.cells.lookup x = some c → X.env.cells.lookup y = some c → x = y
  has : ∀ x, (X.env.kindOf x = some .cell ∨ X.env.kindOf x = some .free) → ∃ c, X.env.cells.lookup x = some c
  cab : ∀ x c, X.fn x = true → X.env.cells.lookup x = some c → X.s_0.heap.objs.size ≤ c
  hd : X.calm = true → X.A.handled = none
  frames : X.A.frames = some X.stack
  stk : X.stack = X.outer ∨ (X.stack = X.env :: X.outer ∧ X.env.frame = some X.env.locals)
  exf : ∀ b ∈ X.ex, b ≠ X.env.locals ∧ ∀ x c, X.env.cells.lookup x = some c → c ≠ b
  bs : ∀ b o, X.base.get? b = some o → X.s_0.heap.get? b = some o ∧ X.H_0 b = none
  bsz : X.base.objs.size ≤ X.s_0.heap.objs.size
  noex : ∀ b o, X.base.get? b = some o → b ∉ X.ex
  exfs : ∀ b ∈ X.ex, b ∉ X.fs
  funs : X.s_0.heap.FunFrames X.base X.outer
  frf : ∀ b ∈ X.fs, X.H_0 b = none

structure Inv (X : Cx) (pins : List (Addr × Obj)) (σ : List (Option V)) (H : Hp) (s : Shared) : Prop where
  ok : X.Ok
  os : s.os = X.s_0.os
  bare : AllBare s.gens
  base : Un X.fs X.ex X.H_0 H X.s_0.heap s.heap
  loc : ∃ m, s.heap.Ns X.env.locals m ∧ ∀ (i : Nat) (x : Str) (v : V), X.N[i]? = some x → σ[i]? = some (some v) → Vis X.env.scope x → ∃ u, RelV v u ∧ Look X.env s.heap m x u
  cell : ∀ x c, X.env.cells.lookup x = some c → ∃ v, s.heap.IsCell c v
  free : H X.env.locals = none
  freeC : ∀ x c, X.env.cells.lookup x = some c → H c = none
  pin : ∀ p ∈ X.pn ++ pins, s.heap.get? p.1 = some p.2 ∧ H p.1 = none ∧ p.1 ≠ X.env.locals ∧ p.1 ∉ X.fs ∧ ∀ v, p.2.data ≠ .cell v
  hok : HOk X.prog X.w H s.heap
  len : σ.length = X.N.length

section
variable {X : Cx} {pins : List (Addr × Obj)} {σ : List (Option V)} {H H' : Hp} {s : Shared} {h' : Heap}

theorem Cx.Ok.nofr (ok : X.Ok) {b : Addr} {o : Obj} (e : X.base.get? b = some o) : b ∉ X.fs := fun hb => by
  have := (ok.funs.mem hb).1
  rw [e] at this; cases this
theorem Inv.bs (I : Inv X pins σ H s) : ∀ b o, X.base.get? b = some o → s.heap.get? b = some o ∧ H b = none := fun b o e =>
  ⟨I.base.keep b o (I.ok.bs b o e).1 (I.ok.bs b o e).2 (I.ok.nofr e) (I.ok.noex b o e), I.base.free b o (I.ok.bs b o e).1 (I.ok.bs b o e).2 (I.ok.noex b o e)⟩
theorem Inv.bk (I : Inv X pins σ H s) : ∀ b o, X.base.get? b = some o → s.heap.get? b = some o := fun b o e => (I.bs b o e).1
theorem Inv.mod (I : Inv X pins σ H s) : Mod X.K X.mg X.base := I.ok.mod
theorem Inv.kIn (I : Inv X pins σ H s) : X.K.In s.heap := I.ok.mod.kin.keeps I.bk
theorem Inv.lt (I : Inv X pins σ H s) : X.env.locals < s.heap.objs.size := let ⟨_, hn, _⟩ := I.loc; hn.lt
theorem Inv.sz (I : Inv X pins σ H s) : X.s_0.heap.objs.size ≤ s.heap.objs.size := Nat.le_trans I.ok.above (Nat.le_of_lt I.lt)
theorem Inv.nofs (I : Inv X pins σ H s) {a : Addr} (h : s.heap.objs.size ≤ a) : a ∉ X.fs := fun hb => by
  obtain ⟨_, o, ho, _⟩ := I.ok.funs.mem hb
  exact absurd (Nat.lt_of_lt_of_le (Heap.lt_size ho) (Nat.le_trans I.sz h)) (Nat.lt_irrefl _)
theorem Inv.cne (I : Inv X pins σ H s) : ∀ x c, X.env.cells.lookup x = some c → c ≠ X.env.locals := fun x c e z => by
  obtain ⟨v, o, ho, hd⟩ := I.cell x c e
  obtain ⟨m, ⟨o', es, ep, ho', hd', _⟩, _⟩ := I.loc
  rw [z, ho'] at ho; cases ho; rw [hd'] at hd; cases hd
theorem Inv.funs (I : Inv X pins σ H s) : s.heap.FunFrames X.base X.outer := by
  have all : ∀ (l : List Env), (∀ b ∈ frs l, b ∈ X.fs) → X.s_0.heap.FunFrames X.base l → s.heap.FunFrames X.base l := by
    intro l
    induction l with
    | nil => intro _ _; trivial
    | cons env r ih =>
      intro hs hl
      obtain ⟨hk, ⟨L, o, hf, hn, ho, hd⟩, hr⟩ := hl
      have hL : L ∈ X.fs := hs L (by unfold frs; rw [List.filterMap_cons, hf]; exact List.mem_cons_self)
      obtain ⟨sl, e⟩ := I.base.slot L o ho (I.ok.frf L hL) hL fun z => I.ok.exfs L z hL
      exact ⟨hk, ⟨L, _, hf, hn, e, hd⟩, ih (fun b hb => hs b (by unfold frs; rw [List.filterMap_cons, hf]; exact List.mem_cons_of_mem _ hb)) hr⟩
  exact all X.outer (fun _ hb => hb) I.ok.funs

/-- the frames that run, for a call -/
theorem Inv.stack (I : Inv X pins σ H s) : s.heap.FunFrames X.base X.stack := by
  rcases I.ok.stk with e | ⟨e, hf⟩
  · rw [e]; exact I.funs
  · rw [e]
    obtain ⟨m, hn, _⟩ := I.loc
    refine .cons (by rw [I.ok.kind]; decide) hf hn ?_ I.funs
    exact Heap.get?_none_of_le (Nat.le_trans I.ok.bsz I.ok.above)
theorem Inv.stkSub (I : Inv X pins σ H s) : ∀ b ∈ frs X.stack, b ∈ X.env.locals :: X.fs := fun b hb => by
  rcases I.ok.stk with e | ⟨e, hf⟩
  · rw [e] at hb; exact List.mem_cons_of_mem _ hb
  · rw [e] at hb
    unfold frs at hb
    rw [List.filterMap_cons, hf] at hb
    exact hb
theorem Inv.stkFree (I : Inv X pins σ H s) : ∀ b ∈ frs X.stack, H b = none := fun b hb => by
  rcases List.mem_cons.mp (I.stkSub b hb) with e | hb
  · rw [e]; exact I.free
  · obtain ⟨_, o, ho, _⟩ := I.ok.funs.mem hb
    exact I.base.free b o ho (I.ok.frf b hb) fun z => I.ok.exfs b z hb

/-- THE STEP: the untracked objects but the frame and the records at ch are kept (the callers' frames up to slots), the frame's map is kept, the new abstract heap is held -/
theorem Inv.step {g' : Array GenState} {t' : Nat} {d' : Drawn} {ch : List Addr} (I : Inv X pins σ H s)
    (hch : ∀ b ∈ ch, (b ∈ X.ex ∨ X.s_0.heap.objs.size ≤ b) ∧ b ≠ X.env.locals ∧ (∀ x c, X.env.cells.lookup x = some c → c ≠ b) ∧ ∀ p ∈ X.pn ++ pins, p.1 ≠ b)
    (keep : ∀ b o, b ≠ X.env.locals → b ∉ X.fs → b ∉ ch → s.heap.get? b = some o → H b = none → h'.get? b = some o)
    (slot : ∀ b o, b ≠ X.env.locals → b ∈ X.fs → b ∉ ch → s.heap.get? b = some o → H b = none → ∃ sl, h'.get? b = some { o with slots := sl }) (free : ∀ b o, b ∉ ch → s.heap.get? b = some o → H b = none → H' b = none)
    (there : ∀ b o, b ∉ ch → s.heap.get? b = some o → ∃ o', h'.get? b = some o')
    (tups : ∀ b xs, H b = some (.tup xs) → H' b = some (.tup xs)) (frzs : ∀ b o u, H b = some (.frz o u) → H' b = some (.frz o u)) (tbls : ∀ b ps, H b = some (.tbl ps) → ∃ more, H' b = some (.tbl (ps ++ more)))
    (ns : ∀ m, s.heap.Ns X.env.locals m → h'.Ns X.env.locals m) (hok : HOk X.prog X.w H' h') (hg : AllBare g') :
    Inv X pins σ H' { s with heap := h', gens := g', drawn := d', toks := t' } := by
  have neL : ∀ b o, X.s_0.heap.get? b = some o → b ≠ X.env.locals := fun b o e => Nat.ne_of_lt (Nat.lt_of_lt_of_le (Heap.lt_size e) I.ok.above)
  have neC : ∀ b o, X.s_0.heap.get? b = some o → b ∉ X.ex → b ∉ ch := fun b o e hx hb => by
    rcases (hch b hb).1 with z | z
    · exact hx z
    · exact absurd (Nat.lt_of_lt_of_le (Heap.lt_size e) z) (Nat.lt_irrefl _)
  have cellK : ∀ x c, X.env.cells.lookup x = some c → ∀ v, s.heap.IsCell c v → h'.IsCell c v := fun x c e v ⟨o, ho, hd⟩ => by
    have nch : c ∉ ch := fun z => (hch c z).2.2.1 x c e rfl
    by_cases hc : c ∈ X.fs
    · obtain ⟨sl, q⟩ := slot c o (I.cne x c e) hc nch ho (I.freeC x c e)
      exact ⟨_, q, hd⟩
    · exact ⟨o, keep c o (I.cne x c e) hc nch ho (I.freeC x c e), hd⟩
  refine ⟨I.ok, I.os, hg, ⟨fun b o e n hb hx => ?_, fun b o e n hb hx => ?_, fun b o e n hx => ?_, fun b o e hx => ?_, fun b xs e => tups b xs (I.base.tups b xs e), fun b o xs e => frzs b o xs (I.base.frzs b o xs e), fun b ps e => ?_⟩, ?_, fun x c e => ?_, ?_, fun x c e => ?_, fun p hp => ?_, hok, I.len⟩
  · exact keep b o (neL b o e) hb (neC b o e hx) (I.base.keep b o e n hb hx) (I.base.free b o e n hx)
  · obtain ⟨sl, e1⟩ := I.base.slot b o e n hb hx
    obtain ⟨sl', e2⟩ := slot b _ (neL b o e) hb (neC b o e hx) e1 (I.base.free b o e n hx)
    exact ⟨sl', e2⟩
  · obtain ⟨o', e1⟩ := I.base.there b o e hx
    exact free b o' (neC b o e hx) e1 (I.base.free b o e n hx)
  · obtain ⟨o', e1⟩ := I.base.there b o e hx
    exact there b o' (neC b o e hx) e1
  · obtain ⟨m1, e1⟩ := I.base.tbls b ps e
    obtain ⟨m2, e2⟩ := tbls b _ e1
    exact ⟨m1 ++ m2, by rw [e2, Array.append_assoc]⟩
  · obtain ⟨m, hn, hl⟩ := I.loc
    refine ⟨m, ns m hn, fun i x v e1 e2 e3 => ?_⟩
    obtain ⟨u, r, l⟩ := hl i x v e1 e2 e3
    refine ⟨u, r, ?_⟩
    rcases l with l | ⟨k, c, e, z⟩
    · exact .inl l
    · exact .inr ⟨k, c, e, cellK x c e _ z⟩
  · obtain ⟨v, z⟩ := I.cell x c e
    exact ⟨v, cellK x c e v z⟩
  · obtain ⟨m, ⟨o, _, _, ho, _⟩, _⟩ := I.loc
    exact free _ o (fun z => (hch _ z).2.1 rfl) ho I.free
  · obtain ⟨v, o, ho, hd⟩ := I.cell x c e
    exact free c o (fun z => (hch c z).2.2.1 x c e rfl) ho (I.freeC x c e)
  · obtain ⟨e, n, ne, nf, d⟩ := I.pin p hp
    have nch : p.1 ∉ ch := fun z => (hch p.1 z).2.2.2 p hp rfl
    exact ⟨keep p.1 p.2 ne nf nch e n, free p.1 p.2 nch e n, ne, nf, d⟩
/-- .. where the frame's own object is kept too -/
theorem Inv.un {t' : Nat} (I : Inv X pins σ H s) (u : Un X.fs [] H H' s.heap h') (hok : HOk X.prog X.w H' h') : Inv X pins σ H' { s with heap := h', toks := t' } := by
  obtain ⟨m, ⟨o, es, ep, ho, r⟩, _⟩ := id I.loc
  obtain ⟨sl, hL⟩ := u.any ho I.free (by simp)
  exact I.step (g' := s.gens) (d' := s.drawn) (ch := []) (fun _ z => nomatch z) (fun b o _ hb _ e n => u.keep b o e n hb (by simp)) (fun b o _ hb _ e n => u.slot b o e n hb (by simp)) (fun b o _ e n => u.free b o e n (by simp)) (fun b o _ e => u.there b o e (by simp)) u.tups u.frzs u.tbls (fun m' hm => by
    obtain ⟨o', es', ep', ho', r'⟩ := hm
    rw [ho] at ho'; cases ho'
    exact ⟨_, es', ep', hL, r'⟩) hok I.bare
/-- behind a call (or a comprehension's block): the slots of this frame may have changed too, the records at ch may have turned -/
theorem Inv.call {g' : Array GenState} {t' : Nat} {d' : Drawn} {ch : List Addr} (I : Inv X pins σ H s) (u : Un (frs X.stack) ch H H' s.heap h') (hok : HOk X.prog X.w H' h') (hg : AllBare g')
    (hch : ∀ b ∈ ch, (b ∈ X.ex ∨ X.s_0.heap.objs.size ≤ b) ∧ b ≠ X.env.locals ∧ (∀ x c, X.env.cells.lookup x = some c → c ≠ b) ∧ ∀ p ∈ X.pn ++ pins, p.1 ≠ b) :
    Inv X pins σ H' { s with heap := h', gens := g', drawn := d', toks := t' } := by
  obtain ⟨m, ⟨o, es, ep, ho, r⟩, _⟩ := id I.loc
  obtain ⟨sl, hL⟩ := u.any ho I.free fun z => (hch _ z).2.1 rfl
  exact I.step (ch := ch) hch (fun b o hL hb hc e n => u.keep b o e n (fun z => (List.mem_cons.mp (I.stkSub b z)).elim hL hb) hc) (fun b o _ _ hc e n => u.any e n hc) (fun b o hc e n => u.free b o e n hc) (fun b o hc e => u.there b o e hc) u.tups u.frzs u.tbls (fun m' hm => by
    obtain ⟨o', es', ep', ho', r'⟩ := hm
    rw [ho] at ho'; cases ho'
    exact ⟨_, es', ep', hL, r'⟩) hok hg
/-- an untracked record of ours (an iterator) has turned -/
theorem Inv.turned {t' : Nat} {it : Addr} (I : Inv X pins σ H s) (k : ∀ b o, b ≠ it → s.heap.get? b = some o → h'.get? b = some o) (hn : H it = none) (hL : it ≠ X.env.locals)
    (h1 : it ∈ X.ex ∨ X.s_0.heap.objs.size ≤ it) (h2 : ∀ x c, X.env.cells.lookup x = some c → c ≠ it) (h3 : ∀ p ∈ X.pn ++ pins, p.1 ≠ it) : Inv X pins σ H { s with heap := h', toks := t' } := by
  have nit : ∀ b u, H b = some u → b ≠ it := fun b u e z => by rw [z, hn] at e; cases e
  refine I.step (g' := s.gens) (d' := s.drawn) (ch := [it]) (fun b hb => ?_) (fun b o _ _ hc e _ => k b o (fun z => hc (by simp [z])) e) (fun b o _ _ hc e _ => ⟨o.slots, k b o (fun z => hc (by simp [z])) e⟩) (fun _ _ _ _ n => n)
    (fun b o hc e => ⟨o, k b o (fun z => hc (by simp [z])) e⟩) (fun _ _ e => e) (fun _ _ _ e => e) (fun b ps e => ⟨#[], by rw [e]; simp⟩) (fun m hm => ?_) (fun b u e => ?_) I.bare
  · have e : b = it := by simpa using hb
    subst e
    exact ⟨h1, hL, h2, h3⟩
  · obtain ⟨o, es, ep, ho, r⟩ := hm
    exact ⟨o, es, ep, k _ o (Ne.symm hL) ho, r⟩
  · refine (I.hok b u e).stay (fun c v hc q => k c v ?_ q) (fun _ q => q) fun _ _ q => q
    rcases hc with z | z
    · rw [z]; exact nit b u e
    · exact nit c _ z
theorem Inv.tok (I : Inv X pins σ H s) (t : Nat) : Inv X pins σ H { s with toks := t } := I.un (h' := s.heap) (t' := t) Un.refl I.hok
/-- all objects kept -/
theorem Inv.kept {t' : Nat} (I : Inv X pins σ H s) (k : ∀ b u, s.heap.get? b = some u → h'.get? b = some u) : Inv X pins σ H { s with heap := h', toks := t' } := I.un (Un.kept k) (I.hok.kept k)
/-- a new object laid and tracked -/
theorem Inv.laid {a : Addr} {o : HO} {t' : Nat} (I : Inv X pins σ H s) (k : ∀ b u, s.heap.get? b = some u → h'.get? b = some u) (hp : s.heap.objs.size ≤ a) (new : ObjOk X.prog X.w (upd H a o) h' a o) :
    Inv X pins σ (upd H a o) { s with heap := h', toks := t' } := I.un (Un.laid k hp (I.hok.fresh hp)) (I.hok.laid k hp new)
/-- an object written -/
theorem Inv.write {x e : Addr} {o : HO} {t' : Nat} (I : Inv X pins σ H s) (mu : Mut (H x)) (he : e = x ∨ H e = some (.own x)) (k : ∀ b u, b ≠ e → s.heap.get? b = some u → h'.get? b = some u) (heo : ∃ u, h'.get? e = some u)
    (new : ObjOk X.prog X.w (upd H x o) h' x o) : Inv X pins σ (upd H x o) { s with heap := h', toks := t' } := I.un (Un.write mu he k heo) (I.hok.write mu he k heo new)
theorem Inv.pins_of {pins' : List (Addr × Obj)} (I : Inv X pins σ H s) (h : ∀ p ∈ pins', s.heap.get? p.1 = some p.2 ∧ H p.1 = none ∧ p.1 ≠ X.env.locals ∧ p.1 ∉ X.fs ∧ ∀ v, p.2.data ≠ .cell v) : Inv X pins' σ H s :=
  ⟨I.ok, I.os, I.bare, I.base, I.loc, I.cell, I.free, I.freeC, fun p hp => (List.mem_append.mp hp).elim (fun z => I.pin p (List.mem_append_left _ z)) (h p), I.hok, I.len⟩

theorem nodup_ix {N : List Str} (hN : N.Nodup) {i j : Nat} {x : Str} (a : N[i]? = some x) (b : N[j]? = some x) : i = j := by
  obtain ⟨h1, e1⟩ := List.getElem?_eq_some_iff.mp a
  obtain ⟨h2, e2⟩ := List.getElem?_eq_some_iff.mp b
  exact (List.getElem_inj hN).mp (e1.trans e2.symm)

/-- a name is stored; what changed -/
theorem store_ok2 {M : Model} {A : Around} {E : Value → Shared → Prop} {i : Nat} {x : Str} {v : V} {u : Value} {Q : Unit → Shared → Prop} (I : Inv X pins σ H s) (hN : X.N.Nodup) (hi : X.N[i]? = some x) (hx : Loc X.env.scope x) (r : RelV v u)
    (h : ∀ s', Inv X pins (σ.set i (some v)) H s' → (∃ a, Heap.SameBut a s.heap s'.heap ∧ (a = X.env.locals ∨ X.env.cells.lookup x = some a)) → Q () s') (hf : X.fn x = true ∨ X.env.scope.names.lookup x = some .local := by first | exact .inl rfl | exact .inr rfl | assumption) : wpAny M A (storeName X.env x u) Q E s := by
  obtain ⟨m, hn, hl⟩ := id I.loc
  have hcls : (X.env.scope.kind == .class || (X.env.scope.kind == .module && X.env.locals != X.env.globals)) = false := by rw [I.ok.kind]; rfl
  have hiσ : i < σ.length := by rw [I.len]; exact (List.getElem?_eq_some_iff.mp hi).1
  have cne := I.cne
  have tracked : ∀ {a : Addr} {h' : Heap}, (∃ o, s.heap.get? a = some o ∧ H a = none) → Heap.SameBut a s.heap h' → HOk X.prog X.w H h' := fun {a h'} ha hs b ob e => by
    obtain ⟨_, _, hfree⟩ := ha
    refine (I.hok b ob e).stay (fun c w' hc q => (hs.2 c ?_).trans q) (fun _ q => q) fun _ _ q => q
    rintro rfl
    rcases hc with rfl | hc
    · rw [hfree] at e; cases e
    · rw [hfree] at hc; cases hc
  rcases hx with hk | hk
  · refine wpAny_storeName_local hk hn (fun h' hn' hs => ?_) hcls
    obtain ⟨oL, _, _, hoL, _⟩ := id hn
    refine h _ ⟨I.ok, I.os, I.bare, ⟨fun b o e n hb hx => ?_, fun b o e n hb hx => ?_, I.base.free, fun b o e hx => ?_, I.base.tups, I.base.frzs, I.base.tbls⟩, ⟨_, hn', fun j y v' e1 e2 e3 => ?_⟩, fun y c e => ?_, I.free, I.freeC, fun p hp => ?_, tracked ⟨oL, hoL, I.free⟩ hs, by simpa using I.len⟩ ⟨_, hs, .inl rfl⟩
    · exact (hs.2 b (Nat.ne_of_lt (Nat.lt_of_lt_of_le (Heap.lt_size e) I.ok.above))).trans (I.base.keep b o e n hb hx)
    · obtain ⟨sl, e1⟩ := I.base.slot b o e n hb hx
      exact ⟨sl, (hs.2 b (Nat.ne_of_lt (Nat.lt_of_lt_of_le (Heap.lt_size e) I.ok.above))).trans e1⟩
    · obtain ⟨o', e1⟩ := I.base.there b o e hx
      exact ⟨o', (hs.2 b (Nat.ne_of_lt (Nat.lt_of_lt_of_le (Heap.lt_size e) I.ok.above))).trans e1⟩
    · by_cases hj : j = i
      · subst hj
        rw [hi] at e1; cases e1
        rw [List.getElem?_set_self hiσ] at e2
        cases e2
        exact ⟨u, r, .inl ⟨hk, by simp⟩⟩
      · rw [List.getElem?_set_ne (Ne.symm hj)] at e2
        obtain ⟨u', r', q⟩ := hl j y v' e1 e2 e3
        refine ⟨u', r', ?_⟩
        rcases q with ⟨k, e⟩ | ⟨k, c, e, z⟩
        · refine .inl ⟨k, ?_⟩
          have : y ≠ x := fun e => hj (nodup_ix hN e1 (e ▸ hi))
          simp [this, e]
        · exact .inr ⟨k, c, e, z.sameBut hs (cne y c e)⟩
    · obtain ⟨w', z⟩ := I.cell y c e
      exact ⟨w', z.sameBut hs (cne y c e)⟩
    · obtain ⟨e, n, ne, nf, d⟩ := I.pin p hp
      exact ⟨(hs.2 p.1 ne).trans e, n, ne, nf, d⟩
  · have hfn : X.fn x = true := by
      rcases hf with z | z
      · exact z
      · rw [z] at hk; cases hk
    obtain ⟨c, hc⟩ := I.ok.has x (.inl hk)
    obtain ⟨w', z⟩ := I.cell x c hc
    refine wpAny_storeName_cell I.ok.kind hk hc z (fun h' hc' hs => ?_)
    obtain ⟨oc, hoc, hocd⟩ := id z
    refine h { s with heap := h' } ⟨I.ok, I.os, I.bare, ⟨fun b o e n hb hx => ?_, fun b o e n hb hx => ?_, I.base.free, fun b o e hx => ?_, I.base.tups, I.base.frzs, I.base.tbls⟩, ⟨m, hn.sameBut hs (Ne.symm (cne x c hc)), fun j y v' e1 e2 e3 => ?_⟩, fun y c' e => ?_, I.free, I.freeC, fun p hp => ?_, tracked ⟨oc, hoc, I.freeC x c hc⟩ hs, by simpa using I.len⟩ ⟨c, hs, .inr hc⟩
    · exact (hs.2 b (Nat.ne_of_lt (Nat.lt_of_lt_of_le (Heap.lt_size e) (I.ok.cab x c hfn hc)))).trans (I.base.keep b o e n hb hx)
    · obtain ⟨sl, e1⟩ := I.base.slot b o e n hb hx
      exact ⟨sl, (hs.2 b (Nat.ne_of_lt (Nat.lt_of_lt_of_le (Heap.lt_size e) (I.ok.cab x c hfn hc)))).trans e1⟩
    · obtain ⟨o', e1⟩ := I.base.there b o e hx
      exact ⟨o', (hs.2 b (Nat.ne_of_lt (Nat.lt_of_lt_of_le (Heap.lt_size e) (I.ok.cab x c hfn hc)))).trans e1⟩
    · by_cases hj : j = i
      · subst hj
        rw [hi] at e1; cases e1
        rw [List.getElem?_set_self hiσ] at e2
        cases e2
        exact ⟨u, r, .inr ⟨.inl hk, c, hc, hc'⟩⟩
      · rw [List.getElem?_set_ne (Ne.symm hj)] at e2
        obtain ⟨u', r', q⟩ := hl j y v' e1 e2 e3
        refine ⟨u', r', ?_⟩
        rcases q with q | ⟨k, c', e, z'⟩
        · exact .inl q
        · refine .inr ⟨k, c', e, z'.sameBut hs ?_⟩
          rintro rfl
          exact hj (nodup_ix hN e1 (I.ok.inj _ _ _ e hc ▸ hi))
    · by_cases hcc : c' = c
      · subst hcc; exact ⟨_, hc'⟩
      · obtain ⟨w2, z2⟩ := I.cell y c' e
        exact ⟨w2, z2.sameBut hs hcc⟩
    · obtain ⟨e, n, ne, nf, d⟩ := I.pin p hp
      refine ⟨(hs.2 p.1 ?_).trans e, n, ne, nf, d⟩
      intro q
      rw [q, hoc] at e
      have q' : oc = p.2 := Option.some.inj e
      exact d w' (by rw [← q']; exact hocd)
theorem store_ok {M : Model} {A : Around} {E : Value → Shared → Prop} {i : Nat} {x : Str} {v : V} {u : Value} {Q : Unit → Shared → Prop} (I : Inv X pins σ H s) (hN : X.N.Nodup) (hi : X.N[i]? = some x) (hx : Loc X.env.scope x) (r : RelV v u)
    (h : ∀ s', Inv X pins (σ.set i (some v)) H s' → Q () s') (hf : X.fn x = true ∨ X.env.scope.names.lookup x = some .local := by first | exact .inl rfl | exact .inr rfl | assumption) : wpAny M A (storeName X.env x u) Q E s :=
  store_ok2 I hN hi hx r (fun s' I' _ => h s' I') hf
end

/-! ### the judgements -/
/-- an exception: its class, its own dict's address (where it has one), the abstract heap behind it -/
abbrev XK := Value → Option Addr → Hp → Prop
abbrev St := List (Option V)
abbrev VK := V → Hp → Prop
/-- an expression's reading; a test's; an argument list's -/
abbrev TE := St → Hp → VK → Prop
abbrev TT := St → Hp → (Bool → Hp → Prop) → Prop
abbrev TA := St → Hp → (List V → Hp → Prop) → Prop
/-- what is wanted behind a statement -/
structure Ends where
  nx : St → Hp → Prop
  rt : VK
  bk : St → Hp → Prop := fun _ _ => False
  ct : St → Hp → Prop := fun _ _ => False
abbrev TS := Ends → St → Hp → Prop

def EP (X : Cx) (pins : List (Addr × Obj)) (σ : St) (Q : VK) (u : Value) (s' : Shared) : Prop := ∃ v H', Inv X pins σ H' s' ∧ RelV v u ∧ Q v H'
def TP (X : Cx) (pins : List (Addr × Obj)) (σ : St) (Q : Bool → Hp → Prop) (b : Bool) (s' : Shared) : Prop := ∃ H', Inv X pins σ H' s' ∧ Q b H'
def AP (X : Cx) (pins : List (Addr × Obj)) (σ : St) (Q : List V → Hp → Prop) (us : List Value) (s' : Shared) : Prop := ∃ vs H', Inv X pins σ H' s' ∧ Vals vs us ∧ Q vs H'
def SP (X : Cx) (pins : List (Addr × Obj)) (D : Ends) (f : Flow) (s' : Shared) : Prop :=
  match f with
  | .next => ∃ σ' H', Inv X pins σ' H' s' ∧ D.nx σ' H'
  | .brk => ∃ σ' H', Inv X pins σ' H' s' ∧ D.bk σ' H'
  | .cont => ∃ σ' H', Inv X pins σ' H' s' ∧ D.ct σ' H'
  | .ret u => ∃ v σ' H', Inv X pins σ' H' s' ∧ RelV v u ∧ D.rt v H'

def PE (X : Cx) (e : Expr) (t : TE) : Prop :=
  ∀ (pins : List (Addr × Obj)) (s : Shared) (σ : St) (H : Hp) (Q : VK), Inv X pins σ H s → t σ H Q → wpAny (model X.prog X.w) X.A (eval e X.env) (EP X pins σ Q) X.xe s
def PT (X : Cx) (e : Expr) (t : TT) : Prop :=
  ∀ (pins : List (Addr × Obj)) (s : Shared) (σ : St) (H : Hp) (Q : Bool → Hp → Prop), Inv X pins σ H s → t σ H Q → wpAny (model X.prog X.w) X.A (isTrue e X.env (eval e X.env)) (TP X pins σ Q) X.xe s
/-- an argument list (no star), from the left -/
def PA (X : Cx) (es : List Expr) (t : TA) : Prop :=
  ∀ (pos : Pos) (pins : List (Addr × Obj)) (s : Shared) (σ : St) (H : Hp) (Q : List V → Hp → Prop), Inv X pins σ H s → t σ H Q → wpAny (model X.prog X.w) X.A (spliced (backTo pos (starEach es X.env))) (AP X pins σ Q) X.xe s
def PS (X : Cx) (st : Stmt) (t : TS) : Prop :=
  ∀ (pins : List (Addr × Obj)) (s : Shared) (σ : St) (H : Hp) (D : Ends), Inv X pins σ H s → t D σ H → wpAny (model X.prog X.w) X.A (exec st X.env) (SP X pins D) X.xe s
def PSs (X : Cx) (st : List Stmt) (t : TS) : Prop :=
  ∀ (pins : List (Addr × Obj)) (s : Shared) (σ : St) (H : Hp) (D : Ends), Inv X pins σ H s → t D σ H → wpAny (model X.prog X.w) X.A (execs st X.env) (SP X pins D) X.xe s
/-- weaken the end -/
theorem thn {α : Type} {t : Sem α} {Q Q' : α → Shared → Prop} {M : Model} {A : Around} {E : Value → Shared → Prop} {s : Shared} (h : wpAny M A t Q E s) (hQ : ∀ a s, Q a s → Q' a s) : wpAny M A t Q' E s := wpAny_mono h hQ fun _ _ x => x
end L2

namespace L2
open PySem PySem.Spec PyProof.Rows
section
variable {X : Cx}

/-! ### names and constants -/
def tVar (i : Nat) : TE := fun σ H Q => ∃ v, σ[i]? = some (some v) ∧ Q v H
def tC (v : V) : TE := fun _ H Q => Q v H
theorem pe_var {i : Nat} {x : Str} {pos : Pos} (hN : X.N[i]? = some x) (hv : Vis X.env.scope x) (hd : (x == ("__debug__" : Str)) = false := by decide) (hcd : (x == ("__classdict__" : Str)) = false := by decide) : PE X (.Name x pos) (tVar i) := by
  intro pins s σ H Q I h
  obtain ⟨v, e, h⟩ := h
  obtain ⟨m, hn, hl⟩ := I.loc
  obtain ⟨u, r, l⟩ := hl i x v hN e hv
  have fin : EP X pins σ Q u s := ⟨v, H, I, r, h⟩
  rcases l with ⟨hk, hm⟩ | ⟨hk, c, hc, hcell⟩
  · exact wpAny_Name (wpAny_loadName_local I.ok.kind hk hn hm fin) hd
  · rcases hk with hk | hk
    · exact wpAny_Name (wpAny_loadName_cell I.ok.kind hk hc hcell fin) hd
    · exact wpAny_Name (wpAny_loadName_free I.ok.kind hk hc hcell fin hcd) hd
theorem pe_int {i j pos} : PE X (.Constant (.int i) j pos) (tC (.int i)) := fun _ _ _ H _ I h => wpAny_Constant_int ⟨.int i, H, I.tok _, ⟨_, rfl⟩, h⟩
/-- a global name of the def -/
def Gl (X : Cx) (x : Str) : Prop := X.env.kindOf x = some .globalImplicit
theorem ld_glob {E : Value → Shared → Prop} {pins : List (Addr × Obj)} {s : Shared} {σ : St} {H : Hp} {x : Str} {u : Value} {pos : Pos} {Q : Value → Shared → Prop} (I : Inv X pins σ H s) (hg : Gl X x) (hm : X.mg x = some u) (h : Q u s)
    (hd : (x == ("__debug__" : Str)) = false := by decide) : wpAny (model X.prog X.w) X.A (eval (.Name x pos) X.env) Q E s :=
  Calls.Name_function_global I.ok.kind hg (Calls.loadGlobal_global (by rw [I.ok.glob]; exact I.mod.glob.keeps I.bk) hm h) hd
theorem ld_blt {E : Value → Shared → Prop} {pins : List (Addr × Obj)} {s : Shared} {σ : St} {H : Hp} {x : Str} {u : Value} {pos : Pos} {Q : Value → Shared → Prop} (I : Inv X pins σ H s) (hg : Gl X x) (hm : X.mg x = none) (hv : bootBuiltins x = some u) (h : Q u s)
    (hn : x ≠ "__name__" := by decide) (hd : (x == ("__debug__" : Str)) = false := by decide) : wpAny (model X.prog X.w) X.A (eval (.Name x pos) X.env) Q E s := by
  obtain ⟨mb, h1, h2⟩ := I.mod.blt
  exact Calls.Name_function_global I.ok.kind hg (Calls.loadGlobal_builtin (by rw [I.ok.glob]; exact I.mod.glob.keeps I.bk) hm (by rw [I.ok.blt]; exact h1.keeps I.bk) ((h2 x hn).trans hv) h) hd
/-- a module's constant, a class, a function, as a value -/
theorem pe_glob {x : Str} {v : V} {u : Value} {pos : Pos} (hg : Gl X x) (hm : X.mg x = some u) (r : RelV v u) (hd : (x == ("__debug__" : Str)) = false := by decide) : PE X (.Name x pos) (tC v) :=
  fun _ _ _ H _ I h => ld_glob I hg hm ⟨v, H, I, r, h⟩ hd
variable {a b : Expr} {ta tb : TE} {pos : Pos}
/-- a comparison as a value, as a test -/
def tB (t : TE) : TT := fun σ H Q => t σ H fun x H1 => ∃ c, x = .bl c ∧ Q c H1
/-- an expression whose value is a bool, as a test -/
theorem pt_val {e : Expr} {t : TE} (h : PE X e t) (he : ∀ whole, isTrue e X.env whole = (do let v ← whole; standAt e.pos; holding [v] (truthy v)) := by intro _; rfl) : PT X e (tB t) := by
  intro pins s σ H Q I hw
  refine isTrue_plain (thn (h pins s σ H _ I hw) fun v s1 ⟨x, H1, I1, r1, q1⟩ => ?_) (he _)
  obtain ⟨d, rfl, q⟩ := q1
  cases r1
  exact wpAny_truthy_bool ⟨H1, I1, q⟩

/-! ### and, or, not -/
variable {tA tB' : TT} {rest : List Expr}
def tAnd (t u : TT) : TT := fun σ H Q => t σ H fun c H1 => if c = true then u σ H1 Q else Q false H1
def tOr (t u : TT) : TT := fun σ H Q => t σ H fun c H1 => if c = true then Q true H1 else u σ H1 Q
def tNot (t : TT) : TT := fun σ H Q => t σ H fun c H1 => Q (!c) H1
theorem pt_not (ha : PT X a tA) : PT X (.UnaryOp .Not a pos) (tNot tA) := by
  intro pins s σ H Q I h
  exact isTrue_not (ha pins s σ H (fun c H1 => Q (!c) H1) I h)
/-- .. as values (bools) -/
def tAndV (ta tb : TE) : TE := fun σ H Q => ta σ H fun x H1 => ∃ c, x = .bl c ∧ if c = true then tb σ H1 Q else Q (.bl false) H1
def tOrV (ta tb : TE) : TE := fun σ H Q => ta σ H fun x H1 => ∃ c, x = .bl c ∧ if c = true then Q (.bl true) H1 else tb σ H1 Q
def tNotV (ta : TE) : TE := fun σ H Q => ta σ H fun x H1 => ∃ c, x = .bl c ∧ Q (.bl (!c)) H1
theorem pe_one {op} {t : TE} (h : PE X a t) : PE X (.BoolOp op [a] pos) t := fun pins s σ H Q I hw => BoolOp_one (h pins s σ H Q I hw)
theorem pe_or (ha : PE X a ta) (hb : PE X (.BoolOp .Or (b :: rest) pos) tb) : PE X (.BoolOp .Or (a :: b :: rest) pos) (tOrV ta tb) := by
  intro pins s σ H Q I h
  refine BoolOp_or (thn (ha pins s σ H _ I h) fun v s1 ⟨x, H1, I1, r1, q1⟩ => ?_)
  obtain ⟨c, rfl, q1⟩ := q1
  cases r1
  refine wpAny_truthy_bool ?_
  cases c with
  | false => exact hb pins s1 σ H1 Q I1 q1
  | true => exact ⟨.bl true, H1, I1, rfl, q1⟩
/-- a if t else b -/
def tIf (t : TT) (ta tb : TE) : TE := fun σ H Q => t σ H fun c H1 => if c = true then ta σ H1 Q else tb σ H1 Q
theorem pe_ifExp {c : Expr} (hc : PT X c tA) (ha : PE X a ta) (hb : PE X b tb) : PE X (.IfExp c a b pos) (tIf tA ta tb) := by
  intro pins s σ H Q I h
  refine wpAny_IfExp (thn (hc pins s σ H _ I h) fun d s1 ⟨H1, I1, q1⟩ => ?_)
  cases d with
  | true => exact ha pins s1 σ H1 Q I1 q1
  | false => exact hb pins s1 σ H1 Q I1 q1
end
end L2

namespace L2
open PySem PySem.Spec PyProof.Rows

/-! ### a list, a tuple that is read: tracked, frozen, or an object of the module -/
def SqL (K : PySem.W.Frag) (H : Hp) (a : Addr) (xs : List V) : Prop :=
  Rd H a (.lst xs) ∨
    ∃ (o : Obj) (its : Array Value) (n : Nat), K.lookup a = some o ∧ o.cls = .type "list" ∧ o.dict = none ∧ o.data = .seq its n ∧ its.size ≤ sizeLine ∧ Vals xs its.toList
def SqT (K : PySem.W.Frag) (H : Hp) (a : Addr) (xs : List V) : Prop :=
  Rd H a (.tup xs) ∨
    ∃ (o : Obj) (its : Array Value) (n : Nat), K.lookup a = some o ∧ o.cls = .type "tuple" ∧ o.data = .seq its n ∧ its.size ≤ sizeLine ∧ Vals xs its.toList
def absV : Value → Option V
  | .none => some .non
  | .bool b => some (.bl b)
  | .int i _ => some (.int i)
  | .str x _ => some (.str x)
  | .bytes b _ => some (.byt b)
  | .float b _ => some (.flt b)
  | .ref a => some (.ref a)
  | .type n => some (.ty n)
  | _ => none
theorem RelV.abs {x : V} {u : Value} (r : RelV x u) : absV u = some x := by
  cases x with
  | non => cases r; rfl
  | bl _ => cases r; rfl
  | int _ => obtain ⟨t, rfl⟩ := r; rfl
  | str _ => obtain ⟨t, rfl⟩ := r; rfl
  | byt _ => obtain ⟨t, rfl⟩ := r; rfl
  | flt _ => obtain ⟨t, rfl⟩ := r; rfl
  | ref _ => cases r; rfl
  | ty _ => cases r; rfl
theorem RelV.inj {x y : V} {u : Value} (r : RelV x u) (q : RelV y u) : x = y := Option.some.inj (r.abs.symm.trans q.abs)
theorem Vals.inj : ∀ {xs ys : List V} {us : List Value}, Vals xs us → Vals ys us → xs = ys
  | _, _, _, .nil, .nil => rfl
  | _, _, _, .cons r t, .cons r' t' => by rw [r.inj r', Vals.inj t t']
section
variable {X : Cx} {pins : List (Addr × Obj)} {σ : St} {H : Hp} {s : Shared} {a : Addr} {xs ys : List V}
theorem SqL.of {K : PySem.W.Frag} (h : H a = some (.lst xs)) : SqL K H a xs := .inl (.inl h)
theorem SqT.of {K : PySem.W.Frag} (h : H a = some (.tup xs)) : SqT K H a xs := .inl (.inl h)
theorem Inv.list (I : Inv X pins σ H s) (h : SqL X.K H a xs) : ∃ its : List Value, Vals xs its ∧ PlainL s.heap a its.toArray ∧ xs.length ≤ sizeLine := by
  rcases h with h | ⟨o, its, n, hk, hc, hd, hs, hz, r⟩
  · obtain ⟨z, its, n, r, e⟩ := h.ok I.hok
    exact ⟨its, r, ⟨_, n, e, rfl, rfl, rfl⟩, z⟩
  · refine ⟨its.toList, r, ⟨o, n, I.kIn a o hk, hc, hd, by simpa using hs⟩, ?_⟩
    have e := r.length
    simp only [Array.length_toList] at e
    omega
theorem Inv.tuple (I : Inv X pins σ H s) (h : SqT X.K H a xs) : ∃ its : List Value, Vals xs its ∧ IsTup s.heap a its.toArray ∧ xs.length ≤ sizeLine := by
  rcases h with h | ⟨o, its, n, hk, hc, hs, hz, r⟩
  · obtain ⟨z, its, r, p⟩ := h.ok I.hok
    exact ⟨its, r, p, z⟩
  · refine ⟨its.toList, r, ⟨o, I.kIn a o hk, hc, n, by simpa using hs⟩, ?_⟩
    have e := r.length
    simp only [Array.length_toList] at e
    omega
theorem Inv.list_inj (I : Inv X pins σ H s) (h : SqL X.K H a xs) (h' : SqL X.K H a ys) : xs = ys := by
  obtain ⟨its, r, ⟨o, n, e, _, _, d⟩, _⟩ := I.list h
  obtain ⟨its', r', ⟨o', n', e', _, _, d'⟩, _⟩ := I.list h'
  rw [e] at e'; cases e'
  rw [d] at d'
  injection d' with d1 _
  have : its = its' := by simpa using congrArg Array.toList d1
  subst this
  exact r.inj r'
end

/-! ### another wish about exceptions -/
abbrev Cx.wish (X : Cx) (E : Value → Shared → Prop) : Cx := { X with xe := E }
/-- no exception leaves -/
abbrev Cx.nox (X : Cx) : Cx := X.wish fun _ _ => False
theorem Cx.Ok.wish {X : Cx} (ok : X.Ok) (E : Value → Shared → Prop) : (X.wish E).Ok :=
  ⟨ok.mod, ok.kind, ok.glob, ok.blt, ok.above, ok.inj, ok.has, ok.cab, ok.hd, ok.frames, ok.stk, ok.exf, ok.bs, ok.bsz, ok.noex, ok.exfs, ok.funs, ok.frf⟩
theorem Cx.Ok.unwish {X : Cx} {E : Value → Shared → Prop} (ok : (X.wish E).Ok) : X.Ok :=
  ⟨ok.mod, ok.kind, ok.glob, ok.blt, ok.above, ok.inj, ok.has, ok.cab, ok.hd, ok.frames, ok.stk, ok.exf, ok.bs, ok.bsz, ok.noex, ok.exfs, ok.funs, ok.frf⟩
section
variable {X : Cx} {pins : List (Addr × Obj)} {σ : St} {H : Hp} {s : Shared} {E : Value → Shared → Prop}
theorem Inv.wish (I : Inv X pins σ H s) (E : Value → Shared → Prop) : Inv (X.wish E) pins σ H s := ⟨I.ok.wish E, I.os, I.bare, I.base, I.loc, I.cell, I.free, I.freeC, I.pin, I.hok, I.len⟩
theorem Inv.unwish (I : Inv (X.wish E) pins σ H s) : Inv X pins σ H s := ⟨I.ok.unwish, I.os, I.bare, I.base, I.loc, I.cell, I.free, I.freeC, I.pin, I.hok, I.len⟩
theorem SP.unwish {D : Ends} {f : Flow} {s' : Shared} (h : SP (X.wish E) pins D f s') : SP X pins D f s' := by
  cases f with
  | next => obtain ⟨σ', H', I, q⟩ := h; exact ⟨σ', H', I.unwish, q⟩
  | brk => obtain ⟨σ', H', I, q⟩ := h; exact ⟨σ', H', I.unwish, q⟩
  | cont => obtain ⟨σ', H', I, q⟩ := h; exact ⟨σ', H', I.unwish, q⟩
  | ret u => obtain ⟨v, σ', H', I, r, q⟩ := h; exact ⟨v, σ', H', I.unwish, r, q⟩
theorem PSs.nox {st : List Stmt} {t : TS} (h : PSs X.nox st t) : PSs X st t := fun pins s σ H D I hw =>
  wpAny_mono (h pins s σ H D (I.wish _) hw) (fun _ _ q => q.unwish) fun _ _ z => False.elim z
end

/-! ### blocks and small statements -/
section
variable {X : Cx} {st : Stmt} {rest : List Stmt} {t u : TS} {e : Expr} {te : TE} {pos : Pos}
def tNext : TS := fun D σ H => D.nx σ H
def tSeq (t u : TS) : TS := fun D σ H => t { D with nx := u D } σ H
theorem pss_nil : PSs X [] tNext := fun _ _ σ H _ I h => wpAny_execs_nil ⟨σ, H, I, h⟩
theorem pss_cons (h1 : PS X st t) (h2 : PSs X rest u) : PSs X (st :: rest) (tSeq t u) := by
  intro pins s σ H D I h
  refine wpAny_execs_cons (thn (h1 pins s σ H { D with nx := u D } I h) fun f s1 q => ?_)
  cases f with
  | next =>
    obtain ⟨σ', H', I', q⟩ := q
    exact h2 pins s1 σ' H' D I' q
  | ret v => exact q
  | brk => exact q
  | cont => exact q
theorem pss_one (h1 : PS X st t) : PSs X [st] t := by
  intro pins s σ H D I h
  refine wpAny_execs_cons (thn (h1 pins s σ H D I h) fun f s1 q => ?_)
  cases f with
  | next => exact wpAny_execs_nil q
  | ret v => exact q
  | brk => exact q
  | cont => exact q
def tBreak : TS := fun D σ H => D.bk σ H
def tCont : TS := fun D σ H => D.ct σ H
/-- in a def's body nothing is shown -/
theorem Inv.quiet {pins : List (Addr × Obj)} {σ : St} {H : Hp} {s : Shared} (I : Inv X pins σ H s) : interactive X.env = false := by simp [interactive, I.ok.kind]
/-- an expression whose value is dropped -/
def tDrop (te : TE) : TS := fun D σ H => te σ H fun _ H1 => D.nx σ H1
theorem ps_expr (he : PE X e te) (hs : swapsWith e none pos.line X.env = pure false := by rfl) : PS X (.Expr e pos) (tDrop te) := by
  intro pins s σ H D I h
  exact wpAny_Expr_any (thn (he pins s σ H _ I h) fun v s1 ⟨x, H1, I1, r1, q1⟩ => ⟨σ, H1, I1, q1⟩) I.quiet hs
def tRet (te : TE) : TS := fun D σ H => te σ H D.rt
theorem ps_ret (he : PE X e te) : PS X (.Return (some e) pos) (tRet te) := by
  intro pins s σ H D I h
  exact wpAny_Return_some (thn (he pins s σ H _ I h) fun v s1 ⟨x, H1, I1, r1, q1⟩ => ⟨x, σ, H1, I1, r1, q1⟩)
def tRetN : TS := fun D _ H => D.rt .non H
def tIfS (c : TT) (t u : TS) : TS := fun D σ H => c σ H fun b H1 => if b = true then t D σ H1 else u D σ H1
theorem ps_if {c : Expr} {a b : List Stmt} {tc : TT} (hc : PT X c tc) (ha : PSs X a t) (hb : PSs X b u) : PS X (.If c a b pos) (tIfS tc t u) := by
  intro pins s σ H D I h
  refine wpAny_If (thn (hc pins s σ H _ I h) fun d s1 ⟨H1, I1, q1⟩ => ?_)
  cases d with
  | true => exact ha pins s1 σ H1 D I1 q1
  | false => exact hb pins s1 σ H1 D I1 q1
end

/-! ### targets -/
abbrev TG := V → St → Hp → (St → Hp → Prop) → Prop
abbrev TGs := List V → St → Hp → (St → Hp → Prop) → Prop
def PG (X : Cx) (target : Expr) (t : TG) : Prop :=
  ∀ (pins : List (Addr × Obj)) (s : Shared) (σ : St) (H : Hp) (v : V) (u : Value) (Q : St → Hp → Prop), Inv X pins σ H s → RelV v u → t v σ H Q →
    wpAny (model X.prog X.w) X.A (assign target X.env u) (fun _ s' => ∃ σ' H', Inv X pins σ' H' s' ∧ Q σ' H') X.xe s
/-- several targets, one after another -/
def PGs (X : Cx) (ts : List Expr) (t : TGs) : Prop :=
  ∀ (pins : List (Addr × Obj)) (s : Shared) (σ : St) (H : Hp) (vs : List V) (us : List Value) (Q : St → Hp → Prop), Inv X pins σ H s → Vals vs us → t vs σ H Q →
    wpAny (model X.prog X.w) X.A (assignInOrder ((assignEach ts X.env).map (·.2)) us) (fun _ s' => ∃ σ' H', Inv X pins σ' H' s' ∧ Q σ' H') X.xe s
/-- o[i] = v, by values -/
abbrev TSet := V → V → V → Hp → (Hp → Prop) → Prop
def PSet (X : Cx) (t : TSet) : Prop :=
  ∀ (pins : List (Addr × Obj)) (s : Shared) (σ : St) (H : Hp) (o i v : V) (ov iv u : Value) (Q : Hp → Prop), Inv X pins σ H s → RelV o ov → RelV i iv → RelV v u → t o i v H Q →
    wpAny (model X.prog X.w) X.A (setItem ov iv u) (fun _ s' => ∃ H', Inv X pins σ H' s' ∧ Q H') X.xe s
section
variable {X : Cx} {pos : Pos}
def gName (i : Nat) : TG := fun v σ H Q => Q (σ.set i (some v)) H
theorem pg_name {i : Nat} {x : Str} (hN : X.N.Nodup) (hi : X.N[i]? = some x) (hx : Loc X.env.scope x) (hf : X.fn x = true ∨ X.env.scope.names.lookup x = some .local := by first | exact .inl rfl | exact .inr rfl | assumption) : PG X (.Name x pos) (gName i) := by
  intro pins s σ H v u Q I r h
  exact wpAny_assign_Name (store_ok I hN hi hx r (fun s' I' => ⟨_, H, I', h⟩) hf)
def gNil : TGs := fun vs σ H Q => vs = [] ∧ Q σ H
def gCons (t : TG) (u : TGs) : TGs := fun vs σ H Q => ∃ v r, vs = v :: r ∧ t v σ H fun σ' H' => u r σ' H' Q
theorem pgs_nil : PGs X [] gNil := by
  intro pins s σ H vs us Q I r h
  obtain ⟨e, h⟩ := h
  subst e
  cases r
  exact assignInOrder_nil ⟨σ, H, I, h⟩
theorem pgs_cons {e : Expr} {es : List Expr} {t : TG} {u : TGs} (h1 : PG X e t) (h2 : PGs X es u)
    (hs : (assignEach (e :: es) X.env).map (·.2) = assign e X.env :: (assignEach es X.env).map (·.2) := by rfl) : PGs X (e :: es) (gCons t u) := by
  intro pins s σ H vs us Q I r h
  obtain ⟨v, vr, e1, h⟩ := h
  subst e1
  cases r with
  | cons r rr =>
    rw [hs]
    refine assignInOrder_cons (thn (h1 pins s σ H _ _ _ I r h) fun _ s1 ⟨σ1, H1, I1, q1⟩ => ?_)
    exact h2 pins s1 σ1 H1 _ _ Q I1 rr q1
/-- (a, b, ..) = a tuple of that length -/
def gTup (K : PySem.W.Frag) (n : Nat) (t : TGs) : TG := fun v σ H Q => ∃ a xs, v = .ref a ∧ SqT K H a xs ∧ xs.length = n ∧ t xs σ H Q
theorem pg_tup {es : List Expr} {k : Nat} {t : TGs} {n : Nat} (hc : X.calm = true) (h : PGs X es t)
    (hn : (assignEach es X.env).length = n := by rfl) (hst : (assignEach es X.env).findIdx? (·.1) = none := by rfl) : PG X (.Tuple es k pos) (gTup X.K n t) := by
  intro pins s σ H v u Q I r hw
  obtain ⟨a, xs, e1, hq, hl, hw⟩ := hw
  subst e1
  cases r
  obtain ⟨its, rv, ht, hz⟩ := I.tuple hq
  refine assign_Tuple_tuple (I.ok.hd hc) ht (by simp [hn, ← hl, rv.length]) hst fun h' hx => ?_
  have I1 : Inv X pins σ H { s with heap := h' } := I.kept (t' := s.toks) fun b o e => hx b o (Nat.ne_of_lt (Heap.lt_size e)) e
  exact h pins _ σ H xs _ Q I1 (by simpa using rv) hw
/-- o[i] = .. -/
def gSub (to ti : TE) (t : TSet) : TG := fun v σ H Q => to σ H fun o H1 => ti σ H1 fun i H2 => t o i v H2 fun H3 => Q σ H3
theorem pg_sub {o i : Expr} {to ti : TE} {t : TSet} (ho : PE X o to) (hi : PE X i ti) (hs : PSet X t)
    (ha : ∀ v, assign (.Subscript o i pos) X.env v = (do
      let ov ← holding [v] (eval o X.env)
      let iv ← holding [v, ov] (eval i X.env)
      standAt pos
      holding [v, ov, iv] (setItem ov iv v)
      release [v, ov, iv] []) := by intro _; rfl) : PG X (.Subscript o i pos) (gSub to ti t) := by
  intro pins s σ H v u Q I r h
  rw [ha]
  refine wpAny_bind (wpAny_holding (thn (ho pins s σ H _ I h) fun ov s1 ⟨x, H1, I1, r1, q1⟩ => ?_))
  refine wpAny_bind (wpAny_holding (thn (hi pins s1 σ H1 _ I1 q1) fun iv s2 ⟨y, H2, I2, r2, q2⟩ => ?_))
  refine wpAny_bind (wpAny_standAt (wpAny_bind (wpAny_holding (thn (hs pins s2 σ H2 x y v ov iv u _ I2 r1 r2 r q2) fun _ s3 ⟨H3, I3, q3⟩ => ?_))))
  exact wpAny_release ⟨σ, H3, I3, q3⟩
/-- target = value -/
def tAsg (te : TE) (g : TG) : TS := fun D σ H => te σ H fun x H1 => g x σ H1 D.nx
theorem ps_asg {tg e : Expr} {te : TE} {g : TG} (he : PE X e te) (hg : PG X tg g) (hs : swapsWithSole [tg] e pos.line X.env = pure false := by rfl) (hw : swappedStores [tg] e X.env = pure none := by rfl)
    (h1 : (assignEach [tg] X.env).map (·.2) = [assign tg X.env] := by rfl) : PS X (.Assign [tg] e pos) (tAsg te g) := by
  intro pins s σ H D I h
  refine wpAny_Assign_stores (thn (he pins s σ H _ I h) fun v s1 ⟨x, H1, I1, r1, q1⟩ => ?_) hs hw
  rw [h1]
  exact thn (hg pins s1 σ H1 x v _ I1 r1 q1) fun _ s2 q => q
/-- name = value -/
theorem ps_set {i : Nat} {x : Str} {e : Expr} {te : TE} {pos' : Pos} (hN : X.N.Nodup) (hi : X.N[i]? = some x) (hx : Loc X.env.scope x) (he : PE X e te) (hs : swapsWith e (some (.Name x pos')) pos.line X.env = pure false := by rfl) (hf : X.fn x = true ∨ X.env.scope.names.lookup x = some .local := by first | exact .inl rfl | exact .inr rfl | assumption) :
    PS X (.Assign [.Name x pos'] e pos) (tAsg te (gName i)) := by
  intro pins s σ H D I h
  refine wpAny_Assign_Name (thn (he pins s σ H _ I h) fun v s1 ⟨y, H1, I1, r1, q1⟩ => ?_) hs
  exact store_ok I1 hN hi hx r1 (fun s2 I2 => ⟨_, H1, I2, q1⟩) hf
end

/-! ### while -/
section
variable {X : Cx} {pos : Pos}
/-- the invariant W with its measure -/
def tWhile (c : TT) (tb : TS) : TS := fun D σ H => ∃ W : Nat → St → Hp → Prop, (∃ m, W m σ H) ∧ ∀ m σ H, W m σ H →
  c σ H fun b H1 => if b = true then ∃ N : St → Hp → Prop, (∀ σ' H', N σ' H' → ∃ m', m' < m ∧ W m' σ' H') ∧ tb { D with nx := N, ct := N, bk := D.nx } σ H1 else D.nx σ H1
end

/-! ### what a loop or a comprehension walks -/
/-- at turn i: it yields x (the heap may grow), or it stops -/
structure It where
  go : Nat → Hp → Prop
  yld : Nat → Hp → V → Hp → Prop
  stop : Nat → Hp → Prop
/-- the iterator's own objects may turn: they are not the frame's, not pinned, younger than the entry (or a comprehension's own) -/
def FpOk (X : Cx) (pins : List (Addr × Obj)) (H : Hp) (b : Addr) : Prop :=
  H b = none ∧ b ≠ X.env.locals ∧ b ∉ X.fs ∧ (b ∈ X.ex ∨ X.s_0.heap.objs.size ≤ b) ∧ (∀ x c, X.env.cells.lookup x = some c → c ≠ b) ∧ ∀ p ∈ X.pn ++ pins, p.1 ≠ b
theorem Inv.fpOk {X : Cx} {pins : List (Addr × Obj)} {σ : St} {H H' : Hp} {s : Shared} {b : Addr} (I : Inv X pins σ H s) (hb : s.heap.objs.size ≤ b) (hn : H' b = none) : FpOk X pins H' b := by
  refine ⟨hn, Nat.ne_of_gt (Nat.lt_of_lt_of_le I.lt hb), I.nofs hb, .inr (Nat.le_trans I.sz hb), fun x c e z => ?_, fun p hp z => ?_⟩
  · obtain ⟨v, q⟩ := I.cell x c e
    exact absurd (Nat.lt_of_lt_of_le q.lt (by rw [z]; exact hb)) (Nat.lt_irrefl _)
  · exact absurd (Nat.lt_of_lt_of_le (Heap.lt_size (I.pin p hp).1) (by rw [z]; exact hb)) (Nat.lt_irrefl _)
structure Turn (P : Program) (w : World) (K : PySem.W.Frag) (tg : Expr) (J : It) (fp : List Addr) (it : Addr) (tn : Nat → Heap → Prop) : Prop where
  mem : it ∈ fp
  obj : ∀ i h, tn i h → ∀ b ∈ fp, ∃ o, h.get? b = some o ∧ ∀ v, o.data ≠ .cell v
  keep : ∀ i h h', tn i h → (∀ b ∈ fp, ∀ o, h.get? b = some o → h'.get? b = some o) → tn i h'
  item : ∀ (X : Cx), X.prog = P → X.w = w → X.K = K → X.calm = true → ∀ (i : Nat) (pins : List (Addr × Obj)) (s : Shared) (σ : St) (H : Hp) (E : Value → Shared → Prop), Inv X pins σ H s → (∀ b ∈ fp, FpOk X pins H b) → tn i s.heap → J.go i H →
    wpAny (model P w) X.A (pyNext (.ref it)) (fun r s1 => ∃ u, r = some u ∧
      wpAny (model P w) X.A (letOwnedTupleGo tg (.ref it) u) (fun _ s2 => ∃ x H', Inv X pins σ H' s2 ∧ RelV x u ∧ J.yld i H x H' ∧ tn (i + 1) s2.heap ∧ ∀ b ∈ fp, H' b = none) E s1) E s
  done : ∀ (X : Cx), X.prog = P → X.w = w → X.K = K → X.calm = true → ∀ (i : Nat) (pins : List (Addr × Obj)) (s : Shared) (σ : St) (H : Hp) (E : Value → Shared → Prop), Inv X pins σ H s → (∀ b ∈ fp, FpOk X pins H b) → tn i s.heap → J.stop i H →
    wpAny (model P w) X.A (pyNext (.ref it)) (fun r s1 => r = none ∧ Inv X pins σ H s1) E s
  self : ∀ (A : Around) (i : Nat) (s : Shared) (Q : Value → Shared → Prop) (E : Value → Shared → Prop), tn i s.heap → Q (.ref it) s → wpAny (model P w) A (pyIter (.ref it)) Q E s
abbrev TI := St → Hp → (It → Hp → Prop) → Prop
/-- an iterator has come -/
def PIE (X : Cx) (pins : List (Addr × Obj)) (σ : St) (tg : Expr) (R : It → Hp → Prop) (itv : Value) (s2 : Shared) : Prop :=
  ∃ (it : Addr) (fp : List Addr) (tn : Nat → Heap → Prop) (J : It) (H' : Hp), itv = .ref it ∧ Inv X pins σ H' s2 ∧ Turn X.prog X.w X.K tg J fp it tn ∧ tn 0 s2.heap ∧ (∀ b ∈ fp, FpOk X pins H' b) ∧ R J H'
def PI (X : Cx) (tg iter : Expr) (wi : TI) : Prop :=
  ∀ (pins : List (Addr × Obj)) (s : Shared) (σ : St) (H : Hp) (R : It → Hp → Prop), Inv X pins σ H s → wi σ H R →
    wpAny (model X.prog X.w) X.A (eval iter X.env) (fun v s1 => wpAny (model X.prog X.w) X.A (pyIter v) (PIE X pins σ tg R) X.xe s1) X.xe s

/-- the step ahead of the store is nothing for an iterator that keeps no tuple -/
theorem go_of {M : Model} {A : Around} {E : Value → Shared → Prop} {s : Shared} {tg : Expr} {it : Addr} {u : Value} {o : Obj} {n : String} {vs : Array Value} {Q : Unit → Shared → Prop} (ho : s.heap.get? it = some o) (hc : o.cls = .type n) (hd : o.data = .fields vs)
    (hn : ["enumerate", "zip", "dict_itemiterator", "dict_reverseitemiterator", "odict_iterator", "itertools.zip_longest", "itertools.pairwise"].contains n = false) (hQ : Q () s) : wpAny M A (letOwnedTupleGo tg (.ref it) u) Q E s := by
  unfold letOwnedTupleGo
  cases tg <;> first
    | exact wpAny_pure hQ
    | (cases u <;> first
        | exact wpAny_pure hQ
        | (refine wpAny_bind (wpAny_load ho ?_)
           rw [hc, hd]
           show wpAny M A (if (["enumerate", "zip", "dict_itemiterator", "dict_reverseitemiterator", "odict_iterator", "itertools.zip_longest", "itertools.pairwise"].contains n && vs[0]? == some (rawInt _)) = true then _ else _) Q E s
           rw [if_neg (by intro h; rw [hn, Bool.false_and] at h; cases h)]
           exact wpAny_pure hQ))

/-- the list at a, as it stands at each turn (a loop may append to it) -/
def Itl (K : PySem.W.Frag) (a : Addr) : It :=
  ⟨fun i H => ∃ xs x, SqL K H a xs ∧ xs[i]? = some x, fun i H x H' => H' = H ∧ ∀ xs, SqL K H a xs → xs[i]? = some x, fun i H => ∃ xs, SqL K H a xs ∧ xs.length ≤ i⟩
/-- lo, lo + 1, .. (n of them) -/
def Itr (lo : Int) (n : Nat) : It := ⟨fun i _ => i < n, fun i H x H' => H' = H ∧ x = .int (lo + i), fun i _ => n ≤ i⟩
theorem turn_list {P : Program} {w : World} {K : PySem.W.Frag} {tg : Expr} (a it : Addr) : Turn P w K tg (Itl K a) [it] it (fun i h => h.IsListIter it a i) where
  mem := by simp
  obj := fun i h st b hb => by
    have e : b = it := by simpa using hb
    subst e
    obtain ⟨o, e, c, d⟩ := st
    exact ⟨o, e, fun v z => by rw [d] at z; cases z⟩
  keep := fun i h h' st k => st.at fun o e => k it (by simp) o e
  item := by
    intro X hP hw hK hc i pins s σ H E I hf st hg
    subst hP hw hK
    obtain ⟨xs, x, hq, hx⟩ := hg
    obtain ⟨its, rv, p, hz⟩ := I.list hq
    obtain ⟨u, hu, ru⟩ := rv.get hx
    obtain ⟨f0, f1, f2, f3, f4, f5⟩ := hf it (by simp)
    refine wpAny_pyNext_list_item st p.isList (x := u) (by simpa using hu) fun h' st' sb => ?_
    have I1 : Inv X pins σ H { s with heap := h' } := I.turned (t' := s.toks) (fun b o hb e => (sb.2 b hb).trans e) f0 f1 f3 f4 f5
    obtain ⟨o, e, c, d⟩ := id st'
    exact ⟨u, rfl, go_of (s := { s with heap := h' }) e c d (by decide) ⟨x, H, I1, ru, ⟨rfl, fun ys hy => by rw [I.list_inj hy hq]; exact hx⟩, st', fun b hb => (hf b hb).1⟩⟩
  done := by
    intro X hP hw hK hc i pins s σ H E I hf st hg
    subst hP hw hK
    obtain ⟨xs, hq, hx⟩ := hg
    obtain ⟨its, rv, p, hz⟩ := I.list hq
    obtain ⟨f0, f1, f2, f3, f4, f5⟩ := hf it (by simp)
    have hl := rv.length
    exact wpAny_pyNext_list_end (I.ok.hd hc) st p.isList (by simp; omega) fun h' eb => ⟨rfl, I.turned (t' := s.toks) (fun b o hb e => eb b o hb e) f0 f1 f3 f4 f5⟩
  self := fun _ _ _ _ _ st h => wpAny_pyIter_listiter st h
end L2

namespace L2
open PySem PySem.Spec PyProof.Rows
section
variable {X : Cx} {tg : Expr}
def iList (K : PySem.W.Frag) (tl : TE) : TI := fun σ H R => tl σ H fun x H1 => ∃ a, x = .ref a ∧ (∃ xs, SqL K H1 a xs) ∧ R (Itl K a) H1
theorem pi_list {l : Expr} {tl : TE} (hl : PE X l tl) : PI X tg l (iList X.K tl) := by
  intro pins s σ H R I h
  refine thn (hl pins s σ H _ I h) fun v s1 ⟨x, H1, I1, r1, q1⟩ => ?_
  obtain ⟨a, e, ⟨xs, hq⟩, q⟩ := q1
  subst e
  cases r1
  obtain ⟨its, rv, p, hz⟩ := I1.list hq
  refine wpAny_pyIter_list p.isList ?_
  refine ⟨s1.heap.objs.size, [s1.heap.objs.size], _, _, H1, rfl, I1.kept (t' := s1.toks) fun b o e => Heap.get?_push_of_some _ e, turn_list a _, ⟨_, Heap.get?_push_size _ rfl, rfl, rfl⟩, fun b hb => ?_, q⟩
  have e : b = s1.heap.objs.size := by simpa using hb
  subst e
  exact I1.fpOk (Nat.le_refl _) (I1.hok.fresh (Nat.le_refl _))
def iRng1 (ta : TA) : TI := fun σ H R => ta σ H fun vs H1 => ∃ j : Int, vs = [.int j] ∧ -(2 ^ 62) ≤ j ∧ j < 2 ^ 62 ∧ R (Itr 0 j.toNat) H1
def iRng2 (ta : TA) : TI := fun σ H R => ta σ H fun vs H1 => ∃ i j : Int, vs = [.int i, .int j] ∧ (-(2 ^ 62) ≤ i ∧ i < 2 ^ 62 ∧ -(2 ^ 62) ≤ j ∧ j < 2 ^ 62) ∧ R (Itr i (j - i).toNat) H1
/-! ### for -/
/-- W: the invariant by the turn and a measure; N: what the body is to reach -/
def tFor (wi : TI) (g : TG) (tb : TS) : TS := fun D σ H => wi σ H fun J H1 => ∃ W : Nat → Nat → St → Hp → Prop, (∃ m, W 0 m σ H1) ∧ ∀ i m σ H, W i m σ H →
  (J.stop i H ∧ D.nx σ H) ∨ (J.go i H ∧ ∃ N : St → Hp → Prop, (∀ σ' H', N σ' H' → ∃ m', m' < m ∧ W (i + 1) m' σ' H') ∧ ∀ x H', J.yld i H x H' → g x σ H' fun σ2 H2 => tb { D with nx := N, ct := N, bk := D.nx } σ2 H2)
/-- the records at fp as they stand -/
def pinsAt (fp : List Addr) (h : Heap) : List (Addr × Obj) := fp.filterMap fun b => (h.get? b).map fun o => (b, o)
theorem mem_pinsAt {fp : List Addr} {h : Heap} {b : Addr} {o : Obj} (hb : b ∈ fp) (e : h.get? b = some o) : (b, o) ∈ pinsAt fp h := List.mem_filterMap.mpr ⟨b, hb, by rw [e]; rfl⟩
theorem of_pinsAt {fp : List Addr} {h : Heap} {p : Addr × Obj} (hp : p ∈ pinsAt fp h) : p.1 ∈ fp ∧ h.get? p.1 = some p.2 := by
  obtain ⟨b, hb, e⟩ := List.mem_filterMap.mp hp
  cases q : h.get? b with
  | none => rw [q] at e; cases e
  | some o =>
    rw [q] at e
    have e' : (b, o) = p := Option.some.inj e
    subst e'
    exact ⟨hb, q⟩
theorem Inv.pinned {pins : List (Addr × Obj)} {σ : St} {H : Hp} {s : Shared} {fp : List Addr} (I : Inv X pins σ H s) (hf : ∀ b ∈ fp, FpOk X pins H b) (ho : ∀ b ∈ fp, ∃ o, s.heap.get? b = some o ∧ ∀ v, o.data ≠ .cell v) : Inv X (pins ++ pinsAt fp s.heap) σ H s :=
  I.pins_of fun p hp => (List.mem_append.mp hp).elim (fun z => I.pin p (List.mem_append_right _ z)) fun z => by
    obtain ⟨hb, e⟩ := of_pinsAt z
    obtain ⟨f0, f1, f2, _⟩ := hf p.1 hb
    obtain ⟨o, e', d⟩ := ho p.1 hb
    rw [e] at e'; cases e'
    exact ⟨e, f0, f1, f2, d⟩
theorem Inv.unpinned {pins pl : List (Addr × Obj)} {σ : St} {H : Hp} {s : Shared} (I : Inv X (pins ++ pl) σ H s) : Inv X pins σ H s := I.pins_of fun p hp => I.pin p (List.mem_append_right _ (List.mem_append_left _ hp))
theorem ps_for {iter : Expr} {body : List Stmt} {wi : TI} {g : TG} {tb : TS} {pos : Pos} (hp : PassesOwn (model X.prog X.w) X.A X.env X.xe) (hc : X.calm = true) (hi : PI X tg iter wi) (hg : PG X tg g) (hb : PSs X body tb)
    (hs : ∀ x, foldedSetIterable iter X.env x = pure x := by intro _; rfl) : PS X (.For tg iter body [] pos) (tFor wi g tb) := by
  intro pins s σ H D I h
  refine wpAny_For (thn (hi pins s σ H _ I h) fun v s1 h1 => thn h1 fun itv s2 h2 => ?_) hs
  obtain ⟨it, fp, tn, J, H2, e, I2, T, st2, f2, W, ⟨m0, w0⟩, turn⟩ := h2
  subst e
  -- what stays true of the iterator's objects through the loop
  have stat : ∀ {H' : Hp}, (∀ b ∈ fp, H' b = none) → ∀ b ∈ fp, FpOk X pins H' b := fun hn b hb => ⟨hn b hb, (f2 b hb).2⟩
  refine codeAny_forLoop_any (fun n s' => ∃ i σ' H', Inv X pins σ' H' s' ∧ tn i s'.heap ∧ (∀ b ∈ fp, H' b = none) ∧ W i n σ' H') ?_ m0 ⟨0, σ, H2, I2, st2, fun b hb => (f2 b hb).1, w0⟩
  rintro n s3 ⟨i, σ3, H3, I3, st3, fr3, w3⟩
  rcases turn i n σ3 H3 w3 with ⟨stop, qn⟩ | ⟨go, N, hN, step⟩
  · refine wpAny_passesOwn hp (thn (T.done X rfl rfl rfl hc i pins s3 σ3 H3 X.xe I3 (stat fr3) st3 stop) fun r s4 ⟨hr, I4⟩ => ?_)
    subst hr
    exact wpAny_execs_nil ⟨σ3, H3, I4, qn⟩
  · refine wpAny_passesOwn hp (thn (T.item X rfl rfl rfl hc i pins s3 σ3 H3 X.xe I3 (stat fr3) st3 go) fun r s4 ⟨u, hr, h4⟩ => ?_)
    subst hr
    refine wpAny_passesOwn hp (thn h4 fun _ s5 ⟨x, H5, I5, r5, y5, st5, fr5⟩ => ?_)
    have I5' := I5.pinned (stat fr5) (T.obj _ _ st5)
    refine wpAny_passesOwn hp (thn (hg _ s5 σ3 H5 x u _ I5' r5 (step x H5 y5)) fun _ s6 ⟨σ6, H6, I6, q6⟩ => ?_)
    refine wpAny_passesOwn hp (thn (hb _ s6 σ6 H6 _ I6 q6) fun f s7 q7 => ?_)
    have again : ∀ {σ7 : St} {H7 : Hp}, Inv X (pins ++ pinsAt fp s5.heap) σ7 H7 s7 → N σ7 H7 → ∃ m, m < n ∧ ∃ i σ' H', Inv X pins σ' H' s7 ∧ tn i s7.heap ∧ (∀ b ∈ fp, H' b = none) ∧ W i m σ' H' := fun {σ7 H7} I7 n7 => by
      obtain ⟨m', hm, w7⟩ := hN σ7 H7 n7
      refine ⟨m', hm, i + 1, σ7, H7, I7.unpinned, T.keep _ _ _ st5 fun b hb o e => (I7.pin (b, o) (List.mem_append_right _ (List.mem_append_right _ (mem_pinsAt hb e)))).1, fun b hb => ?_, w7⟩
      obtain ⟨o, e, d⟩ := T.obj _ _ st5 b hb
      exact (I7.pin (b, o) (List.mem_append_right _ (List.mem_append_right _ (mem_pinsAt hb e)))).2.1
    cases f with
    | next => obtain ⟨σ7, H7, I7, n7⟩ := q7; exact again I7 n7
    | cont => obtain ⟨σ7, H7, I7, n7⟩ := q7; exact again I7 n7
    | brk => obtain ⟨σ7, H7, I7, q7⟩ := q7; exact ⟨σ7, H7, I7.unpinned, q7⟩
    | ret v => obtain ⟨x7, σ7, H7, I7, r7, q7⟩ := q7; exact ⟨x7, σ7, H7, I7.unpinned, r7, q7⟩
end

/-! ### the forms one uses -/
/-- over a list that the body leaves as it is -/
theorem for_list {K : PySem.W.Frag} {a : Addr} {xs : List V} {g : TG} {tb : TS} {D : Ends} {σ : St} {H : Hp} (Pv : Nat → St → Hp → Prop) (h0 : Pv 0 σ H) (hl : ∀ i σ H, i ≤ xs.length → Pv i σ H → SqL K H a xs)
    (hs : ∀ i x σ H, xs[i]? = some x → Pv i σ H → g x σ H fun σ2 H2 => tb { D with nx := Pv (i + 1), ct := Pv (i + 1), bk := D.nx } σ2 H2) (hd : ∀ σ H, Pv xs.length σ H → D.nx σ H) :
    ∃ W : Nat → Nat → St → Hp → Prop, (∃ m, W 0 m σ H) ∧ ∀ i m σ H, W i m σ H →
      ((Itl K a).stop i H ∧ D.nx σ H) ∨ ((Itl K a).go i H ∧ ∃ N : St → Hp → Prop, (∀ σ' H', N σ' H' → ∃ m', m' < m ∧ W (i + 1) m' σ' H') ∧ ∀ x H', (Itl K a).yld i H x H' → g x σ H' fun σ2 H2 => tb { D with nx := N, ct := N, bk := D.nx } σ2 H2) := by
  refine ⟨fun i m σ H => m = xs.length - i ∧ i ≤ xs.length ∧ Pv i σ H, ⟨xs.length, by simp, Nat.zero_le _, h0⟩, ?_⟩
  rintro i m σ H ⟨rfl, hi, p⟩
  have q := hl i σ H hi p
  by_cases hlt : i < xs.length
  · refine .inr ⟨⟨xs, xs[i], q, by simp [hlt]⟩, Pv (i + 1), fun σ' H' p' => ⟨xs.length - (i + 1), by omega, rfl, hlt, p'⟩, fun x H' y => ?_⟩
    obtain ⟨e, y⟩ := y
    subst e
    exact hs i x σ _ (y xs q) p
  · have e : i = xs.length := by omega
    subst e
    exact .inl ⟨⟨xs, q, Nat.le_refl _⟩, hd σ H p⟩
theorem for_range {lo : Int} {n : Nat} {g : TG} {tb : TS} {D : Ends} {σ : St} {H : Hp} (Pv : Nat → St → Hp → Prop) (h0 : Pv 0 σ H)
    (hs : ∀ i σ H, i < n → Pv i σ H → g (.int (lo + i)) σ H fun σ2 H2 => tb { D with nx := Pv (i + 1), ct := Pv (i + 1), bk := D.nx } σ2 H2) (hd : ∀ σ H, Pv n σ H → D.nx σ H) :
    ∃ W : Nat → Nat → St → Hp → Prop, (∃ m, W 0 m σ H) ∧ ∀ i m σ H, W i m σ H →
      ((Itr lo n).stop i H ∧ D.nx σ H) ∨ ((Itr lo n).go i H ∧ ∃ N : St → Hp → Prop, (∀ σ' H', N σ' H' → ∃ m', m' < m ∧ W (i + 1) m' σ' H') ∧ ∀ x H', (Itr lo n).yld i H x H' → g x σ H' fun σ2 H2 => tb { D with nx := N, ct := N, bk := D.nx } σ2 H2) := by
  refine ⟨fun i m σ H => m = n - i ∧ i ≤ n ∧ Pv i σ H, ⟨n, by simp, Nat.zero_le _, h0⟩, ?_⟩
  rintro i m σ H ⟨rfl, hi, p⟩
  by_cases hlt : i < n
  · refine .inr ⟨hlt, Pv (i + 1), fun σ' H' p' => ⟨n - (i + 1), by omega, rfl, hlt, p'⟩, fun x H' y => ?_⟩
    obtain ⟨e, y⟩ := y
    subst e y
    exact hs i σ _ hlt p
  · have e : i = n := by omega
    subst e
    exact .inl ⟨Nat.le_refl _, hd σ H p⟩
end L2

namespace L2
open PySem PySem.Spec PyProof.Rows

abbrev R2 := V → V → Hp → VK → Prop
/-- a two-place operation on values: f is binaryOp op, inplaceOp op or compareOp op -/
def OpR (X : Cx) (f : Value → Value → Sem Value) (r : R2) : Prop :=
  ∀ (pins : List (Addr × Obj)) (s : Shared) (σ : St) (H : Hp) (x y : V) (v u : Value) (Q : VK), Inv X pins σ H s → RelV x v → RelV y u → r x y H Q →
    wpAny (model X.prog X.w) X.A (f v u) (EP X pins σ Q) X.xe s
/-- a one-place operation -/
def UnR (X : Cx) (f : Value → Sem Value) (r : V → Hp → VK → Prop) : Prop :=
  ∀ (pins : List (Addr × Obj)) (s : Shared) (σ : St) (H : Hp) (x : V) (v : Value) (Q : VK), Inv X pins σ H s → RelV x v → r x H Q →
    wpAny (model X.prog X.w) X.A (f v) (EP X pins σ Q) X.xe s
/-- a call of a value that is known (a builtin, a type) with values -/
def CallR (X : Cx) (f : Value) (r : List V → Hp → VK → Prop) : Prop :=
  ∀ (pins : List (Addr × Obj)) (s : Shared) (σ : St) (H : Hp) (xs : List V) (us : List Value) (Q : VK), Inv X pins σ H s → Vals xs us → r xs H Q →
    wpAny (model X.prog X.w) X.A (call f us) (EP X pins σ Q) X.xe s
def tOp (r : R2) (ta tb : TE) : TE := fun σ H Q => ta σ H fun x H1 => tb σ H1 fun y H2 => r x y H2 Q
def tUn (r : V → Hp → VK → Prop) (ta : TE) : TE := fun σ H Q => ta σ H fun x H1 => r x H1 Q
/-- ints in, under C, and a value out -/
def rI (C : Int → Int → Prop) (g : Int → Int → V) : R2 := fun x y H Q => ∃ i j, x = .int i ∧ y = .int j ∧ C i j ∧ Q (g i j) H
def rI0 (g : Int → Int → V) : R2 := fun x y H Q => ∃ i j, x = .int i ∧ y = .int j ∧ Q (g i j) H
def rU (g : Int → V) : V → Hp → VK → Prop := fun x H Q => ∃ i, x = .int i ∧ Q (g i) H

section
variable {X : Cx} {a b c : Expr} {ta tb tc : TE} {pos : Pos}

theorem binT (ha : PE X a ta) (hb : PE X b tb) {pins : List (Addr × Obj)} {s : Shared} {σ : St} {H : Hp} {R : V → V → Hp → Prop} (I : Inv X pins σ H s)
    (h : ta σ H fun x H1 => tb σ H1 fun y H2 => R x y H2) {Q : Value → Shared → Prop} {f : Value → Value → Sem Value}
    (hf : ∀ v u s2 x y H2, Inv X pins σ H2 s2 → RelV x v → RelV y u → R x y H2 → wpAny (model X.prog X.w) X.A (f v u) Q X.xe s2) :
    wpAny (model X.prog X.w) X.A (eval a X.env) (fun v s₁ => wpAny (model X.prog X.w) X.A (eval b X.env) (fun u s₂ => wpAny (model X.prog X.w) X.A (f v u) Q X.xe s₂) X.xe s₁) X.xe s := by
  refine thn (ha pins s σ H _ I h) fun v s1 ⟨x, H1, I1, r1, q1⟩ => ?_
  refine thn (hb pins s1 σ H1 _ I1 q1) fun u s2 ⟨y, H2, I2, r2, q2⟩ => ?_
  exact hf v u s2 x y H2 I2 r1 r2 q2

theorem pe_op {op : Operator} {r : R2} (ho : OpR X (binaryOp op) r) (ha : PE X a ta) (hb : PE X b tb) : PE X (.BinOp a op b pos) (tOp r ta tb) := by
  intro pins s σ H Q I h
  exact wpAny_BinOp (binT ha hb I h fun v u s2 x y H2 I2 rx ry q => ho pins s2 σ H2 x y v u Q I2 rx ry q)
theorem pe_un {op : UnaryOp} {r : V → Hp → VK → Prop} (ho : UnR X (unaryOp op) r) (ha : PE X a ta) : PE X (.UnaryOp op a pos) (tUn r ta) := by
  intro pins s σ H Q I h
  exact UnaryOp_ (thn (ha pins s σ H _ I h) fun v s1 ⟨x, H1, I1, r1, q1⟩ => ho pins s1 σ H1 x v Q I1 r1 q1)
/-! ### ints -/
theorem opI {f : Value → Value → Sem Value} {C : Int → Int → Prop} {g : Int → Int → Int}
    (rule : ∀ (i j : Int) (t u : Tok) (s : Shared) (Q : Value → Shared → Prop) (E : Value → Shared → Prop), C i j → Q (.int (g i j) s.toks) { s with toks := s.toks + 1 } → wpAny (model X.prog X.w) X.A (f (.int i t) (.int j u)) Q E s) :
    OpR X f (rI C fun i j => .int (g i j)) := by
  intro pins s σ H x y v u Q I rx ry h
  obtain ⟨i, j, rfl, rfl, hc, q⟩ := h
  obtain ⟨t, rfl⟩ := rx
  obtain ⟨t', rfl⟩ := ry
  exact rule i j t t' s _ _ hc ⟨.int (g i j), H, I.tok _, ⟨_, rfl⟩, q⟩
theorem opI0 {f : Value → Value → Sem Value} {g : Int → Int → Int}
    (rule : ∀ (i j : Int) (t u : Tok) (s : Shared) (Q : Value → Shared → Prop) (E : Value → Shared → Prop), Q (.int (g i j) s.toks) { s with toks := s.toks + 1 } → wpAny (model X.prog X.w) X.A (f (.int i t) (.int j u)) Q E s) :
    OpR X f (rI0 fun i j => .int (g i j)) := by
  intro pins s σ H x y v u Q I rx ry h
  obtain ⟨i, j, rfl, rfl, q⟩ := h
  obtain ⟨t, rfl⟩ := rx
  obtain ⟨t', rfl⟩ := ry
  exact rule i j t t' s _ _ ⟨.int (g i j), H, I.tok _, ⟨_, rfl⟩, q⟩
theorem opB0 {f : Value → Value → Sem Value} {g : Int → Int → Bool}
    (rule : ∀ (i j : Int) (t u : Tok) (s : Shared) (Q : Value → Shared → Prop) (E : Value → Shared → Prop), Q (.bool (g i j)) s → wpAny (model X.prog X.w) X.A (f (.int i t) (.int j u)) Q E s) :
    OpR X f (rI0 fun i j => .bl (g i j)) := by
  intro pins s σ H x y v u Q I rx ry h
  obtain ⟨i, j, rfl, rfl, q⟩ := h
  obtain ⟨t, rfl⟩ := rx
  obtain ⟨t', rfl⟩ := ry
  exact rule i j t t' s _ _ ⟨.bl (g i j), H, I, rfl, q⟩

def CMul (i j : Int) : Prop := (-(2 ^ 64) < i ∧ i < 2 ^ 64) ∨ (-(2 ^ 64) < j ∧ j < 2 ^ 64)
theorem CMul.ok {i j : Int} (h : CMul i j) : IntMulOk i j := by
  rcases h with ⟨h1, h2⟩ | ⟨h1, h2⟩
  · exact .of_left (intBits_le_64 h1 h2)
  · exact .of_right (intBits_le_64 h1 h2)
theorem op_add : OpR X (binaryOp .Add) (rI0 fun i j => .int (i + j)) := opI0 fun _ _ _ _ _ _ _ q => add_int q
theorem op_sub : OpR X (binaryOp .Sub) (rI0 fun i j => .int (i - j)) := opI0 fun _ _ _ _ _ _ _ q => sub_int q
theorem op_mul : OpR X (binaryOp .Mult) (rI CMul fun i j => .int (i * j)) := opI fun _ _ _ _ _ _ _ hc q => mul_int q hc.ok
theorem unI {f : Value → Sem Value} {g : Int → Int}
    (rule : ∀ (i : Int) (t : Tok) (s : Shared) (Q : Value → Shared → Prop) (E : Value → Shared → Prop), Q (.int (g i) s.toks) { s with toks := s.toks + 1 } → wpAny (model X.prog X.w) X.A (f (.int i t)) Q E s) :
    UnR X f (rU fun i => .int (g i)) := by
  intro pins s σ H x v Q I rx h
  obtain ⟨i, rfl, q⟩ := h
  obtain ⟨t, rfl⟩ := rx
  exact rule i t s _ _ ⟨.int (g i), H, I.tok _, ⟨_, rfl⟩, q⟩
theorem un_neg : UnR X (unaryOp .USub) (rU fun i => .int (-i)) := unI fun _ _ _ _ _ q => neg_int q
end

/-! ### comparisons -/
/-- the scalars that == tells apart as data does -/
def scal : V → V → Bool
  | .non, .non => true | .non, .int _ => true | .int _, .non => true | .non, .bl _ => true | .bl _, .non => true | .non, .str _ => true | .str _, .non => true
  | .int _, .int _ => true | .bl _, .bl _ => true | .str _, .str _ => true | .byt _, .byt _ => true
  | .int _, .str _ => true | .str _, .int _ => true | .bl _, .str _ => true | .str _, .bl _ => true
  | _, _ => false
def rEq : R2 := fun x y H Q => scal x y = true ∧ Q (.bl (decide (x = y))) H
def rNe : R2 := fun x y H Q => scal x y = true ∧ Q (.bl (!decide (x = y))) H

theorem dec_int {i j : Int} : decide (V.int i = V.int j) = (i == j) := by
  rw [Bool.eq_iff_iff]
  simp
theorem dec_bl {i j : Bool} : decide (V.bl i = V.bl j) = (i == j) := by
  rw [Bool.eq_iff_iff]
  simp
theorem dec_str {i j : Str} : decide (V.str i = V.str j) = (i == j) := by
  rw [Bool.eq_iff_iff]
  simp
theorem dec_byt {i j : Array UInt8} : decide (V.byt i = V.byt j) = (i.toList == j.toList) := by
  rw [Bool.eq_iff_iff]
  cases i
  cases j
  simp

section
variable {X : Cx} {a b c : Expr} {ta tb tc : TE} {pos : Pos}
theorem fin_bl {pins : List (Addr × Obj)} {σ : St} {H : Hp} {s : Shared} {Q : VK} {k k' : Bool} (I : Inv X pins σ H s) (q : Q (.bl k) H) (e : k = k') : EP X pins σ Q (.bool k') s := by
  subst e
  exact ⟨.bl k, H, I, rfl, q⟩
theorem op_eq : OpR X (compareOp .Eq) rEq := by
  intro pins s σ H x y v u Q I rx ry h
  obtain ⟨hs, q⟩ := h
  cases x with
  | non =>
    cases rx
    cases y with
    | non => cases ry; exact PySem.EqNone.eq_none_none (fin_bl I q (by simp))
    | bl j => cases ry; exact PySem.EqNone.eq_none_bool (fin_bl I q (by simp))
    | int j => obtain ⟨t', rfl⟩ := ry; exact PySem.EqNone.eq_none_int (fin_bl I q (by simp))
    | str j => obtain ⟨t', rfl⟩ := ry; exact PySem.EqNone.eq_none_str (fin_bl I q (by simp))
    | _ => exact absurd (show false = true from hs) Bool.false_ne_true
  | bl i =>
    cases rx
    cases y with
    | non => cases ry; exact PySem.EqNone.eq_bool_none (fin_bl I q (by simp))
    | bl j => cases ry; exact eq_bool (fin_bl I q dec_bl)
    | str j => obtain ⟨t', rfl⟩ := ry; exact PySem.EqMixed.eq_bool_str (fin_bl I q (by simp))
    | _ => exact absurd (show false = true from hs) Bool.false_ne_true
  | int i =>
    obtain ⟨t, rfl⟩ := rx
    cases y with
    | non => cases ry; exact PySem.EqNone.eq_int_none (fin_bl I q (by simp))
    | int j => obtain ⟨t', rfl⟩ := ry; exact eq_int (fin_bl I q dec_int)
    | str j => obtain ⟨t', rfl⟩ := ry; exact PySem.EqMixed.eq_int_str (fin_bl I q (by simp))
    | _ => exact absurd (show false = true from hs) Bool.false_ne_true
  | str i =>
    obtain ⟨t, rfl⟩ := rx
    cases y with
    | non => cases ry; exact PySem.EqNone.eq_str_none (fin_bl I q (by simp))
    | bl j => cases ry; exact PySem.EqMixed.eq_str_bool (fin_bl I q (by simp))
    | int j => obtain ⟨t', rfl⟩ := ry; exact PySem.EqMixed.eq_str_int (fin_bl I q (by simp))
    | str j => obtain ⟨t', rfl⟩ := ry; exact eq_str (fin_bl I q dec_str)
    | _ => exact absurd (show false = true from hs) Bool.false_ne_true
  | byt i =>
    obtain ⟨t, rfl⟩ := rx
    cases y with
    | byt j => obtain ⟨t', rfl⟩ := ry; exact PySem.W.eq_bytes (fin_bl I q dec_byt)
    | _ => exact absurd (show false = true from hs) Bool.false_ne_true
  | _ => cases y <;> exact absurd (show false = true from hs) Bool.false_ne_true
theorem op_ne : OpR X (compareOp .NotEq) rNe := by
  intro pins s σ H x y v u Q I rx ry h
  obtain ⟨hs, q⟩ := h
  cases x with
  | non =>
    cases rx
    cases y with
    | non => cases ry; exact PySem.EqNone.ne_none_none (fin_bl I q (by simp))
    | bl j => cases ry; exact PySem.EqNone.ne_none_bool (fin_bl I q (by simp))
    | int j => obtain ⟨t', rfl⟩ := ry; exact PySem.EqNone.ne_none_int (fin_bl I q (by simp))
    | str j => obtain ⟨t', rfl⟩ := ry; exact PySem.EqNone.ne_none_str (fin_bl I q (by simp))
    | _ => exact absurd (show false = true from hs) Bool.false_ne_true
  | bl i =>
    cases rx
    cases y with
    | non => cases ry; exact PySem.EqNone.ne_bool_none (fin_bl I q (by simp))
    | bl j => cases ry; exact ne_bool (fin_bl I q (congrArg not dec_bl))
    | str j => obtain ⟨t', rfl⟩ := ry; exact PySem.EqMixed.ne_bool_str (fin_bl I q (by simp))
    | _ => exact absurd (show false = true from hs) Bool.false_ne_true
  | int i =>
    obtain ⟨t, rfl⟩ := rx
    cases y with
    | non => cases ry; exact PySem.EqNone.ne_int_none (fin_bl I q (by simp))
    | int j => obtain ⟨t', rfl⟩ := ry; exact ne_int (fin_bl I q (congrArg not dec_int))
    | str j => obtain ⟨t', rfl⟩ := ry; exact PySem.EqMixed.ne_int_str (fin_bl I q (by simp))
    | _ => exact absurd (show false = true from hs) Bool.false_ne_true
  | str i =>
    obtain ⟨t, rfl⟩ := rx
    cases y with
    | non => cases ry; exact PySem.EqNone.ne_str_none (fin_bl I q (by simp))
    | bl j => cases ry; exact PySem.EqMixed.ne_str_bool (fin_bl I q (by simp))
    | int j => obtain ⟨t', rfl⟩ := ry; exact PySem.EqMixed.ne_str_int (fin_bl I q (by simp))
    | str j => obtain ⟨t', rfl⟩ := ry; exact ne_str (fin_bl I q (congrArg not dec_str))
    | _ => exact absurd (show false = true from hs) Bool.false_ne_true
  | byt i =>
    obtain ⟨t, rfl⟩ := rx
    cases y with
    | byt j => obtain ⟨t', rfl⟩ := ry; exact PySem.W.ne_bytes (fin_bl I q (congrArg not dec_byt))
    | _ => exact absurd (show false = true from hs) Bool.false_ne_true
  | _ => cases y <;> exact absurd (show false = true from hs) Bool.false_ne_true

theorem op_lt : OpR X (compareOp .Lt) (rI0 fun i j => .bl (decide (i < j))) := opB0 fun _ _ _ _ _ _ _ q => lt_int q
theorem op_gt : OpR X (compareOp .Gt) (rI0 fun i j => .bl (decide (j < i))) := opB0 fun _ _ _ _ _ _ _ q => gt_int q
theorem op_ge : OpR X (compareOp .GtE) (rI0 fun i j => .bl (decide (j ≤ i))) := opB0 fun _ _ _ _ _ _ _ q => ge_int q
theorem nomark (b : Expr) {op : CmpOp} (h : op ≠ .In := by decide) (h2 : op ≠ .NotIn := by decide) : behindInMarks op b = false := by
  have e1 : (op == CmpOp.In) = false := by cases op <;> first | rfl | exact absurd rfl h
  have e2 : (op == CmpOp.NotIn) = false := by cases op <;> first | rfl | exact absurd rfl h2
  cases b <;> simp [behindInMarks, e1, e2]
/-- a comparison as a value; hm: nomark b, or (for in, not in) by with_unfolding_all rfl -/
theorem pe_cmpR {op : CmpOp} {r : R2} (ho : OpR X (compareOp op) r) (ha : PE X a ta) (hb : PE X b tb) (hm : behindInMarks op b = false) : PE X (.Compare a [op] [b] pos) (tOp r ta tb) := by
  intro pins s σ H Q I h
  exact wpAny_Compare1 (binT ha hb I h fun v u s2 x y H2 I2 rx ry q => ho pins s2 σ H2 x y v u Q I2 rx ry q) hm
/-- a reading of a value as a test -/
def tTest (t : TE) : TT := fun σ H Q => t σ H fun x H' => ∃ k, x = .bl k ∧ Q k H'
theorem pt_cmpR {op : CmpOp} {r : R2} (ho : OpR X (compareOp op) r) (ha : PE X a ta) (hb : PE X b tb) (hm : behindInMarks op b = false) : PT X (.Compare a [op] [b] pos) (tTest (tOp r ta tb)) := by
  intro pins s σ H Q I h
  refine wpAny_isTrue_Compare1 (thn (ha pins s σ H _ I h) fun v s1 ⟨x, H1, I1, r1, q1⟩ => thn (hb pins s1 σ H1 _ I1 q1) fun u s2 ⟨y, H2, I2, r2, q2⟩ =>
    thn (ho pins s2 σ H2 x y v u _ I2 r1 r2 q2) fun c s3 ⟨z, H3, I3, r3, k, e, q3⟩ => ?_) hm
  subst e
  cases r3
  exact wpAny_truthy_bool ⟨H3, I3, q3⟩
theorem line63 : (sizeLine : Nat) < 2 ^ 63 := by rw [sizeLine_eq]; decide
/-! ### scalar builtins, by CallR -/
theorem vals1 {x : V} {us : List Value} (r : Vals [x] us) : ∃ u, us = [u] ∧ RelV x u := by
  cases r with
  | cons r1 r2 => cases r2; exact ⟨_, rfl, r1⟩
theorem vals2 {x y : V} {us : List Value} (r : Vals [x, y] us) : ∃ u w', us = [u, w'] ∧ RelV x u ∧ RelV y w' := by
  cases r with
  | cons r1 r2 =>
    cases r2 with
    | cons r3 r4 => cases r4; exact ⟨_, _, rfl, r1, r3⟩
end
end L2

namespace L2
open PySem PySem.Spec PyProof.Rows

section
variable {prog : Program} {w : World} {A : Around} {E : Value → Shared → Prop} {s : Shared} {K : PySem.W.Frag} {x dx C f : Addr} {mA : Str → Option Value} {name : Str} {v : Value}

end

section
variable {P : Program} {w : World} {H H' : Hp} {h h' : Heap} {a C dx : Addr} {fs fs' : List (Str × V)}
end

section
variable {X : Cx} {pins : List (Addr × Obj)} {σ : St} {H : Hp} {s : Shared} {a C dx : Addr} {fs : List (Str × V)} {f : Str} {v : V} {A : Around} {E : Value → Shared → Prop}

end

section
variable {X : Cx} {o e value : Expr} {f : Str} {pos pos' tpos : Pos} {ta tv : TE}
end

/-! ### isinstance -/
section
variable {X : Cx} {pins : List (Addr × Obj)} {σ : St} {H : Hp} {s : Shared} {A : Around} {E : Value → Shared → Prop} {Q : Value → Shared → Prop} {c : Value} {b : Bool}
end
end L2

namespace L2
open PySem PySem.Spec PyProof.Rows

/-! ### room -/
structure Room (k : Nat) (A : Around) : Prop where
  hd : A.handled = none
  dp : A.depth + 3 * k + 5 < recursionLimit
  un : A.units + 16 * k + 200 < cLine
theorem Room.mono {j k : Nat} {A : Around} (r : Room k A) (h : j ≤ k) : Room j A := ⟨r.hd, by have := r.dp; omega, by have := r.un; omega⟩
theorem Room.deeper {k : Nat} {A : Around} (r : Room (k + 1) A) (env : Env) : Room k (A.deeper env) :=
  ⟨r.hd, by have := r.dp; show A.depth + 1 + 3 * k + 5 < _; omega, by have := r.un; show A.units + 3 + 16 * k + 200 < _; omega⟩
theorem Room.depth {k : Nat} {A : Around} (r : Room k A) : A.depth < recursionLimit := by have := r.dp; omega
/-! ### argument lists and displays -/
def tNil : TA := fun _ H Q => Q [] H
def tCons (ta : TE) (tr : TA) : TA := fun σ H Q => ta σ H fun x H1 => tr σ H1 fun xs H2 => Q (x :: xs) H2
section
variable {X : Cx} {e : Expr} {es : List Expr} {te : TE} {t : TA} {pos : Pos}
theorem pa_nil : PA X [] tNil := fun _ _ _ _ H Q I h => Calls.spliced_nil ⟨[], H, I, .nil, h⟩
theorem pa_cons (ha : PE X e te) (hr : PA X es t) (hs : starEach (e :: es) X.env = (false, eval e X.env) :: starEach es X.env := by rfl) : PA X (e :: es) (tCons te t) := by
  intro pos pins s σ H Q I h
  rw [hs]
  show wpAny _ _ (spliced ((false, eval e X.env) :: backTo pos (starEach es X.env))) _ _ s
  refine Calls.spliced_cons (thn (ha pins s σ H _ I h) fun u s1 ⟨x, H1, I1, r1, q1⟩ => ?_)
  exact thn (hr pos pins s1 σ H1 _ I1 q1) fun us s2 ⟨xs, H2, I2, r2, q2⟩ => ⟨x :: xs, H2, I2, .cons r1 r2, q2⟩

def tLst (t : TA) : TE := fun σ H Q => t σ H fun xs H1 => xs.length ≤ sizeLine ∧ ∀ p, H1 p = none → Q (.ref p) (upd H1 p (.lst xs))
theorem pe_lst (h : PA X es t) : PE X (.List es pos) (tLst t) := by
  intro pins s σ H Q I hq
  refine wpAny_List_spliced (thn (h pos pins s σ H _ I hq) fun us s1 ⟨xs, H1, I1, r, z, q⟩ => ⟨by rw [← r.length]; exact z, ?_⟩)
  have hf : H1 s1.heap.objs.size = none := I1.hok.fresh (Nat.le_refl _)
  refine ⟨.ref s1.heap.objs.size, upd H1 s1.heap.objs.size (.lst xs), I1.laid (t' := s1.toks) (fun b u e => Heap.get?_push_of_some _ e) (Nat.le_refl _) ?_, rfl, q _ hf⟩
  exact ⟨z, us, 0, r, Heap.get?_push_size _ rfl⟩
end

/-! ### what a def promises -/
/-- a def's promise: the bound arguments in the parameters' order, the heap, the wanted end, the wanted exception -/
abbrev Sp := List V → Hp → VK → XK → Prop
/-- how an exception lies behind a call (file 08 gives it): the callers' frames, abstract heap and state ahead of the call, the wish, the exception, the state -/
abbrev CXT := List Env → Hp → Shared → XK → Value → Shared → Prop

/-- the state at a call -/
structure Env0 (P : Program) (w : World) (K : PySem.W.Frag) (mg : Str → Option Value) (base : Heap) (A : Around) (outer : List Env) (s : Shared) (H : Hp) : Prop where
  frames : A.frames = some outer
  mod : Mod K mg base
  bs : ∀ b o, base.get? b = some o → s.heap.get? b = some o ∧ H b = none
  bsz : base.objs.size ≤ s.heap.objs.size
  funs : s.heap.FunFrames base outer
  frf : ∀ b ∈ frs outer, H b = none
  hok : HOk P w H s.heap
  bare : AllBare s.gens
/-- a call's end -/
def CE (outer : List Env) (P : Program) (w : World) (H : Hp) (s : Shared) (Q : VK) (u : Value) (s' : Shared) : Prop :=
  ∃ v H', s'.os = s.os ∧ AllBare s'.gens ∧ Un (frs outer) [] H H' s.heap s'.heap ∧ HOk P w H' s'.heap ∧ RelV v u ∧ Q v H'
def CR (CX : CXT) (outer : List Env) (P : Program) (w : World) (H : Hp) (s : Shared) (Q : VK) (E : XK) (r : Result) (s' : Shared) : Prop :=
  match r with
  | .ok (.ret u) => CE outer P w H s Q u s'
  | .ok _ => False
  | .error e => CX outer H s E e s'
structure FnOk (P : Program) (w : World) (K : PySem.W.Frag) (mg : Str → Option Value) (base : Heap) (CX : CXT) (k : Nat) (f : Addr) (fd : FuncData) (ps : List Str) (sp : Sp) : Prop where
  len : ∀ vs H Q E, sp vs H Q E → vs.length = ps.length
  run : ∀ (A : Around) (outer : List Env) (s : Shared) (H : Hp) (args : Args) (us : List Value) (vs : List V) (Q : VK) (E : XK), Room k A → Env0 P w K mg base A outer s H → BindsTo s fd args (ps.zip us) → Vals vs us → sp vs H Q E →
    codeAny (model P w) A (.call (.ref f) args) (CR CX outer P w H s Q E) s
section
variable {X : Cx} {pins : List (Addr × Obj)} {σ : St} {H : Hp} {s s' : Shared}
/-- from a body: what a callee wants -/
theorem Inv.env0 (I : Inv X pins σ H s) : Env0 X.prog X.w X.K X.mg X.base X.A X.stack s H :=
  ⟨I.ok.frames, I.ok.mod, I.bs, Nat.le_trans I.ok.bsz I.sz, I.stack, I.stkFree, I.hok, I.bare⟩
/-- behind a call -/
theorem Inv.after {Q : VK} {u : Value} (I : Inv X pins σ H s) (h : CE X.stack X.prog X.w H s Q u s') : EP X pins σ Q u s' := by
  obtain ⟨v, H', os, bare, un, hok, r, q⟩ := h
  obtain ⟨hh, g, d, t, os'⟩ := s'
  obtain rfl : os' = s.os := os
  exact ⟨v, H', I.call (h' := hh) (g' := g) (d' := d) (t' := t) (ch := []) un hok bare (fun b z => absurd z (by simp)), r, q⟩
end

/-! ### calls -/
/-- f(..): the written arguments, then the defaults dvs; E: what is wanted of an exception -/
def tCall (sp : Sp) (dvs : List V) (E : XK) (t : TA) : TE := fun σ H Q => t σ H fun vs H1 => sp (vs ++ dvs) H1 Q E
/-- how the parameters are bound: us the positional arguments, kw the keywords' values by name, ds the defaults that fill up -/
def Binds (K : PySem.W.Frag) (fd : FuncData) (ps : List Str) (ds : List Value) : Prop :=
  ∀ (s : Shared) (us : List Value), K.In s.heap → (us ++ ds).length = ps.length → BindsTo s fd ⟨us, []⟩ (ps.zip (us ++ ds))
/-- every parameter is given -/
theorem Binds.all {K : PySem.W.Frag} {fd : FuncData} {ps : List Str} (h : ∀ us : List Value, us.length = ps.length → bindArgs fd ⟨us, []⟩ = pure (ps.zip us)) : Binds K fd ps [] := fun s us _ hl => by
  rw [List.append_nil] at hl ⊢
  exact .of_eq (h us hl)

/-- an exception of a callee reaches what this body wants of exceptions -/
def Passes (CX : CXT) (X : Cx) (E : XK) : Prop := ∀ (pins : List (Addr × Obj)) (σ : St) (H : Hp) (s : Shared) (e : Value) (s' : Shared), Inv X pins σ H s → CX X.stack H s E e s' → X.xe e s'

section
variable {X : Cx} {CX : CXT} {k : Nat} {f C : Addr} {fd : FuncData} {ps : List Str} {sp : Sp} {dvs : List V} {ds : List Value} {E : XK} {x m : Str} {p pos apos : Pos} {e o : Expr} {es : List Expr} {ta : TE} {t : TA}

/-- the callee runs -/
theorem run_fn {pins : List (Addr × Obj)} {σ : St} {H : Hp} {s : Shared} {Q : VK} {us : List Value} {vs : List V} (F : FnOk X.prog X.w X.K X.mg X.base CX k f fd ps sp) (hr : Room k X.A) (hb : Binds X.K fd ps ds) (hd : Vals dvs ds) (hx : Passes CX X E)
    (I : Inv X pins σ H s) (r : Vals vs us) (h : sp (vs ++ dvs) H Q E) : wpAny (model X.prog X.w) X.A (call (.ref f) us) (EP X pins σ Q) X.xe s := by
  have r2 : Vals (vs ++ dvs) (us ++ ds) := r.append hd
  have hl : (us ++ ds).length = ps.length := by rw [← r2.length]; exact F.len _ _ _ _ h
  refine wpAny_call (codeAny_mono (F.run X.A X.stack s H ⟨us, []⟩ (us ++ ds) (vs ++ dvs) Q E hr I.env0 (hb s us I.kIn hl) r2 h) fun r s' hq => ?_)
  cases r with
  | error e => exact hx pins σ H s e s' I hq
  | ok fl =>
    cases fl with
    | ret u => exact I.after hq
    | next => exact False.elim hq
    | brk => exact False.elim hq
    | cont => exact False.elim hq

theorem pe_call (F : FnOk X.prog X.w X.K X.mg X.base CX k f fd ps sp) (hr : Room k X.A) (hg : Gl X x) (hm : X.mg x = some (.ref f)) (hk : PySem.W.keepIn X.K (.ref f) = true) (hb : Binds X.K fd ps ds) (hd : Vals dvs ds) (hx : Passes CX X E)
    (ha : PA X (e :: es) t) (hdb : (x == ("__debug__" : Str)) = false := by decide) (he : starEach (e :: es) X.env = (false, eval e X.env) :: starEach es X.env := by rfl) (hpl : (backTo pos (starEach es X.env)).any (·.1) = false := by rfl) :
    PE X (.Call (.Name x p) (e :: es) [] pos) (tCall sp dvs E t) := by
  intro pins s σ H Q I h
  refine wpAny_Call_Name_kw (ld_glob I hg hm ?_ hdb)
  refine PySem.W.callWith_K (h₀ := X.base) I.ok.mod.kin hk (thn (ha pos pins s σ H _ I h) fun us s1 ⟨vs, H1, I1, r, q⟩ => ⟨I1.kIn, ?_⟩) he hpl
  exact run_fn F hr hb hd hx I1 r q
end

section
variable {X : Cx} {CX : CXT} {k : Nat} {f C : Addr} {fd : FuncData} {ps ks : List Str} {sp : Sp} {E : XK} {x m : Str} {p pos apos kpos : Pos} {e o : Expr} {es : List Expr} {kws : List Keyword} {te ta : TE} {t tk : TA} {nm : Option Str}
variable {g : List Value → List Value → List Value} {gV : List V → List V → List V}
end

/-! ### a def's body keeps its promise -/
/-- names: the parameters first -/
structure FnScope (N P : List Str) (sc : Scope) : Prop where
  kind : sc.kind = .function
  co : sc.isCoroutine = false
  gen : sc.isGenerator = false
  nd : N.Nodup
  pre : N.take P.length = P
  par : ∀ x ∈ P, sc.names.lookup x = some .local ∨ sc.names.lookup x = some .cell
  nofree : ∀ y ∈ sc.names, y.2 ≠ .free

theorem bindL_out {kindOf : Str → Option NameKind} {x : Str} : ∀ {binds : List (Str × Value)} {m : Str → Option Value}, (∀ v, (x, v) ∉ binds) → bindL kindOf binds m x = m x
  | [], _, _ => rfl
  | (n, v) :: r, m, h => by
    unfold bindL
    rw [bindL_out fun w hw => h w (List.mem_cons_of_mem _ hw)]
    split
    · have : x ≠ n := by rintro rfl; exact h v List.mem_cons_self
      simp [this]
    · rfl
theorem bindC_out {kindOf : Str → Option NameKind} {x : Str} : ∀ {binds : List (Str × Value)} {m : Str → Option Value}, (∀ v, (x, v) ∉ binds) → bindC kindOf binds m x = m x
  | [], _, _ => rfl
  | (n, v) :: r, m, h => by
    unfold bindC
    rw [bindC_out fun w hw => h w (List.mem_cons_of_mem _ hw)]
    split
    · rfl
    · have : x ≠ n := by rintro rfl; exact h v List.mem_cons_self
      simp [this]
theorem bindL_get {kindOf : Str → Option NameKind} {x : Str} {v : Value} : ∀ {P : List Str} {vs : List Value} {i : Nat} {m : Str → Option Value}, P.Nodup → P[i]? = some x → vs[i]? = some v → kindOf x = some .local →
    bindL kindOf (P.zip vs) m x = some v
  | [], _, _, _, _, h, _, _ => by simp at h
  | _ :: _, [], _, _, _, _, h, _ => by simp at h
  | p :: P, w :: vs, 0, m, nd, h1, h2, hk => by
    simp at h1 h2; subst h1; subst h2
    show bindL kindOf ((p, w) :: P.zip vs) m p = _
    unfold bindL
    rw [bindL_out fun v hv => (List.nodup_cons.mp nd).1 (List.of_mem_zip hv).1, if_pos hk]
    simp
  | p :: P, w :: vs, i + 1, m, nd, h1, h2, hk => by
    show bindL kindOf ((p, w) :: P.zip vs) m x = _
    unfold bindL
    exact bindL_get (i := i) (List.nodup_cons.mp nd).2 (by simpa using h1) (by simpa using h2) hk
theorem bindC_get {kindOf : Str → Option NameKind} {x : Str} {v : Value} : ∀ {P : List Str} {vs : List Value} {i : Nat} {m : Str → Option Value}, P.Nodup → P[i]? = some x → vs[i]? = some v → kindOf x ≠ some .local →
    bindC kindOf (P.zip vs) m x = some v
  | [], _, _, _, _, h, _, _ => by simp at h
  | _ :: _, [], _, _, _, _, h, _ => by simp at h
  | p :: P, w :: vs, 0, m, nd, h1, h2, hk => by
    simp at h1 h2; subst h1; subst h2
    show bindC kindOf ((p, w) :: P.zip vs) m p = _
    unfold bindC
    rw [bindC_out fun v hv => (List.nodup_cons.mp nd).1 (List.of_mem_zip hv).1, if_neg hk]
    simp
  | p :: P, w :: vs, i + 1, m, nd, h1, h2, hk => by
    show bindC kindOf ((p, w) :: P.zip vs) m x = _
    unfold bindC
    exact bindC_get (i := i) (List.nodup_cons.mp nd).2 (by simpa using h1) (by simpa using h2) hk

/-- the names' values at the entry -/
def start (N : List Str) (vs : List V) : St := vs.map some ++ List.replicate (N.length - vs.length) none

/-- the context of a def's body, at its entry; an exception leaves the frame, then lies as CX says -/
def cxOf (CX : CXT) (P : Program) (w : World) (K : PySem.W.Frag) (mg : Str → Option Value) (base : Heap) (N : List Str) (qual : Str) (scope : Scope) (f : Addr) (cd : Value) (A : Around) (outer : List Env) (s : Shared) (H : Hp) (E : XK) : Cx where
  prog := P
  w := w
  K := K
  mg := mg
  base := base
  A := A.deeper (envOfC qual scope s.heap.objs.size f cd)
  N := N
  s_0 := s
  H_0 := H
  env := envOfC qual scope s.heap.objs.size f cd
  outer := outer
  stack := envOfC qual scope s.heap.objs.size f cd :: outer
  ex := []
  calm := true
  fn := fun _ => true
  pn := []
  xe := fun e s' => wpAny (model P w) (A.deeper (envOfC qual scope s.heap.objs.size f cd)) (leaving (envOfC qual scope s.heap.objs.size f cd) e) (fun _ s'' => CX outer H s E e s'') (fun e' s'' => CX outer H s E e' s'') s'

theorem cell_has {sc : Scope} {n : Nat} {x : Str} (h : sc.names.lookup x = some .cell) : ∃ c, (cellsFrom n sc.names []).lookup x = some c := by
  have q := PySem.W.cellsFrom_some sc.names n [] (.inl h)
  exact Option.isSome_iff_exists.mp q

theorem inv_start {CX : CXT} {P : Program} {w : World} {K : PySem.W.Frag} {mg : Str → Option Value} {base : Heap} {N ps : List Str} {qual : Str} {scope : Scope} {f : Addr} {cd : Value} {A : Around} {outer : List Env} {s s1 : Shared} {H : Hp} {E : XK} {us : List Value} {vs : List V}
    (S : FnScope N ps scope) (hd : A.handled = none) (e0 : Env0 P w K mg base A outer s H) (hl : vs.length = ps.length) (r : Vals vs us)
    (x : InCallC s s.heap.objs.size (bindL (envOfC qual scope s.heap.objs.size f cd).kindOf (ps.zip us) fun _ => none) (cellsFrom (s.heap.objs.size + 1) scope.names []) (bindC (envOfC qual scope s.heap.objs.size f cd).kindOf (ps.zip us) fun _ => none) s1) :
    Inv (cxOf CX P w K mg base N qual scope f cd A outer s H E) [] (start N vs) H s1 := by
  have hpl : ps.length ≤ N.length := by have := congrArg List.length S.pre; rw [List.length_take] at this; omega
  obtain ⟨h1, tk, rfl, hk⟩ := x.done
  have noA : ∀ b : Addr, b ∉ (cxOf CX P w K mg base N qual scope f cd A outer s H E).ex := fun b z => absurd (show b ∈ ([] : List Addr) from z) (by simp)
  refine ⟨⟨e0.mod, S.kind, rfl, rfl, Nat.le_refl _, fun y z c h1 h2 => ?_, fun y hy => ?_, fun y c _ h => ?_, fun _ => hd, Around.frames_deeper e0.frames, .inr ⟨rfl, rfl⟩, fun b z => absurd z (noA b), e0.bs, e0.bsz, fun b _ _ => noA b, fun b z => absurd z (noA b), e0.funs, e0.frf⟩,
    rfl, e0.bare, Un.kept hk, ⟨_, x.toInCall.ns, fun i y v h1 h2 h3 => ?_⟩, fun y c h => ⟨_, x.cell y c h⟩, e0.hok.fresh (Nat.le_refl _), fun y c h => ?_, fun p hp => absurd (show p ∈ ([] : List (Addr × Obj)) from hp) (by simp), e0.hok.kept hk, ?_⟩
  · exact name_of_addr x.apart (PySem.mem_of_lookup h1) (PySem.mem_of_lookup h2)
  · have hy : scope.names.lookup y = some .cell ∨ scope.names.lookup y = some .free := hy
    rcases hy with hy | hy
    · exact cell_has hy
    · exact absurd rfl (S.nofree _ (PySem.mem_of_lookup hy))
  · exact Nat.le_of_lt (x.above y c (PySem.mem_of_lookup h))
  · have hi : i < vs.length := by
      unfold start at h2
      by_cases hi : i < vs.length
      · exact hi
      · rw [List.getElem?_append_right (by simpa using hi)] at h2
        rw [List.getElem?_replicate] at h2
        split at h2 <;> cases h2
    have ha : vs[i]? = some v := by
      unfold start at h2
      rw [List.getElem?_append_left (by simpa using hi), List.getElem?_map] at h2
      cases e : vs[i]? with
      | none => rw [e] at h2; cases h2
      | some a => rw [e] at h2; cases h2; rfl
    obtain ⟨u, hu, rv⟩ := r.get ha
    have hp : ps[i]? = some y := by
      rw [← S.pre, List.getElem?_take_of_lt (by omega)]; exact h1
    have ndP : ps.Nodup := by rw [← S.pre]; exact S.nd.sublist (List.take_sublist _ _)
    refine ⟨u, rv, ?_⟩
    rcases S.par y (List.mem_of_getElem? hp) with k | k
    · exact .inl ⟨k, bindL_get ndP hp hu k⟩
    · obtain ⟨c, e⟩ := cell_has (n := s.heap.objs.size + 1) k
      refine .inr ⟨.inl k, c, e, ?_⟩
      have q := x.cell y c e
      rw [bindC_get ndP hp hu (by show scope.names.lookup y ≠ _; rw [k]; decide)] at q
      exact q
  · exact e0.hok.fresh (Nat.le_of_lt (x.above y c (PySem.mem_of_lookup h)))
  · unfold start
    show _ = N.length
    rw [List.length_append, List.length_map, List.length_replicate]
    omega

/-- THE RULE: a def (or a method) of the text, by its body. The body's reading t is chosen for each entry; it is run at the parameters' values -/
theorem fn_of {CX : CXT} {P : Program} {w : World} {K : PySem.W.Frag} {mg : Str → Option Value} {base : Heap} {k : Nat} {f : Addr} {name qual : Str} {params : Arguments} {body : List Stmt} {scope : Scope} {dV kV doc pm cdv ct oc : Value} {an od : Option Addr}
    {osl : Array (Option Value)} {N ps : List Str} {sp : Sp} (lk : K.lookup f = some ⟨oc, od, .func (PySem.W.fnOf name qual params body scope dV kV doc pm an cdv ct), osl⟩) (hcd : PySem.W.codeIn K cdv qual = true) (S : FnScope N ps scope)
    (len : ∀ vs H Q E, sp vs H Q E → vs.length = ps.length)
    (hbody : ∀ (A : Around) (outer : List Env) (s : Shared) (H : Hp) (vs : List V) (Q : VK) (E : XK), Room k (A.deeper (envOfC qual scope s.heap.objs.size f cdv)) → sp vs H Q E →
      ∃ t, PSs (cxOf CX P w K mg base N qual scope f cdv A outer s H E) body t ∧ t { nx := fun _ H' => Q .non H', rt := Q } (start N vs) H) :
    FnOk P w K mg base CX (k + 1) f (PySem.W.fnOf name qual params body scope dV kV doc pm an cdv ct) ps sp := by
  refine ⟨len, fun A outer s H args us vs Q E hr e0 hb r hsp => ?_⟩
  have hl := len _ _ _ _ hsp
  have KX : K.In s.heap := e0.mod.kin.keeps fun b o e => (e0.bs b o e).1
  have lim : s.heap.NoLimit := e0.mod.nolimit.keeps fun b o e => (e0.bs b o e).1
  have hkind : ∀ y ∈ ps.zip us, scope.names.lookup y.1 = some .local ∨ (scope.names.lookup y.1 = some .cell ∧ ((cellsFrom (s.heap.objs.size + 1) scope.names []).lookup y.1).isSome = true) := fun ⟨n, v⟩ hy => by
    rcases S.par n (List.of_mem_zip hy).1 with q | q
    · exact .inl q
    · exact .inr ⟨q, PySem.W.cellsFrom_some _ _ _ (.inl q)⟩
  refine codeAny_call_function hr.depth (KX _ _ lk) rfl S.co S.gen rfl (PySem.W.codeRec_of KX hcd) (hb _ _ _ _ ?_)
  refine wpAny_newFunctionEnv_cells S.kind hkind fun env he s1 x => ?_
  subst he
  refine ⟨lim.keeps x.toInCall.keep, codeAny_func ?_⟩
  obtain ⟨t, ht, hq⟩ := hbody A outer s H vs Q E (hr.deeper _) hsp
  have I : Inv (cxOf CX P w K mg base N qual scope f cdv A outer s H E) [] (start N vs) H s1 := inv_start S hr.hd e0 hl r x
  refine wpAny_mono (ht [] s1 (start N vs) H _ I hq) (fun fl s' hs => ?_) fun e s' hs => hs
  have fin : ∀ {σ' : St} {H' : Hp} {v : V} {u : Value}, Inv (cxOf CX P w K mg base N qual scope f cdv A outer s H E) [] σ' H' s' → RelV v u → Q v H' → CE outer P w H s Q u s' :=
    fun {σ' H' v u} J rv q => ⟨v, H', J.os, J.bare, J.base, J.hok, rv, q⟩
  cases fl with
  | ret u =>
    obtain ⟨v, σ', H', J, rv, q⟩ := hs
    exact fin J rv q
  | next =>
    obtain ⟨σ', H', J, q⟩ := hs
    exact fin (v := V.non) (u := Value.none) J rfl q
  | brk =>
    obtain ⟨_, _, _, q⟩ := hs
    exact False.elim q
  | cont =>
    obtain ⟨_, _, _, q⟩ := hs
    exact False.elim q
end L2

namespace L2
open PySem PySem.Spec PyProof.Rows
section
variable {X : Cx} {x : Str} {p pos : Pos} {e : Expr} {es : List Expr} {t : TA} {id T : String} {r : List V → Hp → VK → Prop}

def tCB (r : List V → Hp → VK → Prop) (t : TA) : TE := fun σ H Q => t σ H fun vs H1 => r vs H1 Q
/-- f(e, ..), f a built-in function -/
theorem pe_callB (hc : CallR X (.builtin id) r) (hg : Gl X x) (hm : X.mg x = none) (hv : bootBuiltins x = some (.builtin id)) (ha : PA X (e :: es) t) (hn : x ≠ "__name__" := by decide) (hdb : (x == ("__debug__" : Str)) = false := by decide)
    (he : starEach (e :: es) X.env = (false, eval e X.env) :: starEach es X.env := by rfl) (hpl : (backTo pos (starEach es X.env)).any (·.1) = false := by rfl) : PE X (.Call (.Name x p) (e :: es) [] pos) (tCB r t) := by
  intro pins s σ H Q I h
  refine wpAny_Call_Name_kw (ld_blt I hg hm hv ?_ hn hdb)
  exact PyProof.Rows.callWith_builtin1 (thn (ha pos pins s σ H _ I h) fun us s1 ⟨vs, H1, I1, r1, q1⟩ => hc pins s1 σ H1 vs us Q I1 r1 q1) he hpl
/-- T(e, ..), T a built-in type -/
theorem pe_callTy (hc : CallR X (.type T) r) (hg : Gl X x) (hm : X.mg x = none) (hv : bootBuiltins x = some (.type T)) (ha : PA X (e :: es) t) (hn : x ≠ "__name__" := by decide) (hdb : (x == ("__debug__" : Str)) = false := by decide)
    (he : starEach (e :: es) X.env = (false, eval e X.env) :: starEach es X.env := by rfl) (hpl : (backTo pos (starEach es X.env)).any (·.1) = false := by rfl) : PE X (.Call (.Name x p) (e :: es) [] pos) (tCB r t) := by
  intro pins s σ H Q I h
  refine wpAny_Call_Name_kw (ld_blt I hg hm hv ?_ hn hdb)
  exact PyProof.Rows.callWith_type1 (thn (ha pos pins s σ H _ I h) fun us s1 ⟨vs, H1, I1, r1, q1⟩ => hc pins s1 σ H1 vs us Q I1 r1 q1) he hpl
end
end L2

namespace HT
open PySem PyProof.Rows

section
open PySem.SeqAt
open PySem.AutoSeq1 (wpAny_loadPart')
open PySem.MeetsSeq PySem.MeetsSeq2 PySem.MeetsSeq3

end

section
variable {prog : Program} {w : World} {A : Around} {E : Value → Shared → Prop} {s : Shared}

/-! ### t[a:b], not the whole -/
/-- a slice's bound as a place among n (d where it is left out) -/
def sIx (n d : Nat) : Option Int → Nat
  | none => d
  | some v => if v < 0 then (v + (n : Int)).toNat else min v.toNat n
end
end HT

namespace L2
open PySem PySem.Spec PyProof.Rows

/-! ### the parts of a slice -/
abbrev TO := St → Hp → (Option Int → Hp → Prop) → Prop
def tNoPart : TO := fun _ H Q => Q none H
def tPart (t : TE) : TO := fun σ H Q => t σ H fun x H1 => ∃ i, x = .int i ∧ Q (some i) H1

section
variable {X : Cx} {e : Expr} {te : TE} {lo hi : Option Expr} {tl th : TO} {pos p2 : Pos}

def tSl (r : V → Option Int → Option Int → Hp → VK → Prop) (te : TE) (tl th : TO) : TE := fun σ H Q => te σ H fun x H1 => tl σ H1 fun l H2 => th σ H2 fun u H3 => r x l u H3 Q
/-- the items of xs[lo:hi] -/
def cutV (xs : List V) (lo hi : Option Int) : List V := (xs.drop (HT.sIx xs.length 0 lo)).take (HT.sIx xs.length xs.length hi - HT.sIx xs.length 0 lo)
end
end L2

namespace L2
open PySem PySem.Spec PyProof.Rows

/-! ### places -/
/-- the place that an index of any sign means -/
def ixN (n : Nat) (i : Int) : Option Nat := if 0 ≤ i then (if i < n then some i.toNat else none) else if -(n : Int) ≤ i then some (i + n).toNat else none
def atI {α : Type} (xs : List α) (i : Int) : Option α := (ixN xs.length i).bind fun j => xs[j]?
theorem ixN_seq {n : Nat} {i : Int} {j : Nat} (h : ixN n i = some j) : seqIndex? i n = some j ∧ j < n ∧ -(n : Int) ≤ i ∧ i < n := by
  unfold ixN at h
  by_cases h0 : 0 ≤ i
  · rw [if_pos h0] at h
    by_cases h1 : i < n
    · rw [if_pos h1] at h
      have e : i.toNat = j := Option.some.inj h
      exact ⟨by rw [seqIndex_of h0 h1, e], by omega, by omega, h1⟩
    · rw [if_neg h1] at h; cases h
  · rw [if_neg h0] at h
    by_cases h1 : -(n : Int) ≤ i
    · rw [if_pos h1] at h
      have e : (i + n).toNat = j := Option.some.inj h
      exact ⟨by rw [seqIndex_neg (by omega) h1, e], by omega, h1, by omega⟩
    · rw [if_neg h1] at h; cases h
theorem atI_get {α : Type} {xs : List α} {i : Int} {v : α} (h : atI xs i = some v) : ∃ j, seqIndex? i xs.length = some j ∧ xs[j]? = some v ∧ j < xs.length ∧ -(xs.length : Int) ≤ i ∧ i < xs.length := by
  unfold atI at h
  cases e : ixN xs.length i with
  | none => rw [e] at h; cases h
  | some j =>
    rw [e] at h
    obtain ⟨h1, h2, h3, h4⟩ := ixN_seq e
    exact ⟨j, h1, h, h2, h3, h4⟩
theorem atI_nat {α : Type} {xs : List α} {j : Nat} {v : α} (h : xs[j]? = some v) : atI xs (j : Int) = some v := by
  have hj : j < xs.length := (List.getElem?_eq_some_iff.mp h).1
  have e : ixN xs.length (j : Int) = some j := by
    unfold ixN
    rw [if_pos (by omega), if_pos (by omega)]; simp
  unfold atI; rw [e]; exact h
/-! ### what may be subscripted -/
/-- what stands as an index of a plain subscript -/
def PlainIx (b : Expr) : Prop := ∀ o i, subscripted b false o i = operate [o, i] (getItem o i)
/-- a subscript by values -/
def IxR (X : Cx) (r : R2) : Prop :=
  ∀ (value slice : Expr) (pins : List (Addr × Obj)) (s : Shared) (σ : St) (H : Hp) (x y : V) (v u : Value) (Q : VK), Inv X pins σ H s → RelV x v → RelV y u → r x y H Q →
    subscripted slice false v u = operate [v, u] (getItem v u) → wpAny (model X.prog X.w) X.A (subscriptTail value slice v u) (EP X pins σ Q) X.xe s
/-- a call of a builtin's method by values: the receiver, the arguments -/
def MtR (X : Cx) (id : String) (r : V → List V → Hp → VK → Prop) : Prop :=
  ∀ (pins : List (Addr × Obj)) (s : Shared) (σ : St) (H : Hp) (x : V) (xs : List V) (v : Value) (us : List Value) (Q : VK), Inv X pins σ H s → RelV x v → Vals xs us → r x xs H Q →
    wpAny (model X.prog X.w) X.A (call (.builtin id) (v :: us)) (EP X pins σ Q) X.xe s
section
variable {X : Cx} {a b : Expr} {ta tb : TE} {pos : Pos}
/-- a[b] -/
theorem pe_ix {r : R2} (hr : IxR X r) (ha : PE X a ta) (hb : PE X b tb) (hs : PlainIx b) : PE X (.Subscript a b pos) (tOp r ta tb) := by
  intro pins s σ H Q I h
  exact Subscript_ (binT ha hb I h fun v u s2 x y H2 I2 rx ry q => hr a b pins s2 σ H2 x y v u Q I2 rx ry q (hs _ _))

def rIxL (K : PySem.W.Frag) : R2 := fun x y H Q => ∃ p xs i v, x = .ref p ∧ y = .int i ∧ SqL K H p xs ∧ atI xs i = some v ∧ Q v H
theorem ix_list : IxR X (rIxL X.K) := by
  intro value slice pins s σ H x y v u Q I rx ry h hs
  obtain ⟨p, xs, i, z, rfl, rfl, hq, he, q⟩ := h
  cases rx
  obtain ⟨t, rfl⟩ := ry
  obtain ⟨its, r, pl, hz⟩ := I.list hq
  obtain ⟨j, h1, h2, h3, h4, h5⟩ := atI_get he
  obtain ⟨w, ew, rw'⟩ := r.get h2
  have hl := r.length
  have hn := line63
  have fin : EP X pins σ Q w s := ⟨z, H, I, rw', q⟩
  by_cases h0 : 0 ≤ i
  · have hj : i.toNat = j := by
      rw [seqIndex_of h0 h5] at h1
      exact Option.some.inj h1
    exact item_listR pl.isList h0 (by omega) (by rw [hj]; simpa using ew) fin hs
  · have hj : (i + (its.toArray.size : Int)).toNat = j := by
      rw [seqIndex_neg (by omega) h4] at h1
      rw [List.size_toArray, ← hl]
      exact Option.some.inj h1
    exact subscriptTail_builtinR (x := w) pl.isList.typeIs slot_list_getitem.lookup
      (wpAny_getItem_list_neg (Q := fun r s' => r = w ∧ EP X pins σ Q r s') pl.isList (by omega) (by rw [List.size_toArray] <;> omega) (by omega) (by rw [hj]; simpa using ew) ⟨rfl, fin⟩) hs
/-! ### xs[i] = v, any sign -/
/-- the list's object behind a store -/
theorem mapSeq_set (its : List Value) (n j : Nat) (u : Value) : Obj.mapSeq (·.setIfInBounds j u) { cls := .type "list", data := .seq its.toArray n } = { cls := .type "list", data := .seq (its.set j u).toArray n } := by
  simp [Obj.mapSeq]
theorem Inv.lst {pins : List (Addr × Obj)} {σ : St} {H : Hp} {s : Shared} {p : Addr} {xs : List V} (I : Inv X pins σ H s) (h : H p = some (.lst xs)) :
    ∃ (its : List Value) (n : Nat), Vals xs its ∧ s.heap.get? p = some { cls := .type "list", data := .seq its.toArray n } ∧ xs.length ≤ sizeLine := by
  obtain ⟨z, its, n, r, e⟩ := I.hok p _ h
  exact ⟨its, n, r, e, z⟩
/-- the list at p is written by an update of its object -/
theorem Inv.lstUpd {pins : List (Addr × Obj)} {σ : St} {H : Hp} {s : Shared} {p : Addr} {xs ys : List V} {its its' : List Value} {n n' : Nat} {f : Obj → Obj} (I : Inv X pins σ H s) (h : H p = some (.lst xs))
    (ho : s.heap.get? p = some { cls := .type "list", data := .seq its.toArray n }) (hf : f { cls := .type "list", data := .seq its.toArray n } = { cls := .type "list", data := .seq its'.toArray n' }) (r : Vals ys its') (hz : ys.length ≤ sizeLine) (t : Nat) :
    Inv X pins σ (upd H p (.lst ys)) { s with heap := s.heap.update p f, toks := t } := by
  have e : (s.heap.update p f).get? p = some { cls := .type "list", data := .seq its'.toArray n' } := by
    rw [Heap.get?_update_self f ho (by rw [hf] <;> rfl), hf]
  refine I.write (x := p) (e := p) (by rw [h]; trivial) (.inl rfl) (fun b u hb q => (Heap.get?_update_other _ _ (Ne.symm hb)).trans q) ⟨_, e⟩ ?_
  exact ⟨hz, its', n', r, e⟩
def rSetL : V → V → V → Hp → (Hp → Prop) → Prop := fun o i v H Q => ∃ p xs k j, o = .ref p ∧ i = .int k ∧ H p = some (.lst xs) ∧ ixN xs.length k = some j ∧ Q (upd H p (.lst (xs.set j v)))
theorem set_list : PSet X rSetL := by
  intro pins s σ H o i v ov iv u Q I ro ri rv h
  obtain ⟨p, xs, k, j, rfl, rfl, hp, hj, q⟩ := h
  cases ro
  obtain ⟨t, rfl⟩ := ri
  obtain ⟨its, n, r, ho, hz⟩ := I.lst hp
  obtain ⟨h1, h2, h3, h4⟩ := ixN_seq hj
  have hl := r.length
  have hn := line63
  have I' : Inv X pins σ (upd H p (.lst (xs.set j v))) { s with heap := s.heap.update p (Obj.mapSeq (·.setIfInBounds j u)) } :=
    I.lstUpd hp ho (mapSeq_set its n j u) (r.set rv j) (by rw [List.length_set]; exact hz) s.toks
  by_cases h0 : 0 ≤ k
  · have hk : k.toNat = j := by
      rw [seqIndex_of h0 h4] at h1
      exact Option.some.inj h1
    exact PySem.W.ki_setAt ho h0 (by omega) (by rw [List.size_toArray, ← hl]; exact h4) (by rw [hk]; exact ⟨_, I', q⟩)
  · have hk : (k + (its.toArray.size : Int)).toNat = j := by
      rw [seqIndex_neg (by omega) h3] at h1
      rw [List.size_toArray, ← hl]
      exact Option.some.inj h1
    exact PySem.W.ki_setBack ho (by omega) (by rw [List.size_toArray, ← hl]; exact h3) (by omega) (by rw [hk]; exact ⟨_, I', q⟩)

/-- xs[lo:hi] of a list: a new list -/
def rSlL (K : PySem.W.Frag) : V → Option Int → Option Int → Hp → VK → Prop := fun x lo hi H Q => ∃ a xs, x = .ref a ∧ SqL K H a xs ∧ ∀ p, H p = none → Q (.ref p) (upd H p (.lst (cutV xs lo hi)))
/-! ### len, list(x), tuple(x) of any list or tuple that is read -/
theorem call_len_seq : CallR X (.builtin "len") (fun xs H Q => ∃ p ys, xs = [.ref p] ∧ (SqL X.K H p ys ∨ SqT X.K H p ys) ∧ Q (.int ys.length) H) := by
  intro pins s σ H xs us Q I r h
  obtain ⟨p, ys, rfl, hq, q⟩ := h
  obtain ⟨u, rfl, rx⟩ := vals1 r
  cases rx
  have hn := line63
  rcases hq with hq | hq
  · obtain ⟨its, r', pl, hz⟩ := I.list hq
    have hlen := r'.length
    exact Calls.call_len_list pl.isList (by simp only [List.size_toArray] <;> omega) ⟨.int ys.length, H, I.tok _, ⟨s.toks + 1, by rw [List.size_toArray, hlen]⟩, q⟩
  · obtain ⟨its, r', pl, hz⟩ := I.tuple hq
    have hlen := r'.length
    exact len_tuple pl (by simp only [List.size_toArray] <;> omega) ⟨.int ys.length, H, I.tok _, ⟨s.toks + 1, by rw [List.size_toArray, hlen]⟩, q⟩
/-! ### the call of a builtin's method: o.m(..) -/
/-- the value is of that builtin type -/
def tyV (K : PySem.W.Frag) (T : String) (x : V) (H : Hp) : Prop := match x with
  | .str _ => T = "str"
  | .int _ => T = "int"
  | .ref p => (T = "list" ∧ ∃ xs, SqL K H p xs) ∨ (T = "tuple" ∧ ∃ o, K.lookup p = some o ∧ o.cls = .type "tuple" ∧ o.dict = none) ∨
      (T = "dict" ∧ ((∃ kvs, H p = some (.dK kvs)) ∨ ∃ kvs, H p = some (.dT kvs))) ∨ (T = "set" ∧ ∃ S n, H p = some (.set S n))
  | _ => False
theorem tyV_is {pins : List (Addr × Obj)} {σ : St} {H : Hp} {s : Shared} {T : String} {x : V} {v : Value} (I : Inv X pins σ H s) (r : RelV x v) (ty : tyV X.K T x H) :
    s.TypeIs v T ∧ ∀ a, v = .ref a → ∃ ob, s.heap.get? a = some ob ∧ ob.dict = none := by
  cases x with
  | str z =>
    obtain ⟨t, rfl⟩ := r
    cases (show T = "str" from ty)
    exact ⟨typeIs_str s z t, fun _ e => nomatch e⟩
  | int i =>
    obtain ⟨t, rfl⟩ := r
    cases (show T = "int" from ty)
    exact ⟨typeIs_int s i t, fun _ e => nomatch e⟩
  | ref p =>
    cases r
    rcases ty with ⟨rfl, xs, hq⟩ | ⟨rfl, o, hk, hc, hd⟩ | ⟨rfl, hk⟩ | ⟨rfl, S, n, hk⟩
    · obtain ⟨its, _, pl, _⟩ := I.list hq
      refine ⟨pl.isList.typeIs, fun a e => ?_⟩
      cases e
      obtain ⟨o, n, e, c, hd, _⟩ := pl
      exact ⟨o, e, hd⟩
    · refine ⟨⟨o, I.kIn p o hk, hc⟩, fun a e => ?_⟩
      cases e
      exact ⟨o, I.kIn _ o hk, hd⟩
    · have z : ∃ o, s.heap.get? p = some o ∧ o.ExactDict := by
        rcases hk with ⟨kvs, hk⟩ | ⟨kvs, hk⟩
        · obtain ⟨_, _, _, _, o, _, _, e, ex, _⟩ := I.hok p _ hk
          exact ⟨o, e, ex⟩
        · obtain ⟨_, _, _, _, o, _, _, e, ex, _⟩ := I.hok p _ hk
          exact ⟨o, e, ex⟩
      obtain ⟨o, e, ex⟩ := z
      refine ⟨⟨o, e, ex.1⟩, fun a e2 => ?_⟩
      cases e2
      exact ⟨o, e, ex.2.1⟩
    · obtain ⟨o, _, _, _, e, ex, _⟩ := I.hok p _ hk
      refine ⟨⟨o, e, ex.1⟩, fun a e2 => ?_⟩
      cases e2
      exact ⟨o, e, ex.2.1⟩
  | _ => exact False.elim ty
def tBM0 (K : PySem.W.Frag) (T : String) (r : V → List V → Hp → VK → Prop) (to : TE) : TE := fun σ H Q => to σ H fun x H1 => tyV K T x H1 ∧ r x [] H1 Q
def tBM (K : PySem.W.Frag) (T : String) (r : V → List V → Hp → VK → Prop) (to : TE) (t : TA) : TE := fun σ H Q => to σ H fun x H1 => tyV K T x H1 ∧ t σ H1 fun xs H2 => r x xs H2 Q
variable {o e : Expr} {es : List Expr} {to : TE} {t : TA} {name : Str} {apos cpos : Pos} {T id : String} {r : V → List V → Hp → VK → Prop}
theorem pe_bm (pa : PlainAttrs T) (slot : Slot T name id) (hty : typeOf (.builtin id) = pure (.type "method_descriptor")) (hm : MtR X id r) (ho : PE X o to) (ha : PA X (e :: es) t)
    (hbase : attributeBase o name X.env (eval o X.env) = eval o X.env := by rfl)
    (hfew : ((backTo cpos (starEach (e :: es) X.env)).all (fun x => !x.1) && (backToKw cpos (keywordEach [] X.env)).all (fun x => x.1.isSome)
      && decide ((e :: es).length + ([] : List Keyword).length + (if ([] : List Keyword).isEmpty then 0 else 1) < 30)) = true := by rfl)
    (hline : (apos.endLine == cpos.line) = true := by rfl) (hs : starEach (e :: es) X.env = (false, eval e X.env) :: starEach es X.env := by rfl) (hplain : (backTo cpos (starEach es X.env)).any (·.1) = false := by rfl) :
    PE X (.Call (.Attribute o name apos) (e :: es) [] cpos) (tBM X.K T r to t) := by
  intro pins s σ H Q I h
  refine wpAny_Call_method_late hbase hfew hline rfl (thn (ho pins s σ H _ I h) fun v s1 ⟨x, H1, I1, r1, ty, q1⟩ => ?_)
  obtain ⟨h1, h2⟩ := tyV_is I1 r1 ty
  refine ⟨T, id, pa, slot, hty, h1, h2, ?_⟩
  have hA := ha cpos pins s1 σ H1 _ I1 q1
  rw [hs] at hA ⊢
  refine Calls.callWith_builtin (by show (false || (backTo cpos (starEach es X.env)).any (·.1)) = false; rw [hplain] <;> rfl) (Calls.evalArgs_plain ?_)
  exact thn hA fun us s2 ⟨vs, H2, I2, r2, q2⟩ => hm pins s2 σ H2 x vs v us Q I2 r1 r2 q2
/- xs.append(e), list.index on a module's tuple .. are MtR facts of 06m -/
end
end L2

namespace L2
open PySem PySem.Spec PyProof.Rows

def MtM (X : Cx) (id : String) (r : V → List V → Hp → VK → Prop) : Prop :=
  ∀ (pins : List (Addr × Obj)) (s : Shared) (σ : St) (H : Hp) (x : V) (xs : List V) (v : Value) (us : List Value) (Q : VK), Inv X pins σ H s → RelV x v → Vals xs us → r x xs H Q →
    wpAny (model X.prog X.w) X.A (call (.builtin id) (v :: us)) (EP X pins σ Q) X.xe s

/-! ### lists of values -/
theorem Vals.one : ∀ {x : V} {us : List Value}, Vals [x] us → ∃ u, us = [u] ∧ RelV x u
  | _, _, .cons r .nil => ⟨_, rfl, r⟩
section
variable {X : Cx} {pins : List (Addr × Obj)} {σ : St} {H : Hp} {s : Shared} {l b : Addr} {xs ys zs : List V}

/-! ### the two steps: a tracked list is rewritten, a new list is laid -/
theorem Inv.lset {its its' : List Value} {n : Nat} {f : Array Value → Array Value} {t' : Nat} (I : Inv X pins σ H s) (hH : H l = some (.lst xs))
    (e : s.heap.get? l = some { cls := .type "list", data := .seq its.toArray n }) (hf : f its.toArray = its'.toArray) (hv : Vals ys its') (hz : ys.length ≤ sizeLine) :
    Inv X pins σ (upd H l (.lst ys)) { s with heap := s.heap.update l (Obj.mapSeq f), toks := t' } := by
  have q := PySem.IsL.update e f
  rw [hf] at q
  refine I.write (x := l) (e := l) (by rw [hH]; exact trivial) (.inl rfl) (fun b' u hb hu => (Heap.get?_update_other s.heap (Obj.mapSeq f) (Ne.symm hb)).trans hu) ⟨_, q⟩ ?_
  exact ⟨hz, its', _, hv, q⟩
theorem Inv.lnew {its : List Value} {t' : Nat} (I : Inv X pins σ H s) (hv : Vals ys its) (hz : ys.length ≤ sizeLine) :
    Inv X pins σ (upd H s.heap.objs.size (.lst ys)) { s with heap := s.heap.push { cls := .type "list", data := .seq its.toArray }, toks := t' } :=
  I.laid (fun _ _ q => Heap.get?_push_of_some _ q) (Nat.le_refl _) ⟨hz, its, 0, hv, Heap.get?_push_size _ rfl⟩
theorem Inv.fresh (I : Inv X pins σ H s) : H s.heap.objs.size = none := I.hok.fresh (Nat.le_refl _)
theorem Inv.lstM (I : Inv X pins σ H s) (hH : H l = some (.lst xs)) : xs.length ≤ sizeLine ∧ ∃ (its : List Value) (n : Nat), Vals xs its ∧ xs.length = its.length ∧ s.heap.get? l = some { cls := .type "list", data := .seq its.toArray n } := by
  obtain ⟨z, its, n, r, e⟩ := I.hok l _ hH
  exact ⟨z, its, n, r, r.length, e⟩

end

section
variable {X : Cx}

/-! ### methods -/
def rAppend : V → List V → Hp → VK → Prop := fun x vs H Q => ∃ l xs y, x = .ref l ∧ vs = [y] ∧ H l = some (.lst xs) ∧ xs.length < sizeLine ∧ Q .non (upd H l (.lst (xs ++ [y])))
theorem mt_append : MtM X "list.append" rAppend := by
  intro pins s σ H x vs v us Q I rx rv h
  obtain ⟨l, xs, y, rfl, rfl, hH, hz, q⟩ := h
  cases rx
  obtain ⟨u, rfl, ru⟩ := rv.one
  obtain ⟨z, its, n, r, hl, e⟩ := I.lstM hH
  refine call_meets F.slot_list_append ⟨_, e, rfl⟩ F.entry_list_append (F.args_list_append_2 _ _) (PySem.list_append l its.toArray n u (by rw [List.size_toArray]; omega)) ⟨e, ?_⟩
  refine ⟨.non, _, I.lset (its' := its ++ [u]) hH e (by simp) (r.append (.cons ru .nil)) ?_, rfl, q⟩
  rw [List.length_append, List.length_singleton]
  omega

def rPop : V → List V → Hp → VK → Prop := fun x vs H Q => ∃ l xs y, x = .ref l ∧ vs = [] ∧ H l = some (.lst xs) ∧ xs[xs.length - 1]? = some y ∧ Q y (upd H l (.lst xs.dropLast))
/-! ### list + list, list += list, list * int -/
def rCat : R2 := fun x y H Q => ∃ l b xs zs, x = .ref l ∧ y = .ref b ∧ H l = some (.lst xs) ∧ H b = some (.lst zs) ∧ xs.length + zs.length ≤ sizeLine ∧ ∀ p, H p = none → Q (.ref p) (upd H p (.lst (xs ++ zs)))
theorem op_cat : OpR X (binaryOp .Add) rCat := by
  intro pins s σ H x y v u Q I rx ry h
  obtain ⟨l, b, xs, zs, rfl, rfl, hH, hB, hz, q⟩ := h
  cases rx
  cases ry
  obtain ⟨z, its, n, r, hl, e⟩ := I.lstM hH
  obtain ⟨z2, its2, n2, r2, hl2, e2⟩ := I.lstM hB
  refine PySem.P.add_list e e2 ?_ (by rw [List.size_toArray, List.size_toArray]; omega)
  have ea : its.toArray ++ its2.toArray = (its ++ its2).toArray := by simp
  rw [ea]
  exact ⟨.ref _, _, I.lnew (t' := s.toks) (r.append r2) (by rw [List.length_append]; omega), rfl, q _ I.fresh⟩
end

/-! ### xs[a:b] = ys -/
section
variable {prog : Program} {w : World} {A : Around} {E : Value → Shared → Prop} {s : Shared}
end

section
variable {X : Cx}
end
end L2

namespace L2
open PySem PySem.Spec PyProof.Rows

/-! ### the library's walks over a list of ints, kept objects alone -/
section
variable {prog : Program} {w : World} {A : Around} {E : Value → Shared → Prop} {s : Shared} {l : Addr} {its : List Value} {ns : List Int} {Q : Value → Shared → Prop}
end

/-! ### the calls, by values (CallR of 03t; MtR of 06l) -/
section
variable {X : Cx}
end

/-! ### list.index, flat items -/
section
variable {X : Cx}
end

/-! ### type(x) of an own instance; is, is not of a module's class -/
section
variable {X : Cx}
end

section
variable {X : Cx}
def rAll (K : PySem.W.Frag) : List V → Hp → VK → Prop := fun vs H Q => ∃ (a : Addr) (bs : List Bool), vs = [V.ref a] ∧ SqL K H a (bs.map V.bl) ∧ Q (.bl (bs.all id)) H
end

/-! ### == and != of data at any depth: none, bools, ints, texts, lists, tuples -/
mutual
inductive Dp (K : PySem.W.Frag) (H : Hp) : V → PyData → Prop
  | non : Dp K H .non .none
  | bl (b : Bool) : Dp K H (.bl b) (.bool b)
  | int (i : Int) : Dp K H (.int i) (.int i)
  | str (x : Str) : Dp K H (.str x) (.str x)
  | lst {a : Addr} {xs : List V} {ds : List PyData} : SqL K H a xs → DpAll K H xs ds → Dp K H (.ref a) (.list ds)
  | tup {a : Addr} {xs : List V} {ds : List PyData} : SqT K H a xs → DpAll K H xs ds → Dp K H (.ref a) (.tuple ds)
inductive DpAll (K : PySem.W.Frag) (H : Hp) : List V → List PyData → Prop
  | nil : DpAll K H [] []
  | cons {v : V} {vs : List V} {d : PyData} {ds : List PyData} : Dp K H v d → DpAll K H vs ds → DpAll K H (v :: vs) (d :: ds)
end
section
variable {X : Cx} {pins : List (Addr × Obj)} {σ : St} {H : Hp} {s : Shared}
end
section
variable {X : Cx}
def rEqD (K : PySem.W.Frag) : R2 := fun x y H Q => ∃ d e, Dp K H x d ∧ Dp K H y e ∧ SeqAt.shaped d = true ∧ SeqAt.shaped e = true ∧ Q (.bl (PyData.eqv d e)) H
end
end L2

namespace L2
open PySem PySem.Spec PyProof.Rows
/-- the slots of the block's own names forgotten -/
def wipe (σ : St) : List Nat → St
  | [] => σ
  | v :: vs => (wipe σ vs).set v none
section
variable {X : Cx} {pins : List (Addr × Obj)} {σ : St} {H : Hp} {s : Shared}
def tYes : TT := fun _ H Q => Q true H
end

section
variable {X : Cx}
/-- [elt for target in iter if ..]: D the new list; W by the turn and a measure, Nx what a turn is to reach -/
def tLc (wi : TI) (g : TG) (tt : TT) (te : TE) (vs : List Nat) : TE := fun σ H Q => wi σ H fun J H1 => ∀ D, H1 D = none → ∃ W : Nat → Nat → Hp → Prop, (∃ m, W 0 m (upd H1 D (.lst []))) ∧ ∀ i m H, W i m H →
  (J.stop i H ∧ Q (.ref D) H) ∨ (J.go i H ∧ ∃ Nx : Hp → Prop, (∀ H', Nx H' → ∃ m', m' < m ∧ W (i + 1) m' H') ∧ ∀ x H', J.yld i H x H' → g x (wipe σ vs) H' fun σ2 H2 => wipe σ2 vs = wipe σ vs ∧ tt σ2 H2 fun b H3 =>
    if b = true then te σ2 H3 fun y H4 => ∃ acc, H4 D = some (.lst acc) ∧ acc.length < sizeLine ∧ Nx (upd H4 D (.lst (acc ++ [y]))) else Nx H3)
end

end L2

namespace L2
open PySem PySem.Spec PyProof.Rows

section
variable {prog : Program} {w : World} {A : Around} {R : Result → Shared → Prop} {s : Shared} {elt t0 i0 t1 i1 : Expr} {ifs0 ifs1 : List Expr} {scope : Scope} {pos : Pos} {it acc : Value} {env : Env}
end

section
variable {X : Cx}
end
end L2

namespace L2
open PySem PySem.Spec PyProof.Rows

/-! ### lists of pairs as tables -/
section
variable {κ : Type} [DecidableEq κ]
end


section
variable {P : Program} {w : World} {H : Hp} {h : Heap} {a : Addr}
end

section
variable {X : Cx} {pins : List (Addr × Obj)} {σ : St} {H : Hp} {s : Shared} {a : Addr} {y v : V} {u r : Value} {o : Option V} {A : Around} {E : Value → Shared → Prop}

end

section
variable {X : Cx} {pins : List (Addr × Obj)} {σ : St} {H : Hp} {s : Shared} {a : Addr} {kvs : List (Key × V)} {k : Key} {u : Value} {A : Around} {E : Value → Shared → Prop}
end


section
variable {X : Cx} {o i e value : Expr} {pos pos' tpos : Pos} {td ty tv : TE}
end


section
variable {X : Cx} {pos : Pos}
end

section
variable {X : Cx} {pins : List (Addr × Obj)} {σ : St} {H : Hp} {s : Shared} {a : Addr} {y d : V} {u r : Value} {o : Option V} {A : Around} {E : Value → Shared → Prop}
end

section
variable {X : Cx} {o e f : Expr} {apos cpos : Pos} {td ty tx : TE}
end

/-! ### dict(d): a copy -/
section
variable {X : Cx} {pins : List (Addr × Obj)} {σ : St} {H : Hp} {s : Shared} {a : Addr} {kvs : List (Key × V)} {A : Around} {E : Value → Shared → Prop}
end


section
variable {X : Cx} {pins : List (Addr × Obj)} {σ : St} {H : Hp} {s : Shared} {a : Addr} {y : V} {u : Value} {A : Around} {E : Value → Shared → Prop}
end
end L2

namespace L2
open PySem PySem.Spec PyProof.Rows

section
variable {prog : Program} {w : World} {A : Around} {E : Value → Shared → Prop}
end

section
variable {X : Cx}
end
end L2

namespace L2
open PySem PySem.Spec PyProof.Rows

section
variable {X : Cx} {pins : List (Addr × Obj)} {σ : St} {H : Hp} {s : Shared} {h' : Heap}
/-- .. and one new object is laid -/
theorem Inv.turnedNew {t' : Nat} {ch : List Addr} {T : Addr} {ob : HO} (I : Inv X pins σ H s) (k : ∀ b o, b ∉ ch → s.heap.get? b = some o → h'.get? b = some o) (hf : ∀ b ∈ ch, FpOk X pins H b) (hT : s.heap.objs.size ≤ T)
    (new : ObjOk X.prog X.w (upd H T ob) h' T ob) : Inv X pins σ (upd H T ob) { s with heap := h', toks := t' } := by
  have hn : H T = none := I.hok.fresh hT
  have nit : ∀ b u, H b = some u → b ∉ ch := fun b u e z => by
    have q := (hf b z).1
    rw [q] at e; cases e
  refine I.step (g' := s.gens) (d' := s.drawn) (ch := ch) (fun b hb => ⟨(hf b hb).2.2.2.1, (hf b hb).2.1, (hf b hb).2.2.2.2.1, (hf b hb).2.2.2.2.2⟩) (fun b o _ _ hc e _ => k b o hc e) (fun b o _ _ hc e _ => ⟨o.slots, k b o hc e⟩)
    (fun b o _ e n => ?_) (fun b o hc e => ⟨o, k b o hc e⟩) (fun b xs e => ?_) (fun b o u e => ?_) (fun b ps e => ⟨#[], ?_⟩) (fun m hm => ?_) (fun b u e => ?_) I.bare
  · rw [upd_ne (Nat.ne_of_lt (Nat.lt_of_lt_of_le (Heap.lt_size e) hT))]; exact n
  · rw [upd_ne (ne_of_none e hn)]; exact e
  · rw [upd_ne (ne_of_none e hn)]; exact e
  · rw [upd_ne (ne_of_none e hn), e]; simp
  · obtain ⟨o, es, ep, ho, r⟩ := hm
    exact ⟨o, es, ep, k _ o (fun z => (hf _ z).2.1 rfl) ho, r⟩
  · by_cases hb : b = T
    · subst hb
      rw [upd_same] at e
      cases e
      exact new
    · rw [upd_ne hb] at e
      refine (I.hok b u e).stay (fun c v hc q => k c v ?_ q) (fun c q => by rw [upd_ne (ne_of_none q hn)]; exact q) fun c xs q => by rw [upd_ne (ne_of_none q hn)]; exact q
      rcases hc with z | z
      · rw [z]; exact nit b u e
      · exact nit c _ z

end
section
variable {X : Cx}
end

section
variable {X : Cx} {tg : Expr}
end
/-! ### reversed(list) -/
/-- the list at a (n items at the start, which the loop leaves there), from its end -/
def Itv (K : PySem.W.Frag) (a : Addr) (n : Nat) : It :=
  ⟨fun i H => i < n ∧ ∃ (xs : List V) (x : V), SqL K H a xs ∧ xs[n - 1 - i]? = some x, fun i H x H' => H' = H ∧ ∀ xs, SqL K H a xs → xs[n - 1 - i]? = some x, fun i _ => n ≤ i⟩
def iRev (K : PySem.W.Frag) (ta : TA) : TI := fun σ H R => ta σ H fun vs H1 => ∃ (a : Addr) (xs : List V), vs = [.ref a] ∧ SqL K H1 a xs ∧ R (Itv K a xs.length) H1
section
variable {X : Cx} {tg : Expr}
end

/-! ### a dict's keys: any dict's entries -/
section
variable {prog : Program} {w : World} {A : Around} {E : Value → Shared → Prop} {s : Shared}
end

section
variable {X : Cx} {pins : List (Addr × Obj)} {σ : St} {H : Hp} {s : Shared} {d : Addr} {o : Obj}
end

section
variable {P : Program} {w : World} {K : PySem.W.Frag} {tg : Expr} {d : Addr} {o : Obj} {es : Array DictEntry} {ep : Nat}
end

section
variable {X : Cx} {tg e : Expr} {td : TE} {apos cpos : Pos}
end

/-! ### enumerate(list) -/
/-- the list at a as it stands at each turn, each item in a new pair -/
def Ite (K : PySem.W.Frag) (a : Addr) : It :=
  ⟨fun i H => ∃ (xs : List V) (x : V), SqL K H a xs ∧ xs[i]? = some x, fun i H v H' => ∃ T x, v = .ref T ∧ H T = none ∧ H' = upd H T (.tup [.int (i : Nat), x]) ∧ ∀ xs, SqL K H a xs → xs[i]? = some x, fun i H => ∃ xs : List V, SqL K H a xs ∧ xs.length ≤ i⟩
theorem turn_enum {P : Program} {w : World} {K : PySem.W.Frag} {elts : List Expr} {kk : Nat} {tpos : Pos} (a e it : Addr) :
    Turn P w K (.Tuple elts kk tpos) (Ite K a) [e, it] e (fun i h => (∃ old, IsEnum h e it ((i : Nat) : Int) old) ∧ h.IsListIter it a i ∧ e ≠ it) where
  mem := by simp
  obj := fun i h st b hb => by
    obtain ⟨⟨old, he⟩, ⟨o, ho, hc, hd⟩, _⟩ := st
    have e' : b = e ∨ b = it := by simpa using hb
    rcases e' with z | z
    · rw [z]; exact ⟨_, he, fun v q => nomatch q⟩
    · rw [z]; exact ⟨o, ho, fun v q => by rw [hd] at q; cases q⟩
  keep := fun i h h' st k => let ⟨⟨old, he⟩, hi, hne⟩ := st; ⟨⟨old, k e (by simp) _ he⟩, hi.at fun o q => k it (by simp) o q, hne⟩
  item := by
    intro X hP hw hK hc i pins s σ H E I hf st hg
    subst hP hw hK
    obtain ⟨⟨old, he⟩, hit, hne⟩ := st
    obtain ⟨xs, x, hq, hx⟩ := hg
    obtain ⟨its, rv, p, hz⟩ := I.list hq
    obtain ⟨u, hu, ru⟩ := rv.get hx
    have hel : e < s.heap.objs.size := Heap.lt_size he
    have hil : it < s.heap.objs.size := by obtain ⟨_, q, _⟩ := hit; exact Heap.lt_size q
    refine wpAny_pyNext_enum_item he hit p.isList (x := u) (by simpa using hu) hne fun h' ho hit' hT hsz hk => ?_
    refine ⟨_, rfl, wpAny_letOwnedTupleGo_enum (s := { s with heap := h', toks := s.toks + 1 }) ho fun h'' he' sb => ?_⟩
    have hT2 : h''.get? s.heap.objs.size = some { cls := .type "tuple", data := .seq #[.int i s.toks, u] } := (sb.2 _ (Nat.ne_of_gt hel)).trans hT
    have new : ObjOk X.prog X.w (upd H s.heap.objs.size (.tup [.int (i : Nat), x])) h'' s.heap.objs.size (.tup [.int (i : Nat), x]) :=
      ⟨by show 2 ≤ sizeLine; decide, [.int i s.toks, u], .cons ⟨_, rfl⟩ (.cons ru .nil), ⟨_, hT2, rfl, _, rfl⟩⟩
    have I1 : Inv X pins σ (upd H s.heap.objs.size (.tup [.int (i : Nat), x])) { s with heap := h'', toks := s.toks + 1 } :=
      I.turnedNew (ch := [e, it]) (fun b ob hb q => (sb.2 b (fun z => hb (by simp [z]))).trans (hk b ob (fun z => hb (by simp [z])) (fun z => hb (by simp [z])) q)) hf (Nat.le_refl _) new
    refine ⟨.ref s.heap.objs.size, _, I1, rfl, ⟨_, x, rfl, I.hok.fresh (Nat.le_refl _), rfl, fun ys hy => by rw [I.list_inj hy hq]; exact hx⟩, ⟨⟨u, ?_⟩, hit'.at fun o q => (sb.2 it (Ne.symm hne)).trans q, hne⟩, fun b hb => ?_⟩
    · have e1 : ((i + 1 : Nat) : Int) = (i : Int) + 1 := by omega
      rw [e1]; exact he'
    · have hb' : b < s.heap.objs.size := by
        have e' : b = e ∨ b = it := by simpa using hb
        rcases e' with z | z
        · rw [z]; exact hel
        · rw [z]; exact hil
      rw [upd_ne (Nat.ne_of_lt hb')]
      exact (hf b hb).1
  done := by
    intro X hP hw hK hc i pins s σ H E I hf st hg
    subst hP hw hK
    obtain ⟨⟨old, he⟩, hit, hne⟩ := st
    obtain ⟨xs, hq, hx⟩ := hg
    obtain ⟨its, rv, p, hz⟩ := I.list hq
    obtain ⟨f0, f1, f2, f3, f4, f5⟩ := hf it (by simp)
    have hl := rv.length
    exact wpAny_pyNext_enum_end (I.ok.hd hc) he hit p.isList (by simp; omega) fun h' eb => ⟨rfl, I.turned (t' := s.toks) (fun b o hb q => eb b o hb q) f0 f1 f3 f4 f5⟩
  self := fun A i s Q E st h => let ⟨⟨_, he⟩, _⟩ := st; wpAny_pyIter_enum he h
def iEnum (K : PySem.W.Frag) (ta : TA) : TI := fun σ H R => ta σ H fun vs H1 => ∃ a xs, vs = [.ref a] ∧ SqL K H1 a xs ∧ R (Ite K a) H1
theorem pi_enum {X : Cx} {e : Expr} {ta : TA} {p pos tpos : Pos} {elts : List Expr} {kk : Nat} (hg : Gl X "enumerate") (hm : X.mg "enumerate" = none) (ha : PA X [e] ta) (hs : starEach [e] X.env = [(false, eval e X.env)] := by rfl) :
    PI X (.Tuple elts kk tpos) (.Call (.Name "enumerate" p) [e] [] pos) (iEnum X.K ta) := by
  intro pins s σ H R I h
  refine Call_ (ld_blt I hg hm boot_enumerate (PyProof.Rows.callWith_type1 (thn (ha pos pins s σ H _ I h) fun us s1 ⟨vs, H1, I1, r1, q1⟩ => ?_) hs rfl))
  obtain ⟨a, xs, ex, hq, q⟩ := q1
  subst ex
  cases r1 with
  | cons r rr =>
    cases rr
    cases r
    obtain ⟨its, rv, p', hz⟩ := I1.list hq
    refine call_enumerate_list p'.isList fun h' he hit hsz hk => wpAny_pyIter_enum he ?_
    have I2 : Inv X pins σ H1 { s1 with heap := h' } := I1.kept (t' := s1.toks) hk
    refine ⟨s1.heap.objs.size + 1, [s1.heap.objs.size + 1, s1.heap.objs.size], _, _, H1, rfl, I2, turn_enum a (s1.heap.objs.size + 1) s1.heap.objs.size, ⟨⟨.none, he⟩, hit, Nat.succ_ne_self _⟩, fun b hb => ?_, q⟩
    have e' : b = s1.heap.objs.size + 1 ∨ b = s1.heap.objs.size := by simpa using hb
    have hle : s1.heap.objs.size ≤ b := by
      rcases e' with z | z
      · rw [z]; exact Nat.le_add_right _ _
      · rw [z]; exact Nat.le_refl _
    exact I1.fpOk hle (I1.hok.fresh hle)
/-- the lists at a and b as they stand at each turn, the items in new pairs -/
def Itz (K : PySem.W.Frag) (a b : Addr) : It :=
  ⟨fun i H => ∃ (xs ys : List V) (x y : V), SqL K H a xs ∧ SqL K H b ys ∧ xs[i]? = some x ∧ ys[i]? = some y,
    fun i H v H' => ∃ T x y, v = .ref T ∧ H T = none ∧ H' = upd H T (.tup [x, y]) ∧ (∀ xs, SqL K H a xs → xs[i]? = some x) ∧ ∀ ys, SqL K H b ys → ys[i]? = some y,
    fun i H => ∃ xs ys : List V, SqL K H a xs ∧ SqL K H b ys ∧ (xs.length ≤ i ∨ ys.length ≤ i)⟩
def iZip (K : PySem.W.Frag) (ta : TA) : TI := fun σ H R => ta σ H fun vs H1 => ∃ a b xs ys, vs = [.ref a, .ref b] ∧ SqL K H1 a xs ∧ SqL K H1 b ys ∧ R (Itz K a b) H1
end L2

section 
namespace Bits
open PySem PyProof.Rows

end Bits
end 

section 
namespace TL
open PySem PySem.Builtin PySem.Builtin.Str PySem.StrLaws

end TL
end 

namespace L2
open PySem PySem.Spec PyProof.Rows

section
variable {X : Cx} {pins : List (Addr × Obj)} {σ : St} {H : Hp} {s : Shared} {Q : VK}
end

section
variable {X : Cx}

end

section
variable {X : Cx} {o e : Expr} {to te : TE}
end
end L2

namespace L2
open PySem PySem.Spec PyProof.Rows

section
variable {X : Cx}
end

end L2

namespace Att
open PySem PySem.W PySem.Calls PyProof.Rows

/-! ### the script -/
theorem ints_of_wellAll {P : Params} {h : Heap} : ∀ (ns : List Int) (vs : List Value), WellAll P h vs (ns.map WData.int) → IntsAre vs ns := by
  intro ns
  induction ns with
  | nil =>
    intro vs w
    rw [List.map_nil] at w
    cases w
    exact .nil
  | cons n ns ih =>
    intro vs w
    rw [List.map_cons] at w
    cases w with
    | cons a b =>
      cases a
      exact .cons _ _ (ih _ b)

/-! ### rules over ANY heap (no ledger) from facts about the written part K: the library's own take a ledger (News) for what they write -/
section
variable {prog : Program} {w : World} {A : Around} {E : Value → Shared → Prop} {s : Shared} {K : Frag}

end
end Att

namespace L2
open PySem PySem.Spec PyProof.Rows

theorem vals_ints : ∀ {vs : List Value} {ns : List Int}, IntsAre vs ns → Vals (ns.map V.int) vs
  | _, _, .nil => .nil
  | _, _, .cons n t h => .cons ⟨t, rfl⟩ (vals_ints h)

end L2

namespace L2
open PySem PySem.Spec PyProof.Rows

end L2


/-! SHORT WORDS over the layer: a def of the text, its body, what a loop and a test want. -/
namespace L2
open PySem PySem.Spec PyProof.Rows

def defArgs (s : Stmt) : Arguments := match s with
  | .FunctionDef _ a _ _ _ _ _ _ _ _ => a
  | _ => { posonlyargs := [], args := [], vararg := none, kwonlyargs := [], kw_defaults := [], kwarg := none, defaults := [] }
def defBody (s : Stmt) : List Stmt := match s with
  | .FunctionDef _ _ b _ _ _ _ _ _ _ => b
  | _ => []
def defScope (s : Stmt) : Scope := match s with
  | .FunctionDef _ _ _ _ _ _ sc _ _ _ => sc
  | _ => { kind := .function, names := [], isGenerator := false, isCoroutine := false }

/-! ### no exception leaves a def -/
abbrev CX0 : CXT := fun _ _ _ _ _ _ => False
abbrev E0 : XK := fun _ _ _ => False
theorem pass0 {X : Cx} : Passes CX0 X E0 := fun _ _ _ _ _ _ _ h => h.elim

/-! ### a def (or method) of the text as it stands behind the top -/
structure Fun (K : PySem.W.Frag) (x qual : Str) (st : Stmt) (f : Addr) (fd : FuncData) : Prop where
  ex : ∃ (oc : Value) (od : Option Addr) (kV doc pm : Value) (an : Option Addr) (cdv ct : Value) (osl : Array (Option Value)),
    fd = PySem.W.fnOf x qual (defArgs st) (defBody st) (defScope st) .none kV doc pm an cdv ct ∧ K.lookup f = some ⟨oc, od, .func fd, osl⟩ ∧ PySem.W.codeIn K cdv qual = true
  kp : PySem.W.keepIn K (.ref f) = true
section
variable {P : Program} {w : World} {K : PySem.W.Frag} {mg : Str → Option Value} {base : Heap}
/-- THE RULE for a def: its body as a term of rules, and the reading of that term -/
theorem Fun.ok {x qual : Str} {st : Stmt} {f : Addr} {fd : FuncData} {N ps : List Str} {k : Nat} {sp : Sp} (F : Fun K x qual st f fd) (S : FnScope N ps (defScope st)) (len : ∀ vs H Q E, sp vs H Q E → vs.length = ps.length)
    (hbody : ∀ (cdv : Value) (A : Around) (outer : List Env) (s : Shared) (H : Hp) (vs : List V) (Q : VK) (E : XK), Room k (A.deeper (envOfC qual (defScope st) s.heap.objs.size f cdv)) → sp vs H Q E →
      ∃ t, PSs (cxOf CX0 P w K mg base N qual (defScope st) f cdv A outer s H E).nox (defBody st) t ∧ t { nx := fun _ H' => Q .non H', rt := Q } (start N vs) H) : FnOk P w K mg base CX0 (k + 1) f fd ps sp := by
  obtain ⟨oc, od, kV, doc, pm, an, cdv, ct, osl, rfl, lk, hcd⟩ := F.ex
  refine fn_of lk hcd S len fun A outer s H vs Q E hr hsp => ?_
  obtain ⟨t, h, q⟩ := hbody cdv A outer s H vs Q E hr hsp
  exact ⟨t, h.nox, q⟩
/-- how its arguments bind (no defaults): h is «fun _ _ _ _ _ _ us hl => match us, hl with | [_, _], _ => rfl», one _ a parameter -/
theorem Fun.binds {x qual : Str} {st : Stmt} {f : Addr} {fd : FuncData} {ps : List Str} (F : Fun K x qual st f fd)
    (h : ∀ (kV doc pm : Value) (an : Option Addr) (cdv ct : Value) (us : List Value), us.length = ps.length → bindArgs (PySem.W.fnOf x qual (defArgs st) (defBody st) (defScope st) .none kV doc pm an cdv ct) ⟨us, []⟩ = pure (ps.zip us)) : Binds K fd ps [] := by
  obtain ⟨oc, od, kV, doc, pm, an, cdv, ct, osl, rfl, lk, hcd⟩ := F.ex
  exact .all (h kV doc pm an cdv ct)
theorem fun_mk {x qual : Str} {st : Stmt} {f : Addr} {oc : Value} {od an : Option Addr} {osl : Array (Option Value)} {kV doc pm cdv ct : Value} (l : K.lookup f = some ⟨oc, od, .func (PySem.W.fnOf x qual (defArgs st) (defBody st) (defScope st) .none kV doc pm an cdv ct), osl⟩)
    (c : PySem.W.codeIn K cdv qual = true) (k : PySem.W.keepIn K (.ref f) = true) : Fun K x qual st f (PySem.W.fnOf x qual (defArgs st) (defBody st) (defScope st) .none kV doc pm an cdv ct) := ⟨⟨oc, od, kV, doc, pm, an, cdv, ct, osl, rfl, l, c⟩, k⟩
end
/-! ### expressions in short: the name that stands in the i-th slot -/
section
variable {X : Cx}
theorem pv (i : Nat) {x : Str} {pos : Pos} (hN : X.N[i]? = some x := by rfl) (hv : Vis X.env.scope x := by first | exact Or.inl rfl | exact Or.inr (Or.inl rfl) | exact Or.inr (Or.inr rfl)) (hd : (x == ("__debug__" : Str)) = false := by decide)
    (hcd : (x == ("__classdict__" : Str)) = false := by decide) : PE X (.Name x pos) (tVar i) := pe_var hN hv hd hcd
end

/-! ### heaps -/
/-- all that was tracked is as it was -/
def Same (H H' : Hp) : Prop := ∀ b o, H b = some o → H' b = some o
theorem Same.refl (H : Hp) : Same H H := fun _ _ h => h
theorem Same.trans {H H1 H2 : Hp} (a : Same H H1) (b : Same H1 H2) : Same H H2 := fun c o h => b c o (a c o h)
theorem Same.free {H H' : Hp} (e : Same H H') {l : Addr} (h : H' l = Option.none) : H l = Option.none := by
  cases q : H l with
  | none => rfl
  | some o =>
    rw [e l o q] at h
    cases h
theorem Same.seq {K : PySem.W.Frag} {H H' : Hp} {a : Addr} {xs : List V} (e : Same H H') (h : SqL K H a xs) : SqL K H' a xs := by
  rcases h with (h | ⟨o, h⟩) | h
  · exact .inl (.inl (e _ _ h))
  · exact .inl (.inr ⟨o, e _ _ h⟩)
  · exact .inr h

/-! ### a dict's pairs: keys that differ -/
section
variable {κ : Type} [DecidableEq κ]
end
theorem nd_ix {α : Type} {l : List α} (hN : l.Nodup) {i j : Nat} {x : α} (a : l[i]? = some x) (b : l[j]? = some x) : i = j := by
  obtain ⟨h1, e1⟩ := List.getElem?_eq_some_iff.mp a
  obtain ⟨h2, e2⟩ := List.getElem?_eq_some_iff.mp b
  exact (List.getElem_inj hN).mp (e1.trans e2.symm)
end L2
set_option Elab.async false
set_option linter.all false
set_option maxRecDepth 100000
/-! A SPECIFICATION's HEAD over the hand layer: arguments that are whole numbers and lists of whole numbers, an answer that is a list of whole numbers. -/
namespace L2
open PySem PySem.Spec PyProof.Rows

structure Ls where
  a : Addr
  vs : List Value
  ns : List Int
def Ls.obj (x : Ls) : Obj := { cls := .type "list", data := .seq x.vs.toArray }
structure Ls.Ok (h : Heap) (x : Ls) : Prop where
  here : h.get? x.a = some x.obj
  whole : IntsAre x.vs x.ns
  len : x.ns.length ≤ sizeLine
def lsH (K : PySem.W.Frag) (L : List Ls) : Hp := fun b => (L.find? fun x => decide (x.a = b) && (K.lookup b).isNone).map fun x => HO.frz x.obj (.lst (x.ns.map V.int))
theorem lsH_inv {K : PySem.W.Frag} {L : List Ls} {b : Addr} {u : HO} (h : lsH K L b = some u) : ∃ x, x ∈ L ∧ x.a = b ∧ K.lookup b = none ∧ u = HO.frz x.obj (.lst (x.ns.map V.int)) := by
  unfold lsH at h
  cases e : L.find? fun x => decide (x.a = b) && (K.lookup b).isNone with
  | none => rw [e] at h; cases h
  | some x =>
    rw [e] at h
    have q := List.find?_some e
    have m := List.mem_of_find?_eq_some e
    simp only [Bool.and_eq_true, decide_eq_true_eq] at q
    refine ⟨x, m, q.1, ?_, (Option.some.inj h).symm⟩
    cases r : K.lookup b with
    | none => rfl
    | some o =>
      have q2 := q.2
      rw [r] at q2
      cases q2
theorem IntsAre_fun : ∀ {vs : List Value} {ns ms : List Int}, IntsAre vs ns → IntsAre vs ms → ns = ms
  | _, _, _, .nil, .nil => rfl
  | _, _, _, .cons n t h, .cons _ _ k => by rw [IntsAre_fun h k]
theorem Ls.same {h : Heap} {x y : Ls} (a : x.Ok h) (b : y.Ok h) (e : x.a = y.a) : x.vs = y.vs ∧ x.ns = y.ns := by
  have h1 := a.here
  have h2 := b.here
  rw [e, h2] at h1
  have h3 := Option.some.inj h1
  unfold Ls.obj at h3
  have h4 : y.vs.toArray = x.vs.toArray := by
    injection h3 with _ _ h5 _
    injection h5
  have h6 : x.vs = y.vs := by
    have := congrArg Array.toList h4
    simpa using this.symm
  refine ⟨h6, IntsAre_fun a.whole ?_⟩
  rw [h6]
  exact b.whole
theorem lsH_seq {K : PySem.W.Frag} {h : Heap} {L : List Ls} (KX : K.In h) (ok : ∀ x ∈ L, x.Ok h) {x : Ls} (m : x ∈ L) : SqL K (lsH K L) x.a (x.ns.map V.int) := by
  have ox := ok x m
  cases r : K.lookup x.a with
  | some o =>
    have e := KX _ _ r
    rw [ox.here] at e
    cases e
    have rv := vals_ints ox.whole
    refine .inr ⟨_, x.vs.toArray, _, r, rfl, rfl, rfl, ?_, by simpa using rv⟩
    rw [List.size_toArray, ox.whole.length]
    exact ox.len
  | none =>
    refine .inl (.inr ?_)
    unfold lsH
    cases e : L.find? fun y => decide (y.a = x.a) && (K.lookup x.a).isNone with
    | none =>
      have q := List.find?_eq_none.mp e x m
      rw [r] at q
      simp at q
    | some y =>
      have q := List.find?_some e
      have my := List.mem_of_find?_eq_some e
      simp only [Bool.and_eq_true, decide_eq_true_eq] at q
      obtain ⟨e1, e2⟩ := Ls.same (ok y my) ox q.1
      refine ⟨y.obj, ?_⟩
      show some (HO.frz y.obj (.lst (y.ns.map V.int))) = _
      rw [e2]
theorem lsH_ok {P : Program} {w : World} {K : PySem.W.Frag} {h : Heap} {L : List Ls} (ok : ∀ x ∈ L, x.Ok h) : HOk P w (lsH K L) h := by
  intro a o e
  obtain ⟨x, m, rfl, _, rfl⟩ := lsH_inv e
  have ox := ok x m
  exact ⟨ox.here, by rw [List.length_map]; exact ox.len, x.vs, _, vals_ints ox.whole, ox.here⟩
theorem ints_vals : ∀ {vs : List Value} {ns : List Int}, Vals (ns.map V.int) vs → IntsAre vs ns
  | [], [], _ => .nil
  | u :: us, n :: ns, h => by
    cases h with
    | cons r t =>
      obtain ⟨t', rfl⟩ := r
      exact .cons n t' (ints_vals t)

theorem spec_call {P : Program} {w : World} {K : PySem.W.Frag} {mg mb : Str → Option Value} {k : Nat} {fa : Addr} {fd : FuncData} {ps : List Str} {sp : Sp} {s₁ : Shared} {L : List Ls} {us : List Value} {vs : List V} {R : List Int}
    (KX : K.In s₁.heap) (hns : s₁.heap.Ns mainGlobals mg) (hb : s₁.heap.Ns builtinsNs mb) (hbb : ∀ x : Str, x ≠ "__name__" → mb x = bootBuiltins x) (hlim : s₁.heap.NoLimit) (hg : s₁.gens = #[])
    (hL : ∀ x ∈ L, x.Ok s₁.heap) (hr : Room k callerA)
    (F : ∀ base : Heap, K.In base → base.Ns mainGlobals mg → FnOk P w K mg base CX0 k fa fd ps sp) (hbind : ∀ (s : Shared), BindsTo s fd ⟨us, []⟩ (ps.zip us)) (hv : Vals vs us)
    (hsp : ∀ H : Hp, (∀ x ∈ L, SqL K H x.a (x.ns.map V.int)) → sp vs H (fun v H' => ∃ p, v = .ref p ∧ H' p = some (.lst (R.map V.int))) E0) :
    codeAny (model P w) callerA (.call (.ref fa) ⟨us, []⟩) (fun r s' => (∃ (p : Addr) (its : List Value) (n : Nat), r = .ok (.ret (.ref p)) ∧ s'.heap.get? p = some { cls := .type "list", data := .seq its.toArray n } ∧ IntsAre its R) ∧
      OldK s₁.heap s'.heap ∧ s'.os = s₁.os ∧ AllBare s'.gens) s₁ := by
  have hok : HOk P w (lsH K L) s₁.heap := lsH_ok hL
  have hS : ∀ x ∈ L, SqL K (lsH K L) x.a (x.ns.map V.int) := fun x m => lsH_seq KX hL m
  have base_of : ∀ {b : Addr} {o : Obj}, s₁.heap.get? b = some o → lsH K L b = none → (hidT s₁.heap (lsH K L)).get? b = some o := fun e n => hidT_get e n
  have noA : ∀ {b : Addr} {o : Obj} {es : Array DictEntry} {ep : Nat}, s₁.heap.get? b = some o → o.data = .dict es ep → lsH K L b = none := fun {b o es ep} e d => by
    cases q : lsH K L b with
    | none => rfl
    | some u =>
      obtain ⟨x, m, rfl, _, _⟩ := lsH_inv q
      have := (hL x m).here
      rw [this] at e
      cases e
      have d' : Data.seq x.vs.toArray _ = Data.dict es ep := d
      cases d'
  have nsK : ∀ {b : Addr} {m : Str → Option Value}, s₁.heap.Ns b m → (hidT s₁.heap (lsH K L)).Ns b m := fun {b m} ⟨o, es, ep, e, d, r⟩ => ⟨o, es, ep, base_of e (noA e d), d, r⟩
  have hKb : K.In (hidT s₁.heap (lsH K L)) := fun b o e => base_of (KX b o e) (by
    cases q : lsH K L b with
    | none => rfl
    | some u =>
      obtain ⟨x, m, _, z, _⟩ := lsH_inv q
      rw [z] at e
      cases e)
  have hM : Mod K mg (hidT s₁.heap (lsH K L)) := ⟨hKb, nsK hns, ⟨mb, nsK hb, hbb⟩, let ⟨mc, h1, h2⟩ := hlim; ⟨mc, nsK h1, h2⟩⟩
  have e0 : Env0 P w K mg (hidT s₁.heap (lsH K L)) callerA [] s₁ (lsH K L) := ⟨rfl, hM, fun b o e => of_hidT e, Nat.le_of_eq (hidT_size _ _), trivial, fun b hb => absurd (show b ∈ ([] : List Addr) from hb) (by simp), hok, .of_eq hg⟩
  refine codeAny_mono ((F _ hKb (nsK hns)).run callerA [] s₁ (lsH K L) ⟨us, []⟩ us vs _ _ hr e0 (hbind s₁) hv (hsp _ hS)) fun r s' h => ?_
  cases r with
  | error e => exact False.elim h
  | ok fl =>
    cases fl with
    | next => exact False.elim h
    | brk => exact False.elim h
    | cont => exact False.elim h
    | ret u =>
      obtain ⟨v, H', os, bare, un, hok', r', q⟩ := h
      obtain ⟨p, rfl, hp⟩ := q
      obtain rfl : u = Value.ref p := r'
      obtain ⟨z, its, n, rv, e⟩ := hok' p _ hp
      refine ⟨⟨p, its, n, rfl, e, ints_vals rv⟩, OldK.of_keep fun b o e => ?_, os, bare⟩
      cases q : lsH K L b with
      | none => exact un.keep b o e q (by intro z; exact absurd (show b ∈ ([] : List Addr) from z) (by simp)) (by simp)
      | some u =>
        obtain ⟨x, m, rfl, _, rfl⟩ := lsH_inv q
        have z2 := un.frzs _ _ _ q
        obtain ⟨e2, _⟩ := hok' _ _ z2
        rw [(hL x m).here] at e
        cases e
        exact e2

theorem spec_walk {r : PySem.W.OpenSpec} {k : Nat} {q : Program} {loose : List Str} {XP : (Str → Option Value) → Heap → Prop} {YP : World → Heap → Prop} {d : DefRec} {K : Params → PySem.W.Frag} {sp : PySem.W.Frag → Sp} {ps : List Str} {answer : PySem.W.Codec.denoteAll r.args → List Int}
    (said : r.wellSaid = true) (hdf : d.params.defaults = []) (hr : Room k callerA)
    (hans : ∀ x, r.ret.enc (PySem.W.Codec.app r.args r.f x) = PySem.W.WData.list ((answer x).map PySem.W.WData.int))
    (hY : ∀ (w : World) (h : Heap), YP w h → (K w.params).In h)
    (F : ∀ (w : World) (mg : Str → Option Value) (fa : Addr) (h : Heap), (K w.params).In h → h.Ns mainGlobals mg → mg d.name = some (.ref fa) →
      ∃ fd : FuncData, (∀ (s : Shared) (us : List Value), us.length = ps.length → BindsTo s fd ⟨us, []⟩ (ps.zip us)) ∧
        ∀ base : Heap, (K w.params).In base → base.Ns mainGlobals mg → FnOk r.prog w (K w.params) mg base CX0 k fa fd ps (sp (K w.params)))
    (hargs : ∀ (P : Params) (h : Heap) (vals : List Value) (x : PySem.W.Codec.denoteAll r.args), PySem.W.Codec.withinAll r.args x = true → PySem.W.WellAll P h vals (PySem.W.Codec.encAll r.args x) →
      ∃ (L : List Ls) (vs : List V), (∀ y ∈ L, y.Ok h) ∧ Vals vs vals ∧ vals.length = ps.length ∧
        ∀ (K : PySem.W.Frag) (H : Hp), (∀ y ∈ L, SqL K H y.a (y.ns.map V.int)) → sp K vs H (fun v H' => ∃ p, v = .ref p ∧ H' p = some (.lst ((answer x).map V.int))) E0) :
    PySem.W.WalkOS q loose XP YP r d [] (fun f vs => PySem.call f vs) := by
  intro w s₀ s₁ mg mb G Y fa o pm cd doc dV kV ho hd hcd hD hmg hg args vals as hpre hlay hrd hwl hlo
  obtain rfl : dV = .none := PySem.W.Dflts.none hD hdf
  obtain rfl : kV = .none := PySem.W.Dflts.noKw hD
  obtain ⟨x, hx, hask, rfl⟩ := (PySem.W.OpenSpec.pre_iff said args).mp hpre
  obtain ⟨L, vs, hL, hv, hlen, hsp⟩ := hargs w.params s₁.heap vals x hx hwl
  have KX := hY w _ Y
  obtain ⟨fd, hb, hF⟩ := F w mg fa _ KX G.T.g hmg
  refine PySem.W.enter_call (codeAny_mono (spec_call (R := answer x) KX G.T.g G.T.b G.T.builtins G.T.nolimit hg hL hr hF (fun s => hb s vals hlen) hv (fun H hS => hsp _ H hS)) fun r' s' hq => ?_)
  obtain ⟨⟨p, its, n, rfl, e1, e2⟩, h2, h3, h4⟩ := hq
  refine ⟨.inl ⟨.ref p, .list (PySem.W.ofPys ((answer x).map PyData.int)), [p], rfl, fun _ => rfl, .list e1 rfl rfl ?_, ?_, fun z => absurd z Bool.false_ne_true⟩, h2, h3, h4⟩
  · have z := PySem.W.readsAllW_ints (R := r.claim.records) (cl := classAt s₀.heap) (h := s'.heap) e2
    simpa using z
  · refine (PySem.W.OpenSpec.post_iff said hx _ _).mpr ?_
    rw [hans, PySem.W.ofPys_ints]

/-! what the arguments are -/
open PySem.W in
theorem well_int {P : Params} {h : Heap} {v : Value} {n : Int} (w : Well P h v (.int n)) : RelV (.int n) v := by
  cases w with
  | int i t => exact ⟨t, rfl⟩
open PySem.W in
theorem well_list {P : Params} {h : Heap} {v : Value} {a : List Int} (hl : a.length ≤ sizeLine) (w : Well P h v (.list (a.map WData.int))) : ∃ x : Ls, x.Ok h ∧ x.ns = a ∧ v = .ref x.a := by
  cases w with
  | list ho hall => exact ⟨⟨_, _, a⟩, ⟨ho, Att.ints_of_wellAll a _ hall, hl⟩, rfl, rfl⟩
open PySem.W in
theorem inList_of {m : Nat} {lo hi : Int} {a : List Int} (h : Codec.inList 0 m (Codec.inInt lo hi) a = true) : a.length ≤ m ∧ ∀ z ∈ a, lo ≤ z ∧ z ≤ hi := by
  have k := Codec.and_of (show (Codec.inLen 0 m a && a.all (Codec.inInt lo hi)) = true from h)
  refine ⟨(Codec.inNat_iff.mp (show Codec.inNat 0 m a.length = true from k.1)).2, fun z hz => ?_⟩
  exact Codec.inInt_iff.mp (List.all_eq_true.mp k.2 z hz)
/-- the answer that is due -/
abbrev Due (R : List Int) : VK := fun v H' => ∃ p, v = .ref p ∧ H' p = some (.lst (R.map V.int))
open PySem.W in
theorem args_nl {lo hi lo2 hi2 : Int} {m : Nat} (hm : m ≤ sizeLine) {ps : List Str} (hps : ps.length = 2) {sp : Frag → Sp} {answer : Int → List Int → List Int}
    (hsp : ∀ (K : Frag) (H : Hp) (n : Int) (p : Addr) (a : List Int), lo ≤ n → n ≤ hi → a.length ≤ m → (∀ z ∈ a, lo2 ≤ z ∧ z ≤ hi2) → SqL K H p (a.map V.int) → sp K [.int n, .ref p] H (Due (answer n a)) E0)
    (P : Params) (h : Heap) (vals : List Value) (x : Codec.denoteAll [.int lo hi, .list 0 m (.int lo2 hi2)]) (hx : Codec.withinAll [.int lo hi, .list 0 m (.int lo2 hi2)] x = true) (hw : WellAll P h vals (Codec.encAll [.int lo hi, .list 0 m (.int lo2 hi2)] x)) :
    ∃ (L : List Ls) (vs : List V), (∀ y ∈ L, y.Ok h) ∧ Vals vs vals ∧ vals.length = ps.length ∧
        ∀ (K : Frag) (H : Hp), (∀ y ∈ L, SqL K H y.a (y.ns.map V.int)) → sp K vs H (Due (answer x.1 x.2.1)) E0 := by
  obtain ⟨n, a, u⟩ := x
  have h1 := Codec.and_of (show (Codec.inInt lo hi n && (Codec.inList 0 m (Codec.inInt lo2 hi2) a && true)) = true from hx)
  have h2 := Codec.inInt_iff.mp h1.1
  have h3 := inList_of (Codec.and_of h1.2).1
  have hw' : WellAll P h vals [.int n, .list (a.map WData.int)] := hw
  cases hw' with
  | cons w1 w2 =>
    cases w2 with
    | cons w2 w3 =>
      cases w3
      have r1 := well_int w1
      obtain ⟨y, oy, rfl, rfl⟩ := well_list (Nat.le_trans h3.1 hm) w2
      refine ⟨[y], [.int n, .ref y.a], fun z hz => ?_, .cons r1 (.cons rfl .nil), by rw [hps]; rfl, fun K H hS => ?_⟩
      · obtain rfl : z = y := List.mem_singleton.mp hz
        exact oy
      · exact hsp K H n y.a y.ns h2.1 h2.2 h3.1 h3.2 (hS y (List.mem_singleton.mpr rfl))
open PySem.W in
theorem args_nnl {lo hi lo1 hi1 lo2 hi2 : Int} {m : Nat} (hm : m ≤ sizeLine) {ps : List Str} (hps : ps.length = 3) {sp : Frag → Sp} {answer : Int → Int → List Int → List Int}
    (hsp : ∀ (K : Frag) (H : Hp) (n t : Int) (p : Addr) (a : List Int), lo ≤ n → n ≤ hi → lo1 ≤ t → t ≤ hi1 → a.length ≤ m → (∀ z ∈ a, lo2 ≤ z ∧ z ≤ hi2) → SqL K H p (a.map V.int) → sp K [.int n, .int t, .ref p] H (Due (answer n t a)) E0)
    (P : Params) (h : Heap) (vals : List Value) (x : Codec.denoteAll [.int lo hi, .int lo1 hi1, .list 0 m (.int lo2 hi2)]) (hx : Codec.withinAll [.int lo hi, .int lo1 hi1, .list 0 m (.int lo2 hi2)] x = true) (hw : WellAll P h vals (Codec.encAll [.int lo hi, .int lo1 hi1, .list 0 m (.int lo2 hi2)] x)) :
    ∃ (L : List Ls) (vs : List V), (∀ y ∈ L, y.Ok h) ∧ Vals vs vals ∧ vals.length = ps.length ∧
        ∀ (K : Frag) (H : Hp), (∀ y ∈ L, SqL K H y.a (y.ns.map V.int)) → sp K vs H (Due (answer x.1 x.2.1 x.2.2.1)) E0 := by
  obtain ⟨n, t, a, u⟩ := x
  have h1 := Codec.and_of (show (Codec.inInt lo hi n && (Codec.inInt lo1 hi1 t && (Codec.inList 0 m (Codec.inInt lo2 hi2) a && true))) = true from hx)
  have h2 := Codec.inInt_iff.mp h1.1
  have h1' := Codec.and_of h1.2
  have h2' := Codec.inInt_iff.mp h1'.1
  have h3 := inList_of (Codec.and_of h1'.2).1
  have hw' : WellAll P h vals [.int n, .int t, .list (a.map WData.int)] := hw
  cases hw' with
  | cons w1 w2 =>
    cases w2 with
    | cons w2 w3 =>
      cases w3 with
      | cons w3 w4 =>
        cases w4
        have r1 := well_int w1
        have r2 := well_int w2
        obtain ⟨y, oy, rfl, rfl⟩ := well_list (Nat.le_trans h3.1 hm) w3
        refine ⟨[y], [.int n, .int t, .ref y.a], fun z hz => ?_, .cons r1 (.cons r2 (.cons rfl .nil)), by rw [hps]; rfl, fun K H hS => ?_⟩
        · obtain rfl : z = y := List.mem_singleton.mp hz
          exact oy
        · exact hsp K H n t y.a y.ns h2.1 h2.2 h2'.1 h2'.2 h3.1 h3.2 (hS y (List.mem_singleton.mpr rfl))
open PySem.W in
theorem args_nll {lo hi lo2 hi2 lo3 hi3 : Int} {m m' : Nat} (hm : m ≤ sizeLine) (hm' : m' ≤ sizeLine) {ps : List Str} (hps : ps.length = 3) {sp : Frag → Sp} {answer : Int → List Int → List Int → List Int}
    (hsp : ∀ (K : Frag) (H : Hp) (n : Int) (p q : Addr) (a b : List Int), lo ≤ n → n ≤ hi → a.length ≤ m → (∀ z ∈ a, lo2 ≤ z ∧ z ≤ hi2) → b.length ≤ m' → (∀ z ∈ b, lo3 ≤ z ∧ z ≤ hi3) → SqL K H p (a.map V.int) → SqL K H q (b.map V.int) →
      sp K [.int n, .ref p, .ref q] H (Due (answer n a b)) E0)
    (P : Params) (h : Heap) (vals : List Value) (x : Codec.denoteAll [.int lo hi, .list 0 m (.int lo2 hi2), .list 0 m' (.int lo3 hi3)]) (hx : Codec.withinAll [.int lo hi, .list 0 m (.int lo2 hi2), .list 0 m' (.int lo3 hi3)] x = true)
    (hw : WellAll P h vals (Codec.encAll [.int lo hi, .list 0 m (.int lo2 hi2), .list 0 m' (.int lo3 hi3)] x)) :
    ∃ (L : List Ls) (vs : List V), (∀ y ∈ L, y.Ok h) ∧ Vals vs vals ∧ vals.length = ps.length ∧
        ∀ (K : Frag) (H : Hp), (∀ y ∈ L, SqL K H y.a (y.ns.map V.int)) → sp K vs H (Due (answer x.1 x.2.1 x.2.2.1)) E0 := by
  obtain ⟨n, a, b, u⟩ := x
  have h1 := Codec.and_of (show (Codec.inInt lo hi n && (Codec.inList 0 m (Codec.inInt lo2 hi2) a && (Codec.inList 0 m' (Codec.inInt lo3 hi3) b && true))) = true from hx)
  have h2 := Codec.inInt_iff.mp h1.1
  have h1' := Codec.and_of h1.2
  have h3 := inList_of h1'.1
  have h4 := inList_of (Codec.and_of h1'.2).1
  have hw' : WellAll P h vals [.int n, .list (a.map WData.int), .list (b.map WData.int)] := hw
  cases hw' with
  | cons w1 w2 =>
    cases w2 with
    | cons w2 w3 =>
      cases w3 with
      | cons w3 w4 =>
        cases w4
        have r1 := well_int w1
        obtain ⟨y, oy, rfl, rfl⟩ := well_list (Nat.le_trans h3.1 hm) w2
        obtain ⟨z, oz, rfl, rfl⟩ := well_list (Nat.le_trans h4.1 hm') w3
        refine ⟨[y, z], [.int n, .ref y.a, .ref z.a], fun c hc => ?_, .cons r1 (.cons rfl (.cons rfl .nil)), by rw [hps]; rfl, fun K H hS => ?_⟩
        · rcases List.mem_cons.mp hc with rfl | hc
          · exact oy
          · obtain rfl : c = z := List.mem_singleton.mp hc
            exact oz
        · exact hsp K H n y.a z.a y.ns z.ns h2.1 h2.2 h3.1 h3.2 h4.1 h4.2 (hS y (List.mem_cons_self ..)) (hS z (List.mem_cons_of_mem _ (List.mem_singleton.mpr rfl)))

/-! more rules: range objects, list(range(..)), a for over enumerate -/
section
variable {X : Cx}
theorem call_range1 : CallR X (.type "range") (fun xs H Q => ∃ j : Int, xs = [.int j] ∧ ∀ r, H r = none → Q (.ref r) (upd H r (.rng 0 j))) := by
  intro pins s σ H xs us Q I r h
  obtain ⟨j, rfl, q⟩ := h
  obtain ⟨u, rfl, rx⟩ := vals1 r
  obtain ⟨t, rfl⟩ := rx
  refine call_range_1 ?_
  exact ⟨.ref s.heap.objs.size, _, I.laid (fun b o e => Heap.get?_push_of_some _ e) (Nat.le_refl _) (show ObjOk X.prog X.w _ _ _ (.rng 0 j) from ⟨_, _, _, Heap.get?_push_size _ rfl⟩), rfl, q _ I.fresh⟩
theorem items_vals {lo : Int} {n : Nat} {acc : Array Value} (h : ItemsOf (fun i v => ∃ t, v = .int (lo + (i : Int) * 1) t) acc n) : Vals ((List.range n).map fun i : Nat => V.int (lo + (i : Int))) acc.toList := by
  obtain ⟨hs, hi⟩ := h
  have key : ∀ (l : List Value) (k : Nat), (∀ (j : Nat) (v : Value), l[j]? = some v → ∃ t, v = Value.int (lo + ((k + j : Nat) : Int)) t) → Vals ((List.range' k l.length).map fun i : Nat => V.int (lo + (i : Int))) l := by
    intro l
    induction l with
    | nil => intro k _; exact .nil
    | cons v l ih =>
      intro k hk
      rw [List.length_cons, List.range'_succ, List.map_cons]
      refine .cons ?_ (ih (k + 1) fun j v' e => ?_)
      · obtain ⟨t, e⟩ := hk 0 v rfl
        exact ⟨t, e⟩
      · obtain ⟨t, e'⟩ := hk (j + 1) v' (by simpa using e)
        refine ⟨t, ?_⟩
        rw [e']
        congr 1 <;> omega
  have e := key acc.toList 0 (fun j v e => by
    obtain ⟨t, e'⟩ := hi j v (by simpa using e)
    refine ⟨t, ?_⟩
    rw [e']
    congr 1 <;> omega)
  rw [show acc.toList.length = n by simpa using hs, ← List.range_eq_range'] at e
  exact e
theorem call_list_rng (hc : X.calm = true) : CallR X (.type "list") (fun xs H Q => ∃ (r : Addr) (lo hi : Int), xs = [.ref r] ∧ H r = some (.rng lo hi) ∧ (-(2 ^ 62) ≤ lo ∧ lo < 2 ^ 62 ∧ -(2 ^ 62) ≤ hi ∧ hi < 2 ^ 62 ∧ (hi - lo).toNat ≤ sizeLine) ∧
    ∀ l, H l = none → Q (.ref l) (upd H l (.lst ((List.range (hi - lo).toNat).map fun i : Nat => V.int (lo + (i : Int)))))) := by
  intro pins s σ H xs us Q I r h
  obtain ⟨a, lo, hi, rfl, hr, ⟨b1, b2, b3, b4, b5⟩, q⟩ := h
  obtain ⟨u, rfl, rx⟩ := vals1 r
  cases rx
  obtain ⟨t, u, v, e⟩ := I.hok a _ hr
  refine call_list_range (I.ok.hd hc) e (small_one b1 b2 b3 b4) (n := (hi - lo).toNat) (by rw [rangeSize_one]; split <;> omega) (Nat.le_trans b5 (by decide)) fun h' tk acc c kp eL hI => ?_
  refine ⟨.ref s.heap.objs.size, _, I.laid kp (Nat.le_refl _) (show ObjOk X.prog X.w _ h' _ (.lst _) from ⟨?_, acc.toList, c, items_vals hI, by simpa using eL⟩), rfl, q _ I.fresh⟩
  rw [List.length_map, List.length_range]
  exact b5
end
theorem for_enum {K : PySem.W.Frag} {a : Addr} {xs : List V} {g : TG} {tb : TS} {D : Ends} {σ : St} {H : Hp} (Pv : Nat → St → Hp → Prop) (h0 : Pv 0 σ H) (hl : ∀ i σ H, i ≤ xs.length → Pv i σ H → SqL K H a xs)
    (hs : ∀ i x σ H T, xs[i]? = some x → Pv i σ H → H T = none → g (.ref T) σ (upd H T (.tup [.int (i : Nat), x])) fun σ2 H2 => tb { D with nx := Pv (i + 1), ct := Pv (i + 1), bk := D.nx } σ2 H2) (hd : ∀ σ H, Pv xs.length σ H → D.nx σ H) :
    ∃ W : Nat → Nat → St → Hp → Prop, (∃ m, W 0 m σ H) ∧ ∀ i m σ H, W i m σ H →
      ((Ite K a).stop i H ∧ D.nx σ H) ∨ ((Ite K a).go i H ∧ ∃ N : St → Hp → Prop, (∀ σ' H', N σ' H' → ∃ m', m' < m ∧ W (i + 1) m' σ' H') ∧ ∀ x H', (Ite K a).yld i H x H' → g x σ H' fun σ2 H2 => tb { D with nx := N, ct := N, bk := D.nx } σ2 H2) := by
  refine ⟨fun i m σ H => m = xs.length - i ∧ i ≤ xs.length ∧ Pv i σ H, ⟨xs.length, by simp, Nat.zero_le _, h0⟩, ?_⟩
  rintro i m σ H ⟨rfl, hi, p⟩
  have q := hl i σ H hi p
  by_cases hlt : i < xs.length
  · refine .inr ⟨⟨xs, xs[i], q, by simp [hlt]⟩, Pv (i + 1), fun σ' H' p' => ⟨xs.length - (i + 1), by omega, rfl, hlt, p'⟩, fun x H' y => ?_⟩
    obtain ⟨T, z, rfl, hT, rfl, y⟩ := y
    exact hs i z σ _ T (y xs q) p hT
  · have e : i = xs.length := by omega
    subst e
    exact .inl ⟨⟨xs, q, Nat.le_refl _⟩, hd σ H p⟩

/-! loops, apart from what they walk -/
def LoopR (g : TG) (tb : TS) (D : Ends) (σ : St) (J : It) (H1 : Hp) : Prop := ∃ W : Nat → Nat → St → Hp → Prop, (∃ m, W 0 m σ H1) ∧ ∀ i m σ H, W i m σ H →
  (J.stop i H ∧ D.nx σ H) ∨ (J.go i H ∧ ∃ N : St → Hp → Prop, (∀ σ' H', N σ' H' → ∃ m', m' < m ∧ W (i + 1) m' σ' H') ∧ ∀ x H', J.yld i H x H' → g x σ H' fun σ2 H2 => tb { D with nx := N, ct := N, bk := D.nx } σ2 H2)
theorem tFor_eq {wi : TI} {g : TG} {tb : TS} {D : Ends} {σ : St} {H : Hp} : tFor wi g tb D σ H = wi σ H (LoopR g tb D σ) := rfl
theorem loop_list {K : PySem.W.Frag} {a : Addr} {xs : List V} {g : TG} {tb : TS} {D : Ends} {σ : St} {H : Hp} (Pv : Nat → St → Hp → Prop) (h0 : Pv 0 σ H) (hl : ∀ i σ H, i ≤ xs.length → Pv i σ H → SqL K H a xs)
    (hs : ∀ i x σ H, xs[i]? = some x → Pv i σ H → g x σ H fun σ2 H2 => tb { D with nx := Pv (i + 1), ct := Pv (i + 1), bk := D.nx } σ2 H2) (hd : ∀ σ H, Pv xs.length σ H → D.nx σ H) :
    LoopR g tb D σ (Itl K a) H := for_list Pv h0 hl hs hd
theorem loop_enum {K : PySem.W.Frag} {a : Addr} {xs : List V} {g : TG} {tb : TS} {D : Ends} {σ : St} {H : Hp} (Pv : Nat → St → Hp → Prop) (h0 : Pv 0 σ H) (hl : ∀ i σ H, i ≤ xs.length → Pv i σ H → SqL K H a xs)
    (hs : ∀ i x σ H T, xs[i]? = some x → Pv i σ H → H T = none → g (.ref T) σ (upd H T (.tup [.int (i : Nat), x])) fun σ2 H2 => tb { D with nx := Pv (i + 1), ct := Pv (i + 1), bk := D.nx } σ2 H2) (hd : ∀ σ H, Pv xs.length σ H → D.nx σ H) :
    LoopR g tb D σ (Ite K a) H := for_enum Pv h0 hl hs hd
theorem loop_range {lo : Int} {n : Nat} {g : TG} {tb : TS} {D : Ends} {σ : St} {H : Hp} (Pv : Nat → St → Hp → Prop) (h0 : Pv 0 σ H)
    (hs : ∀ i σ H, i < n → Pv i σ H → g (.int (lo + i)) σ H fun σ2 H2 => tb { D with nx := Pv (i + 1), ct := Pv (i + 1), bk := D.nx } σ2 H2) (hd : ∀ σ H, Pv n σ H → D.nx σ H) :
    LoopR g tb D σ (Itr lo n) H := for_range Pv h0 hs hd
theorem Same.upd {H H1 : Hp} {a : Addr} {o : HO} (s : Same H H1) (h : H1 a = none) : Same H (upd H1 a o) := s.trans fun b u e => by
  rw [upd_ne (ne_of_none e h)]
  exact e

theorem Same.write {H H1 : Hp} {a : Addr} {o : HO} (s : Same H H1) (h : H a = none) : Same H (L2.upd H1 a o) := fun b u e => by
  rw [upd_ne (ne_of_none e h)]
  exact s b u e
theorem upd_none {H : Hp} {a b : Addr} {o : HO} (h : L2.upd H a o b = none) : b ≠ a ∧ H b = none := by
  by_cases e : b = a
  · subst e
    rw [upd_same] at h
    cases h
  · rw [upd_ne e] at h
    exact ⟨e, h⟩
theorem ixN_of {n : Nat} {i : Int} (h0 : 0 ≤ i) (h : i < n) : ixN n i = some i.toNat := by
  unfold ixN
  rw [if_pos h0, if_pos (by omega)]
theorem atI_int {xs : List Int} {i : Int} (h0 : 0 ≤ i) (h : i < xs.length) : atI (xs.map V.int) i = some (V.int (xs.getD i.toNat 0)) := by
  unfold atI
  rw [List.length_map, ixN_of h0 h]
  show (xs.map V.int)[i.toNat]? = _
  rw [List.getElem?_map, List.getD_eq_getElem?_getD, List.getElem?_eq_getElem (show i.toNat < xs.length by omega)]
  rfl
end L2
set_option linter.all false
/-! THE MATHEMATICS: the program's defs as plain functions, against the specification. -/
namespace Bl
def isAct (n c : Int) : Bool := if c < 64 then decide (c < n) else decide (c - 64 < n - 1)
def oob (n : Int) (a : List Int) : Bool := decide (n < 1) || (decide (32 < n) || decide (512 < (a.length : Int)))
def firstWrong (n : Int) (a : List Int) : Nat := (a.findIdx? fun c => !isAct n c).getD a.length
def refusal (n : Int) (a : List Int) : Int := if oob n a = true then -1 else if firstWrong n a < a.length then -5 else 0
def right (n : Int) (a : List Int) : List Int := if refusal n a = -5 then [-5, (firstWrong n a : Int)] else [refusal n a]
theorem fw_found {p : Int → Bool} : ∀ {a : List Int} {i : Nat} {c : Int}, (∀ j, j < i → ∀ z, a[j]? = some z → p z = true) → a[i]? = some c → p c = false → a.findIdx? (fun c => !p c) = some i
  | [], i, c, h, e, _ => by simp at e
  | x :: a, 0, c, h, e, hc => by
    simp at e
    subst e
    simp [List.findIdx?_cons, hc]
  | x :: a, i + 1, c, h, e, hc => by
    have hx : p x = true := h 0 (by omega) x rfl
    have ih := fw_found (p := p) (a := a) (i := i) (c := c) (fun j hj z ez => h (j + 1) (by omega) z (by simpa using ez)) (by simpa using e) hc
    simp [List.findIdx?_cons, hx, ih]
theorem fw_none {p : Int → Bool} {a : List Int} (h : ∀ j, j < a.length → ∀ z, a[j]? = some z → p z = true) : a.findIdx? (fun c => !p c) = none := by
  rw [List.findIdx?_eq_none_iff]
  intro x hx
  obtain ⟨j, hj, e⟩ := List.getElem_of_mem hx
  rw [h j hj x (by rw [List.getElem?_eq_getElem hj, e])]
  rfl
theorem fw_le (n : Int) (a : List Int) : firstWrong n a ≤ a.length := by
  unfold firstWrong
  cases e : a.findIdx? fun c => !isAct n c with
  | none => exact Nat.le_refl _
  | some i =>
    obtain ⟨h, _⟩ := List.findIdx?_eq_some_iff_getElem.mp e
    exact Nat.le_of_lt h
theorem fw_whole {n : Int} {a : List Int} (h : ¬ firstWrong n a < a.length) : ∀ z ∈ a, isAct n z = true := by
  unfold firstWrong at h
  cases e : a.findIdx? fun c => !isAct n c with
  | none =>
    intro z hz
    have := List.findIdx?_eq_none_iff.mp e z hz
    simpa using this
  | some i =>
    obtain ⟨h', _⟩ := List.findIdx?_eq_some_iff_getElem.mp e
    rw [e] at h
    exact absurd h' h
theorem actOf_none {n c : Int} (hn : 0 ≤ n) (hc : 0 ≤ c) : (Lca.actOf n.toNat c.toNat).isNone = !isAct n c := by
  unfold Lca.actOf isAct
  by_cases h : c < 64
  · have h1 : c.toNat < 64 := by omega
    rw [if_pos h1, if_pos h]
    by_cases h2 : c < n
    · have h3 : c.toNat < n.toNat := by omega
      simp [h2, h3]
    · have h3 : ¬ c.toNat < n.toNat := by omega
      simp [h2, h3]
  · have h1 : ¬ c.toNat < 64 := by omega
    rw [if_neg h1, if_neg h]
    by_cases h2 : c - 64 < n - 1
    · have h3 : c.toNat - 64 + 1 < n.toNat := by omega
      simp [h2, h3]
    · have h3 : ¬ c.toNat - 64 + 1 < n.toNat := by omega
      simp [h2, h3]
theorem find_eq {n : Int} (hn : 0 ≤ n) : ∀ {a : List Int}, (∀ z ∈ a, 0 ≤ z) → ((LcaNeutral.nats a).findIdx? fun c => (Lca.actOf n.toNat c).isNone) = a.findIdx? fun c => !isAct n c
  | [], _ => rfl
  | x :: a, h => by
    have ih := find_eq hn (a := a) (fun z hz => h z (List.mem_cons_of_mem _ hz))
    have hx := actOf_none hn (h x (List.mem_cons_self ..))
    unfold LcaNeutral.nats at ih ⊢
    rw [List.map_cons, List.findIdx?_cons, List.findIdx?_cons, hx, ih]
theorem bad_eq {n : Int} (hn : 0 ≤ n) (a : List Int) : Lca.bad n.toNat (LcaNeutral.nats a) = oob n a := by
  unfold Lca.bad oob LcaNeutral.nats Lca.PAIRS Lca.ACTS
  rw [List.length_map]
  have e1 : decide (n.toNat < 1) = decide (n < 1) := decide_eq_decide.mpr (by omega)
  have e2 : decide (32 < n.toNat) = decide (32 < n) := decide_eq_decide.mpr (by omega)
  have e3 : decide (512 < a.length) = decide (512 < (a.length : Int)) := decide_eq_decide.mpr (by omega)
  rw [e1, e2, e3]
/-- the working that a list of acts is -/
def wk (n : Int) (a : List Int) : Lca.Working := (LcaNeutral.nats a).filterMap (Lca.actOf n.toNat)
theorem workingIn_eq {n : Int} (hn : 0 ≤ n) {a : List Int} (h : ∀ z ∈ a, 0 ≤ z) :
    Lca.workingIn n.toNat (LcaNeutral.nats a) = if firstWrong n a < a.length then Except.error (firstWrong n a) else Except.ok (wk n a) := by
  unfold Lca.workingIn
  rw [find_eq hn h]
  have hf := fw_le n a
  unfold firstWrong at *
  cases e : a.findIdx? fun c => !isAct n c with
  | none => simp [wk]
  | some i =>
    obtain ⟨h', _⟩ := List.findIdx?_eq_some_iff_getElem.mp e
    simp [h']
theorem right_eq {n : Int} {a : List Int} (hn : 0 ≤ n) (h : ∀ z ∈ a, 0 ≤ z) : PyWqamcg.right n a = right n a := by
  show LcaNeutral.shown (Lca.answer (.right n.toNat (LcaNeutral.nats a))) = _
  unfold Lca.answer
  simp only [bad_eq hn, workingIn_eq hn h]
  unfold right refusal
  by_cases h1 : oob n a = true
  · simp [h1, LcaNeutral.shown]
  · by_cases h2 : firstWrong n a < a.length
    · simp [h1, h2, LcaNeutral.shown]
    · simp [h1, h2, LcaNeutral.shown]
/-- one list: refused, or f of the working -/
theorem one_eq {n : Int} {a : List Int} (hn : 0 ≤ n) (h : ∀ z ∈ a, 0 ≤ z) (f : Lca.Working → Lca.Answer) :
    LcaNeutral.shown (Lca.one n.toNat (LcaNeutral.nats a) f) = if refusal n a = 0 then LcaNeutral.shown (f (wk n a)) else [refusal n a] := by
  unfold Lca.one
  rw [bad_eq hn, workingIn_eq hn h]
  unfold refusal
  by_cases h1 : oob n a = true
  · simp [h1, LcaNeutral.shown]
  · by_cases h2 : firstWrong n a < a.length
    · simp [h1, h2, LcaNeutral.shown]
    · simp [h1, h2, LcaNeutral.shown]
theorem refusal_0 {n : Int} {a : List Int} (h : refusal n a = 0) : 1 ≤ n ∧ n ≤ 32 ∧ a.length ≤ 512 ∧ ∀ z ∈ a, isAct n z = true := by
  unfold refusal at h
  by_cases h1 : oob n a = true
  · simp [h1] at h
  · rw [if_neg h1] at h
    by_cases h2 : firstWrong n a < a.length
    · simp [h2] at h
    · unfold oob at h1
      simp at h1
      exact ⟨h1.1, h1.2.1, by omega, fw_whole h2⟩
end Bl
namespace Bl
/-! ### the ends -/
def leftPlace (c : Int) : Int := if c < 64 then 2 * c else 2 * (c - 64) + 1
/-- two neighbours change places, among whole numbers -/
def swapI (r : List Int) (p : Nat) : List Int := (r.set p (r.getD (p + 1) 0)).set (p + 1) (r.getD p 0)
def threadsBehind (n : Int) (a : List Int) : List Int := a.foldl (fun r c => swapI r (leftPlace c).toNat) ((List.range (2 * n).toNat).map fun i : Nat => (0 : Int) + (i : Int))
theorem act_place {n c : Int} (h0 : 0 ≤ c) (h : isAct n c = true) : ∃ x, Lca.actOf n.toNat c.toNat = some x ∧ ((x.place : Nat) : Int) = leftPlace c ∧ x.place + 1 < 2 * n.toNat ∧ ((x.code : Nat) : Int) = c := by
  unfold isAct at h
  unfold Lca.actOf leftPlace
  by_cases hc : c < 64
  · rw [if_pos hc] at h
    have h1 : c.toNat < 64 := by omega
    have h2 : c < n := of_decide_eq_true h
    have h3 : c.toNat < n.toNat := by omega
    refine ⟨.twist c.toNat, by rw [if_pos h1, if_pos h3], ?_, ?_, ?_⟩
    · rw [if_pos hc]
      show ((2 * c.toNat : Nat) : Int) = _
      omega
    · show 2 * c.toNat + 1 < _
      omega
    · show ((c.toNat : Nat) : Int) = c
      omega
  · rw [if_neg hc] at h
    have h1 : ¬ c.toNat < 64 := by omega
    have h2 : c - 64 < n - 1 := of_decide_eq_true h
    have h3 : c.toNat - 64 + 1 < n.toNat := by omega
    refine ⟨.cross (c.toNat - 64), by rw [if_neg h1, if_pos h3], ?_, ?_, ?_⟩
    · rw [if_neg hc]
      show ((2 * (c.toNat - 64) + 1 : Nat) : Int) = _
      omega
    · show 2 * (c.toNat - 64) + 1 + 1 < _
      omega
    · show ((64 + (c.toNat - 64) : Nat) : Int) = c
      omega
theorem wk_nil (n : Int) : wk n [] = [] := rfl
theorem wk_cons {n c : Int} {a : List Int} {x : Lca.Act} (h : Lca.actOf n.toNat c.toNat = some x) : wk n (c :: a) = x :: wk n a := by
  unfold wk LcaNeutral.nats
  rw [List.map_cons, List.filterMap_cons, h]
def castL (l : List Nat) : List Int := l.map fun (i : Nat) => (i : Int)
theorem castL_getD (l : List Nat) (i : Nat) : (castL l).getD i 0 = ((l.getD i 0 : Nat) : Int) := by
  unfold castL
  rw [List.getD_eq_getElem?_getD, List.getD_eq_getElem?_getD, List.getElem?_map]
  cases l[i]? <;> rfl
theorem castL_set (l : List Nat) (i v : Nat) : castL (l.set i v) = (castL l).set i (v : Int) := by
  unfold castL
  rw [List.map_set]
theorem swap_cast (r : List Nat) (p : Nat) : swapI (castL r) p = castL (Lca.exchanged r p) := by
  unfold swapI Lca.exchanged
  rw [castL_set, castL_set, castL_getD, castL_getD]
theorem threads_eq {n : Int} (hn : 0 ≤ n) {a : List Int} (h0 : ∀ z ∈ a, 0 ≤ z) (h : ∀ z ∈ a, isAct n z = true) : threadsBehind n a = castL (Lca.endOf n.toNat (wk n a)) := by
  have key : ∀ (a : List Int), (∀ z ∈ a, 0 ≤ z) → (∀ z ∈ a, isAct n z = true) → ∀ r : List Nat, a.foldl (fun r c => swapI r (leftPlace c).toNat) (castL r) = castL ((wk n a).foldl (fun (r : Lca.Rows) (x : Lca.Act) => x.does r) r) := by
    intro a
    induction a with
    | nil => intro _ _ r; rfl
    | cons c a ih =>
      intro h0 h r
      obtain ⟨x, e1, e2, _, _⟩ := act_place (h0 c (List.mem_cons_self ..)) (h c (List.mem_cons_self ..))
      rw [wk_cons e1, List.foldl_cons, List.foldl_cons]
      have e3 : (leftPlace c).toNat = x.place := by omega
      rw [e3, swap_cast]
      exact ih (fun z hz => h0 z (List.mem_cons_of_mem _ hz)) (fun z hz => h z (List.mem_cons_of_mem _ hz)) _
  unfold threadsBehind Lca.endOf
  have e : ((List.range (2 * n).toNat).map fun i : Nat => (0 : Int) + (i : Int)) = castL (List.range (2 * n.toNat)) := by
    unfold castL
    have e1 : (2 * n).toNat = 2 * n.toNat := by omega
    rw [e1]
    refine List.map_congr_left fun i _ => ?_
    omega
  rw [e]
  exact key a h0 h _
def ends (n : Int) (a : List Int) : List Int := if refusal n a = 0 then 0 :: threadsBehind n a else [refusal n a]
theorem ends_eq {n : Int} {a : List Int} (hn : 0 ≤ n) (h : ∀ z ∈ a, 0 ≤ z) : PyWqamcg.ends n a = ends n a := by
  show LcaNeutral.shown (Lca.one n.toNat (LcaNeutral.nats a) fun w => .told (Lca.endOf n.toNat w)) = _
  rw [one_eq hn h]
  unfold ends
  by_cases h1 : refusal n a = 0
  · rw [if_pos h1, if_pos h1, threads_eq hn h (refusal_0 h1).2.2.2]
    rfl
  · rw [if_neg h1, if_neg h1]
theorem swapI_length (r : List Int) (p : Nat) : (swapI r p).length = r.length := by
  unfold swapI
  rw [List.length_set, List.length_set]
theorem threads_length (n : Int) (a : List Int) : (threadsBehind n a).length = (2 * n).toNat := by
  unfold threadsBehind
  have key : ∀ (a r : List Int), (a.foldl (fun r c => swapI r (leftPlace c).toNat) r).length = r.length := by
    intro a
    induction a with
    | nil => intro r; rfl
    | cons c a ih => intro r; rw [List.foldl_cons, ih, swapI_length]
  rw [key, List.length_map, List.length_range]
theorem leftPlace_ok {n c : Int} (h0 : 0 ≤ c) (h : isAct n c = true) : 0 ≤ leftPlace c ∧ leftPlace c + 1 < 2 * n := by
  obtain ⟨x, _, e2, e3, _⟩ := act_place h0 h
  omega
end Bl
namespace Bl
theorem take_one {α : Type} {a : List α} {i : Nat} {z : α} (h : a[i]? = some z) : a.take (i + 1) = a.take i ++ [z] := by
  rw [List.take_succ, h]
  rfl
theorem threads_step {n z : Int} {a : List Int} {i : Nat} (h : a[i]? = some z) : threadsBehind n (a.take (i + 1)) = swapI (threadsBehind n (a.take i)) (leftPlace z).toNat := by
  unfold threadsBehind
  rw [take_one h, List.foldl_append, List.foldl_cons, List.foldl_nil]
end Bl
set_option linter.all false
/-! LACES: lawful changes, an act taken from the front, what's left, the form, the common beginning. -/
namespace Bl
open Lca
theorem touch_comm (x y : Act) : touch x y = touch y x := by
  unfold touch
  rw [Bool.eq_iff_iff]
  simp only [Bool.or_eq_true, beq_iff_eq]
  omega
theorem touch_self (x : Act) : touch x x = true := by
  unfold touch
  simp
/-- lawful changes lead from one to the other -/
inductive Lc : Working → Working → Prop
  | refl (w : Working) : Lc w w
  | swap (x y : Act) (w : Working) : touch x y = false → Lc (x :: y :: w) (y :: x :: w)
  | cons (x : Act) {v w : Working} : Lc v w → Lc (x :: v) (x :: w)
  | trans {u v w : Working} : Lc u v → Lc v w → Lc u w
theorem Lc.symm {v w : Working} (h : Lc v w) : Lc w v := by
  induction h with
  | refl w => exact .refl w
  | swap x y w h => exact .swap y x w (by rw [touch_comm]; exact h)
  | cons x _ ih => exact .cons x ih
  | trans _ _ ih1 ih2 => exact ih2.trans ih1
theorem Lc.length {v w : Working} (h : Lc v w) : v.length = w.length := by
  induction h with
  | refl w => rfl
  | swap x y w h => rfl
  | cons x _ ih => rw [List.length_cons, List.length_cons, ih]
  | trans _ _ ih1 ih2 => rw [ih1, ih2]
theorem Lc.mem {v w : Working} (h : Lc v w) : ∀ x, x ∈ v ↔ x ∈ w := by
  induction h with
  | refl w => intro x; exact Iff.rfl
  | swap a b w h =>
    intro x
    simp only [List.mem_cons]
    constructor
    · rintro (h | h | h)
      · exact .inr (.inl h)
      · exact .inl h
      · exact .inr (.inr h)
    · rintro (h | h | h)
      · exact .inr (.inl h)
      · exact .inl h
      · exact .inr (.inr h)
  | cons a _ ih => intro x; simp only [List.mem_cons, ih x]
  | trans _ _ ih1 ih2 => intro x; rw [ih1 x, ih2 x]
theorem Lc.append_left (u : Working) {v w : Working} (h : Lc v w) : Lc (u ++ v) (u ++ w) := by
  induction u with
  | nil => exact h
  | cons x u ih => exact .cons x ih
theorem Lc.append_right {u v : Working} (h : Lc u v) (w : Working) : Lc (u ++ w) (v ++ w) := by
  induction h with
  | refl u => exact .refl _
  | swap x y u h => exact .swap x y (u ++ w) h
  | cons x _ ih => exact .cons x ih
  | trans _ _ ih1 ih2 => exact ih1.trans ih2
theorem Lc.nil {w : Working} (h : Lc [] w) : w = [] := by
  have := h.length
  exact List.eq_nil_of_length_eq_zero this.symm
/-! ### an act taken from the front -/
theorem front_self (x : Act) (w : Working) : front x (x :: w) = some w := by
  show (if x = x then some w else _) = some w
  rw [if_pos rfl]
theorem front_other {x y : Act} (h : y ≠ x) (ht : touch x y = false) (w : Working) : front x (y :: w) = (front x w).map fun v => y :: v := by
  show (if y = x then some w else if touch x y = true then none else (front x w).map fun v => y :: v) = _
  rw [if_neg h, if_neg (by rw [ht]; exact Bool.false_ne_true)]
theorem front_touch {x y : Act} (h : y ≠ x) (ht : touch x y = true) (w : Working) : front x (y :: w) = none := by
  show (if y = x then some w else if touch x y = true then none else (front x w).map fun v => y :: v) = _
  rw [if_neg h, if_pos ht]
/-- how an act comes from the front of y :: w -/
theorem front_inv {x y : Act} {w v : Working} (h : front x (y :: w) = some v) : (y = x ∧ v = w) ∨ (y ≠ x ∧ touch x y = false ∧ ∃ v', front x w = some v' ∧ v = y :: v') := by
  by_cases e : y = x
  · subst e
    rw [front_self] at h
    exact .inl ⟨rfl, (Option.some.inj h).symm⟩
  · cases t : touch x y with
    | true => rw [front_touch e t] at h; cases h
    | false =>
      rw [front_other e t] at h
      cases q : front x w with
      | none => rw [q] at h; cases h
      | some v' =>
        rw [q] at h
        exact .inr ⟨e, rfl, v', rfl, (Option.some.inj h).symm⟩
theorem front_lc : ∀ {w v : Working} {x : Act}, front x w = some v → Lc w (x :: v)
  | [], v, x, h => by cases h
  | y :: w, v, x, h => by
    rcases front_inv h with ⟨rfl, rfl⟩ | ⟨e, t, v', h', rfl⟩
    · exact .refl _
    · exact (Lc.cons y (front_lc h')).trans (.swap y x v' (by rw [touch_comm]; exact t))
theorem front_length {w v : Working} {x : Act} (h : front x w = some v) : w.length = v.length + 1 := (front_lc h).length
theorem front_mem {w v : Working} {x : Act} (h : front x w = some v) : x ∈ w := ((front_lc h).mem x).mpr (List.mem_cons_self ..)
theorem front_sub {w v : Working} {x y : Act} (h : front x w = some v) (hy : y ∈ v) : y ∈ w := ((front_lc h).mem y).mpr (List.mem_cons_of_mem _ hy)
theorem Lc.front {w w' : Working} (h : Lc w w') : ∀ {x : Act} {v : Working}, Lca.front x w = some v → ∃ v', Lca.front x w' = some v' ∧ Lc v v' := by
  induction h with
  | refl w => intro x v e; exact ⟨v, e, .refl _⟩
  | swap a b w t =>
    intro x v e
    rcases front_inv e with ⟨rfl, rfl⟩ | ⟨n1, t1, v1, e1, rfl⟩
    · have n : b ≠ a := fun z => by subst z; rw [touch_self] at t; cases t
      refine ⟨b :: w, ?_, .refl _⟩
      rw [front_other n t, front_self]
      rfl
    · rcases front_inv e1 with ⟨rfl, rfl⟩ | ⟨n2, t2, v2, e2, rfl⟩
      · exact ⟨a :: v1, front_self _ _, .refl _⟩
      · refine ⟨b :: a :: v2, ?_, .swap a b v2 t⟩
        rw [front_other n2 t2, front_other n1 t1, e2]
        rfl
  | cons y h ih =>
    intro x v e
    rcases front_inv e with ⟨rfl, rfl⟩ | ⟨n1, t1, v1, e1, rfl⟩
    · exact ⟨_, front_self _ _, h⟩
    · obtain ⟨v', e', l⟩ := ih e1
      refine ⟨y :: v', ?_, .cons y l⟩
      rw [front_other n1 t1, e']
      rfl
  | trans _ _ ih1 ih2 =>
    intro x v e
    obtain ⟨v1, e1, l1⟩ := ih1 e
    obtain ⟨v2, e2, l2⟩ := ih2 e1
    exact ⟨v2, e2, l1.trans l2⟩
/-- what is left is one lace -/
theorem Lc.cancel {x : Act} {v w : Working} (h : Lc (x :: v) (x :: w)) : Lc v w := by
  obtain ⟨v', e, l⟩ := h.front (front_self x v)
  rw [front_self] at e
  cases e
  exact l
theorem front_of_lc {x : Act} {v w : Working} (h : Lc w (x :: v)) : ∃ v', front x w = some v' ∧ Lc v v' := h.symm.front (front_self x v)
theorem Lc.cancel_left : ∀ {u v w : Working}, Lc (u ++ v) (u ++ w) → Lc v w
  | [], _, _, h => h
  | _ :: _, _, _, h => Lc.cancel_left (Lc.cancel h)
theorem Lc.front_isSome {w w' : Working} (h : Lc w w') (x : Act) : (Lca.front x w).isSome = (Lca.front x w').isSome := by
  cases e : Lca.front x w with
  | some v =>
    obtain ⟨v', e', _⟩ := h.front e
    rw [e']
    rfl
  | none =>
    cases e' : Lca.front x w' with
    | none => rfl
    | some v' =>
      obtain ⟨v, e2, _⟩ := h.symm.front e'
      rw [e] at e2
      cases e2
/-! ### what's left -/
theorem leftOf_lc : ∀ {u w v : Working}, leftOf u w = some v → Lc w (u ++ v)
  | [], w, v, h => by
    have e : some w = some v := h
    cases e
    exact .refl _
  | x :: u, w, v, h => by
    have h' : (front x w).bind (leftOf u) = some v := h
    cases e : front x w with
    | none => rw [e] at h'; cases h'
    | some w' =>
      rw [e] at h'
      exact (front_lc e).trans (.cons x (leftOf_lc (show leftOf u w' = some v from h')))
theorem leftOf_of : ∀ {u w v : Working}, Lc w (u ++ v) → ∃ v', leftOf u w = some v' ∧ Lc v v'
  | [], w, v, h => ⟨w, rfl, h.symm⟩
  | x :: u, w, v, h => by
    obtain ⟨w', e, l⟩ := front_of_lc h
    obtain ⟨v', e', l'⟩ := leftOf_of l.symm
    refine ⟨v', ?_, l'⟩
    show (front x w).bind (leftOf u) = some v'
    rw [e]
    exact e'
theorem leftOf_none {u w : Working} (h : leftOf u w = none) (v : Working) : ¬ Lc w (u ++ v) := fun l => by
  obtain ⟨v', e, _⟩ := leftOf_of l
  rw [h] at e
  cases e
theorem sameLace_iff {a b : Working} : sameLace a b = true ↔ Lc a b := by
  unfold sameLace
  rw [beq_iff_eq]
  constructor
  · intro h
    have l := leftOf_lc h
    rw [List.append_nil] at l
    exact l.symm
  · intro l
    obtain ⟨v', e, l'⟩ := leftOf_of (u := a) (w := b) (v := []) (by rw [List.append_nil]; exact l.symm)
    rw [e, l'.nil]
/-! ### the acts that can be first -/
theorem front_some_cons {x z : Act} {w : Working} : (front x (z :: w)).isSome = true ↔ z = x ∨ (touch x z = false ∧ (front x w).isSome = true) := by
  by_cases e : z = x
  · subst e
    rw [front_self]
    simp
  · cases t : touch x z with
    | true =>
      rw [front_touch e t]
      simp [e]
    | false =>
      rw [front_other e t]
      simp [e]
theorem mem_firsts : ∀ {w : Working} {s : List Act} {x : Act}, x ∈ firsts s w ↔ (∀ y ∈ s, touch x y = false) ∧ (front x w).isSome = true
  | [], s, x => by
    show x ∈ [] ↔ _ ∧ (none : Option Working).isSome = true
    simp
  | z :: w, s, x => by
    rw [front_some_cons]
    show x ∈ (if s.any (touch z) = true then firsts (if s.contains z = true then s else z :: s) w else z :: firsts (z :: s) w) ↔ _
    by_cases h : s.any (touch z) = true
    · rw [if_pos h, mem_firsts]
      have hm : (∀ y ∈ (if s.contains z = true then s else z :: s), touch x y = false) ↔ (∀ y ∈ s, touch x y = false) ∧ touch x z = false := by
        by_cases hc : s.contains z = true
        · rw [if_pos hc]
          have hz : z ∈ s := List.contains_iff_mem.mp hc
          exact ⟨fun a => ⟨a, a z hz⟩, fun a => a.1⟩
        · rw [if_neg hc]
          simp only [List.mem_cons, forall_eq_or_imp]
          exact ⟨fun a => ⟨a.2, a.1⟩, fun a => ⟨a.2, a.1⟩⟩
      rw [hm]
      constructor
      · rintro ⟨⟨a, b⟩, c⟩
        exact ⟨a, .inr ⟨b, c⟩⟩
      · rintro ⟨a, b | ⟨b, c⟩⟩
        · subst b
          obtain ⟨y, hy, ht⟩ := List.any_eq_true.mp h
          rw [a y hy] at ht
          cases ht
        · exact ⟨⟨a, b⟩, c⟩
    · rw [if_neg h, List.mem_cons, mem_firsts]
      have hs : ∀ y ∈ s, touch z y = false := fun y hy => by
        cases t : touch z y with
        | false => rfl
        | true => exact absurd (List.any_eq_true.mpr ⟨y, hy, t⟩) h
      simp only [List.mem_cons, forall_eq_or_imp]
      constructor
      · rintro (rfl | ⟨⟨a, b⟩, c⟩)
        · exact ⟨hs, .inl rfl⟩
        · exact ⟨b, .inr ⟨a, c⟩⟩
      · rintro ⟨a, b | ⟨b, c⟩⟩
        · exact .inl b.symm
        · exact .inr ⟨⟨b, a⟩, c⟩
theorem mem_firsts0 {w : Working} {x : Act} : x ∈ firsts [] w ↔ (front x w).isSome = true := by
  rw [mem_firsts]
  simp
/-! ### the least of them -/
/-- twists bear numbers below 64 -/
def Fine (w : Working) : Prop := ∀ x ∈ w, ∀ k, x = .twist k → k < 64
theorem Fine.sub {v w : Working} (h : Fine w) (s : ∀ x ∈ v, x ∈ w) : Fine v := fun x hx => h x (s x hx)
theorem Fine.lc {v w : Working} (h : Fine w) (l : Lc w v) : Fine v := h.sub fun x hx => (l.mem x).mpr hx
theorem code_inj {x y : Act} (hx : ∀ k, x = .twist k → k < 64) (hy : ∀ k, y = .twist k → k < 64) (h : x.code = y.code) : x = y := by
  cases x with
  | twist k =>
    have := hx k rfl
    cases y with
    | twist j => have h' : k = j := h; rw [h']
    | cross j => have h' : k = 64 + j := h; omega
  | cross k =>
    cases y with
    | twist j => have := hy j rfl; have h' : 64 + k = j := h; omega
    | cross j => have h' : 64 + k = 64 + j := h; rw [show k = j by omega]
def pickLess (b : Option Act) (x : Act) : Option Act := match b with
  | none => some x
  | some y => if x.code < y.code then some x else some y
theorem pick_some : ∀ (l : List Act) (y : Act), ∃ z, l.foldl pickLess (some y) = some z ∧ (z = y ∨ z ∈ l) ∧ z.code ≤ y.code ∧ ∀ x ∈ l, z.code ≤ x.code
  | [], y => ⟨y, rfl, .inl rfl, Nat.le_refl _, fun x hx => absurd hx (by simp)⟩
  | x :: l, y => by
    rw [List.foldl_cons]
    by_cases h : x.code < y.code
    · have e : pickLess (some y) x = some x := by
        show (if x.code < y.code then some x else some y) = some x
        rw [if_pos h]
      rw [e]
      obtain ⟨z, e1, e2, e3, e4⟩ := pick_some l x
      refine ⟨z, e1, .inr ?_, by omega, ?_⟩
      · rcases e2 with rfl | e2
        · exact List.mem_cons_self ..
        · exact List.mem_cons_of_mem _ e2
      · intro x' hx'
        rcases List.mem_cons.mp hx' with rfl | hx'
        · exact e3
        · exact e4 x' hx'
    · have e : pickLess (some y) x = some y := by
        show (if x.code < y.code then some x else some y) = some y
        rw [if_neg h]
      rw [e]
      obtain ⟨z, e1, e2, e3, e4⟩ := pick_some l y
      refine ⟨z, e1, ?_, e3, ?_⟩
      · rcases e2 with rfl | e2
        · exact .inl rfl
        · exact .inr (List.mem_cons_of_mem _ e2)
      · intro x' hx'
        rcases List.mem_cons.mp hx' with rfl | hx'
        · omega
        · exact e4 x' hx'
theorem leastFirst_eq (w : Working) : leastFirst w = (firsts [] w).foldl pickLess none := rfl
theorem leastFirst_some {w : Working} {x : Act} (h : leastFirst w = some x) : (front x w).isSome = true ∧ ∀ y, (front y w).isSome = true → x.code ≤ y.code := by
  rw [leastFirst_eq] at h
  cases e : firsts [] w with
  | nil => rw [e] at h; cases h
  | cons y l =>
    rw [e, List.foldl_cons] at h
    obtain ⟨z, e1, e2, e3, e4⟩ := pick_some l y
    have h' : l.foldl pickLess (some y) = some x := h
    rw [e1] at h'
    cases h'
    refine ⟨mem_firsts0.mp ?_, fun y' hy' => ?_⟩
    · rw [e]
      rcases e2 with rfl | e2
      · exact List.mem_cons_self ..
      · exact List.mem_cons_of_mem _ e2
    · have m := mem_firsts0.mpr hy'
      rw [e] at m
      rcases List.mem_cons.mp m with rfl | m
      · exact e3
      · exact e4 y' m
theorem leastFirst_cons (x : Act) (w : Working) : ∃ z, leastFirst (x :: w) = some z := by
  rw [leastFirst_eq]
  cases e : firsts [] (x :: w) with
  | nil =>
    have m : x ∈ firsts [] (x :: w) := mem_firsts0.mpr (by rw [front_self]; rfl)
    rw [e] at m
    cases m
  | cons y l =>
    obtain ⟨z, e1, _⟩ := pick_some l y
    exact ⟨z, e1⟩
theorem leastFirst_nil : leastFirst [] = none := rfl
theorem leastFirst_of {w : Working} (hf : Fine w) {x : Act} (h : (front x w).isSome = true) (hl : ∀ y, (front y w).isSome = true → x.code ≤ y.code) : leastFirst w = some x := by
  cases w with
  | nil => cases h
  | cons a w =>
    obtain ⟨z, e⟩ := leastFirst_cons a w
    obtain ⟨e1, e2⟩ := leastFirst_some e
    rw [e]
    obtain ⟨v, hv⟩ := Option.isSome_iff_exists.mp h
    obtain ⟨v', hv'⟩ := Option.isSome_iff_exists.mp e1
    have c : z.code = x.code := Nat.le_antisymm (e2 x h) (hl z e1)
    rw [code_inj (hf z (front_mem hv')) (hf x (front_mem hv)) c]
theorem Lc.least {w w' : Working} (l : Lc w w') (hf : Fine w) : leastFirst w = leastFirst w' := by
  cases e : leastFirst w' with
  | none =>
    cases w' with
    | nil =>
      rw [Lc.nil l.symm]
      rfl
    | cons a w' =>
      obtain ⟨z, e'⟩ := leastFirst_cons a w'
      rw [e'] at e
      cases e
  | some x =>
    obtain ⟨e1, e2⟩ := leastFirst_some e
    exact leastFirst_of hf (by rw [l.front_isSome]; exact e1) fun y hy => e2 y (by rw [← l.front_isSome]; exact hy)
/-! ### the form -/
theorem formFrom_succ {f : Nat} {w v : Working} {x : Act} (h : leastFirst w = some x) (hv : front x w = some v) : formFrom (f + 1) w = x :: formFrom f v := by
  show (match leastFirst w with
    | none => []
    | some x => x :: formFrom f ((front x w).getD [])) = _
  rw [h]
  show x :: formFrom f ((front x w).getD []) = _
  rw [hv]
  rfl
theorem formFrom_lc : ∀ {f : Nat} {w : Working}, w.length ≤ f → Lc w (formFrom f w)
  | 0, w, h => by
    have e : w = [] := List.eq_nil_of_length_eq_zero (Nat.le_zero.mp h)
    subst e
    exact .refl _
  | f + 1, [], h => .refl _
  | f + 1, a :: w, h => by
    obtain ⟨x, e⟩ := leastFirst_cons a w
    obtain ⟨v, hv⟩ := Option.isSome_iff_exists.mp (leastFirst_some e).1
    rw [formFrom_succ e hv]
    have hl := front_length hv
    exact (front_lc hv).trans (.cons x (formFrom_lc (by omega)))
theorem form_lc (w : Working) : Lc w (formOf w) := formFrom_lc (Nat.le_refl _)
theorem formFrom_eq : ∀ {f : Nat} {w w' : Working}, Fine w → Lc w w' → formFrom f w = formFrom f w'
  | 0, _, _, _, _ => rfl
  | f + 1, w, w', hf, l => by
    cases w with
    | nil =>
      rw [l.nil]
    | cons a w =>
      obtain ⟨x, e⟩ := leastFirst_cons a w
      obtain ⟨v, hv⟩ := Option.isSome_iff_exists.mp (leastFirst_some e).1
      obtain ⟨v', hv', l'⟩ := l.front hv
      rw [formFrom_succ e hv, formFrom_succ ((l.least hf).symm.trans e) hv', formFrom_eq (hf.sub fun y hy => front_sub hv hy) l']
theorem form_eq {w w' : Working} (hf : Fine w) (l : Lc w w') : formOf w = formOf w' := by
  unfold formOf
  rw [l.length]
  exact formFrom_eq hf l
theorem form_iff {a b : Working} (hf : Fine a) : formOf a = formOf b ↔ Lc a b :=
  ⟨fun h => ((form_lc a).trans (by rw [h]; exact .refl _)).trans (form_lc b).symm, form_eq hf⟩
/-- a working whose every act is the least that can be first there is its own form -/
def IsForm : Working → Prop
  | [] => True
  | x :: q => (∀ y, (front y (x :: q)).isSome = true → x.code ≤ y.code) ∧ IsForm q
theorem form_self : ∀ {r : Working}, Fine r → IsForm r → formOf r = r
  | [], _, _ => rfl
  | x :: q, hf, h => by
    have e := leastFirst_of hf (x := x) (by rw [front_self]; rfl) h.1
    show formFrom (q.length + 1) (x :: q) = _
    rw [formFrom_succ e (front_self x q)]
    have ih := form_self (r := q) (hf.sub fun y hy => List.mem_cons_of_mem _ hy) h.2
    unfold formOf at ih
    rw [ih]
theorem form_unique {w r : Working} (hf : Fine w) (l : Lc w r) (h : IsForm r) : formOf w = r := (form_eq hf l).trans (form_self (hf.lc l) h)
/-! ### the common beginning -/
theorem front_append_some {x : Act} {v : Working} : ∀ {u u' : Working}, front x u = some u' → front x (u ++ v) = some (u' ++ v)
  | [], _, h => by cases h
  | y :: u, u', h => by
    rcases front_inv h with ⟨rfl, rfl⟩ | ⟨e, t, w', h', rfl⟩
    · exact front_self _ _
    · rw [List.cons_append, front_other e t, front_append_some h']
      rfl
theorem front_append_none {x : Act} {v : Working} : ∀ {u : Working}, front x u = none → (front x (u ++ v)).isSome = true → (∀ y ∈ u, touch x y = false) ∧ (front x v).isSome = true
  | [], _, h => ⟨fun y hy => absurd hy (by simp), h⟩
  | y :: u, h, h2 => by
    rw [List.cons_append, front_some_cons] at h2
    rcases h2 with rfl | ⟨t, h2⟩
    · rw [front_self] at h
      cases h
    · have e : y ≠ x := fun z => by subst z; rw [touch_self] at t; cases t
      rw [front_other e t] at h
      have h' : front x u = none := by
        cases q : front x u with
        | none => rfl
        | some z => rw [q] at h; cases h
      obtain ⟨a, b⟩ := front_append_none h' h2
      refine ⟨fun z hz => ?_, b⟩
      rcases List.mem_cons.mp hz with rfl | hz
      · exact t
      · exact a z hz
theorem front_behind {x : Act} {v v' : Working} : ∀ {u : Working}, (∀ y ∈ u, touch x y = false) → front x v = some v' → front x (u ++ v) = some (u ++ v')
  | [], _, h => h
  | y :: u, hu, h => by
    have t := hu y (List.mem_cons_self ..)
    have e : y ≠ x := fun z => by subst z; rw [touch_self] at t; cases t
    rw [List.cons_append, front_other e t, front_behind (fun z hz => hu z (List.mem_cons_of_mem _ hz)) h]
    rfl
/-- the two have no act that can be first in both -/
def Apart (v w : Working) : Prop := ∀ x, (front x v).isSome = true → (front x w).isSome = true → False
theorem commonFrom_none {f : Nat} {a b : Working} (h : Apart a b) : commonFrom f a b = [] := by
  cases f with
  | zero => rfl
  | succ f =>
    show (match (firsts [] a).find? fun x => (firsts [] b).contains x with
      | none => []
      | some x => x :: commonFrom f ((front x a).getD []) ((front x b).getD [])) = []
    cases e : (firsts [] a).find? fun x => (firsts [] b).contains x with
    | none => rfl
    | some x =>
      have h1 := mem_firsts0.mp (List.mem_of_find?_eq_some e)
      have h2 := mem_firsts0.mp (List.contains_iff_mem.mp (List.find?_some e))
      exact (h x h1 h2).elim
theorem commonFrom_step {f : Nat} {a b : Working} (h : ¬ Apart a b) : ∃ x a' b', front x a = some a' ∧ front x b = some b' ∧ commonFrom (f + 1) a b = x :: commonFrom f a' b' := by
  cases e : (firsts [] a).find? fun x => (firsts [] b).contains x with
  | none =>
    refine absurd (fun x h1 h2 => ?_) h
    have := List.find?_eq_none.mp e x (mem_firsts0.mpr h1)
    exact this (List.contains_iff_mem.mpr (mem_firsts0.mpr h2))
  | some x =>
    have h1 := mem_firsts0.mp (List.mem_of_find?_eq_some e)
    have h2 := mem_firsts0.mp (List.contains_iff_mem.mp (List.find?_some e))
    obtain ⟨a', ha⟩ := Option.isSome_iff_exists.mp h1
    obtain ⟨b', hb⟩ := Option.isSome_iff_exists.mp h2
    refine ⟨x, a', b', ha, hb, ?_⟩
    show (match (firsts [] a).find? fun x => (firsts [] b).contains x with
      | none => []
      | some x => x :: commonFrom f ((front x a).getD []) ((front x b).getD [])) = _
    rw [e]
    show x :: commonFrom f ((front x a).getD []) ((front x b).getD []) = _
    rw [ha, hb]
    rfl
theorem Apart.lc {v v' w w' : Working} (h : Apart v w) (l : Lc v v') (k : Lc w w') : Apart v' w' := fun x h1 h2 => h x (by rw [l.front_isSome]; exact h1) (by rw [k.front_isSome]; exact h2)
/-- whatever way it's taken: a beginning of both behind which nothing can be first in both is the common one -/
theorem commonFrom_unique : ∀ {f : Nat} {a b u v w : Working}, a.length ≤ f → Lc a (u ++ v) → Lc b (u ++ w) → Apart v w → Lc u (commonFrom f a b)
  | f, a, b, u, v, w, hl, la, lb, hp => by
    by_cases h : Apart a b
    · rw [commonFrom_none h]
      cases u with
      | nil => exact .refl _
      | cons x u =>
        obtain ⟨_, e1, _⟩ := front_of_lc la
        obtain ⟨_, e2, _⟩ := front_of_lc lb
        exact (h x (by rw [e1]; rfl) (by rw [e2]; rfl)).elim
    · cases f with
      | zero =>
        have e : a = [] := List.eq_nil_of_length_eq_zero (Nat.le_zero.mp hl)
        subst e
        exact (h fun x h1 => by cases h1).elim
      | succ f =>
        obtain ⟨x, a', b', ha, hb, e⟩ := commonFrom_step (f := f) h
        rw [e]
        have xa : (front x (u ++ v)).isSome = true := by rw [← la.front_isSome, ha]; rfl
        have xb : (front x (u ++ w)).isSome = true := by rw [← lb.front_isSome, hb]; rfl
        cases q : front x u with
        | none => exact (hp x (front_append_none q xa).2 (front_append_none q xb).2).elim
        | some u' =>
          have lu := front_lc q
          have la' : Lc a' (u' ++ v) := ((front_lc ha).symm.trans (la.trans (lu.append_right v))).cancel
          have lb' : Lc b' (u' ++ w) := ((front_lc hb).symm.trans (lb.trans (lu.append_right w))).cancel
          have hl' := front_length ha
          exact lu.trans (.cons x (commonFrom_unique (by omega) la' lb' hp))
theorem common_unique {a b u v w : Working} (la : Lc a (u ++ v)) (lb : Lc b (u ++ w)) (hp : Apart v w) : Lc u (commonOf a b) := commonFrom_unique (Nat.le_refl _) la lb hp
theorem commonFrom_parts : ∀ {f : Nat} {a b : Working}, a.length ≤ f → ∃ v w, Lc a (commonFrom f a b ++ v) ∧ Lc b (commonFrom f a b ++ w) ∧ Apart v w
  | f, a, b, hl => by
    by_cases h : Apart a b
    · rw [commonFrom_none h]
      exact ⟨a, b, .refl _, .refl _, h⟩
    · cases f with
      | zero =>
        have e : a = [] := List.eq_nil_of_length_eq_zero (Nat.le_zero.mp hl)
        subst e
        exact (h fun x h1 => by cases h1).elim
      | succ f =>
        obtain ⟨x, a', b', ha, hb, e⟩ := commonFrom_step (f := f) h
        have hl' := front_length ha
        obtain ⟨v, w, l1, l2, hp⟩ := commonFrom_parts (f := f) (a := a') (b := b') (by omega)
        rw [e]
        exact ⟨v, w, (front_lc ha).trans (.cons x l1), (front_lc hb).trans (.cons x l2), hp⟩
theorem common_parts (a b : Working) : ∃ v w, leftBehind (commonOf a b) a = v ∧ leftBehind (commonOf a b) b = w ∧ Lc a (commonOf a b ++ v) ∧ Lc b (commonOf a b ++ w) ∧ Apart v w := by
  obtain ⟨v, w, l1, l2, hp⟩ := commonFrom_parts (a := a) (b := b) (Nat.le_refl _)
  obtain ⟨v', e1, k1⟩ := leftOf_of l1
  obtain ⟨w', e2, k2⟩ := leftOf_of l2
  have e1' : leftOf (commonOf a b) a = some v' := e1
  have e2' : leftOf (commonOf a b) b = some w' := e2
  refine ⟨v', w', by unfold leftBehind; rw [e1']; rfl, by unfold leftBehind; rw [e2']; rfl, leftOf_lc e1', leftOf_lc e2', hp.lc k1 k2⟩
/-! ### the joined one -/
theorem touching_lc {v v' w w' : Working} (l : Lc v v') (k : Lc w w') : touching v w = touching v' w' := by
  unfold touching
  rw [Bool.eq_iff_iff]
  simp only [List.any_eq_true]
  constructor
  · rintro ⟨x, hx, y, hy, t⟩
    exact ⟨x, (l.mem x).mp hx, y, (k.mem y).mp hy, t⟩
  · rintro ⟨x, hx, y, hy, t⟩
    exact ⟨x, (l.mem x).mpr hx, y, (k.mem y).mpr hy, t⟩
/-- by any common beginning behind which nothing can be first in both -/
theorem joined_of {a b u v w : Working} (la : Lc a (u ++ v)) (lb : Lc b (u ++ w)) (hp : Apart v w) :
    (touching v w = true → joinedOf a b = none) ∧ (touching v w = false → ∃ j, joinedOf a b = some j ∧ Lc j (u ++ (v ++ w))) := by
  have lu := common_unique la lb hp
  obtain ⟨v', w', e1, e2, l1, l2, _⟩ := common_parts a b
  have kv : Lc v' v := Lc.cancel_left (u := commonOf a b) (l1.symm.trans (la.trans (lu.append_right v)))
  have kw : Lc w' w := Lc.cancel_left (u := commonOf a b) (l2.symm.trans (lb.trans (lu.append_right w)))
  have et := touching_lc kv kw
  have ej : joinedOf a b = if touching v' w' = true then none else some (commonOf a b ++ (v' ++ w')) := by
    show (if touching (leftBehind (commonOf a b) a) (leftBehind (commonOf a b) b) = true then none else some (commonOf a b ++ (leftBehind (commonOf a b) a ++ leftBehind (commonOf a b) b))) = _
    rw [e1, e2]
  rw [ej, et]
  refine ⟨fun h => by rw [if_pos h], fun h => ⟨_, by rw [if_neg (by rw [h]; exact Bool.false_ne_true)], ?_⟩⟩
  exact (lu.symm.append_right _).trans (((kv.append_right w').trans (kw.append_left v)).append_left u)
/-! ### acts of n pairs -/
theorem wk_fine {n : Int} (hn : n ≤ 64) (a : List Int) : Fine (wk n a) := by
  intro x hx k e
  subst e
  unfold wk at hx
  obtain ⟨c, _, hc⟩ := List.mem_filterMap.mp hx
  unfold actOf at hc
  by_cases h1 : c < 64
  · rw [if_pos h1] at hc
    by_cases h2 : c < n.toNat
    · rw [if_pos h2] at hc
      cases hc
      exact h1
    · rw [if_neg h2] at hc
      cases hc
  · rw [if_neg h1] at hc
    by_cases h2 : c - 64 + 1 < n.toNat
    · rw [if_pos h2] at hc
      cases hc
    · rw [if_neg h2] at hc
      cases hc
end Bl
set_option linter.all false
/-! ROWS: of each place the acts that are made at it; a lace is its rows. The acts that all of some laces can begin with, taken off one after another. -/
namespace Bl
open Lca
/-- the act is made at the place -/
def atP (p : Nat) (x : Act) : Bool := x.place == p || x.place + 1 == p
theorem atP_iff {p : Nat} {x : Act} : atP p x = true ↔ x.place = p ∨ x.place + 1 = p := by
  unfold atP
  simp only [Bool.or_eq_true, beq_iff_eq]
theorem atP_self (x : Act) : atP x.place x = true := atP_iff.mpr (.inl rfl)
theorem atP_next (x : Act) : atP (x.place + 1) x = true := atP_iff.mpr (.inr rfl)
theorem touch_iff {x y : Act} : touch x y = true ↔ x.place = y.place ∨ x.place + 1 = y.place ∨ y.place + 1 = x.place := by
  unfold touch
  simp only [Bool.or_eq_true, beq_iff_eq]
theorem touch_at {p : Nat} {x y : Act} (hx : atP p x = true) (hy : atP p y = true) : touch x y = true := by
  rw [atP_iff] at hx hy
  rw [touch_iff]
  omega
theorem at_touch {x y : Act} (h : touch x y = true) : atP x.place y = true ∨ atP (x.place + 1) y = true := by
  rw [touch_iff] at h
  rw [atP_iff, atP_iff]
  omega
theorem not_at {x y : Act} {p : Nat} (h : touch x y = false) (hx : atP p x = true) : atP p y = false := by
  cases e : atP p y with
  | false => rfl
  | true => rw [touch_at hx e] at h; cases h
def proj (p : Nat) (w : Working) : Working := w.filter (atP p)
theorem proj_nil (p : Nat) : proj p [] = [] := rfl
theorem proj_pos {p : Nat} {x : Act} (h : atP p x = true) (w : Working) : proj p (x :: w) = x :: proj p w := by
  unfold proj
  rw [List.filter_cons, if_pos h]
theorem proj_neg {p : Nat} {x : Act} (h : atP p x = false) (w : Working) : proj p (x :: w) = proj p w := by
  unfold proj
  rw [List.filter_cons, if_neg (by rw [h]; exact Bool.false_ne_true)]
theorem Lc.proj {v w : Working} (h : Lc v w) (p : Nat) : Bl.proj p v = Bl.proj p w := by
  induction h with
  | refl w => rfl
  | swap x y w t =>
    cases ex : atP p x with
    | true =>
      have ey := not_at t ex
      rw [proj_pos ex, proj_neg ey, proj_neg ey, proj_pos ex]
    | false =>
      cases ey : atP p y with
      | true => rw [proj_neg ex, proj_pos ey, proj_pos ey, proj_neg ex]
      | false => rw [proj_neg ex, proj_neg ey, proj_neg ey, proj_neg ex]
  | cons x _ ih =>
    cases ex : atP p x with
    | true => rw [proj_pos ex, proj_pos ex, ih]
    | false => rw [proj_neg ex, proj_neg ex, ih]
  | trans _ _ ih1 ih2 => exact ih1.trans ih2
theorem front_of_proj {x : Act} : ∀ {w : Working}, (proj x.place w).head? = some x → (proj (x.place + 1) w).head? = some x → (front x w).isSome = true
  | [], h, _ => by cases h
  | y :: w, h1, h2 => by
    rw [front_some_cons]
    by_cases e : y = x
    · exact .inl e
    · right
      cases t : touch x y with
      | true =>
        rcases at_touch t with a | a
        · rw [proj_pos a] at h1
          exact absurd (Option.some.inj h1) e
        · rw [proj_pos a] at h2
          exact absurd (Option.some.inj h2) e
      | false =>
        refine ⟨rfl, ?_⟩
        rw [proj_neg (not_at t (atP_self x))] at h1
        rw [proj_neg (not_at t (atP_next x))] at h2
        exact front_of_proj h1 h2
theorem isFirst_iff {x : Act} {w : Working} : (front x w).isSome = true ↔ (proj x.place w).head? = some x ∧ (proj (x.place + 1) w).head? = some x := by
  constructor
  · intro h
    obtain ⟨v, hv⟩ := Option.isSome_iff_exists.mp h
    have l := front_lc hv
    rw [l.proj, l.proj, proj_pos (atP_self x), proj_pos (atP_next x)]
    exact ⟨rfl, rfl⟩
  · rintro ⟨h1, h2⟩
    exact front_of_proj h1 h2
theorem lc_of_proj : ∀ {a b : Working}, (∀ p, proj p a = proj p b) → Lc a b
  | [], b, h => by
    cases b with
    | nil => exact .refl _
    | cons y b =>
      have e := h y.place
      rw [proj_pos (atP_self y)] at e
      cases e
  | x :: a, b, h => by
    have h1 : (front x b).isSome = true := isFirst_iff.mpr (by
      rw [← h, ← h, proj_pos (atP_self x), proj_pos (atP_next x)]
      exact ⟨rfl, rfl⟩)
    obtain ⟨v, hv⟩ := Option.isSome_iff_exists.mp h1
    have l := front_lc hv
    refine Lc.trans (.cons x (lc_of_proj fun p => ?_)) l.symm
    have e := (h p).trans (l.proj p)
    cases ex : atP p x with
    | true =>
      rw [proj_pos ex, proj_pos ex] at e
      exact (List.cons.inj e).2
    | false =>
      rw [proj_neg ex, proj_neg ex] at e
      exact e
/-! ### acts of n pairs -/
def OkA (n : Int) : Act → Prop
  | .twist k => (k : Int) < n
  | .cross k => (k : Int) + 1 < n
def OkW (n : Int) (w : Working) : Prop := ∀ x ∈ w, OkA n x
theorem OkW.sub {n : Int} {v w : Working} (h : OkW n w) (s : ∀ x ∈ v, x ∈ w) : OkW n v := fun x hx => h x (s x hx)
theorem OkW.lc {n : Int} {v w : Working} (h : OkW n w) (l : Lc w v) : OkW n v := h.sub fun x hx => (l.mem x).mpr hx
theorem OkW.front {n : Int} {v w : Working} {x : Act} (h : OkW n w) (e : Lca.front x w = some v) : OkW n v := h.sub fun _ hy => front_sub e hy
theorem OkW.head {n : Int} {x : Act} {w : Working} (h : OkW n (x :: w)) : OkA n x := h x (List.mem_cons_self ..)
theorem OkW.tail {n : Int} {x : Act} {w : Working} (h : OkW n (x :: w)) : OkW n w := h.sub fun _ hy => List.mem_cons_of_mem _ hy
theorem OkW.app {n : Int} {v w : Working} (h : OkW n v) (k : OkW n w) : OkW n (v ++ w) := fun x hx => by
  rcases List.mem_append.mp hx with m | m
  · exact h x m
  · exact k x m
theorem OkW.fine {n : Int} (hn : n ≤ 64) {w : Working} (h : OkW n w) : Fine w := fun x hx k e => by
  subst e
  have : (k : Int) < n := h _ hx
  omega
theorem okA_place {n : Int} {x : Act} (h : OkA n x) : x.place + 1 < (2 * n).toNat := by
  cases x with
  | twist k =>
    have h : (k : Int) < n := h
    show 2 * k + 1 < _
    omega
  | cross k =>
    have h : (k : Int) + 1 < n := h
    show 2 * k + 1 + 1 < _
    omega
theorem okA_left {n : Int} (hn : n ≤ 64) {x : Act} (h : OkA n x) : leftPlace ((x.code : Nat) : Int) = ((x.place : Nat) : Int) := by
  cases x with
  | twist k =>
    have h : (k : Int) < n := h
    show leftPlace ((k : Nat) : Int) = ((2 * k : Nat) : Int)
    unfold leftPlace
    rw [if_pos (by omega)]
    omega
  | cross k =>
    have h : (k : Int) + 1 < n := h
    show leftPlace ((64 + k : Nat) : Int) = ((2 * k + 1 : Nat) : Int)
    unfold leftPlace
    rw [if_neg (by omega)]
    omega
theorem okA_of {n c : Int} (h0 : 0 ≤ c) (h : isAct n c = true) : ∃ x, actOf n.toNat c.toNat = some x ∧ OkA n x ∧ ((x.code : Nat) : Int) = c := by
  unfold isAct at h
  unfold actOf
  by_cases hc : c < 64
  · rw [if_pos hc] at h
    have h2 : c < n := of_decide_eq_true h
    refine ⟨.twist c.toNat, by rw [if_pos (by omega), if_pos (by omega)], ?_, ?_⟩
    · show ((c.toNat : Nat) : Int) < n
      omega
    · show ((c.toNat : Nat) : Int) = c
      omega
  · rw [if_neg hc] at h
    have h2 : c - 64 < n - 1 := of_decide_eq_true h
    refine ⟨.cross (c.toNat - 64), by rw [if_neg (by omega), if_pos (by omega)], ?_, ?_⟩
    · show ((c.toNat - 64 : Nat) : Int) + 1 < n
      omega
    · show ((64 + (c.toNat - 64) : Nat) : Int) = c
      omega
/-- the numbers of acts -/
def ic (w : Working) : List Int := w.map fun x => ((x.code : Nat) : Int)
theorem ic_append (v w : Working) : ic (v ++ w) = ic v ++ ic w := List.map_append ..
theorem ic_length (w : Working) : (ic w).length = w.length := List.length_map ..
theorem wk_ok {n : Int} : ∀ {a : List Int}, (∀ z ∈ a, 0 ≤ z) → (∀ z ∈ a, isAct n z = true) → OkW n (wk n a) ∧ ic (wk n a) = a
  | [], _, _ => ⟨fun x hx => absurd hx (by rw [wk_nil]; simp), rfl⟩
  | c :: a, h0, h => by
    obtain ⟨x, e1, e2, e3⟩ := okA_of (h0 c (List.mem_cons_self ..)) (h c (List.mem_cons_self ..))
    obtain ⟨i1, i2⟩ := wk_ok (a := a) (fun z hz => h0 z (List.mem_cons_of_mem _ hz)) (fun z hz => h z (List.mem_cons_of_mem _ hz))
    rw [wk_cons e1]
    refine ⟨fun y hy => ?_, ?_⟩
    · rcases List.mem_cons.mp hy with rfl | hy
      · exact e2
      · exact i1 y hy
    · show ((x.code : Nat) : Int) :: ic (wk n a) = _
      rw [i2, e3]
theorem okA_inj {n : Int} (hn : n ≤ 64) {x y : Act} (hx : OkA n x) (hy : OkA n y) (h : x.code = y.code) : x = y :=
  code_inj (fun k e => by subst e; have : (k : Int) < n := hx; omega) (fun k e => by subst e; have : (k : Int) < n := hy; omega) h
theorem ic_inj {n : Int} (hn : n ≤ 64) : ∀ {v w : Working}, OkW n v → OkW n w → ic v = ic w → v = w
  | [], [], _, _, _ => rfl
  | [], _ :: _, _, _, h => by cases h
  | _ :: _, [], _, _, h => by cases h
  | x :: v, y :: w, hv, hw, h => by
    have h' : ((x.code : Nat) : Int) :: ic v = ((y.code : Nat) : Int) :: ic w := h
    injection h' with h1 h2
    rw [okA_inj hn hv.head hw.head (by omega), ic_inj hn hv.tail hw.tail h2]
/-! ### the rows, the first act last -/
def row (w : Working) (p : Nat) : List Int := (ic (proj p w)).reverse
theorem row_nil (p : Nat) : row [] p = [] := rfl
theorem row_pos {p : Nat} {x : Act} (h : atP p x = true) (w : Working) : row (x :: w) p = row w p ++ [((x.code : Nat) : Int)] := by
  unfold row
  rw [proj_pos h]
  show (((x.code : Nat) : Int) :: ic (proj p w)).reverse = _
  rw [List.reverse_cons]
theorem row_neg {p : Nat} {x : Act} (h : atP p x = false) (w : Working) : row (x :: w) p = row w p := by
  unfold row
  rw [proj_neg h]
theorem Lc.row {v w : Working} (h : Lc v w) (p : Nat) : Bl.row v p = Bl.row w p := by
  unfold Bl.row
  rw [h.proj]
theorem row_length (w : Working) (p : Nat) : (row w p).length ≤ w.length := by
  unfold row
  rw [List.length_reverse, ic_length]
  exact List.length_filter_le ..
theorem proj_sub {p : Nat} {w : Working} {x : Act} (h : x ∈ proj p w) : x ∈ w := (List.mem_filter.mp h).1
/-- the row's last one, as a list -/
theorem row_last {n : Int} (hn : n ≤ 64) {w : Working} (hw : OkW n w) {x : Act} (hx : OkA n x) (p : Nat) :
    ((row w p).drop ((row w p).length - 1) = [((x.code : Nat) : Int)]) ↔ (proj p w).head? = some x := by
  unfold row
  cases e : proj p w with
  | nil =>
    show (([] : List Int) = _) ↔ _
    simp
  | cons y l =>
    have hy : OkA n y := hw y (proj_sub (p := p) (by rw [e]; exact List.mem_cons_self ..))
    have e1 : (ic (y :: l)).reverse = (ic l).reverse ++ [((y.code : Nat) : Int)] := by
      show (((y.code : Nat) : Int) :: ic l).reverse = _
      rw [List.reverse_cons]
    rw [e1, List.length_append, List.length_singleton, Nat.add_sub_cancel, List.drop_left]
    show ([_] = [_]) ↔ some y = some x
    constructor
    · intro h
      have h1 : ((y.code : Nat) : Int) = ((x.code : Nat) : Int) := by injection h
      rw [okA_inj hn hy hx (by omega)]
    · intro h
      cases h
      rfl
theorem isFirst_rows {n : Int} (hn : n ≤ 64) {w : Working} (hw : OkW n w) {x : Act} (hx : OkA n x) : (front x w).isSome = true ↔
    (row w x.place).drop ((row w x.place).length - 1) = [((x.code : Nat) : Int)] ∧ (row w (x.place + 1)).drop ((row w (x.place + 1)).length - 1) = [((x.code : Nat) : Int)] := by
  rw [row_last hn hw hx, row_last hn hw hx]
  exact isFirst_iff
theorem row_front {x : Act} {v w : Working} (h : front x w = some v) (p : Nat) : row w p = if atP p x = true then row v p ++ [((x.code : Nat) : Int)] else row v p := by
  rw [(front_lc h).row]
  cases e : atP p x with
  | true => rw [row_pos e, if_pos rfl]
  | false => rw [row_neg e, if_neg Bool.false_ne_true]
/-- the rows tell the lace -/
theorem same_rows {n : Int} (hn : n ≤ 64) {a b : Working} (ha : OkW n a) (hb : OkW n b) : (∀ p, p < (2 * n).toNat → row a p = row b p) ↔ Lc a b := by
  constructor
  · intro h
    refine lc_of_proj fun p => ?_
    by_cases hp : p < (2 * n).toNat
    · have e := h p hp
      unfold row at e
      exact ic_inj hn (ha.sub fun _ m => proj_sub m) (hb.sub fun _ m => proj_sub m) (List.reverse_inj.mp e)
    · have z : ∀ {w : Working}, OkW n w → proj p w = [] := fun {w} hw => by
        refine List.filter_eq_nil_iff.mpr fun x hx => ?_
        rw [atP_iff]
        have := okA_place (hw x hx)
        omega
      rw [z ha, z hb]
  · intro l p _
    exact l.row p
theorem touching_rows {n : Int} {v w : Working} (hv : OkW n v) : touching v w = true ↔ ∃ p, p < (2 * n).toNat ∧ row v p ≠ [] ∧ row w p ≠ [] := by
  have ne : ∀ {u : Working} {p : Nat}, row u p ≠ [] ↔ ∃ x ∈ u, atP p x = true := fun {u p} => by
    unfold row
    constructor
    · intro h
      cases e : proj p u with
      | nil => rw [e] at h; exact absurd rfl h
      | cons x l =>
        have m : x ∈ proj p u := by rw [e]; exact List.mem_cons_self ..
        exact ⟨x, List.mem_filter.mp m⟩
    · rintro ⟨x, hx, h⟩ e
      have m : x ∈ proj p u := List.mem_filter.mpr ⟨hx, h⟩
      have e' : proj p u = [] := by
        have := congrArg List.length e
        rw [List.length_reverse, ic_length] at this
        exact List.eq_nil_of_length_eq_zero this
      rw [e'] at m
      cases m
  unfold touching
  simp only [List.any_eq_true]
  constructor
  · rintro ⟨x, hx, y, hy, t⟩
    have hp := okA_place (hv x hx)
    rcases at_touch t with a | a
    · exact ⟨x.place, by omega, ne.mpr ⟨x, hx, atP_self x⟩, ne.mpr ⟨y, hy, a⟩⟩
    · exact ⟨x.place + 1, hp, ne.mpr ⟨x, hx, atP_next x⟩, ne.mpr ⟨y, hy, a⟩⟩
  · rintro ⟨p, _, h1, h2⟩
    obtain ⟨x, hx, ax⟩ := ne.mp h1
    obtain ⟨y, hy, ay⟩ := ne.mp h2
    exact ⟨x, hx, y, hy, touch_at ax ay⟩
/-! ### all acts of n pairs, the least number first -/
def allActs (n : Int) : List Act := (List.range n.toNat).map Act.twist ++ (List.range (n - 1).toNat).map Act.cross
theorem mem_allActs {n : Int} {x : Act} : x ∈ allActs n ↔ OkA n x := by
  unfold allActs
  rw [List.mem_append, List.mem_map, List.mem_map]
  cases x with
  | twist k =>
    show _ ↔ (k : Int) < n
    constructor
    · rintro (⟨j, hj, e⟩ | ⟨j, _, e⟩)
      · cases e
        have := List.mem_range.mp hj
        omega
      · cases e
    · intro h
      exact .inl ⟨k, List.mem_range.mpr (by omega), rfl⟩
  | cross k =>
    show _ ↔ (k : Int) + 1 < n
    constructor
    · rintro (⟨j, _, e⟩ | ⟨j, hj, e⟩)
      · cases e
      · cases e
        have := List.mem_range.mp hj
        omega
    · intro h
      exact .inr ⟨k, List.mem_range.mpr (by omega), rfl⟩
theorem allActs_sorted {n : Int} (hn : n ≤ 64) : (allActs n).Pairwise fun x y => x.code ≤ y.code := by
  unfold allActs
  rw [List.pairwise_append, List.pairwise_map, List.pairwise_map]
  refine ⟨List.pairwise_lt_range.imp fun {a b} h => Nat.le_of_lt h, List.pairwise_lt_range.imp fun {a b} h => ?_, fun x hx y hy => ?_⟩
  · show 64 + a ≤ 64 + b
    omega
  · obtain ⟨i, hi, rfl⟩ := List.mem_map.mp hx
    obtain ⟨j, hj, rfl⟩ := List.mem_map.mp hy
    have := List.mem_range.mp hi
    show i ≤ 64 + j
    omega
theorem ic_allActs (n : Int) : ic (allActs n) = ((List.range n.toNat).map fun i : Nat => (0 : Int) + (i : Int)) ++ (List.range (n - 1).toNat).map fun i : Nat => (64 : Int) + (i : Int) := by
  unfold allActs
  rw [ic_append]
  unfold ic
  rw [List.map_map, List.map_map]
  refine congr (congrArg _ (List.map_congr_left fun i _ => ?_)) (List.map_congr_left fun i _ => ?_)
  · show ((i : Nat) : Int) = 0 + (i : Int)
    omega
  · show ((64 + i : Nat) : Int) = 64 + (i : Int)
    omega
/-! ### taken off, one after another -/
def firstAll (ws : List Working) (x : Act) : Bool := ws.all fun w => (front x w).isSome
def takeAll (ws : List Working) (x : Act) : List Working := ws.map fun w => (front x w).getD []
inductive Tk (n : Int) : List Working → Working → List Working → Prop
  | done {ws : List Working} : (allActs n).filter (firstAll ws) = [] → Tk n ws [] ws
  | step {ws vs : List Working} {x : Act} {l : List Act} {u : Working} : (allActs n).filter (firstAll ws) = x :: l → Tk n (takeAll ws x) u vs → Tk n ws (x :: u) vs
theorem filter_least {n : Int} (hn : n ≤ 64) {p : Act → Bool} {x : Act} {l : List Act} (h : (allActs n).filter p = x :: l) : OkA n x ∧ p x = true ∧ ∀ y, OkA n y → p y = true → x.code ≤ y.code := by
  have m : x ∈ (allActs n).filter p := by rw [h]; exact List.mem_cons_self ..
  obtain ⟨m1, m2⟩ := List.mem_filter.mp m
  refine ⟨mem_allActs.mp m1, m2, fun y hy py => ?_⟩
  have my : y ∈ (allActs n).filter p := List.mem_filter.mpr ⟨mem_allActs.mpr hy, py⟩
  have s := (allActs_sorted hn).filter p
  rw [h] at s my
  rcases List.mem_cons.mp my with rfl | my
  · exact Nat.le_refl _
  · exact (List.pairwise_cons.mp s).1 y my
theorem filter_none {n : Int} {p : Act → Bool} (h : (allActs n).filter p = []) {y : Act} (hy : OkA n y) : p y = false := by
  cases e : p y with
  | false => rfl
  | true =>
    have my : y ∈ (allActs n).filter p := List.mem_filter.mpr ⟨mem_allActs.mpr hy, e⟩
    rw [h] at my
    cases my
theorem front_ok {n : Int} {w : Working} (hw : OkW n w) {y : Act} (h : (front y w).isSome = true) : OkA n y := by
  obtain ⟨v, hv⟩ := Option.isSome_iff_exists.mp h
  exact hw y (front_mem hv)
theorem front_app {y : Act} {u v : Working} (h : (front y u).isSome = true) : (front y (u ++ v)).isSome = true := by
  obtain ⟨u', hu⟩ := Option.isSome_iff_exists.mp h
  rw [front_append_some hu]
  rfl
theorem tk_one {n : Int} (hn : n ≤ 64) {ws vs : List Working} {u : Working} (h : Tk n ws u vs) : ∀ {w : Working}, ws = [w] → OkW n w → vs = [[]] ∧ Lc w u ∧ IsForm u := by
  induction h with
  | @done ws h =>
    rintro w rfl hw
    cases w with
    | nil => exact ⟨rfl, .refl _, trivial⟩
    | cons x w =>
      have := filter_none h hw.head
      simp [firstAll, front_self] at this
  | @step ws vs x l u h _ ih =>
    rintro w rfl hw
    obtain ⟨h1, h2, h3⟩ := filter_least hn h
    have h2 : (front x w).isSome = true := by simpa [firstAll] using h2
    obtain ⟨w', e⟩ := Option.isSome_iff_exists.mp h2
    obtain ⟨i1, i2, i3⟩ := ih (w := w') (by simp [takeAll, e]) (hw.front e)
    have l : Lc w (x :: u) := (front_lc e).trans (.cons x i2)
    refine ⟨i1, l, fun y hy => ?_, i3⟩
    have fy : (front y w).isSome = true := by rw [l.front_isSome]; exact hy
    exact h3 y (front_ok hw fy) (by simp [firstAll, fy])
theorem tk_two {n : Int} (hn : n ≤ 64) {ws vs : List Working} {u : Working} (h : Tk n ws u vs) : ∀ {a b : Working}, ws = [a, b] → OkW n a → OkW n b → ∃ v w, vs = [v, w] ∧ Lc a (u ++ v) ∧ Lc b (u ++ w) ∧ Apart v w ∧ IsForm u := by
  induction h with
  | @done ws h =>
    rintro a b rfl ha hb
    refine ⟨a, b, rfl, .refl _, .refl _, fun x h1 h2 => ?_, trivial⟩
    have := filter_none h (front_ok ha h1)
    simp [firstAll, h1, h2] at this
  | @step ws vs x l u h _ ih =>
    rintro a b rfl ha hb
    obtain ⟨h1, h2, h3⟩ := filter_least hn h
    have h2 : (front x a).isSome = true ∧ (front x b).isSome = true := by simpa [firstAll] using h2
    obtain ⟨a', ea⟩ := Option.isSome_iff_exists.mp h2.1
    obtain ⟨b', eb⟩ := Option.isSome_iff_exists.mp h2.2
    obtain ⟨v, w, i1, i2, i3, i4, i5⟩ := ih (a := a') (b := b') (by simp [takeAll, ea, eb]) (ha.front ea) (hb.front eb)
    have la : Lc a (x :: u ++ v) := (front_lc ea).trans (.cons x i2)
    have lb : Lc b (x :: u ++ w) := (front_lc eb).trans (.cons x i3)
    refine ⟨v, w, i1, la, lb, i4, fun y hy => ?_, i5⟩
    have fa : (front y a).isSome = true := by rw [la.front_isSome]; exact front_app hy
    have fb : (front y b).isSome = true := by rw [lb.front_isSome]; exact front_app hy
    exact h3 y (front_ok ha fa) (by simp [firstAll, fa, fb])
/-- the form of one -/
theorem tk_form {n : Int} (hn : n ≤ 64) {vs : List Working} {u w : Working} (hw : OkW n w) (h : Tk n [w] u vs) : vs = [[]] ∧ u = formOf w := by
  obtain ⟨h1, h2, h3⟩ := tk_one hn h rfl hw
  exact ⟨h1, (form_unique (hw.fine hn) h2 h3).symm⟩
/-- the common beginning of two -/
theorem tk_common {n : Int} (hn : n ≤ 64) {vs : List Working} {u a b : Working} (ha : OkW n a) (hb : OkW n b) (h : Tk n [a, b] u vs) :
    ∃ v w, vs = [v, w] ∧ Lc a (u ++ v) ∧ Lc b (u ++ w) ∧ Apart v w ∧ u = formOf (commonOf a b) ∧ OkW n u ∧ OkW n v ∧ OkW n w := by
  obtain ⟨v, w, h1, h2, h3, h4, h5⟩ := tk_two hn h rfl ha hb
  have l := common_unique h2 h3 h4
  have ou : OkW n u := (ha.lc h2).sub fun x hx => List.mem_append.mpr (.inl hx)
  have ov : OkW n v := (ha.lc h2).sub fun x hx => List.mem_append.mpr (.inr hx)
  have ow : OkW n w := (hb.lc h3).sub fun x hx => List.mem_append.mpr (.inr hx)
  exact ⟨v, w, h1, h2, h3, h4, (form_unique ((ou.lc l).fine hn) l.symm h5).symm, ou, ov, ow⟩
theorem formOf_length (w : Working) : (formOf w).length = w.length := (form_lc w).length.symm
/-! ### what the calls ask of it -/
theorem left_none {a b u v w : Working} (la : Lc a (u ++ v)) (lb : Lc b (u ++ w)) (hp : Apart v w) (h : u.length < a.length) : leftOf a b = none := by
  cases e : leftOf a b with
  | none => rfl
  | some l =>
    have lb' := leftOf_lc e
    have c1 := common_unique la lb hp
    have c2 := common_unique (a := a) (b := b) (u := a) (v := []) (w := l) (by rw [List.append_nil]; exact .refl _) lb' fun x h1 => by cases h1
    have := c1.length
    have := c2.length
    omega
theorem left_some {n : Int} (hn : n ≤ 64) {a b u v w : Working} (hw : OkW n w) (la : Lc a (u ++ v)) (lb : Lc b (u ++ w)) (h : ¬ u.length < a.length) : ∃ l, leftOf a b = some l ∧ formOf l = formOf w := by
  have e := la.length
  rw [List.length_append] at e
  have e2 : v = [] := List.eq_nil_of_length_eq_zero (by omega)
  subst e2
  rw [List.append_nil] at la
  obtain ⟨l, h1, h2⟩ := leftOf_of (u := a) (w := b) (v := w) (lb.trans (la.symm.append_right w))
  exact ⟨l, h1, (form_eq (hw.fine hn) h2).symm⟩
end Bl
set_option linter.all false
/-! THE CALLS: what is due, by refusal and by working; the ways of a thread. -/
namespace Bl
open Lca
theorem common_len (a b : Working) : (commonOf a b).length ≤ a.length ∧ (commonOf a b).length ≤ b.length := by
  obtain ⟨v, w, _, _, l1, l2, _⟩ := common_parts a b
  have e1 := l1.length
  have e2 := l2.length
  rw [List.length_append] at e1 e2
  omega
/-! ### refusals of one or two workings -/
def refusalL (n : Int) (as : List (List Int)) : Int := if (as.any fun a => oob n a) = true then -1 else if (as.any fun a => decide (firstWrong n a < a.length)) = true then -5 else 0
theorem refusal_one (n : Int) (a : List Int) : refusalL n [a] = refusal n a := by
  unfold refusalL refusal
  simp only [List.any_cons, List.any_nil, Bool.or_false, decide_eq_true_eq]
theorem refusalL_0 {n : Int} {as : List (List Int)} (h : refusalL n as = 0) : ∀ a ∈ as, refusal n a = 0 := by
  intro a ha
  unfold refusalL at h
  by_cases h1 : (as.any fun a => oob n a) = true
  · rw [if_pos h1] at h
    cases h
  · rw [if_neg h1] at h
    by_cases h2 : (as.any fun a => decide (firstWrong n a < a.length)) = true
    · rw [if_pos h2] at h
      cases h
    · unfold refusal
      have k1 : ¬ oob n a = true := fun z => h1 (List.any_eq_true.mpr ⟨a, ha, z⟩)
      have k2 : ¬ firstWrong n a < a.length := fun z => h2 (List.any_eq_true.mpr ⟨a, ha, decide_eq_true z⟩)
      rw [if_neg k1, if_neg k2]
/-- a working that is not refused -/
theorem okList {n : Int} {a : List Int} (h : refusal n a = 0) (h0 : ∀ z ∈ a, 0 ≤ z) : 1 ≤ n ∧ n ≤ 32 ∧ (wk n a).length ≤ 512 ∧ OkW n (wk n a) ∧ a = ic (wk n a) := by
  obtain ⟨b1, b2, b3, b4⟩ := refusal_0 h
  obtain ⟨c1, c2⟩ := wk_ok h0 b4
  refine ⟨b1, b2, ?_, c1, c2.symm⟩
  have := ic_length (wk n a)
  rw [c2] at this
  omega
theorem two_eq {n : Int} {a b : List Int} (hn : 0 ≤ n) (ha : ∀ z ∈ a, 0 ≤ z) (hb : ∀ z ∈ b, 0 ≤ z) (f : Working → Working → Answer) :
    LcaNeutral.shown (Lca.two n.toNat (LcaNeutral.nats a) (LcaNeutral.nats b) f) = if refusalL n [a, b] = 0 then LcaNeutral.shown (f (wk n a) (wk n b)) else [refusalL n [a, b]] := by
  unfold Lca.two
  rw [bad_eq hn, bad_eq hn]
  unfold refusalL
  simp only [List.any_cons, List.any_nil, Bool.or_false]
  by_cases h1 : (oob n a || oob n b) = true
  · rw [if_pos h1, if_pos h1]
    rfl
  · rw [if_neg h1, if_neg h1, one_eq hn ha]
    have h1' : ¬ oob n a = true ∧ ¬ oob n b = true := by
      simp only [Bool.or_eq_true, not_or] at h1
      exact h1
    unfold refusal
    rw [if_neg h1'.1]
    by_cases h2 : firstWrong n a < a.length
    · simp [h2]
    · rw [if_neg h2, if_pos rfl, one_eq hn hb]
      unfold refusal
      rw [if_neg h1'.2]
      by_cases h3 : firstWrong n b < b.length
      · simp [h2, h3]
      · simp [h2, h3]
/-! ### the ways of a thread -/
/-- the threads at all places differ -/
def Dis (r : List Nat) : Prop := ∀ i j, i < r.length → j < r.length → r.getD i 0 = r.getD j 0 → i = j
theorem getD_exchanged {r : List Nat} {p i : Nat} (hp : p + 1 < r.length) : (exchanged r p).getD i 0 = r.getD (if i = p then p + 1 else if i = p + 1 then p else i) 0 := by
  unfold exchanged
  rw [List.getD_eq_getElem?_getD, List.getElem?_set]
  by_cases h1 : p + 1 = i
  · rw [if_pos h1, List.length_set, if_pos hp, if_neg (by omega), if_pos h1.symm]
    rfl
  · rw [if_neg h1, List.getElem?_set]
    by_cases h2 : p = i
    · rw [if_pos h2, if_pos (by omega), if_pos h2.symm]
      rfl
    · rw [if_neg h2, if_neg (fun z => h2 z.symm), if_neg (fun z => h1 z.symm), List.getD_eq_getElem?_getD]
theorem length_exchanged (r : List Nat) (p : Nat) : (exchanged r p).length = r.length := by
  unfold exchanged
  rw [List.length_set, List.length_set]
theorem Dis.does {r : List Nat} (h : Dis r) {x : Act} (hx : x.place + 1 < r.length) : Dis (x.does r) := by
  intro i j hi hj e
  unfold Act.does at *
  rw [length_exchanged] at hi hj
  rw [getD_exchanged hx, getD_exchanged hx] at e
  have k := h _ _ (by split <;> (try split) <;> omega) (by split <;> (try split) <;> omega) e
  split at k <;> split at k <;> (try split at k) <;> (try split at k) <;> omega
theorem dis_range (m : Nat) : Dis (List.range m) := by
  intro i j hi hj e
  rw [List.length_range] at hi hj
  rw [List.getD_eq_getElem?_getD, List.getD_eq_getElem?_getD, List.getElem?_range hi, List.getElem?_range hj] at e
  exact e
def endFrom (r : List Nat) (w : Working) : List Nat := w.foldl (fun (r : Rows) (x : Act) => x.does r) r
theorem endFrom_length (w : Working) : ∀ r : List Nat, (endFrom r w).length = r.length := by
  induction w with
  | nil => intro r; rfl
  | cons x w ih =>
    intro r
    show (endFrom (x.does r) w).length = _
    rw [ih]
    exact length_exchanged r x.place
theorem endFrom_snoc (r : List Nat) (w : Working) (x : Act) : endFrom r (w ++ [x]) = x.does (endFrom r w) := by
  unfold endFrom
  rw [List.foldl_append]
  rfl
theorem Dis.endFrom {w : Working} : ∀ {r : List Nat}, Dis r → (∀ x ∈ w, x.place + 1 < r.length) → Dis (Bl.endFrom r w) := by
  induction w with
  | nil => intro r h _; exact h
  | cons x w ih =>
    intro r h hw
    refine ih (h.does (hw x (List.mem_cons_self ..))) fun y hy => ?_
    show _ < (exchanged r x.place).length
    rw [length_exchanged]
    exact hw y (List.mem_cons_of_mem _ hy)
theorem crossings_snoc (w : Working) (x : Act) : ∀ r : List Nat, crossingsFrom r (w ++ [x]) = crossingsFrom r w ++ [x.overIn (endFrom r w)] := by
  induction w with
  | nil => intro r; rfl
  | cons y w ih =>
    intro r
    show y.overIn r :: crossingsFrom (y.does r) (w ++ [x]) = y.overIn r :: (crossingsFrom (y.does r) w ++ [x.overIn (endFrom (y.does r) w)])
    rw [ih]
/-- one crossing of thread t: r the threads ahead of it -/
def wayOf (r : List Int) (t c : Int) : List Int :=
  if r.getD (leftPlace c).toNat 0 = t then [r.getD ((leftPlace c).toNat + 1) 0 + (if 64 ≤ c then 128 else 0)]
  else if r.getD ((leftPlace c).toNat + 1) 0 = t then [r.getD (leftPlace c).toNat 0 + (if 64 ≤ c then 0 else 128)] else []
def ways (n t : Int) (w : Working) : List Int := castL (waysOf n.toNat w t.toNat)
theorem ways_nil (n t : Int) : ways n t [] = [] := rfl
theorem ways_snoc {n t : Int} (hn : 1 ≤ n) (hn2 : n ≤ 64) (ht : 0 ≤ t) {w : Working} {x : Act} (hw : OkW n w) (hx : OkA n x) : ways n t (w ++ [x]) = ways n t w ++ wayOf (castL (endOf n.toNat w)) t ((x.code : Nat) : Int) := by
  have hd : Dis (endOf n.toNat w) := (dis_range _).endFrom fun y hy => by
    rw [List.length_range]
    have := okA_place (hw y hy)
    omega
  have hl : (endOf n.toNat w).length = 2 * n.toNat := by
    show (endFrom _ w).length = _
    rw [endFrom_length, List.length_range]
  have hp := okA_place hx
  unfold ways waysOf
  rw [crossings_snoc, List.filterMap_append]
  unfold castL
  rw [List.map_append]
  congr 1
  show List.map _ (List.filterMap _ [x.overIn (endOf n.toNat w)]) = _
  unfold wayOf
  rw [okA_left hn2 hx, show (((x.place : Nat) : Int)).toNat = x.place from rfl]
  have g : ∀ i, (List.map (fun (i : Nat) => (i : Int)) (endOf n.toNat w)).getD i 0 = (((endOf n.toNat w).getD i 0 : Nat) : Int) := fun i => castL_getD _ i
  rw [g, g]
  generalize hr : endOf n.toNat w = r at *
  have ne : r.getD x.place 0 = r.getD (x.place + 1) 0 → False := fun e => by
    have := hd _ _ (by omega) (by omega) e
    omega
  have ti : ∀ m : Nat, ((m : Int) = t) ↔ m = t.toNat := fun m => by omega
  cases x with
  | twist k =>
    have hk : (k : Int) < n := hx
    have hc : ¬ (64 : Int) ≤ ((Act.code (.twist k) : Nat) : Int) := by show ¬ (64 : Int) ≤ ((k : Nat) : Int); omega
    rw [if_neg hc, if_neg hc]
    have ho : (Act.twist k).overIn r = (r.getD (2 * k + 1) 0, r.getD (2 * k) 0) := rfl
    rw [ho]
    show List.map _ (List.filterMap _ [(r.getD (2 * k + 1) 0, r.getD (2 * k) 0)]) = if ((r.getD (2 * k) 0 : Nat) : Int) = t then [((r.getD (2 * k + 1) 0 : Nat) : Int) + 0] else if ((r.getD (2 * k + 1) 0 : Nat) : Int) = t then [((r.getD (2 * k) 0 : Nat) : Int) + 128] else []
    have ne' : r.getD (2 * k) 0 = r.getD (2 * k + 1) 0 → False := ne
    generalize r.getD (2 * k) 0 = A at *
    generalize r.getD (2 * k + 1) 0 = B at *
    simp only [ti, List.filterMap_cons, List.filterMap_nil]
    by_cases h1 : A = t.toNat
    · have h2 : ¬ B = t.toNat := fun z => ne' (by omega)
      simp [h1, h2]
    · by_cases h2 : B = t.toNat
      · simp [h1, h2]
      · simp [h1, h2]
  | cross k =>
    have hc : (64 : Int) ≤ ((Act.code (.cross k) : Nat) : Int) := by show (64 : Int) ≤ ((64 + k : Nat) : Int); omega
    rw [if_pos hc, if_pos hc]
    have ho : (Act.cross k).overIn r = (r.getD (2 * k + 1) 0, r.getD (2 * k + 2) 0) := rfl
    rw [ho]
    show List.map _ (List.filterMap _ [(r.getD (2 * k + 1) 0, r.getD (2 * k + 2) 0)]) = if ((r.getD (2 * k + 1) 0 : Nat) : Int) = t then [((r.getD (2 * k + 2) 0 : Nat) : Int) + 128] else if ((r.getD (2 * k + 2) 0 : Nat) : Int) = t then [((r.getD (2 * k + 1) 0 : Nat) : Int) + 0] else []
    generalize r.getD (2 * k + 1) 0 = A at *
    generalize r.getD (2 * k + 2) 0 = B at *
    simp only [ti, List.filterMap_cons, List.filterMap_nil]
    by_cases h1 : A = t.toNat
    · simp [h1]
    · by_cases h2 : B = t.toNat
      · simp [h1, h2]
      · simp [h1, h2]
theorem ways_length {n t : Int} (w : Working) : (ways n t w).length ≤ w.length := by
  unfold ways waysOf castL
  rw [List.length_map]
  refine Nat.le_trans (List.length_filterMap_le ..) ?_
  have : ∀ (w : Working) (r : List Nat), (crossingsFrom r w).length = w.length := by
    intro w
    induction w with
    | nil => intro r; rfl
    | cons x w ih => intro r; show (crossingsFrom (x.does r) w).length + 1 = _; rw [ih]; rfl
  rw [this]
  exact Nat.le_refl _
/-! ### what is due, call by call -/
theorem thread_eq {n t : Int} {a : List Int} (hn : 0 ≤ n) (ht : 0 ≤ t) (h : ∀ z ∈ a, 0 ≤ z) : PyWqamcg.thread n t a = if 2 * n ≤ t then [-1] else if refusalL n [a] = 0 then 0 :: ways n t (wk n a) else [refusalL n [a]] := by
  show LcaNeutral.shown (if 2 * n.toNat ≤ t.toNat then .refused 1 [] else Lca.one n.toNat (LcaNeutral.nats a) fun w => .told (waysOf n.toNat w t.toNat)) = _
  by_cases h1 : 2 * n ≤ t
  · rw [if_pos h1, if_pos (by omega)]
    rfl
  · rw [if_neg h1, if_neg (by omega), one_eq hn h, refusal_one]
    rfl
theorem codes_cast (w : Working) : (codes w).map (fun (i : Nat) => (i : Int)) = ic w := by
  unfold codes ic
  rw [List.map_map]
  rfl
theorem form_eqC {n : Int} {a : List Int} (hn : 0 ≤ n) (h : ∀ z ∈ a, 0 ≤ z) : PyWqamcg.form n a = if refusalL n [a] = 0 then 0 :: ic (formOf (wk n a)) else [refusalL n [a]] := by
  show LcaNeutral.shown (Lca.one n.toNat (LcaNeutral.nats a) fun w => .told (codes (formOf w))) = _
  rw [one_eq hn h, refusal_one, ← codes_cast]
  rfl
theorem right_eqC {n : Int} {a : List Int} (hn : 0 ≤ n) (h : ∀ z ∈ a, 0 ≤ z) : PyWqamcg.right n a = if refusalL n [a] = -5 then [-5, (firstWrong n a : Int)] else [refusalL n [a]] := by
  rw [right_eq hn h, refusal_one]
  rfl
theorem ends_eqC {n : Int} {a : List Int} (hn : 0 ≤ n) (h : ∀ z ∈ a, 0 ≤ z) : PyWqamcg.ends n a = if refusalL n [a] = 0 then 0 :: castL (endOf n.toNat (wk n a)) else [refusalL n [a]] := by
  show LcaNeutral.shown (Lca.one n.toNat (LcaNeutral.nats a) fun w => .told (endOf n.toNat w)) = _
  rw [one_eq hn h, refusal_one]
  rfl
section
variable {n : Int} {a b : List Int} (hn : 0 ≤ n) (ha : ∀ z ∈ a, 0 ≤ z) (hb : ∀ z ∈ b, 0 ≤ z)
include hn ha hb
theorem same_eqC : PyWqamcg.same n a b = if refusalL n [a, b] = 0 then [0, if sameLace (wk n a) (wk n b) = true then 1 else 0] else [refusalL n [a, b]] := by
  show LcaNeutral.shown (Lca.two n.toNat (LcaNeutral.nats a) (LcaNeutral.nats b) fun v w => .told [if sameLace v w = true then 1 else 0]) = _
  rw [two_eq hn ha hb]
  by_cases h : sameLace (wk n a) (wk n b) = true
  · simp [h, LcaNeutral.shown]
  · simp [h, LcaNeutral.shown]
theorem common_eqC : PyWqamcg.common n a b = if refusalL n [a, b] = 0 then 0 :: ic (formOf (commonOf (wk n a) (wk n b))) else [refusalL n [a, b]] := by
  show LcaNeutral.shown (Lca.two n.toNat (LcaNeutral.nats a) (LcaNeutral.nats b) fun v w => .told (codes (formOf (commonOf v w)))) = _
  rw [two_eq hn ha hb, ← codes_cast]
  rfl
theorem left_eqC : PyWqamcg.left n a b = if refusalL n [a, b] = 0 then (match leftOf (wk n a) (wk n b) with | none => [-6] | some l => 0 :: ic (formOf l)) else [refusalL n [a, b]] := by
  show LcaNeutral.shown (Lca.two n.toNat (LcaNeutral.nats a) (LcaNeutral.nats b) fun v w => match leftOf v w with | none => .refused 6 [] | some l => .told (codes (formOf l))) = _
  rw [two_eq hn ha hb]
  cases leftOf (wk n a) (wk n b) with
  | none => rfl
  | some l =>
    simp only
    rw [← codes_cast]
    rfl
theorem joined_eqC : PyWqamcg.joined n a b = if refusalL n [a, b] = 0 then (match joinedOf (wk n a) (wk n b) with | none => [-6] | some l => 0 :: ic (formOf l)) else [refusalL n [a, b]] := by
  show LcaNeutral.shown (Lca.two n.toNat (LcaNeutral.nats a) (LcaNeutral.nats b) fun v w => match joinedOf v w with | none => .refused 6 [] | some l => .told (codes (formOf l))) = _
  rw [two_eq hn ha hb]
  cases joinedOf (wk n a) (wk n b) with
  | none => rfl
  | some l =>
    simp only
    rw [← codes_cast]
    rfl
theorem undone_eqC : PyWqamcg.undone n a b = if refusalL n [a, b] = 0 then [0, (((wk n a).length - (commonOf (wk n a) (wk n b)).length : Nat) : Int), (((wk n b).length - (commonOf (wk n a) (wk n b)).length : Nat) : Int)] else [refusalL n [a, b]] := by
  show LcaNeutral.shown (Lca.two n.toNat (LcaNeutral.nats a) (LcaNeutral.nats b) fun v w => .told [v.length - (commonOf v w).length, w.length - (commonOf v w).length]) = _
  rw [two_eq hn ha hb]
  rfl
end
end Bl
set_option Elab.async false
set_option linter.all false
set_option maxRecDepth 100000
/-! HEAPS WITH ROWS, and more rules: comprehensions apart, while by a ghost, reversed, zip, equal lists. -/
namespace L2
open PySem PySem.Spec PyProof.Rows
section
variable {X : Cx}
theorem call_range2 : CallR X (.type "range") (fun xs H Q => ∃ i j : Int, xs = [.int i, .int j] ∧ ∀ r, H r = none → Q (.ref r) (upd H r (.rng i j))) := by
  intro pins s σ H xs us Q I r h
  obtain ⟨i, j, rfl, q⟩ := h
  obtain ⟨u, u2, rfl, rx, ry⟩ := vals2 r
  obtain ⟨t, rfl⟩ := rx
  obtain ⟨t2, rfl⟩ := ry
  refine call_range_2 ?_
  exact ⟨.ref s.heap.objs.size, _, I.laid (fun b o e => Heap.get?_push_of_some _ e) (Nat.le_refl _) (show ObjOk X.prog X.w _ _ _ (.rng i j) from ⟨_, _, _, Heap.get?_push_size _ rfl⟩), rfl, q _ I.fresh⟩
end
/-! ### comprehensions, apart from what they walk -/
def LcR (g : TG) (tt : TT) (te : TE) (vs : List Nat) (σ : St) (Q : VK) (J : It) (H1 : Hp) : Prop := ∀ D, H1 D = none → ∃ W : Nat → Nat → Hp → Prop, (∃ m, W 0 m (upd H1 D (.lst []))) ∧ ∀ i m H, W i m H →
  (J.stop i H ∧ Q (.ref D) H) ∨ (J.go i H ∧ ∃ Nx : Hp → Prop, (∀ H', Nx H' → ∃ m', m' < m ∧ W (i + 1) m' H') ∧ ∀ x H', J.yld i H x H' → g x (wipe σ vs) H' fun σ2 H2 => wipe σ2 vs = wipe σ vs ∧ tt σ2 H2 fun b H3 =>
    if b = true then te σ2 H3 fun y H4 => ∃ acc, H4 D = some (.lst acc) ∧ acc.length < sizeLine ∧ Nx (upd H4 D (.lst (acc ++ [y]))) else Nx H3)
theorem tLc_eq {wi : TI} {g : TG} {tt : TT} {te : TE} {vs : List Nat} {σ : St} {H : Hp} {Q : VK} : tLc wi g tt te vs σ H Q = wi σ H (LcR g tt te vs σ Q) := rfl
/-! ### while, by a ghost measure -/
theorem while_g {c : TT} {tb : TS} {D : Ends} {σ : St} {H : Hp} (W : Nat → St → Hp → Prop) (h0 : ∃ m, W m σ H)
    (hs : ∀ m σ H, W m σ H → c σ H fun b H1 => if b = true then tb { D with nx := fun σ' H' => ∃ m', m' < m ∧ W m' σ' H', ct := fun σ' H' => ∃ m', m' < m ∧ W m' σ' H', bk := D.nx } σ H1 else D.nx σ H1)
    (mono : ∀ σ H Q Q', (∀ b H1, Q b H1 → Q' b H1) → c σ H Q → c σ H Q') : tWhile c tb D σ H := by
  refine ⟨W, h0, fun m σ H w => mono σ H _ _ (fun b H1 q => ?_) (hs m σ H w)⟩
  cases b with
  | true => exact ⟨_, fun σ' H' p' => p', q⟩
  | false => exact q
/-! ### reversed -/
theorem loop_rev {K : PySem.W.Frag} {a : Addr} {xs : List V} {g : TG} {tb : TS} {D : Ends} {σ : St} {H : Hp} (Pv : Nat → St → Hp → Prop) (h0 : Pv 0 σ H) (hl : ∀ i σ H, i ≤ xs.length → Pv i σ H → SqL K H a xs)
    (hs : ∀ i x σ H, i < xs.length → xs[xs.length - 1 - i]? = some x → Pv i σ H → g x σ H fun σ2 H2 => tb { D with nx := Pv (i + 1), ct := Pv (i + 1), bk := D.nx } σ2 H2) (hd : ∀ σ H, Pv xs.length σ H → D.nx σ H) :
    LoopR g tb D σ (Itv K a xs.length) H := by
  refine ⟨fun i m σ H => m = xs.length - i ∧ i ≤ xs.length ∧ Pv i σ H, ⟨xs.length, by simp, Nat.zero_le _, h0⟩, ?_⟩
  rintro i m σ H ⟨rfl, hi, p⟩
  have q := hl i σ H hi p
  by_cases hlt : i < xs.length
  · refine .inr ⟨⟨hlt, xs, xs[xs.length - 1 - i], q, by rw [List.getElem?_eq_getElem (by omega)]⟩, Pv (i + 1), fun σ' H' p' => ⟨xs.length - (i + 1), by omega, rfl, hlt, p'⟩, fun x H' y => ?_⟩
    obtain ⟨e, y⟩ := y
    subst e
    exact hs i x σ _ hlt (y xs q) p
  · have e : i = xs.length := by omega
    subst e
    exact .inl ⟨Nat.le_refl _, hd σ H p⟩
/-! ### zip of two lists of one length -/
theorem loop_zip {K : PySem.W.Frag} {a b : Addr} {xs ys : List V} {g : TG} {tb : TS} {D : Ends} {σ : St} {H : Hp} (e : xs.length = ys.length) (Pv : Nat → St → Hp → Prop) (h0 : Pv 0 σ H) (hl : ∀ i σ H, i ≤ xs.length → Pv i σ H → SqL K H a xs ∧ SqL K H b ys)
    (hs : ∀ i x y σ H T, xs[i]? = some x → ys[i]? = some y → Pv i σ H → H T = none → g (.ref T) σ (upd H T (.tup [x, y])) fun σ2 H2 => tb { D with nx := Pv (i + 1), ct := Pv (i + 1), bk := D.nx } σ2 H2) (hd : ∀ σ H, Pv xs.length σ H → D.nx σ H) :
    LoopR g tb D σ (Itz K a b) H := by
  refine ⟨fun i m σ H => m = xs.length - i ∧ i ≤ xs.length ∧ Pv i σ H, ⟨xs.length, by simp, Nat.zero_le _, h0⟩, ?_⟩
  rintro i m σ H ⟨rfl, hi, p⟩
  obtain ⟨q1, q2⟩ := hl i σ H hi p
  by_cases hlt : i < xs.length
  · refine .inr ⟨⟨xs, ys, xs[i], ys[i], q1, q2, by rw [List.getElem?_eq_getElem hlt], by rw [List.getElem?_eq_getElem (by omega)]⟩, Pv (i + 1), fun σ' H' p' => ⟨xs.length - (i + 1), by omega, rfl, hlt, p'⟩, fun x H' y => ?_⟩
    obtain ⟨T, x1, y1, rfl, hT, rfl, k1, k2⟩ := y
    exact hs i x1 y1 σ _ T (k1 xs q1) (k2 ys q2) p hT
  · have e' : i = xs.length := by omega
    subst e'
    exact .inl ⟨⟨xs, ys, q1, q2, .inl (Nat.le_refl _)⟩, hd σ H p⟩
/-! ### lists of whole numbers that are equal -/
def dInts (l : List Int) : PyData := .list (l.map PyData.int)
theorem eqv_ints : ∀ (l m : List Int), PyData.eqvAll (l.map PyData.int) (m.map PyData.int) = decide (l = m)
  | [], [] => by simp [PyData.eqvAll]
  | [], _ :: _ => by simp [PyData.eqvAll]
  | _ :: _, [] => by simp [PyData.eqvAll]
  | a :: l, b :: m => by
    rw [List.map_cons, List.map_cons, PyData.eqvAll, eqv_ints l m]
    by_cases h : a = b
    · by_cases h2 : l = m
      · simp [PyData.eqv, h, h2]
      · simp [PyData.eqv, h, h2]
    · simp [PyData.eqv, h]
theorem eqv_dInts (l m : List Int) : PyData.eqv (dInts l) (dInts m) = decide (l = m) := by
  unfold dInts
  rw [PyData.eqv]
  exact eqv_ints l m
theorem eqv_rows : ∀ (l m : List (List Int)), PyData.eqvAll (l.map dInts) (m.map dInts) = decide (l = m)
  | [], [] => by simp [PyData.eqvAll]
  | [], _ :: _ => by simp [PyData.eqvAll]
  | _ :: _, [] => by simp [PyData.eqvAll]
  | a :: l, b :: m => by
    rw [List.map_cons, List.map_cons, PyData.eqvAll, eqv_rows l m, eqv_dInts]
    by_cases h : a = b
    · by_cases h2 : l = m
      · simp [h, h2]
      · simp [h, h2]
    · simp [h]
theorem eqv_dRows (l m : List (List Int)) : PyData.eqv (.list (l.map dInts)) (.list (m.map dInts)) = decide (l = m) := by
  rw [PyData.eqv]
  exact eqv_rows l m
theorem lay_ints : ∀ l : List Int, PyData.canLayAll0 (l.map PyData.int) = true ∧ PyData.depthAll (l.map PyData.int) ≤ 1
  | [] => by simp [PyData.canLayAll0, PyData.depthAll]
  | a :: l => by
    obtain ⟨h1, h2⟩ := lay_ints l
    simp only [List.map_cons, PyData.canLayAll0, PyData.canLay0, PyData.depthAll, PyData.depth, h1]
    refine ⟨rfl, ?_⟩
    omega
theorem lay_dInts (l : List Int) : (dInts l).canLay0 = true ∧ (dInts l).depth ≤ 2 := by
  obtain ⟨h1, h2⟩ := lay_ints l
  unfold dInts
  simp only [PyData.canLay0, PyData.depth]
  refine ⟨h1, ?_⟩
  omega
theorem shaped_dInts (l : List Int) : SeqAt.shaped (dInts l) = true := by
  obtain ⟨h1, h2⟩ := lay_dInts l
  unfold SeqAt.shaped
  rw [h1, Bool.true_and, decide_eq_true_eq]
  omega
theorem lay_rows : ∀ l : List (List Int), PyData.canLayAll0 (l.map dInts) = true ∧ PyData.depthAll (l.map dInts) ≤ 2
  | [] => by simp [PyData.canLayAll0, PyData.depthAll]
  | a :: l => by
    obtain ⟨h1, h2⟩ := lay_rows l
    obtain ⟨h3, h4⟩ := lay_dInts a
    simp only [List.map_cons, PyData.canLayAll0, PyData.depthAll, h1, h3]
    refine ⟨rfl, ?_⟩
    omega
theorem shaped_dRows (l : List (List Int)) : SeqAt.shaped (.list (l.map dInts)) = true := by
  obtain ⟨h1, h2⟩ := lay_rows l
  unfold SeqAt.shaped
  refine Bool.and_eq_true_iff.mpr ⟨by rw [PyData.canLay0]; exact h1, decide_eq_true ?_⟩
  rw [PyData.depth]
  omega
theorem dpAll_ints {K : PySem.W.Frag} {H : Hp} : ∀ l : List Int, DpAll K H (l.map V.int) (l.map PyData.int)
  | [] => .nil
  | a :: l => .cons (.int a) (dpAll_ints l)
theorem dp_ints {K : PySem.W.Frag} {H : Hp} {a : Addr} {l : List Int} (h : SqL K H a (l.map V.int)) : Dp K H (.ref a) (dInts l) := .lst h (dpAll_ints l)
theorem dpAll_rows {K : PySem.W.Frag} {H : Hp} : ∀ {rs : List Addr} {l : List (List Int)}, rs.length = l.length → (∀ (i : Nat) (a : Addr) (m : List Int), rs[i]? = some a → l[i]? = some m → H a = some (.lst (m.map V.int))) → DpAll K H (rs.map V.ref) (l.map dInts)
  | [], [], _, _ => .nil
  | [], _ :: _, e, _ => by cases e
  | _ :: _, [], e, _ => by cases e
  | a :: rs, m :: l, e, h => .cons (dp_ints (SqL.of (h 0 a m rfl rfl))) (dpAll_rows (by simpa using e) fun i b k h1 h2 => h (i + 1) b k (by simpa using h1) (by simpa using h2))
/-- xs[-1:] -/
theorem cut_last (xs : List V) : cutV xs (some (-1)) none = xs.drop (xs.length - 1) := by
  unfold cutV
  have e1 : HT.sIx xs.length 0 (some (-1)) = xs.length - 1 := by
    simp only [HT.sIx]
    rw [if_pos (by decide)]
    omega
  have e2 : HT.sIx xs.length xs.length none = xs.length := rfl
  rw [e1, e2, List.take_of_length_le (by rw [List.length_drop]; omega)]
/-! ### what is tracked stays, but for S -/
structure Fr (S : List Addr) (H H' : Hp) : Prop where
  keep : ∀ b o, b ∉ S → H b = some o → H' b = some o
  dom : ∀ b, H' b = none → H b = none
theorem Fr.refl (S : List Addr) (H : Hp) : Fr S H H := ⟨fun _ _ _ h => h, fun _ h => h⟩
theorem Fr.trans {S : List Addr} {H H1 H2 : Hp} (a : Fr S H H1) (b : Fr S H1 H2) : Fr S H H2 := ⟨fun c o n h => b.keep c o n (a.keep c o n h), fun c h => a.dom c (b.dom c h)⟩
theorem Fr.mono {S T : List Addr} {H H1 : Hp} (a : Fr S H H1) (s : ∀ b ∈ S, b ∈ T) : Fr T H H1 := ⟨fun c o n h => a.keep c o (fun z => n (s c z)) h, a.dom⟩
theorem Same.fr {S : List Addr} {H H' : Hp} (s : Same H H') : Fr S H H' := ⟨fun b o _ h => s b o h, fun _ h => s.free h⟩
theorem Fr.same {S : List Addr} {H0 H H' : Hp} (f : Fr S H H') (s : Same H0 H) (n : ∀ b ∈ S, H0 b = none) : Same H0 H' := fun b o h => by
  refine f.keep b o (fun z => ?_) (s b o h)
  rw [n b z] at h
  cases h
theorem Fr.write {S : List Addr} {H : Hp} {a : Addr} {o : HO} (m : a ∈ S) : Fr S H (upd H a o) := ⟨fun b u n h => by rw [upd_ne (fun z => n (by rw [z]; exact m))]; exact h, fun b h => (upd_none h).2⟩
theorem Fr.seq {K : PySem.W.Frag} {S : List Addr} {H H' : Hp} {a : Addr} {xs : List V} (e : Fr S H H') (n : a ∉ S) (h : SqL K H a xs) : SqL K H' a xs := by
  rcases h with (h | ⟨o, h⟩) | h
  · exact .inl (.inl (e.keep _ _ n h))
  · exact .inl (.inr ⟨o, e.keep _ _ n h⟩)
  · exact .inr h
/-! ### rows on the heap -/
open Bl in
structure RowsAt (n : Int) (H : Hp) (r : Addr) (rs : List Addr) (w : Lca.Working) : Prop where
  top : H r = some (.lst (rs.map V.ref))
  len : rs.length = (2 * n).toNat
  nd : rs.Nodup
  row : ∀ (i : Nat) (a : Addr), rs[i]? = some a → H a = some (.lst ((Bl.row w i).map V.int))
  act : OkW n w
theorem mem_ix {rs : List Addr} {a : Addr} (h : a ∈ rs) : ∃ i : Nat, rs[i]? = some a := by
  obtain ⟨i, hi, e⟩ := List.getElem_of_mem h
  exact ⟨i, by rw [List.getElem?_eq_getElem hi, e]⟩
/-- a list of lists is no list of whole numbers -/
theorem refs_ints {H : Hp} {a b : Addr} {rs : List Addr} {l : List Int} (hr : rs ≠ []) (h1 : H a = some (.lst (rs.map V.ref))) (h2 : H b = some (.lst (l.map V.int))) : a ≠ b := by
  rintro rfl
  rw [h1] at h2
  have e : rs.map V.ref = l.map V.int := by
    injection h2 with h2
    injection h2
  cases rs with
  | nil => exact hr rfl
  | cons x rs =>
    cases l with
    | nil => cases e
    | cons y l => cases e
theorem RowsAt.ne {n : Int} {H : Hp} {r : Addr} {rs : List Addr} {w : Lca.Working} (h : RowsAt n H r rs w) (hn : 1 ≤ n) : rs ≠ [] := by
  rintro rfl
  have := h.len
  simp only [List.length_nil] at this
  omega
theorem RowsAt.cell {n : Int} {H : Hp} {r : Addr} {rs : List Addr} {w : Lca.Working} (h : RowsAt n H r rs w) {a : Addr} (m : a ∈ rs) : ∃ l : List Int, H a = some (.lst (l.map V.int)) := by
  obtain ⟨i, e⟩ := mem_ix m
  exact ⟨_, h.row i a e⟩
theorem RowsAt.ix {n : Int} {H : Hp} {r : Addr} {rs : List Addr} {w : Lca.Working} (h : RowsAt n H r rs w) {i : Nat} (hi : i < (2 * n).toNat) : ∃ a, rs[i]? = some a ∧ atI (rs.map V.ref) (i : Int) = some (.ref a) ∧ H a = some (.lst ((Bl.row w i).map V.int)) := by
  have hl : i < rs.length := by rw [h.len]; exact hi
  refine ⟨rs[i], List.getElem?_eq_getElem hl, atI_nat ?_, h.row i _ (List.getElem?_eq_getElem hl)⟩
  rw [List.getElem?_map, List.getElem?_eq_getElem hl]
  rfl
theorem RowsAt.fr {n : Int} {S : List Addr} {H H' : Hp} {r : Addr} {rs : List Addr} {w : Lca.Working} (h : RowsAt n H r rs w) (f : Fr S H H') (h1 : r ∉ S) (h2 : ∀ a ∈ rs, a ∉ S) : RowsAt n H' r rs w :=
  ⟨f.keep _ _ h1 h.top, h.len, h.nd, fun i a e => f.keep _ _ (h2 a (List.mem_of_getElem? e)) (h.row i a e), h.act⟩
theorem RowsAt.same {n : Int} {H H' : Hp} {r : Addr} {rs : List Addr} {w : Lca.Working} (h : RowsAt n H r rs w) (s : Same H H') : RowsAt n H' r rs w := h.fr (S := []) s.fr (by simp) (by simp)
/-- one lace: its rows, their cells, a working of it -/
structure Lace where
  r : Addr
  rs : List Addr
  w : Lca.Working
def cells (LS : List Lace) : List Addr := LS.flatMap Lace.rs
def tops (LS : List Lace) : List V := LS.map fun x => V.ref x.r
def works (LS : List Lace) : List Lca.Working := LS.map Lace.w
structure LacesAt (n : Int) (H : Hp) (LS : List Lace) : Prop where
  ok : ∀ x ∈ LS, RowsAt n H x.r x.rs x.w
  nd : (cells LS).Nodup
theorem LacesAt.same {n : Int} {H H' : Hp} {LS : List Lace} (h : LacesAt n H LS) (s : Same H H') : LacesAt n H' LS := ⟨fun x hx => (h.ok x hx).same s, h.nd⟩
theorem LacesAt.cell {n : Int} {H : Hp} {LS : List Lace} (h : LacesAt n H LS) {a : Addr} (m : a ∈ cells LS) : ∃ l : List Int, H a = some (.lst (l.map V.int)) := by
  obtain ⟨x, hx, ha⟩ := List.mem_flatMap.mp m
  exact (h.ok x hx).cell ha
/-- other lists of lists stay where one lace changes -/
theorem LacesAt.step {n : Int} (hn : 1 ≤ n) {H H' : Hp} {P D : List Lace} {y : Lace} {v : Lca.Working} (h : LacesAt n H (P ++ y :: D)) (k : RowsAt n H' y.r y.rs v) (f : Fr y.rs H H') : LacesAt n H' (P ++ { y with w := v } :: D) := by
  have hy := h.ok y (by simp)
  have e : cells (P ++ { y with w := v } :: D) = cells (P ++ y :: D) := by
    unfold cells
    simp only [List.flatMap_append, List.flatMap_cons]
  have nd := h.nd
  refine ⟨fun z hz => ?_, by rw [e]; exact nd⟩
  have other : ∀ z ∈ P ++ y :: D, (∀ a ∈ z.rs, a ∉ y.rs) → RowsAt n H' z.r z.rs z.w := fun z mz dis => by
    have oz := h.ok z mz
    refine oz.fr f (fun m => ?_) dis
    obtain ⟨l, hl⟩ := hy.cell m
    exact refs_ints (oz.ne hn) oz.top hl rfl
  unfold cells at nd
  simp only [List.flatMap_append, List.flatMap_cons] at nd
  rcases List.mem_append.mp hz with m | m
  · refine other z (List.mem_append.mpr (.inl m)) fun a ha hb => ?_
    exact (List.nodup_append.mp nd).2.2 a (List.mem_flatMap.mpr ⟨z, m, ha⟩) a (List.mem_append.mpr (.inl hb)) rfl
  · rcases List.mem_cons.mp m with rfl | m
    · exact k
    · refine other z (List.mem_append.mpr (.inr (List.mem_cons_of_mem _ m))) fun a ha hb => ?_
      have nd2 := (List.nodup_append.mp nd).2.1
      exact (List.nodup_append.mp nd2).2.2 a hb a (List.mem_flatMap.mpr ⟨z, m, ha⟩) rfl
/-- an act taken from one lace, from all of them -/
def tk1 (x : Lca.Act) (z : Lace) : Lace := { z with w := (Lca.front x z.w).getD [] }
theorem works_tk (x : Lca.Act) (LS : List Lace) : works (LS.map (tk1 x)) = Bl.takeAll (works LS) x := by
  unfold works Bl.takeAll
  rw [List.map_map, List.map_map]
  rfl
theorem tops_tk (x : Lca.Act) (LS : List Lace) : tops (LS.map (tk1 x)) = tops LS := by
  unfold tops
  rw [List.map_map]
  rfl
/-- the same lists, other workings -/
def Shape (A B : List Lace) : Prop := A.map (fun x => (x.r, x.rs)) = B.map fun x => (x.r, x.rs)
theorem Shape.refl (A : List Lace) : Shape A A := rfl
theorem Shape.tk {A B : List Lace} (h : Shape A B) (x : Lca.Act) : Shape A (B.map (tk1 x)) := by
  unfold Shape at *
  rw [List.map_map]
  exact h
theorem Shape.tops {A B : List Lace} (h : Shape A B) : tops B = tops A := by
  unfold Shape at h
  have e : ∀ L : List Lace, L2.tops L = (L.map fun x => (x.r, x.rs)).map fun p => V.ref p.1 := fun L => by
    unfold L2.tops
    rw [List.map_map]
    rfl
  rw [e, e, h]
theorem Shape.cells {A B : List Lace} (h : Shape A B) : cells B = cells A := by
  unfold Shape at h
  have e : ∀ L : List Lace, L2.cells L = (L.map fun x => (x.r, x.rs)).flatMap fun p => p.2 := fun L => by
    unfold L2.cells
    rw [List.flatMap_map]
  rw [e, e, h]
theorem cells_tk (x : Lca.Act) (LS : List Lace) : cells (LS.map (tk1 x)) = cells LS := (Shape.tk (Shape.refl LS) x).cells
theorem Shape.one {x : Lace} {B : List Lace} (h : Shape [x] B) : ∃ w, B = [⟨x.r, x.rs, w⟩] := by
  cases B with
  | nil => cases h
  | cons y B =>
    cases B with
    | nil =>
      unfold Shape at h
      simp only [List.map_cons, List.map_nil, List.cons.injEq, Prod.mk.injEq, and_true] at h
      refine ⟨y.w, ?_⟩
      rw [h.1, h.2]
    | cons z B => have e := congrArg List.length h; simp at e
theorem Shape.two {x y : Lace} {B : List Lace} (h : Shape [x, y] B) : ∃ v w, B = [⟨x.r, x.rs, v⟩, ⟨y.r, y.rs, w⟩] := by
  cases B with
  | nil => cases h
  | cons x' B =>
    cases B with
    | nil => have e := congrArg List.length h; simp at e
    | cons y' B =>
      cases B with
      | nil =>
        unfold Shape at h
        simp only [List.map_cons, List.map_nil, List.cons.injEq, Prod.mk.injEq, and_true] at h
        refine ⟨x'.w, y'.w, ?_⟩
        rw [h.1.1, h.1.2, h.2.1, h.2.2]
      | cons z B => have e := congrArg List.length h; simp at e
theorem Same.write2 {H H1 : Hp} {S : List Addr} (s : Same H H1) (n : ∀ b ∈ S, H b = none) {H2 : Hp} (f : Fr S H1 H2) : Same H H2 := f.same s n
/-- two neighbouring cells written: the rows of another lace -/
theorem RowsAt.set {n : Int} (hn : 1 ≤ n) {H : Hp} {r : Addr} {rs : List Addr} {w w' : Lca.Working} (h : RowsAt n H r rs w) {z : Lca.Act} {a1 a2 : Addr} (c1 : rs[z.place]? = some a1) (c2 : rs[z.place + 1]? = some a2) (o : Bl.OkW n w')
    (eo : ∀ p, Bl.atP p z = false → Bl.row w' p = Bl.row w p) : RowsAt n (upd (upd H a1 (.lst ((Bl.row w' z.place).map V.int))) a2 (.lst ((Bl.row w' (z.place + 1)).map V.int))) r rs w' ∧
      Fr rs H (upd (upd H a1 (.lst ((Bl.row w' z.place).map V.int))) a2 (.lst ((Bl.row w' (z.place + 1)).map V.int))) := by
  have m1 : a1 ∈ rs := List.mem_of_getElem? c1
  have m2 : a2 ∈ rs := List.mem_of_getElem? c2
  have ne1 : r ≠ a1 := refs_ints (h.ne hn) h.top (h.row _ _ c1)
  have ne2 : r ≠ a2 := refs_ints (h.ne hn) h.top (h.row _ _ c2)
  refine ⟨⟨?_, h.len, h.nd, fun i a e => ?_, o⟩, (Fr.write m1).trans (Fr.write m2)⟩
  · rw [upd_ne ne2, upd_ne ne1]
    exact h.top
  · by_cases e2 : a = a2
    · subst e2
      rw [upd_same, nd_ix h.nd e c2]
    · rw [upd_ne e2]
      by_cases e1 : a = a1
      · subst e1
        rw [upd_same, nd_ix h.nd e c1]
      · rw [upd_ne e1, h.row i a e, eo]
        cases q : Bl.atP i z with
        | false => rfl
        | true =>
          rcases Bl.atP_iff.mp q with q | q
          · subst q
            rw [c1] at e
            exact absurd (Option.some.inj e).symm e1
          · subst q
            rw [c2] at e
            exact absurd (Option.some.inj e).symm e2
theorem RowsAt.two {n : Int} {H : Hp} {r : Addr} {rs : List Addr} {w : Lca.Working} (h : RowsAt n H r rs w) {z : Lca.Act} {a1 a2 : Addr} (c1 : rs[z.place]? = some a1) (c2 : rs[z.place + 1]? = some a2) : a1 ≠ a2 := by
  rintro rfl
  have := nd_ix h.nd c1 c2
  omega
theorem LacesAt.fresh {n : Int} {H : Hp} {LS : List Lace} (h : LacesAt n H LS) {a : Addr} (e : H a = none) : a ∉ cells LS := fun m => by
  obtain ⟨l, hl⟩ := h.cell m
  rw [e] at hl
  cases hl
theorem LacesAt.topF {n : Int} {H : Hp} {LS LT : List Lace} (h : LacesAt n H LS) {a : Addr} (e : H a = some (.lst (tops LT))) (hne : LT ≠ []) : a ∉ cells LS := fun m => by
  obtain ⟨l, hl⟩ := h.cell m
  refine refs_ints (rs := LT.map Lace.r) (fun z => hne (List.map_eq_nil_iff.mp z)) ?_ hl rfl
  rw [e]
  unfold tops
  rw [List.map_map]
  rfl
theorem laces_two {n : Int} {H : Hp} {r r2 : Addr} {rs rs2 : List Addr} {v w : Lca.Working} (h : RowsAt n H r rs v) (k : RowsAt n H r2 rs2 w) (d : ∀ a, a ∈ rs → a ∉ rs2) : LacesAt n H [⟨r, rs, v⟩, ⟨r2, rs2, w⟩] := by
  refine ⟨fun x hx => ?_, ?_⟩
  · rcases List.mem_cons.mp hx with rfl | hx
    · exact h
    · obtain rfl := List.mem_singleton.mp hx
      exact k
  · show (rs ++ (rs2 ++ [])).Nodup
    rw [List.append_nil]
    exact List.nodup_append.mpr ⟨h.nd, k.nd, fun a ha b hb e => d a ha (e ▸ hb)⟩
theorem LacesAt.writeL {n : Int} (hn : 1 ≤ n) {H : Hp} {LS : List Lace} (h : LacesAt n H LS) {T : Addr} {l : List Int} (e : H T = some (.lst (l.map V.int))) (d : T ∉ cells LS) {o : HO} : LacesAt n (upd H T o) LS := by
  refine ⟨fun x hx => (h.ok x hx).fr (S := [T]) (Fr.write (List.mem_singleton.mpr rfl)) (fun m => ?_) (fun a ha m => ?_), h.nd⟩
  · exact refs_ints ((h.ok x hx).ne hn) (h.ok x hx).top e (List.mem_singleton.mp m)
  · exact d (List.mem_flatMap.mpr ⟨x, hx, List.mem_singleton.mp m ▸ ha⟩)
theorem RowsAt.dp {K : PySem.W.Frag} {n : Int} {H : Hp} {r : Addr} {rs : List Addr} {w : Lca.Working} (h : RowsAt n H r rs w) : Dp K H (.ref r) (.list (((List.range (2 * n).toNat).map (Bl.row w)).map dInts)) := by
  refine .lst (SqL.of h.top) (dpAll_rows (by rw [List.length_map, List.length_range, h.len]) fun i a m h1 h2 => ?_)
  rw [List.getElem?_map] at h2
  have hi : i < (2 * n).toNat := by
    obtain ⟨q, _⟩ := List.getElem?_eq_some_iff.mp h1
    rw [h.len] at q
    exact q
  rw [List.getElem?_range hi] at h2
  have e : Bl.row w i = m := Option.some.inj h2
  rw [← e]
  exact h.row i a h1
theorem tops_at {LS : List Lace} {i : Nat} {x : V} (h : (tops LS)[i]? = some x) : ∃ z, LS[i]? = some z ∧ x = V.ref z.r := by
  unfold tops at h
  rw [List.getElem?_map] at h
  cases e : LS[i]? with
  | none => rw [e] at h; cases h
  | some z =>
    rw [e] at h
    exact ⟨z, rfl, (Option.some.inj h).symm⟩
theorem tops_length (LS : List Lace) : (tops LS).length = LS.length := List.length_map ..
end L2
namespace Bl
open PySem L2
theorem start_threads {n : Int} (h : 1 ≤ n) : ((List.range (2 * n - 0).toNat).map fun i : Nat => V.int (0 + (i : Int))) = (castL (Lca.endOf n.toNat [])).map V.int := by
  show _ = (castL (List.range (2 * n.toNat))).map V.int
  unfold castL
  rw [List.map_map, show (2 * n - 0).toNat = 2 * n.toNat by omega]
  refine List.map_congr_left fun i _ => ?_
  show V.int (0 + (i : Int)) = V.int (i : Int)
  rw [Int.zero_add]
theorem ic_at {w : Lca.Working} {i : Nat} {x : V} (h : ((ic w).map V.int)[i]? = some x) : ∃ z, w[i]? = some z ∧ x = V.int ((z.code : Nat) : Int) := by
  unfold ic at h
  rw [List.map_map, List.getElem?_map] at h
  cases e : w[i]? with
  | none => rw [e] at h; cases h
  | some z =>
    rw [e] at h
    exact ⟨z, rfl, (Option.some.inj h).symm⟩
theorem endOf_len (n : Int) (w : Lca.Working) : (castL (Lca.endOf n.toNat w)).length = 2 * n.toNat := by
  unfold castL
  rw [List.length_map]
  show (endFrom _ w).length = _
  rw [endFrom_length, List.length_range]
theorem endOf_snoc {n : Int} {w : Lca.Working} {i : Nat} {z : Lca.Act} (h : w[i]? = some z) : castL (Lca.endOf n.toNat (w.take (i + 1))) = swapI (castL (Lca.endOf n.toNat (w.take i))) z.place := by
  rw [take_one h, swap_cast]
  show castL (endFrom _ (w.take i ++ [z])) = _
  rw [endFrom_snoc]
  rfl
theorem drop_one {w : Lca.Working} {i : Nat} {z : Lca.Act} (hi : i < w.length) (h : w[w.length - 1 - i]? = some z) : w.drop (w.length - (i + 1)) = z :: w.drop (w.length - i) := by
  have hl : w.length - (i + 1) < w.length := by omega
  rw [List.drop_eq_getElem_cons hl]
  have e : w[w.length - 1 - i]? = some w[w.length - (i + 1)] := by
    rw [← List.getElem?_eq_getElem hl]
    congr 1
    omega
  rw [e] at h
  rw [Option.some.inj h]
  congr 2
  omega
theorem refs_at {rs : List Addr} {i : Nat} {x : V} (h : (rs.map V.ref)[i]? = some x) : ∃ a, rs[i]? = some a ∧ x = V.ref a := by
  rw [List.getElem?_map] at h
  cases e : rs[i]? with
  | none => rw [e] at h; cases h
  | some z =>
    rw [e] at h
    exact ⟨z, rfl, (Option.some.inj h).symm⟩
theorem ref_at {PS : List (Addr × List Int)} {i : Nat} {x : V} (h : (PS.map fun x => V.ref x.1)[i]? = some x) : ∃ z, PS[i]? = some z ∧ x = V.ref z.1 := by
  rw [List.getElem?_map] at h
  cases e : PS[i]? with
  | none => rw [e] at h; cases h
  | some z =>
    rw [e] at h
    exact ⟨z, rfl, (Option.some.inj h).symm⟩
theorem none_any {α : Type} {l : List α} {p : α → Bool} (h : ∀ j, j < l.length → ∀ z, l[j]? = some z → p z = false) : l.any p = false := by
  rw [List.any_eq_false]
  intro x hx
  obtain ⟨j, hj, e⟩ := List.getElem_of_mem hx
  rw [h j hj x (by rw [List.getElem?_eq_getElem hj, e])]
  exact Bool.false_ne_true
end Bl
namespace Bl
open PySem L2
def top (i : Nat) : Stmt := PySem.Challenge.pw_bobbinlace_s03_thread.main.body.getD i (.Pass ⟨0, 0, 0, 0⟩)
abbrev s_is_act : Stmt := top 5
abbrev s_left_place : Stmt := top 6
abbrev s_out_of_bounds : Stmt := top 7
abbrev s_first_wrong : Stmt := top 8
abbrev s_refusal : Stmt := top 9
abbrev s_change_places : Stmt := top 10
abbrev s_ways_of : Stmt := top 11
abbrev s_thread : Stmt := top 12
/-- what stands at the text's top -/
structure Txt (mg : Str → Option Value) : Prop where
  c_MOST_PAIRS : ∃ t, mg "MOST_PAIRS" = some (.int 32 t)
  c_MOST_ACTS : ∃ t, mg "MOST_ACTS" = some (.int 512 t)
  c_CROSS : ∃ t, mg "CROSS" = some (.int 64 t)
  c_OVER : ∃ t, mg "OVER" = some (.int 128 t)
  b_enumerate : mg "enumerate" = none
  b_len : mg "len" = none
  b_list : mg "list" = none
  b_range : mg "range" = none
/-- a def as its callers see it -/
structure Df (P : Program) (w : World) (K : PySem.W.Frag) (mg : Str → Option Value) (base : Heap) (k : Nat) (x : Str) (ps : List Str) (sp : Sp) (f : Addr) (fd : FuncData) : Prop where
  ok : FnOk P w K mg base CX0 k f fd ps sp
  mg : mg x = some (.ref f)
  kp : PySem.W.keepIn K (.ref f) = true
  bi : Binds K fd ps []
section
variable {P : Program} {w : World} {K : PySem.W.Frag} {mg : Str → Option Value} {base : Heap}
def sp_is_act (K : PySem.W.Frag) : Sp := fun vs H Q _ => ∃ n c : Int, vs = [.int n, .int c] ∧ Q (.bl (isAct n c)) H
theorem sc_is_act : FnScope ["n", "number"] ["n", "number"] (defScope s_is_act) := ⟨rfl, rfl, rfl, by decide +kernel, rfl, by decide +kernel, by decide +kernel⟩
set_option maxHeartbeats 4000000 in
theorem ok_is_act {f : Addr} {fd : FuncData} (F : Fun K "is_act" "is_act" s_is_act f fd) (T : Txt mg) : FnOk P w K mg base CX0 1 f fd ["n", "number"] (sp_is_act K) := by
  refine F.ok sc_is_act (fun vs H Q E h => ?_) (fun cdv A outer s H vs Q E hr h => ?_)
  · obtain ⟨n, c, rfl, k⟩ := h
    rfl
  · obtain ⟨n, c, rfl, k⟩ := h
    have nd := sc_is_act.nd
    obtain ⟨t_CROSS, m_CROSS⟩ := T.c_CROSS
    refine ⟨_, (pss_cons (ps_if (pt_cmpR op_lt (pv 1) (pe_glob rfl m_CROSS (v := .int 64) ⟨_, rfl⟩) (nomark _)) (pss_one (ps_ret (pe_cmpR op_lt (pv 1) (pv 0) (nomark _)))) pss_nil)
      (pss_one (ps_ret (pe_cmpR op_lt (pe_op op_sub (pv 1) (pe_glob rfl m_CROSS (v := .int 64) ⟨_, rfl⟩)) (pe_op op_sub (pv 0) pe_int) (nomark _))))), ?_⟩
    simp [tSeq, tIfS, tTest, tOp, tUn, tVar, tC, tRet, tRetN, tNext, tBreak, tCont, rI0, rI, rU, tB, tNot, tAnd, tOr, tAndV, tOrV, tNotV, tCall, tCB, tCons, tNil, tLst, tAsg, gName, gSub, gTup, gCons, gNil, rEq, rNe, tDrop, tBM, tBM0, rAppend, rPop, rIxL, rSetL, tSl, tPart, tNoPart, rSlL, rCat, rAll, rEqD, iList, iEnum, iRng1, iRng2, iRev, iZip, tIf, tYes, L2.start, L2.wipe, cxOf, tFor_eq, tLc_eq, -Bool.exists_bool]
    unfold isAct at k
    split <;> simp_all
def sp_left_place (K : PySem.W.Frag) : Sp := fun vs H Q _ => ∃ c : Int, vs = [.int c] ∧ Q (.int (leftPlace c)) H
theorem sc_left_place : FnScope ["act"] ["act"] (defScope s_left_place) := ⟨rfl, rfl, rfl, by decide +kernel, rfl, by decide +kernel, by decide +kernel⟩
set_option maxHeartbeats 4000000 in
theorem ok_left_place {f : Addr} {fd : FuncData} (F : Fun K "left_place" "left_place" s_left_place f fd) (T : Txt mg) : FnOk P w K mg base CX0 1 f fd ["act"] (sp_left_place K) := by
  refine F.ok sc_left_place (fun vs H Q E h => ?_) (fun cdv A outer s H vs Q E hr h => ?_)
  · obtain ⟨c, rfl, k⟩ := h
    rfl
  · obtain ⟨c, rfl, k⟩ := h
    have nd := sc_left_place.nd
    obtain ⟨t_CROSS, m_CROSS⟩ := T.c_CROSS
    refine ⟨_, (pss_cons (ps_if (pt_cmpR op_lt (pv 0) (pe_glob rfl m_CROSS (v := .int 64) ⟨_, rfl⟩) (nomark _)) (pss_one (ps_ret (pe_op op_mul pe_int (pv 0)))) pss_nil)
      (pss_one (ps_ret (pe_op op_add (pe_op op_mul pe_int (pe_op op_sub (pv 0) (pe_glob rfl m_CROSS (v := .int 64) ⟨_, rfl⟩))) pe_int)))), ?_⟩
    simp [tSeq, tIfS, tTest, tOp, tUn, tVar, tC, tRet, tRetN, tNext, tBreak, tCont, rI0, rI, rU, tB, tNot, tAnd, tOr, tAndV, tOrV, tNotV, tCall, tCB, tCons, tNil, tLst, tAsg, gName, gSub, gTup, gCons, gNil, rEq, rNe, tDrop, tBM, tBM0, rAppend, rPop, rIxL, rSetL, tSl, tPart, tNoPart, rSlL, rCat, rAll, rEqD, iList, iEnum, iRng1, iRng2, iRev, iZip, tIf, tYes, L2.start, L2.wipe, cxOf, tFor_eq, tLc_eq, -Bool.exists_bool]
    unfold leftPlace at k
    split
    · rename_i h
      rw [if_pos h] at k
      exact ⟨.inl ⟨by decide, by decide⟩, k⟩
    · rename_i h
      rw [if_neg h] at k
      exact ⟨.inl ⟨by decide, by decide⟩, k⟩
def sp_out_of_bounds (K : PySem.W.Frag) : Sp := fun vs H Q _ => ∃ (n : Int) (p : Addr) (a : List Int), vs = [.int n, .ref p] ∧ SqL K H p (a.map V.int) ∧ Q (.bl (oob n a)) H
theorem sc_out_of_bounds : FnScope ["n", "a"] ["n", "a"] (defScope s_out_of_bounds) := ⟨rfl, rfl, rfl, by decide +kernel, rfl, by decide +kernel, by decide +kernel⟩
set_option maxHeartbeats 4000000 in
theorem ok_out_of_bounds {f : Addr} {fd : FuncData} (F : Fun K "out_of_bounds" "out_of_bounds" s_out_of_bounds f fd) (T : Txt mg) : FnOk P w K mg base CX0 1 f fd ["n", "a"] (sp_out_of_bounds K) := by
  refine F.ok sc_out_of_bounds (fun vs H Q E h => ?_) (fun cdv A outer s H vs Q E hr h => ?_)
  · obtain ⟨n, p, a, rfl, hS, k⟩ := h
    rfl
  · obtain ⟨n, p, a, rfl, hS, k⟩ := h
    have nd := sc_out_of_bounds.nd
    obtain ⟨t_MOST_ACTS, m_MOST_ACTS⟩ := T.c_MOST_ACTS
    obtain ⟨t_MOST_PAIRS, m_MOST_PAIRS⟩ := T.c_MOST_PAIRS
    refine ⟨_, (pss_one (ps_ret (pe_or (pe_cmpR op_lt (pv 0) pe_int (nomark _)) (pe_or (pe_cmpR op_gt (pv 0) (pe_glob rfl m_MOST_PAIRS (v := .int 32) ⟨_, rfl⟩) (nomark _)) (pe_one (pe_cmpR op_gt (pe_callB call_len_seq (by rfl) T.b_len PySem.boot_len (pa_cons (pv 1) pa_nil)) (pe_glob rfl m_MOST_ACTS (v := .int 512) ⟨_, rfl⟩) (nomark _))))))), ?_⟩
    simp [tSeq, tIfS, tTest, tOp, tUn, tVar, tC, tRet, tRetN, tNext, tBreak, tCont, rI0, rI, rU, tB, tNot, tAnd, tOr, tAndV, tOrV, tNotV, tCall, tCB, tCons, tNil, tLst, tAsg, gName, gSub, gTup, gCons, gNil, rEq, rNe, tDrop, tBM, tBM0, rAppend, rPop, rIxL, rSetL, tSl, tPart, tNoPart, rSlL, rCat, rAll, rEqD, iList, iEnum, iRng1, iRng2, iRev, iZip, tIf, tYes, L2.start, L2.wipe, cxOf, tFor_eq, tLc_eq, -Bool.exists_bool]
    unfold oob at k
    by_cases h1 : n < 1
    · simp_all
    · by_cases h2 : 32 < n
      · simp_all
      · simp only [h1, h2, if_false]
        refine ⟨_, .inl hS, ?_⟩
        simpa [h1, h2] using k
theorem map_at {a : List Int} {i : Nat} {x : V} (h : (a.map V.int)[i]? = some x) : ∃ z, a[i]? = some z ∧ x = V.int z := by
  rw [List.getElem?_map] at h
  cases e : a[i]? with
  | none => rw [e] at h; cases h
  | some z =>
    rw [e] at h
    exact ⟨z, rfl, (Option.some.inj h).symm⟩
def sp_first_wrong (K : PySem.W.Frag) : Sp := fun vs H Q _ => ∃ (n : Int) (p : Addr) (a : List Int), vs = [.int n, .ref p] ∧ SqL K H p (a.map V.int) ∧ ∀ H', Same H H' → Q (.int (firstWrong n a)) H'
theorem sc_first_wrong : FnScope ["n", "a", "place", "number"] ["n", "a"] (defScope s_first_wrong) := ⟨rfl, rfl, rfl, by decide +kernel, rfl, by decide +kernel, by decide +kernel⟩
set_option maxHeartbeats 4000000 in
theorem ok_first_wrong {f : Addr} {fd : FuncData} (F : Fun K "first_wrong" "first_wrong" s_first_wrong f fd) (T : Txt mg) {f_is_act : Addr} {fd_is_act : FuncData} (D_is_act : Df P w K mg base 1 "is_act" ["n", "number"] (sp_is_act K) f_is_act fd_is_act) : FnOk P w K mg base CX0 2 f fd ["n", "a"] (sp_first_wrong K) := by
  refine F.ok sc_first_wrong (fun vs H Q E h => ?_) (fun cdv A outer s H vs Q E hr h => ?_)
  · obtain ⟨n, p, a, rfl, hS, k⟩ := h
    rfl
  · obtain ⟨n, p, a, rfl, hS, k⟩ := h
    have nd := sc_first_wrong.nd
    have hr_is_act : Room 1 _ := hr.mono (by decide)
    refine ⟨_, (pss_cons (ps_for PassesOwn.never rfl (pi_enum (by rfl) T.b_enumerate (pa_cons (pv 1) pa_nil)) (pg_tup (n := 2) rfl (pgs_cons (pg_name (i := 2) nd rfl (by first | exact Or.inl rfl | exact Or.inr rfl)) (pgs_cons (pg_name (i := 3) nd rfl (by first | exact Or.inl rfl | exact Or.inr rfl)) pgs_nil)))
      (pss_one (ps_if (pt_not (pt_val (pe_call D_is_act.ok hr_is_act rfl D_is_act.mg D_is_act.kp D_is_act.bi .nil pass0 (pa_cons (pv 0) (pa_cons (pv 3) pa_nil))))) (pss_one (ps_ret (pv 2))) pss_nil)))
      (pss_one (ps_ret (pe_callB call_len_seq (by rfl) T.b_len PySem.boot_len (pa_cons (pv 1) pa_nil))))), ?_⟩
    simp [tSeq, tIfS, tTest, tOp, tUn, tVar, tC, tRet, tRetN, tNext, tBreak, tCont, rI0, rI, rU, tB, tNot, tAnd, tOr, tAndV, tOrV, tNotV, tCall, tCB, tCons, tNil, tLst, tAsg, gName, gSub, gTup, gCons, gNil, rEq, rNe, tDrop, tBM, tBM0, rAppend, rPop, rIxL, rSetL, tSl, tPart, tNoPart, rSlL, rCat, rAll, rEqD, iList, iEnum, iRng1, iRng2, iRev, iZip, tIf, tYes, L2.start, L2.wipe, cxOf, tFor_eq, tLc_eq, -Bool.exists_bool]
    refine ⟨⟨_, hS⟩, loop_enum (K := K) (a := p) (xs := a.map V.int) (fun i σ H' => ∃ x y, σ = [some (.int n), some (.ref p), x, y] ∧ Same H H' ∧ ∀ j, j < i → ∀ z, a[j]? = some z → isAct n z = true)
      ⟨_, _, rfl, .refl _, fun j hj => absurd hj (by omega)⟩ (fun i σ H' _ ⟨_, _, _, sm, _⟩ => sm.seq hS) ?_ ?_⟩
    · rintro i x σ H1 T1 hi ⟨x2, x3, rfl, sm, al⟩ hT
      obtain ⟨z, hz, rfl⟩ := map_at hi
      have sm1 : Same H (upd H1 T1 (.tup [.int (i : Nat), .int z])) := sm.upd hT
      simp [tSeq, tIfS, tTest, tOp, tUn, tVar, tC, tRet, tRetN, tNext, tBreak, tCont, rI0, rI, rU, tB, tNot, tAnd, tOr, tAndV, tOrV, tNotV, tCall, tCB, tCons, tNil, tLst, tAsg, gName, gSub, gTup, gCons, gNil, rEq, rNe, tDrop, tBM, tBM0, rAppend, rPop, rIxL, rSetL, tSl, tPart, tNoPart, rSlL, rCat, rAll, rEqD, iList, iEnum, iRng1, iRng2, iRev, iZip, tIf, tYes, L2.start, L2.wipe, cxOf, tFor_eq, tLc_eq, -Bool.exists_bool, sp_is_act]
      refine ⟨_, SqT.of upd_same, rfl, _, _, rfl, _, _, rfl, rfl, n, z, ⟨rfl, rfl⟩, ?_⟩
      split
      · rename_i ha
        refine ⟨sm1, fun j hj y hy => ?_⟩
        by_cases e : j = i
        · subst e
          rw [hz] at hy
          cases hy
          exact ha
        · exact al j (by omega) y hy
      · rename_i ha
        have e : firstWrong n a = i := by
          unfold firstWrong
          rw [fw_found al hz (by simpa using ha)]
          rfl
        rw [← e]
        rw [← e] at sm1
        exact k _ sm1
    · rintro σ H1 ⟨x2, x3, rfl, sm, al⟩
      simp [tSeq, tIfS, tTest, tOp, tUn, tVar, tC, tRet, tRetN, tNext, tBreak, tCont, rI0, rI, rU, tB, tNot, tAnd, tOr, tAndV, tOrV, tNotV, tCall, tCB, tCons, tNil, tLst, tAsg, gName, gSub, gTup, gCons, gNil, rEq, rNe, tDrop, tBM, tBM0, rAppend, rPop, rIxL, rSetL, tSl, tPart, tNoPart, rSlL, rCat, rAll, rEqD, iList, iEnum, iRng1, iRng2, iRev, iZip, tIf, tYes, L2.start, L2.wipe, cxOf, tFor_eq, tLc_eq, -Bool.exists_bool]
      refine ⟨_, .inl (sm.seq hS), ?_⟩
      rw [List.length_map] at al ⊢
      have e : firstWrong n a = a.length := by
        unfold firstWrong
        rw [fw_none al]
        rfl
      rw [← e]
      exact k _ sm
def sp_refusal (K : PySem.W.Frag) : Sp := fun vs H Q _ => ∃ (n : Int) (L : Addr) (PS : List (Addr × List Int)), vs = [.int n, .ref L] ∧ SqL K H L (PS.map fun x => V.ref x.1) ∧ (∀ x ∈ PS, SqL K H x.1 (x.2.map V.int)) ∧ ∀ H', Same H H' → Q (.int (refusalL n (PS.map (·.2)))) H'
theorem sc_refusal : FnScope ["n", "workings", "working"] ["n", "workings"] (defScope s_refusal) := ⟨rfl, rfl, rfl, by decide +kernel, rfl, by decide +kernel, by decide +kernel⟩
set_option maxHeartbeats 4000000 in
theorem ok_refusal {f : Addr} {fd : FuncData} (F : Fun K "refusal" "refusal" s_refusal f fd) (T : Txt mg) {f_out_of_bounds : Addr} {fd_out_of_bounds : FuncData} (D_out_of_bounds : Df P w K mg base 1 "out_of_bounds" ["n", "a"] (sp_out_of_bounds K) f_out_of_bounds fd_out_of_bounds) {f_first_wrong : Addr} {fd_first_wrong : FuncData} (D_first_wrong : Df P w K mg base 2 "first_wrong" ["n", "a"] (sp_first_wrong K) f_first_wrong fd_first_wrong) : FnOk P w K mg base CX0 3 f fd ["n", "workings"] (sp_refusal K) := by
  refine F.ok sc_refusal (fun vs H Q E h => ?_) (fun cdv A outer s H vs Q E hr h => ?_)
  · obtain ⟨n, L, PS, rfl, hL, hS, k⟩ := h
    rfl
  · obtain ⟨n, L, PS, rfl, hL, hS, k⟩ := h
    have nd := sc_refusal.nd
    have hr_out_of_bounds : Room 1 _ := hr.mono (by decide)
    have hr_first_wrong : Room 2 _ := hr.mono (by decide)
    refine ⟨_, (pss_cons (ps_for PassesOwn.never rfl (pi_list (pv 1)) (pg_name (i := 2) nd rfl (by first | exact Or.inl rfl | exact Or.inr rfl))
      (pss_one (ps_if (pt_val (pe_call D_out_of_bounds.ok hr_out_of_bounds rfl D_out_of_bounds.mg D_out_of_bounds.kp D_out_of_bounds.bi .nil pass0 (pa_cons (pv 0) (pa_cons (pv 2) pa_nil)))) (pss_one (ps_ret (pe_un un_neg pe_int))) pss_nil)))
      (pss_cons (ps_for PassesOwn.never rfl (pi_list (pv 1)) (pg_name (i := 2) nd rfl (by first | exact Or.inl rfl | exact Or.inr rfl))
      (pss_one (ps_if (pt_cmpR op_lt (pe_call D_first_wrong.ok hr_first_wrong rfl D_first_wrong.mg D_first_wrong.kp D_first_wrong.bi .nil pass0 (pa_cons (pv 0) (pa_cons (pv 2) pa_nil))) (pe_callB call_len_seq (by rfl) T.b_len PySem.boot_len (pa_cons (pv 2) pa_nil)) (nomark _)) (pss_one (ps_ret (pe_un un_neg pe_int))) pss_nil)))
      (pss_one (ps_ret pe_int)))), ?_⟩
    simp [tSeq, tIfS, tTest, tOp, tUn, tVar, tC, tRet, tRetN, tNext, tBreak, tCont, rI0, rI, rU, tB, tNot, tAnd, tOr, tAndV, tOrV, tNotV, tCall, tCB, tCons, tNil, tLst, tAsg, gName, gSub, gTup, gCons, gNil, rEq, rNe, tDrop, tBM, tBM0, rAppend, rPop, rIxL, rSetL, tSl, tPart, tNoPart, rSlL, rCat, rAll, rEqD, iList, iEnum, iRng1, iRng2, iRev, iZip, tIf, tYes, L2.start, L2.wipe, cxOf, tFor_eq, tLc_eq, -Bool.exists_bool]
    refine ⟨⟨_, hL⟩, loop_list (K := K) (a := L) (xs := PS.map fun x => V.ref x.1) (fun i σ H' => ∃ x, σ = [some (.int n), some (.ref L), x] ∧ Same H H' ∧ ∀ j, j < i → ∀ z, PS[j]? = some z → oob n z.2 = false)
      ⟨_, rfl, .refl _, fun j hj => absurd hj (by omega)⟩ (fun i σ H' _ ⟨_, _, sm, _⟩ => sm.seq hL) ?_ ?_⟩
    · rintro i x σ H1 hi ⟨x2, rfl, sm, al⟩
      obtain ⟨z, hz, rfl⟩ := ref_at hi
      have mz : z ∈ PS := List.mem_of_getElem? hz
      simp [tSeq, tIfS, tTest, tOp, tUn, tVar, tC, tRet, tRetN, tNext, tBreak, tCont, rI0, rI, rU, tB, tNot, tAnd, tOr, tAndV, tOrV, tNotV, tCall, tCB, tCons, tNil, tLst, tAsg, gName, gSub, gTup, gCons, gNil, rEq, rNe, tDrop, tBM, tBM0, rAppend, rPop, rIxL, rSetL, tSl, tPart, tNoPart, rSlL, rCat, rAll, rEqD, iList, iEnum, iRng1, iRng2, iRev, iZip, tIf, tYes, L2.start, L2.wipe, cxOf, tFor_eq, tLc_eq, -Bool.exists_bool, sp_out_of_bounds]
      refine ⟨n, z.1, ⟨rfl, rfl⟩, z.2, sm.seq (hS z mz), ?_⟩
      split
      · rename_i ho
        have e : refusalL n (PS.map (·.2)) = -1 := by
          unfold refusalL
          rw [if_pos (List.any_eq_true.mpr ⟨z.2, List.mem_map.mpr ⟨z, mz, rfl⟩, ho⟩)]
        rw [← e]
        exact k _ sm
      · rename_i ho
        refine ⟨sm, fun j hj y1 y2 hy => ?_⟩
        by_cases e : j = i
        · subst e
          rw [hz] at hy
          cases hy
          simpa using ho
        · exact al j (by omega) (y1, y2) hy
    · rintro σ H1 ⟨x2, rfl, sm, al⟩
      rw [List.length_map] at al
      have ob : ((PS.map (·.2)).any fun a => oob n a) = false := by
        rw [List.any_map]
        exact none_any al
      simp [tSeq, tIfS, tTest, tOp, tUn, tVar, tC, tRet, tRetN, tNext, tBreak, tCont, rI0, rI, rU, tB, tNot, tAnd, tOr, tAndV, tOrV, tNotV, tCall, tCB, tCons, tNil, tLst, tAsg, gName, gSub, gTup, gCons, gNil, rEq, rNe, tDrop, tBM, tBM0, rAppend, rPop, rIxL, rSetL, tSl, tPart, tNoPart, rSlL, rCat, rAll, rEqD, iList, iEnum, iRng1, iRng2, iRev, iZip, tIf, tYes, L2.start, L2.wipe, cxOf, tFor_eq, tLc_eq, -Bool.exists_bool]
      refine ⟨⟨_, sm.seq hL⟩, loop_list (K := K) (a := L) (xs := PS.map fun x => V.ref x.1) (fun i σ H' => ∃ x, σ = [some (.int n), some (.ref L), x] ∧ Same H H' ∧ ∀ j, j < i → ∀ z, PS[j]? = some z → decide (firstWrong n z.2 < z.2.length) = false)
        ⟨_, rfl, sm, fun j hj => absurd hj (by omega)⟩ (fun i σ H' _ ⟨_, _, sm, _⟩ => sm.seq hL) ?_ ?_⟩
      · rintro i x σ H2 hi ⟨x2, rfl, sm2, al2⟩
        obtain ⟨z, hz, rfl⟩ := ref_at hi
        have mz : z ∈ PS := List.mem_of_getElem? hz
        simp [tSeq, tIfS, tTest, tOp, tUn, tVar, tC, tRet, tRetN, tNext, tBreak, tCont, rI0, rI, rU, tB, tNot, tAnd, tOr, tAndV, tOrV, tNotV, tCall, tCB, tCons, tNil, tLst, tAsg, gName, gSub, gTup, gCons, gNil, rEq, rNe, tDrop, tBM, tBM0, rAppend, rPop, rIxL, rSetL, tSl, tPart, tNoPart, rSlL, rCat, rAll, rEqD, iList, iEnum, iRng1, iRng2, iRev, iZip, tIf, tYes, L2.start, L2.wipe, cxOf, tFor_eq, tLc_eq, -Bool.exists_bool, sp_first_wrong]
        refine ⟨n, z.1, ⟨rfl, rfl⟩, z.2, sm2.seq (hS z mz), fun H3 s3 => ⟨_, .inl ((sm2.trans s3).seq (hS z mz)), ?_⟩⟩
        rw [List.length_map]
        split
        · rename_i ho
          have e : refusalL n (PS.map (·.2)) = -5 := by
            unfold refusalL
            rw [if_neg (by rw [ob]; exact Bool.false_ne_true), if_pos (List.any_eq_true.mpr ⟨z.2, List.mem_map.mpr ⟨z, mz, rfl⟩, by simpa using ho⟩)]
          rw [← e]
          exact k _ (sm2.trans s3)
        · rename_i ho
          refine ⟨sm2.trans s3, fun j hj y1 y2 hy => ?_⟩
          by_cases e : j = i
          · subst e
            rw [hz] at hy
            cases hy
            simpa using ho
          · simpa using al2 j (by omega) (y1, y2) hy
      · rintro σ H2 ⟨x2, rfl, sm2, al2⟩
        rw [List.length_map] at al2
        have fb : ((PS.map (·.2)).any fun a => decide (firstWrong n a < a.length)) = false := by
          rw [List.any_map]
          exact none_any al2
        have e : refusalL n (PS.map (·.2)) = 0 := by
          unfold refusalL
          rw [if_neg (by rw [ob]; exact Bool.false_ne_true), if_neg (by rw [fb]; exact Bool.false_ne_true)]
        simp [tSeq, tIfS, tTest, tOp, tUn, tVar, tC, tRet, tRetN, tNext, tBreak, tCont, rI0, rI, rU, tB, tNot, tAnd, tOr, tAndV, tOrV, tNotV, tCall, tCB, tCons, tNil, tLst, tAsg, gName, gSub, gTup, gCons, gNil, rEq, rNe, tDrop, tBM, tBM0, rAppend, rPop, rIxL, rSetL, tSl, tPart, tNoPart, rSlL, rCat, rAll, rEqD, iList, iEnum, iRng1, iRng2, iRev, iZip, tIf, tYes, L2.start, L2.wipe, cxOf, tFor_eq, tLc_eq, -Bool.exists_bool]
        rw [← e]
        exact k _ sm2
def sp_change_places (K : PySem.W.Frag) : Sp := fun vs H Q _ => ∃ (l : Addr) (p : Int) (r : List Int), vs = [.ref l, .int p] ∧ H l = some (.lst (r.map V.int)) ∧ 0 ≤ p ∧ p + 1 < r.length ∧
  ∀ H', (∀ b, b ≠ l → H' b = H b) → H' l = some (.lst ((swapI r p.toNat).map V.int)) → Q .non H'
theorem sc_change_places : FnScope ["threads", "place", "moved"] ["threads", "place"] (defScope s_change_places) := ⟨rfl, rfl, rfl, by decide +kernel, rfl, by decide +kernel, by decide +kernel⟩
set_option maxHeartbeats 4000000 in
theorem ok_change_places {f : Addr} {fd : FuncData} (F : Fun K "change_places" "change_places" s_change_places f fd) (T : Txt mg) : FnOk P w K mg base CX0 1 f fd ["threads", "place"] (sp_change_places K) := by
  refine F.ok sc_change_places (fun vs H Q E h => ?_) (fun cdv A outer s H vs Q E hr h => ?_)
  · obtain ⟨l, p, r, rfl, hl, h0, h1, k⟩ := h
    rfl
  · obtain ⟨l, p, r, rfl, hl, h0, h1, k⟩ := h
    have nd := sc_change_places.nd
    refine ⟨_, (pss_cons (ps_set (i := 2) nd rfl (by first | exact Or.inl rfl | exact Or.inr rfl) (pe_ix ix_list (pv 0) (pv 1) (fun _ _ => rfl)))
      (pss_cons (ps_asg (pe_ix ix_list (pv 0) (pe_op op_add (pv 1) pe_int) (fun _ _ => rfl)) (pg_sub (pv 0) (pv 1) set_list))
      (pss_one (ps_asg (pv 2) (pg_sub (pv 0) (pe_op op_add (pv 1) pe_int) set_list))))), ?_⟩
    have e1 := atI_int (xs := r) (i := p) h0 (by omega)
    have e2 := atI_int (xs := r) (i := p + 1) (by omega) h1
    simp [tSeq, tIfS, tTest, tOp, tUn, tVar, tC, tRet, tRetN, tNext, tBreak, tCont, rI0, rI, rU, tB, tNot, tAnd, tOr, tAndV, tOrV, tNotV, tCall, tCB, tCons, tNil, tLst, tAsg, gName, gSub, gTup, gCons, gNil, rEq, rNe, tDrop, tBM, tBM0, rAppend, rPop, rIxL, rSetL, tSl, tPart, tNoPart, rSlL, rCat, rAll, rEqD, iList, iEnum, iRng1, iRng2, iRev, iZip, tIf, tYes, L2.start, L2.wipe, cxOf, tFor_eq, tLc_eq, -Bool.exists_bool]
    refine ⟨_, SqL.of hl, _, e1, _, SqL.of hl, _, e2, _, hl, _, ixN_of h0 (by rw [List.length_map]; omega), _, upd_same, _, ixN_of (by omega) (by rw [List.length_set, List.length_map]; omega), k _ (fun b hb => ?_) ?_⟩
    · rw [upd_ne hb, upd_ne hb]
    · rw [upd_same]
      unfold swapI
      have e3 : (p + 1).toNat = p.toNat + 1 := by omega
      rw [List.map_set, List.map_set, e3]
def sp_ways_of (K : PySem.W.Frag) : Sp := fun vs H Q _ => ∃ (n t : Int) (p : Addr) (w : Lca.Working), vs = [.int n, .int t, .ref p] ∧ 1 ≤ n ∧ n ≤ 32 ∧ 0 ≤ t ∧ OkW n w ∧ w.length ≤ 512 ∧ SqL K H p ((ic w).map V.int) ∧
  ∀ l H', Same H H' → H l = none → H' l = some (.lst ((ways n t w).map V.int)) → Q (.ref l) H'
theorem sc_ways_of : FnScope ["n", "t", "a", "threads", "ways", "act", "place", "crossed"] ["n", "t", "a"] (defScope s_ways_of) := ⟨rfl, rfl, rfl, by decide +kernel, rfl, by decide +kernel, by decide +kernel⟩
set_option maxHeartbeats 4000000 in
theorem ok_ways_of {f : Addr} {fd : FuncData} (F : Fun K "ways_of" "ways_of" s_ways_of f fd) (T : Txt mg) {f_left_place : Addr} {fd_left_place : FuncData} (D_left_place : Df P w K mg base 1 "left_place" ["act"] (sp_left_place K) f_left_place fd_left_place) {f_change_places : Addr} {fd_change_places : FuncData} (D_change_places : Df P w K mg base 1 "change_places" ["threads", "place"] (sp_change_places K) f_change_places fd_change_places) : FnOk P w K mg base CX0 2 f fd ["n", "t", "a"] (sp_ways_of K) := by
  refine F.ok sc_ways_of (fun vs H Q E h => ?_) (fun cdv A outer s H vs Q E hr h => ?_)
  · obtain ⟨n, t, p, w, rfl, hn1, hn2, ht, hw, hwl, hS, k⟩ := h
    rfl
  · obtain ⟨n, t, p, w, rfl, hn1, hn2, ht, hw, hwl, hS, k⟩ := h
    have nd := sc_ways_of.nd
    obtain ⟨t_CROSS, m_CROSS⟩ := T.c_CROSS
    obtain ⟨t_OVER, m_OVER⟩ := T.c_OVER
    have hr_left_place : Room 1 _ := hr.mono (by decide)
    have hr_change_places : Room 1 _ := hr.mono (by decide)
    refine ⟨_, (pss_cons (ps_set (i := 3) nd rfl (by first | exact Or.inl rfl | exact Or.inr rfl) (pe_callTy (call_list_rng rfl) (by rfl) T.b_list (by decide +kernel) (pa_cons (pe_callTy call_range1 (by rfl) T.b_range (by decide +kernel) (pa_cons (pe_op op_mul pe_int (pv 0)) pa_nil)) pa_nil)))
      (pss_cons (ps_set (i := 4) nd rfl (by first | exact Or.inl rfl | exact Or.inr rfl) (pe_lst pa_nil))
      (pss_cons (ps_for PassesOwn.never rfl (pi_list (pv 2)) (pg_name (i := 5) nd rfl (by first | exact Or.inl rfl | exact Or.inr rfl))
      (pss_cons (ps_set (i := 6) nd rfl (by first | exact Or.inl rfl | exact Or.inr rfl) (pe_call D_left_place.ok hr_left_place rfl D_left_place.mg D_left_place.kp D_left_place.bi .nil pass0 (pa_cons (pv 5) pa_nil)))
      (pss_cons (ps_set (i := 7) nd rfl (by first | exact Or.inl rfl | exact Or.inr rfl) (pe_cmpR op_ge (pv 5) (pe_glob rfl m_CROSS (v := .int 64) ⟨_, rfl⟩) (nomark _)))
      (pss_cons (ps_if (pt_cmpR op_eq (pe_ix ix_list (pv 3) (pv 6) (fun _ _ => rfl)) (pv 1) (nomark _)) (pss_one (ps_expr (pe_bm PySem.F.plainAttrs_list PySem.F.slot_list_append PySem.F.type_list_append mt_append (pv 4) (pa_cons (pe_op op_add (pe_ix ix_list (pv 3) (pe_op op_add (pv 6) pe_int) (fun _ _ => rfl)) (pe_ifExp (pt_val (pv 7)) (pe_glob rfl m_OVER (v := .int 128) ⟨_, rfl⟩) pe_int)) pa_nil)))) (pss_one (ps_if (pt_cmpR op_eq (pe_ix ix_list (pv 3) (pe_op op_add (pv 6) pe_int) (fun _ _ => rfl)) (pv 1) (nomark _)) (pss_one (ps_expr (pe_bm PySem.F.plainAttrs_list PySem.F.slot_list_append PySem.F.type_list_append mt_append (pv 4) (pa_cons (pe_op op_add (pe_ix ix_list (pv 3) (pv 6) (fun _ _ => rfl)) (pe_ifExp (pt_val (pv 7)) pe_int (pe_glob rfl m_OVER (v := .int 128) ⟨_, rfl⟩))) pa_nil)))) pss_nil)))
      (pss_one (ps_expr (pe_call D_change_places.ok hr_change_places rfl D_change_places.mg D_change_places.kp D_change_places.bi .nil pass0 (pa_cons (pv 3) (pa_cons (pv 6) pa_nil)))))))))
      (pss_one (ps_ret (pv 4)))))), ?_⟩
    simp [tSeq, tIfS, tTest, tOp, tUn, tVar, tC, tRet, tRetN, tNext, tBreak, tCont, rI0, rI, rU, tB, tNot, tAnd, tOr, tAndV, tOrV, tNotV, tCall, tCB, tCons, tNil, tLst, tAsg, gName, gSub, gTup, gCons, gNil, rEq, rNe, tDrop, tBM, tBM0, rAppend, rPop, rIxL, rSetL, tSl, tPart, tNoPart, rSlL, rCat, rAll, rEqD, iList, iEnum, iRng1, iRng2, iRev, iZip, tIf, tYes, L2.start, L2.wipe, cxOf, tFor_eq, tLc_eq, -Bool.exists_bool]
    have hz : (1024 : Nat) ≤ sizeLine := by decide
    refine ⟨.inl ⟨by decide, by decide⟩, fun r hr0 => ⟨0, 2 * n, upd_same, ⟨by decide, by decide, by omega, by omega, by omega⟩, fun l hl W hW => ?_⟩⟩
    have hl2 : H l = none := (upd_none hl).2
    have hlW : W ≠ l := (upd_none hW).1
    have hW2 : H W = none := (upd_none (upd_none hW).2).2
    have sm0 : Same H (upd (upd (upd H r (.rng 0 (2 * n))) l (.lst ((List.range (2 * n - 0).toNat).map fun i : Nat => V.int (0 + (i : Int))))) W (.lst [])) := (((Same.refl H).upd hr0).upd hl).upd hW
    refine ⟨⟨_, sm0.seq hS⟩, loop_list (K := K) (a := p) (xs := (ic w).map V.int) (fun i σ H' => ∃ x y z, σ = [some (.int n), some (.int t), some (.ref p), some (.ref l), some (.ref W), x, y, z] ∧ Same H H' ∧ H' l = some (.lst ((castL (Lca.endOf n.toNat (w.take i))).map V.int)) ∧ H' W = some (.lst ((ways n t (w.take i)).map V.int)))
      ⟨_, _, _, rfl, sm0, by rw [upd_ne hlW.symm, upd_same, List.take_zero, start_threads hn1], by rw [upd_same, List.take_zero]; rfl⟩ (fun i σ H' _ ⟨_, _, _, _, sm, _⟩ => sm.seq hS) ?_ ?_⟩
    · rintro i x σ H1 hi ⟨x3, x4, x5, rfl, sm, hl1, hw1⟩
      obtain ⟨z, hz1, rfl⟩ := ic_at hi
      have oz : OkA n z := hw z (List.mem_of_getElem? hz1)
      have b1 := okA_place oz
      have b2 := okA_left (by omega) oz
      have e1 := atI_int (xs := castL (Lca.endOf n.toNat (w.take i))) (i := (z.place : Int)) (by omega) (by rw [endOf_len]; omega)
      have e2 := atI_int (xs := castL (Lca.endOf n.toNat (w.take i))) (i := (z.place : Int) + 1) (by omega) (by rw [endOf_len]; omega)
      rw [show ((z.place : Int) + 1).toNat = z.place + 1 by omega] at e2
      rw [show (z.place : Int).toNat = z.place from rfl] at e1
      have wa : ways n t (w.take (i + 1)) = ways n t (w.take i) ++ wayOf (castL (Lca.endOf n.toNat (w.take i))) t ((z.code : Nat) : Int) := by
        rw [take_one hz1]
        exact ways_snoc hn1 (by omega) ht (hw.sub fun _ m => List.mem_of_mem_take m) oz
      have lw : (List.map V.int (ways n t (w.take i))).length < sizeLine := by
        have := ways_length (n := n) (t := t) (w.take i)
        rw [List.length_take] at this
        rw [List.length_map]
        omega
      have hel := endOf_len n (w.take i)
      have es := endOf_snoc (n := n) hz1
      unfold wayOf at wa
      rw [b2, show (z.place : Int).toNat = z.place from rfl] at wa
      generalize castL (Lca.endOf n.toNat (w.take i)) = R at *
      have tail : ∀ H2 : Hp, Same H H2 → H2 l = some (.lst (R.map V.int)) → H2 W = some (.lst ((ways n t (w.take (i + 1))).map V.int)) → ∃ l_1 p, (l = l_1 ∧ (z.place : Int) = p) ∧ ∃ x_3, H2 l_1 = some (.lst (List.map V.int x_3)) ∧ 0 ≤ p ∧ p + 1 < (x_3.length : Int) ∧
          ∀ H' : Hp, (∀ b, ¬ b = l_1 → H' b = H2 b) → H' l_1 = some (.lst (List.map V.int (swapI x_3 p.toNat))) → Same H H' ∧ H' l = some (.lst (List.map V.int (castL (Lca.endOf n.toNat (List.take (i + 1) w))))) ∧ H' W = some (.lst (List.map V.int (ways n t (List.take (i + 1) w)))) :=
        fun H2 k1 k2 k3 => ⟨l, _, ⟨rfl, rfl⟩, R, k2, by omega, by omega, fun H' q1 q2 => ⟨fun b o hb => by rw [q1 b (ne_of_none hb hl2)]; exact k1 b o hb, by rw [q2, es]; rfl, by rw [q1 W hlW]; exact k3⟩⟩
      have app : ∀ q : Int, ways n t (w.take (i + 1)) = ways n t (w.take i) ++ [q] → ∃ l_1 p, (l = l_1 ∧ (z.place : Int) = p) ∧ ∃ x_3, upd H1 W (.lst (List.map V.int (ways n t (w.take i)) ++ [V.int q])) l_1 = some (.lst (List.map V.int x_3)) ∧ 0 ≤ p ∧ p + 1 < (x_3.length : Int) ∧
          ∀ H' : Hp, (∀ b, ¬ b = l_1 → H' b = upd H1 W (.lst (List.map V.int (ways n t (w.take i)) ++ [V.int q])) b) → H' l_1 = some (.lst (List.map V.int (swapI x_3 p.toNat))) → Same H H' ∧ H' l = some (.lst (List.map V.int (castL (Lca.endOf n.toNat (List.take (i + 1) w))))) ∧ H' W = some (.lst (List.map V.int (ways n t (List.take (i + 1) w)))) :=
        fun q e => tail _ (sm.write hW2) (by rw [upd_ne hlW.symm]; exact hl1) (by rw [upd_same, e, List.map_append]; rfl)
      simp [tSeq, tIfS, tTest, tOp, tUn, tVar, tC, tRet, tRetN, tNext, tBreak, tCont, rI0, rI, rU, tB, tNot, tAnd, tOr, tAndV, tOrV, tNotV, tCall, tCB, tCons, tNil, tLst, tAsg, gName, gSub, gTup, gCons, gNil, rEq, rNe, tDrop, tBM, tBM0, rAppend, rPop, rIxL, rSetL, tSl, tPart, tNoPart, rSlL, rCat, rAll, rEqD, iList, iEnum, iRng1, iRng2, iRev, iZip, tIf, tYes, L2.start, L2.wipe, cxOf, tFor_eq, tLc_eq, -Bool.exists_bool, sp_left_place, sp_change_places, b2]
      refine ⟨_, SqL.of hl1, _, e1, rfl, ?_⟩
      by_cases hA : R.getD z.place 0 = t
      · rw [if_pos (congrArg V.int hA)]
        rw [if_pos hA] at wa
        refine ⟨.inl ⟨rfl, _, SqL.of hw1⟩, _, SqL.of hl1, _, e2, ?_⟩
        by_cases hc : (64 : Int) ≤ ((z.code : Nat) : Int)
        · rw [if_pos hc]
          rw [if_pos hc] at wa
          exact ⟨_, rfl, _, hw1, lw, app _ wa⟩
        · rw [if_neg hc]
          rw [if_neg hc, Int.add_zero] at wa
          exact ⟨_, rfl, _, hw1, lw, app _ wa⟩
      · rw [if_neg (fun e => hA (V.int.inj e))]
        rw [if_neg hA] at wa
        refine ⟨_, SqL.of hl1, _, e2, rfl, ?_⟩
        by_cases hB : R.getD (z.place + 1) 0 = t
        · rw [if_pos (congrArg V.int hB)]
          rw [if_pos hB] at wa
          refine ⟨.inl ⟨rfl, _, SqL.of hw1⟩, _, SqL.of hl1, _, e1, ?_⟩
          by_cases hc : (64 : Int) ≤ ((z.code : Nat) : Int)
          · rw [if_pos hc]
            rw [if_pos hc, Int.add_zero] at wa
            exact ⟨_, rfl, _, hw1, lw, app _ wa⟩
          · rw [if_neg hc]
            rw [if_neg hc] at wa
            exact ⟨_, rfl, _, hw1, lw, app _ wa⟩
        · rw [if_neg (fun e => hB (V.int.inj e))]
          rw [if_neg hB, List.append_nil] at wa
          exact tail _ sm hl1 (by rw [wa]; exact hw1)
    · rintro σ H1 ⟨x3, x4, x5, rfl, sm, hl1, hw1⟩
      rw [List.length_map, ic_length, List.take_length] at hw1
      simp [tSeq, tIfS, tTest, tOp, tUn, tVar, tC, tRet, tRetN, tNext, tBreak, tCont, rI0, rI, rU, tB, tNot, tAnd, tOr, tAndV, tOrV, tNotV, tCall, tCB, tCons, tNil, tLst, tAsg, gName, gSub, gTup, gCons, gNil, rEq, rNe, tDrop, tBM, tBM0, rAppend, rPop, rIxL, rSetL, tSl, tPart, tNoPart, rSlL, rCat, rAll, rEqD, iList, iEnum, iRng1, iRng2, iRev, iZip, tIf, tYes, L2.start, L2.wipe, cxOf, tFor_eq, tLc_eq, -Bool.exists_bool]
      exact k _ _ sm hW2 hw1
def sp_thread (K : PySem.W.Frag) : Sp := fun vs H Q _ => ∃ (n t : Int) (p : Addr) (a : List Int), vs = [.int n, .int t, .ref p] ∧ 0 ≤ n ∧ n ≤ 4294967295 ∧ 0 ≤ t ∧ (∀ z ∈ a, 0 ≤ z ∧ z ≤ 255) ∧ SqL K H p (a.map V.int) ∧ ∀ l H', H' l = some (.lst ((if 2 * n ≤ t then [-1] else if refusalL n [a] = 0 then 0 :: ways n t (wk n a) else [refusalL n [a]]).map V.int)) → Q (.ref l) H'
abbrev due_thread : Int → Int → List Int → List Int := PyWqamcg.thread
theorem fin_thread (K : PySem.W.Frag) (H : Hp) (n t : Int) (p : Addr) (a : List Int) (h1 : 0 ≤ n) (h2 : n ≤ 4294967295) (h5 : 0 ≤ t) (h6 : t ≤ 4294967295) (h3 : a.length ≤ 600) (h4 : ∀ z ∈ a, 0 ≤ z ∧ z ≤ 255) (hS : SqL K H p (a.map V.int)) : sp_thread K [.int n, .int t, .ref p] H (Due (due_thread n t a)) E0 := by
  refine ⟨n, t, p, a, rfl, h1, h2, h5, h4, hS, fun l H' e => ⟨l, rfl, ?_⟩⟩
  rw [e]
  show _ = some (HO.lst ((PyWqamcg.thread n t a).map V.int))
  rw [thread_eq h1 h5 fun z hz => (h4 z hz).1]
theorem sc_thread : FnScope ["n", "t", "a", "refused"] ["n", "t", "a"] (defScope s_thread) := ⟨rfl, rfl, rfl, by decide +kernel, rfl, by decide +kernel, by decide +kernel⟩
set_option maxHeartbeats 4000000 in
theorem ok_thread {f : Addr} {fd : FuncData} (F : Fun K "thread" "thread" s_thread f fd) (T : Txt mg) {f_refusal : Addr} {fd_refusal : FuncData} (D_refusal : Df P w K mg base 3 "refusal" ["n", "workings"] (sp_refusal K) f_refusal fd_refusal) {f_ways_of : Addr} {fd_ways_of : FuncData} (D_ways_of : Df P w K mg base 2 "ways_of" ["n", "t", "a"] (sp_ways_of K) f_ways_of fd_ways_of) : FnOk P w K mg base CX0 4 f fd ["n", "t", "a"] (sp_thread K) := by
  refine F.ok sc_thread (fun vs H Q E h => ?_) (fun cdv A outer s H vs Q E hr h => ?_)
  · obtain ⟨n, t, p, a, rfl, hn0, hn1, ht, hb, hS, k⟩ := h
    rfl
  · obtain ⟨n, t, p, a, rfl, hn0, hn1, ht, hb, hS, k⟩ := h
    have nd := sc_thread.nd
    have hr_refusal : Room 3 _ := hr.mono (by decide)
    have hr_ways_of : Room 2 _ := hr.mono (by decide)
    refine ⟨_, (pss_cons (ps_if (pt_cmpR op_ge (pv 1) (pe_op op_mul pe_int (pv 0)) (nomark _)) (pss_one (ps_ret (pe_lst (pa_cons (pe_un un_neg pe_int) pa_nil)))) pss_nil)
      (pss_cons (ps_set (i := 3) nd rfl (by first | exact Or.inl rfl | exact Or.inr rfl) (pe_call D_refusal.ok hr_refusal rfl D_refusal.mg D_refusal.kp D_refusal.bi .nil pass0 (pa_cons (pv 0) (pa_cons (pe_lst (pa_cons (pv 2) pa_nil)) pa_nil))))
      (pss_cons (ps_if (pt_cmpR op_ne (pv 3) pe_int (nomark _)) (pss_one (ps_ret (pe_lst (pa_cons (pv 3) pa_nil)))) pss_nil)
      (pss_one (ps_ret (pe_op op_cat (pe_lst (pa_cons pe_int pa_nil)) (pe_call D_ways_of.ok hr_ways_of rfl D_ways_of.mg D_ways_of.kp D_ways_of.bi .nil pass0 (pa_cons (pv 0) (pa_cons (pv 1) (pa_cons (pv 2) pa_nil)))))))))), ?_⟩
    simp [tSeq, tIfS, tTest, tOp, tUn, tVar, tC, tRet, tRetN, tNext, tBreak, tCont, rI0, rI, rU, tB, tNot, tAnd, tOr, tAndV, tOrV, tNotV, tCall, tCB, tCons, tNil, tLst, tAsg, gName, gSub, gTup, gCons, gNil, rEq, rNe, tDrop, tBM, tBM0, rAppend, rPop, rIxL, rSetL, tSl, tPart, tNoPart, rSlL, rCat, rAll, rEqD, iList, iEnum, iRng1, iRng2, iRev, iZip, tIf, tYes, L2.start, L2.wipe, cxOf, tFor_eq, tLc_eq, -Bool.exists_bool, sp_refusal, sp_ways_of]
    refine ⟨.inl ⟨by decide, by decide⟩, ?_⟩
    by_cases ht2 : 2 * n ≤ t
    · rw [if_pos ht2]
      refine ⟨by decide, fun l hl => k _ _ ?_⟩
      rw [if_pos ht2, upd_same]
      rfl
    · rw [if_neg ht2]
      rw [if_neg ht2] at k
      have hz : (4000 : Nat) ≤ sizeLine := by decide
      refine ⟨by decide, fun q hq => ⟨n, q, ⟨rfl, rfl⟩, [(p, a)], SqL.of upd_same, by simpa using ((Same.refl H).upd hq).seq hS, fun H1 s1 => ⟨rfl, !decide (refusalL n [a] = 0), by simp, ?_⟩⟩⟩
      have sm : Same H H1 := ((Same.refl H).upd hq).trans s1
      by_cases h0 : refusalL n [a] = 0
      · rw [if_neg (by simp [h0])]
        rw [if_pos h0] at k
        obtain ⟨b1, b2, b3, b4, b5⟩ := okList (refusalL_0 h0 a (by simp)) fun z hz => (hb z hz).1
        refine ⟨by decide, fun q2 hq2 => ⟨n, t, p, ⟨rfl, rfl, rfl⟩, b1, b2, ht, wk n a, b4, b3, by rw [← b5]; exact (sm.upd hq2).seq hS, fun l H2 s2 hl el => ⟨_, s2 q2 _ upd_same, _, el, ?_, fun r hr0 => k _ _ ?_⟩⟩⟩
        · rw [List.length_map]
          have := ways_length (n := n) (t := t) (wk n a)
          show 1 + _ ≤ _
          omega
        · rw [upd_same]
          rfl
      · rw [if_pos (by simp [h0])]
        refine ⟨by decide, fun l hl => k _ _ ?_⟩
        rw [if_neg h0, upd_same]
        rfl
end
set_option maxHeartbeats 4000000 in
theorem all_mk {P : Program} {w : World} {K : PySem.W.Frag} {h : Heap} {mg : Str → Option Value} {fa : Addr} (X : K.In h) (G : h.Ns mainGlobals mg) (hfa : mg "thread" = some (.ref fa)) {t_MOST_PAIRS : Tok} {t_MOST_ACTS : Tok} {t_CROSS : Tok} {t_OVER : Tok} {f0 : Addr} {oc0 kV0 dc0 pm0 cd0 ct0 : Value} {od0 an0 : Option Addr} {sl0 : Array (Option Value)} {f1 : Addr} {oc1 kV1 dc1 pm1 cd1 ct1 : Value} {od1 an1 : Option Addr} {sl1 : Array (Option Value)} {f2 : Addr} {oc2 kV2 dc2 pm2 cd2 ct2 : Value} {od2 an2 : Option Addr} {sl2 : Array (Option Value)} {f3 : Addr} {oc3 kV3 dc3 pm3 cd3 ct3 : Value} {od3 an3 : Option Addr} {sl3 : Array (Option Value)} {f4 : Addr} {oc4 kV4 dc4 pm4 cd4 ct4 : Value} {od4 an4 : Option Addr} {sl4 : Array (Option Value)} {f5 : Addr} {oc5 kV5 dc5 pm5 cd5 ct5 : Value} {od5 an5 : Option Addr} {sl5 : Array (Option Value)} {f6 : Addr} {oc6 kV6 dc6 pm6 cd6 ct6 : Value} {od6 an6 : Option Addr} {sl6 : Array (Option Value)} {f7 : Addr} {oc7 kV7 dc7 pm7 cd7 ct7 : Value} {od7 an7 : Option Addr} {sl7 : Array (Option Value)}
    (c_MOST_PAIRS : PySem.W.nsIn K mainGlobals "MOST_PAIRS" = some (some (.int 32 t_MOST_PAIRS)))
    (c_MOST_ACTS : PySem.W.nsIn K mainGlobals "MOST_ACTS" = some (some (.int 512 t_MOST_ACTS)))
    (c_CROSS : PySem.W.nsIn K mainGlobals "CROSS" = some (some (.int 64 t_CROSS)))
    (c_OVER : PySem.W.nsIn K mainGlobals "OVER" = some (some (.int 128 t_OVER)))
    (b_enumerate : PySem.W.nsIn K mainGlobals "enumerate" = some none)
    (b_len : PySem.W.nsIn K mainGlobals "len" = some none)
    (b_list : PySem.W.nsIn K mainGlobals "list" = some none)
    (b_range : PySem.W.nsIn K mainGlobals "range" = some none)
    (a0 : PySem.W.nsIn K mainGlobals "is_act" = some (some (.ref f0)))
    (l0 : K.lookup f0 = some ⟨oc0, od0, .func (PySem.W.fnOf "is_act" "is_act" (defArgs s_is_act) (defBody s_is_act) (defScope s_is_act) .none kV0 dc0 pm0 an0 cd0 ct0), sl0⟩)
    (c0 : PySem.W.codeIn K cd0 "is_act" = true)
    (k0 : PySem.W.keepIn K (.ref f0) = true)
    (a1 : PySem.W.nsIn K mainGlobals "left_place" = some (some (.ref f1)))
    (l1 : K.lookup f1 = some ⟨oc1, od1, .func (PySem.W.fnOf "left_place" "left_place" (defArgs s_left_place) (defBody s_left_place) (defScope s_left_place) .none kV1 dc1 pm1 an1 cd1 ct1), sl1⟩)
    (c1 : PySem.W.codeIn K cd1 "left_place" = true)
    (k1 : PySem.W.keepIn K (.ref f1) = true)
    (a2 : PySem.W.nsIn K mainGlobals "out_of_bounds" = some (some (.ref f2)))
    (l2 : K.lookup f2 = some ⟨oc2, od2, .func (PySem.W.fnOf "out_of_bounds" "out_of_bounds" (defArgs s_out_of_bounds) (defBody s_out_of_bounds) (defScope s_out_of_bounds) .none kV2 dc2 pm2 an2 cd2 ct2), sl2⟩)
    (c2 : PySem.W.codeIn K cd2 "out_of_bounds" = true)
    (k2 : PySem.W.keepIn K (.ref f2) = true)
    (a3 : PySem.W.nsIn K mainGlobals "first_wrong" = some (some (.ref f3)))
    (l3 : K.lookup f3 = some ⟨oc3, od3, .func (PySem.W.fnOf "first_wrong" "first_wrong" (defArgs s_first_wrong) (defBody s_first_wrong) (defScope s_first_wrong) .none kV3 dc3 pm3 an3 cd3 ct3), sl3⟩)
    (c3 : PySem.W.codeIn K cd3 "first_wrong" = true)
    (k3 : PySem.W.keepIn K (.ref f3) = true)
    (a4 : PySem.W.nsIn K mainGlobals "refusal" = some (some (.ref f4)))
    (l4 : K.lookup f4 = some ⟨oc4, od4, .func (PySem.W.fnOf "refusal" "refusal" (defArgs s_refusal) (defBody s_refusal) (defScope s_refusal) .none kV4 dc4 pm4 an4 cd4 ct4), sl4⟩)
    (c4 : PySem.W.codeIn K cd4 "refusal" = true)
    (k4 : PySem.W.keepIn K (.ref f4) = true)
    (a5 : PySem.W.nsIn K mainGlobals "change_places" = some (some (.ref f5)))
    (l5 : K.lookup f5 = some ⟨oc5, od5, .func (PySem.W.fnOf "change_places" "change_places" (defArgs s_change_places) (defBody s_change_places) (defScope s_change_places) .none kV5 dc5 pm5 an5 cd5 ct5), sl5⟩)
    (c5 : PySem.W.codeIn K cd5 "change_places" = true)
    (k5 : PySem.W.keepIn K (.ref f5) = true)
    (a6 : PySem.W.nsIn K mainGlobals "ways_of" = some (some (.ref f6)))
    (l6 : K.lookup f6 = some ⟨oc6, od6, .func (PySem.W.fnOf "ways_of" "ways_of" (defArgs s_ways_of) (defBody s_ways_of) (defScope s_ways_of) .none kV6 dc6 pm6 an6 cd6 ct6), sl6⟩)
    (c6 : PySem.W.codeIn K cd6 "ways_of" = true)
    (k6 : PySem.W.keepIn K (.ref f6) = true)
    (a7 : PySem.W.nsIn K mainGlobals "thread" = some (some (.ref f7)))
    (l7 : K.lookup f7 = some ⟨oc7, od7, .func (PySem.W.fnOf "thread" "thread" (defArgs s_thread) (defBody s_thread) (defScope s_thread) .none kV7 dc7 pm7 an7 cd7 ct7), sl7⟩)
    (c7 : PySem.W.codeIn K cd7 "thread" = true)
    (k7 : PySem.W.keepIn K (.ref f7) = true) :
    ∃ fd : FuncData, (∀ (s : Shared) (us : List Value), us.length = (["n", "t", "a"] : List Str).length → BindsTo s fd ⟨us, []⟩ ((["n", "t", "a"] : List Str).zip us)) ∧ ∀ base : Heap, K.In base → base.Ns mainGlobals mg → FnOk P w K mg base CX0 4 fa fd ["n", "t", "a"] (sp_thread K) := by
  have e := hfa.symm.trans (PySem.W.mg_of X G a7)
  cases e
  have T : Txt mg := ⟨⟨_, PySem.W.mg_of X G c_MOST_PAIRS⟩, ⟨_, PySem.W.mg_of X G c_MOST_ACTS⟩, ⟨_, PySem.W.mg_of X G c_CROSS⟩, ⟨_, PySem.W.mg_of X G c_OVER⟩, PySem.W.mg_none_of X G b_enumerate, PySem.W.mg_none_of X G b_len, PySem.W.mg_none_of X G b_list, PySem.W.mg_none_of X G b_range⟩
  have F0 := fun_mk (st := s_is_act) l0 c0 k0
  have B0 := F0.binds (ps := ["n", "number"]) fun _ _ _ _ _ _ us hl => match us, hl with | [_, _], _ => rfl
  have F1 := fun_mk (st := s_left_place) l1 c1 k1
  have B1 := F1.binds (ps := ["act"]) fun _ _ _ _ _ _ us hl => match us, hl with | [_], _ => rfl
  have F2 := fun_mk (st := s_out_of_bounds) l2 c2 k2
  have B2 := F2.binds (ps := ["n", "a"]) fun _ _ _ _ _ _ us hl => match us, hl with | [_, _], _ => rfl
  have F3 := fun_mk (st := s_first_wrong) l3 c3 k3
  have B3 := F3.binds (ps := ["n", "a"]) fun _ _ _ _ _ _ us hl => match us, hl with | [_, _], _ => rfl
  have F4 := fun_mk (st := s_refusal) l4 c4 k4
  have B4 := F4.binds (ps := ["n", "workings"]) fun _ _ _ _ _ _ us hl => match us, hl with | [_, _], _ => rfl
  have F5 := fun_mk (st := s_change_places) l5 c5 k5
  have B5 := F5.binds (ps := ["threads", "place"]) fun _ _ _ _ _ _ us hl => match us, hl with | [_, _], _ => rfl
  have F6 := fun_mk (st := s_ways_of) l6 c6 k6
  have B6 := F6.binds (ps := ["n", "t", "a"]) fun _ _ _ _ _ _ us hl => match us, hl with | [_, _, _], _ => rfl
  have F7 := fun_mk (st := s_thread) l7 c7 k7
  have B7 := F7.binds (ps := ["n", "t", "a"]) fun _ _ _ _ _ _ us hl => match us, hl with | [_, _, _], _ => rfl
  refine ⟨PySem.W.fnOf "thread" "thread" (defArgs s_thread) (defBody s_thread) (defScope s_thread) .none kV7 dc7 pm7 an7 cd7 ct7, fun s us hl => .of_eq (match us, hl with | [_, _, _], _ => rfl), fun base kb nb => ?_⟩
  have D0 : Df P w K mg base 1 "is_act" ["n", "number"] (sp_is_act K) f0 _ := ⟨ok_is_act F0 T , PySem.W.mg_of X G a0, k0, B0⟩
  have D1 : Df P w K mg base 1 "left_place" ["act"] (sp_left_place K) f1 _ := ⟨ok_left_place F1 T , PySem.W.mg_of X G a1, k1, B1⟩
  have D2 : Df P w K mg base 1 "out_of_bounds" ["n", "a"] (sp_out_of_bounds K) f2 _ := ⟨ok_out_of_bounds F2 T , PySem.W.mg_of X G a2, k2, B2⟩
  have D3 : Df P w K mg base 2 "first_wrong" ["n", "a"] (sp_first_wrong K) f3 _ := ⟨ok_first_wrong F3 T D0, PySem.W.mg_of X G a3, k3, B3⟩
  have D4 : Df P w K mg base 3 "refusal" ["n", "workings"] (sp_refusal K) f4 _ := ⟨ok_refusal F4 T D2 D3, PySem.W.mg_of X G a4, k4, B4⟩
  have D5 : Df P w K mg base 1 "change_places" ["threads", "place"] (sp_change_places K) f5 _ := ⟨ok_change_places F5 T , PySem.W.mg_of X G a5, k5, B5⟩
  have D6 : Df P w K mg base 2 "ways_of" ["n", "t", "a"] (sp_ways_of K) f6 _ := ⟨ok_ways_of F6 T D1 D5, PySem.W.mg_of X G a6, k6, B6⟩
  exact ok_thread F7 T D4 D6
end Bl
open PySem PySem.W PyProof.Rows
set_option maxRecDepth 100000 in
set_option maxHeartbeats 0 in
theorem PySem.Challenge.cw_bobbinlace_s03_thread_holds : PySem.Challenge.rw_bobbinlace_s03_thread.Holds := by
  w_on; k_headS; (case hw => exact ⟨[.int 0, .int 0, .list []], by decide +kernel, by decide +kernel⟩)
  k_fillS
  refine L2.spec_walk (r := PySem.Challenge.rw_bobbinlace_s03_thread) (k := 4) (sp := Bl.sp_thread) (ps := ["n", "t", "a"]) (answer := fun x => Bl.due_thread x.1 x.2.1 x.2.2.1) (by decide +kernel) rfl ⟨rfl, by decide, by decide⟩ (fun _ => rfl) (fun w h Y => PySem.W.kIn_of Y) ?F ?A
  case F =>
    intro w mg fa h KX G hmg
    refine' Bl.all_mk KX G hmg ?c_MOST_PAIRS ?c_MOST_ACTS ?c_CROSS ?c_OVER ?b_enumerate ?b_len ?b_list ?b_range ?a0 ?l0 ?c0 ?k0 ?a1 ?l1 ?c1 ?k1 ?a2 ?l2 ?c2 ?k2 ?a3 ?l3 ?c3 ?k3 ?a4 ?l4 ?c4 ?k4 ?a5 ?l5 ?c5 ?k5 ?a6 ?l6 ?c6 ?k6 ?a7 ?l7 ?c7 ?k7
    (case c_MOST_PAIRS => k_is)
    (case c_MOST_ACTS => k_is)
    (case c_CROSS => k_is)
    (case c_OVER => k_is)
    (case b_enumerate => k_is)
    (case b_len => k_is)
    (case b_list => k_is)
    (case b_range => k_is)
    (case a0 => k_is)
    (case l0 => k_is)
    (case c0 => k_is)
    (case k0 => k_is)
    (case a1 => k_is)
    (case l1 => k_is)
    (case c1 => k_is)
    (case k1 => k_is)
    (case a2 => k_is)
    (case l2 => k_is)
    (case c2 => k_is)
    (case k2 => k_is)
    (case a3 => k_is)
    (case l3 => k_is)
    (case c3 => k_is)
    (case k3 => k_is)
    (case a4 => k_is)
    (case l4 => k_is)
    (case c4 => k_is)
    (case k4 => k_is)
    (case a5 => k_is)
    (case l5 => k_is)
    (case c5 => k_is)
    (case k5 => k_is)
    (case a6 => k_is)
    (case l6 => k_is)
    (case c6 => k_is)
    (case k6 => k_is)
    (case a7 => k_is)
    (case l7 => k_is)
    (case c7 => k_is)
    (case k7 => k_is)
  case A =>
    exact L2.args_nnl (by decide) rfl Bl.fin_thread
#print axioms PySem.Challenge.cw_bobbinlace_s03_thread_holds
