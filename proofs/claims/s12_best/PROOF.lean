import PyProof.Rows.All
import Wide.All
import OpenK.AllK
import Wide.FinOn
import PyProof.EqAt
import PyProof.EqKinds
import PyProof.TupleCall
import KE.BitLaws
import Open.SpecLaws
import KE.OsHead
import KE.OsGo
import PySem.Challenge.RW_cardsseen_s12_best
section
set_option Elab.async false
set_option linter.all false
set_option maxRecDepth 100000
/-! THE HAND LAYER, for ints, bools, texts, own classes, lists, tuples, dicts, comprehensions, walks over dicts, enumerate, zip, reversed, texts, calls, loops. Paste it whole ahead of your own text; what your proof does not reach may be deleted. -/
namespace L2
open PySem PySem.Spec PyProof.Rows

/-- a key: an int or a str -/
abbrev Key := Sum Int Str
def keyIs : Key → Value → Bool
  | .inl k, v => Value.isInt k v
  | .inr x, v => Value.isStrOf x v
def keyH (w : World) : Key → Int
  | .inl k => hashInt k
  | .inr x => hashStr w x
theorem keyIs_shape : ∀ {k : Key} {v : Value}, keyIs k v = true → (∃ i t, k = Sum.inl i ∧ v = Value.int i t) ∨ (∃ x t, k = Sum.inr x ∧ v = Value.str x t)
  | .inl i, v, h => by
    obtain ⟨t, e⟩ := Value.isInt_shape (k := i) (v := v) h
    exact .inl ⟨i, t, rfl, e⟩
  | .inr x, v, h => by
    obtain ⟨t, e⟩ := Value.isStrOf_shape (x := x) (v := v) h
    exact .inr ⟨x, t, rfl, e⟩
theorem key_ll (a b : Int) : decide ((Sum.inl a : Key) = Sum.inl b) = (a == b) := by
  by_cases e : a = b
  · subst e; simp
  · have h : ¬ (Sum.inl a : Key) = Sum.inl b := fun q => e (Sum.inl.inj q)
    rw [decide_eq_false h]
    exact (beq_eq_false_iff_ne.mpr e).symm
theorem key_rr (a b : Str) : decide ((Sum.inr a : Key) = Sum.inr b) = decide (a = b) := by
  by_cases e : a = b
  · subst e; simp
  · have h : ¬ (Sum.inr a : Key) = Sum.inr b := fun q => e (Sum.inr.inj q)
    rw [decide_eq_false h, decide_eq_false e]
theorem key_lr (a : Int) (b : Str) : decide ((Sum.inl a : Key) = Sum.inr b) = false := decide_eq_false (fun q => nomatch q)
theorem key_rl (a : Str) (b : Int) : decide ((Sum.inr a : Key) = Sum.inl b) = false := decide_eq_false (fun q => nomatch q)

def mixKind (prog : Program) (w : World) : PySem.KeyKind prog w Key where
  is := keyIs
  hash := keyH w
  inj := fun v a b ha hb => by
    rcases keyIs_shape ha with ⟨i, t, rfl, rfl⟩ | ⟨x, t, rfl, rfl⟩
    · rcases keyIs_shape hb with ⟨j, u, rfl, e⟩ | ⟨y, u, rfl, e⟩
      · injection e with e1 _; rw [e1]
      · exact nomatch e
    · rcases keyIs_shape hb with ⟨j, u, rfl, e⟩ | ⟨y, u, rfl, e⟩
      · exact nomatch e
      · injection e with e1 _; rw [e1]
  byValue := fun k v h => by
    rcases keyIs_shape h with ⟨i, t, rfl, rfl⟩ | ⟨x, t, rfl, rfl⟩ <;> rfl
  pyHash := fun hv h => by
    rcases keyIs_shape hv with ⟨i, t, rfl, rfl⟩ | ⟨x, t, rfl, rfl⟩
    · exact wpAny_pyHash_int h
    · exact wpAny_pyHash_str h
  eqBool := fun hu hv h => by
    rcases keyIs_shape hu with ⟨i, t, rfl, rfl⟩ | ⟨x, t, rfl, rfl⟩
    · rcases keyIs_shape hv with ⟨j, u, rfl, rfl⟩ | ⟨y, u, rfl, rfl⟩
      · rw [key_ll] at h; exact wpAny_eqBool_int h
      · rw [key_lr] at h; exact SeqAt.EqAt.int_str i t y u _ _ _ _ h
    · rcases keyIs_shape hv with ⟨j, u, rfl, rfl⟩ | ⟨y, u, rfl, rfl⟩
      · rw [key_rl] at h; exact SeqAt.EqAt.str_int x t j u _ _ _ _ h
      · rw [key_rr] at h; exact wpAny_eqBool_str h
  «strs» := fun k x t v h => by
    rcases keyIs_shape h with ⟨i, u, rfl, e⟩ | ⟨y, u, rfl, e⟩
    · exact nomatch e
    · injection e with e1 _
      subst e1
      cases v <;> rfl

end L2

namespace L2
open PySem PySem.Spec PyProof.Rows

/-- a value, without the heap -/
inductive V where
  | non | bl (b : Bool) | int (i : Int) | str (x : Str) | byt (b : Array UInt8) | flt (b : UInt64) | ref (a : Addr) | ty (n : String)
  deriving DecidableEq

def RelV : V → Value → Prop
  | .non, u => u = Value.none
  | .bl b, u => u = Value.bool b
  | .int i, u => ∃ t, u = Value.int i t
  | .str x, u => ∃ t, u = Value.str x t
  | .byt b, u => ∃ t, u = Value.bytes b t
  | .flt b, u => ∃ t, u = Value.float b t
  | .ref a, u => u = Value.ref a
  | .ty n, u => u = Value.type n

abbrev Vals : List V → List Value → Prop := Paired RelV
theorem Vals.length {xs : List V} {us : List Value} (r : Vals xs us) : xs.length = us.length := Paired.length r
theorem Vals.get : ∀ {xs : List V} {us : List Value} {i : Nat} {x : V}, Vals xs us → xs[i]? = some x → ∃ u, us[i]? = some u ∧ RelV x u
  | _, _, _, _, .nil, e => by simp at e
  | _, _, 0, _, .cons r _, e => by simp at e; subst e; exact ⟨_, rfl, r⟩
  | _, _, i + 1, x, .cons _ t, e => by
    obtain ⟨u, h1, h2⟩ := Vals.get (i := i) (x := x) t (by simpa using e)
    exact ⟨u, by simpa using h1, h2⟩
theorem Vals.set {x : V} {u : Value} (r : RelV x u) : ∀ {xs : List V} {us : List Value} (i : Nat), Vals xs us → Vals (xs.set i x) (us.set i u)
  | _, _, _, .nil => .nil
  | _, _, 0, .cons _ t => .cons r t
  | _, _, i + 1, .cons q t => .cons q (Vals.set r i t)
theorem Vals.append : ∀ {xs ys : List V} {us ws : List Value}, Vals xs us → Vals ys ws → Vals (xs ++ ys) (us ++ ws)
  | _, _, _, _, .nil, s => s
  | _, _, _, _, .cons r t, s => .cons r (Vals.append t s)

def RelO : Option V → Option Value → Prop
  | some v, some u => RelV v u
  | none, none => True
  | _, _ => False
def KV {κ : Type} : List (κ × V) → List (κ × Value) → Prop := Paired fun (p : κ × V) (q : κ × Value) => p.1 = q.1 ∧ RelV p.2 q.2

/-- a key of a dict (00_mix): an int or a text -/
def kV : Key → V
  | .inl i => .int i
  | .inr x => .str x

/-- what stands at a tracked address -/
inductive HO where
  /-- a list -/
  | lst (xs : List V)
  /-- a tuple (never changes) -/
  | tup (xs : List V)
  /-- a dict whose keys are ints and texts; one whose keys are tuples of ints and texts (the empty one is both) -/
  | dK (kvs : List (Key × V)) | dT (kvs : List (List Key × V))
  /-- a set of ints: its members, its size -/
  | set (S : Int → Bool) (n : Nat)
  /-- an instance of the class at C, its dict at dx, its attributes -/
  | ins (C dx : Addr) (fs : List (Str × V))
  /-- the dict of the instance at x -/
  | own (x : Addr)
  /-- the dict of an exception -/
  | xd (fs : List (Str × V))
  /-- a bound method, f of x -/
  | met (f x : Addr)
  /-- a range object lo, lo + 1, .. below hi -/
  | rng (lo hi : Int)
  /-- a thing that is known to the object (the script; a dict while a loop walks it): read, never written while it is so -/
  | frz (o : Obj) (u : HO)
  /-- a code object's table -/
  | tbl (ps : Array Value)
  /-- any other thing, by what is true of its one object (a def of one's own: SetO a S n := HO.ext fun h => ..) -/
  | ext (φ : Heap → Prop)

abbrev Hp := Addr → Option HO
def upd (H : Hp) (a : Addr) (o : HO) : Hp := fun b => if b = a then some o else H b
theorem upd_same {H : Hp} {a : Addr} {o : HO} : upd H a o a = some o := by unfold upd; rw [if_pos rfl]
theorem upd_ne {H : Hp} {a b : Addr} {o : HO} (h : b ≠ a) : upd H a o b = H b := by unfold upd; rw [if_neg h]
theorem ne_of_none {H : Hp} {a b : Addr} {o : HO} (h : H a = some o) (h' : H b = none) : a ≠ b := by
  intro e; subst e; rw [h] at h'; cases h'

section
variable (P : Program) (w : World)
def ObjOk (H : Hp) (h : Heap) (a : Addr) : HO → Prop
  | .lst xs => xs.length ≤ sizeLine ∧ ∃ (its : List Value) (n : Nat), Vals xs its ∧ h.get? a = some { cls := .type "list", data := .seq its.toArray n }
  | .tup xs => xs.length ≤ sizeLine ∧ ∃ its : List Value, Vals xs its ∧ IsTup h a its.toArray
  | .dK kvs => kvs.length ≤ sizeLine ∧ (a == sysModules) = false ∧ ∃ vs, KV kvs vs ∧ h.DictOf (mixKind P w) a vs
  | .dT kvs => kvs.length ≤ sizeLine ∧ (a == sysModules) = false ∧ ∃ xs : List (List Key × Addr × Value),
      Paired (fun (p : List Key × V) (q : List Key × Addr × Value) => p.1 = q.1 ∧ H q.2.1 = some (.tup (p.1.map kV)) ∧ RelV p.2 q.2.2) kvs xs ∧
      ∃ o es ep, h.get? a = some o ∧ o.ExactDict ∧ o.data = .dict es ep ∧ es.toList = xs.map (entryOfKey (tupleKind (mixKind P w))) ∧ (xs.map (·.1)).Nodup
  | .set S n => h.SetOf (intKind P w) a S n
  | .ins C dx fs => H dx = some (.own a) ∧ fs.length ≤ 1000 ∧ dx ≠ a ∧ h.get? a = some (PySem.W.instObj C dx) ∧
      ∃ mA, h.Ns1 dx mA ∧ (∀ f, RelO (fs.lookup f) (mA f)) ∧ PySem.Within mA (fs.map (·.1))
  | .own _ => ∃ o, h.get? a = some o
  | .xd fs => ∃ mA, h.Ns1 a mA ∧ ∀ f, RelO (fs.lookup f) (mA f)
  | .rng lo hi => ∃ t u v, h.get? a = some { cls := .type "range", data := .fields #[.int lo t, .int hi u, .int 1 v] }
  | .frz o u => h.get? a = some o ∧ ObjOk H h a u
  | .tbl ps => h.get? a = some { cls := .none, data := .fields ps }
  | .met f x => h.get? a = some (PySem.W.methodObj (.ref f) (.ref x))
  | .ext φ => φ h ∧ (∃ o, h.get? a = some o) ∧ ∀ h1 h2 : Heap, φ h1 → (∀ o, h1.get? a = some o → h2.get? a = some o) → φ h2
/-- the abstract heap is held -/
def HOk (H : Hp) (h : Heap) : Prop := ∀ a o, H a = some o → ObjOk P w H h a o
end

section
variable {P : Program} {w : World} {H H' : Hp} {h h' : Heap} {a : Addr} {o : HO}
theorem ObjOk.lt (x : ObjOk P w H h a o) : a < h.objs.size := by
  cases o with
  | lst xs => obtain ⟨_, _, _, _, e⟩ := x; exact Heap.lt_size e
  | tup xs => obtain ⟨_, _, _, p⟩ := x; exact p.lt
  | dK kvs => obtain ⟨_, _, _, _, o, _, _, e, _⟩ := x; exact Heap.lt_size e
  | dT kvs => obtain ⟨_, _, _, _, o, _, _, e, _⟩ := x; exact Heap.lt_size e
  | set S n => obtain ⟨o, _, _, _, e, _⟩ := x; exact Heap.lt_size e
  | ins C dx fs => obtain ⟨_, _, _, e, _⟩ := x; exact Heap.lt_size e
  | own y => obtain ⟨_, e⟩ := x; exact Heap.lt_size e
  | xd fs => obtain ⟨_, ⟨_, _, _, e, _⟩, _⟩ := x; exact Heap.lt_size e
  | rng lo hi => obtain ⟨_, _, _, e⟩ := x; exact Heap.lt_size e
  | frz ob u => obtain ⟨e, _⟩ := x; exact Heap.lt_size e
  | tbl ps => exact Heap.lt_size (show h.get? a = some _ from x)
  | met f y => exact Heap.lt_size (show h.get? a = some _ from x)
  | ext φ => obtain ⟨_, ⟨_, e⟩, _⟩ := x; exact Heap.lt_size e
theorem Paired.mapP {α β : Type} {F G : α → β → Prop} : ∀ {l₁ : List α} {l₂ : List β}, Paired F l₁ l₂ → (∀ a b, F a b → G a b) → Paired G l₁ l₂
  | _, _, .nil, _ => .nil
  | _, _, .cons r t, f => .cons (f _ _ r) (Paired.mapP t f)
/-- what an object's description leans on: its own object, its own dict, the tuples -/
theorem ObjOk.stay (x : ObjOk P w H h a o) (k : ∀ b u, (b = a ∨ H b = some (.own a)) → h.get? b = some u → h'.get? b = some u)
    (ho : ∀ b, H b = some (.own a) → H' b = some (.own a)) (ht : ∀ b xs, H b = some (.tup xs) → H' b = some (.tup xs)) : ObjOk P w H' h' a o := by
  induction o with
  | lst xs => obtain ⟨z, its, n, r, e⟩ := x; exact ⟨z, its, n, r, k _ _ (.inl rfl) e⟩
  | tup xs => obtain ⟨z, its, r, ob, e, c⟩ := x; exact ⟨z, its, r, ob, k _ _ (.inl rfl) e, c⟩
  | dK kvs => obtain ⟨z, y, vs, r, ob, es, ep, e, c⟩ := x; exact ⟨z, y, vs, r, ob, es, ep, k _ _ (.inl rfl) e, c⟩
  | dT kvs =>
    obtain ⟨z, y, xs, r, ob, es, ep, e, c⟩ := x
    exact ⟨z, y, xs, Paired.mapP r fun p q z => ⟨z.1, ht _ _ z.2.1, z.2.2⟩, ob, es, ep, k _ _ (.inl rfl) e, c⟩
  | set S n => obtain ⟨ob, es, ep, t, e, c⟩ := x; exact ⟨ob, es, ep, t, k _ _ (.inl rfl) e, c⟩
  | ins C dx fs =>
    obtain ⟨d, z, ne, e, mA, ⟨od, es, ep, e2, c⟩, r⟩ := x
    exact ⟨ho _ d, z, ne, k _ _ (.inl rfl) e, mA, ⟨od, es, ep, k _ _ (.inr d) e2, c⟩, r⟩
  | own y => obtain ⟨ob, e⟩ := x; exact ⟨ob, k _ _ (.inl rfl) e⟩
  | xd fs => obtain ⟨mA, ⟨od, es, ep, e, c⟩, r⟩ := x; exact ⟨mA, ⟨od, es, ep, k _ _ (.inl rfl) e, c⟩, r⟩
  | rng lo hi => obtain ⟨t, u, v, e⟩ := x; exact ⟨t, u, v, k _ _ (.inl rfl) e⟩
  | frz ob u ih => obtain ⟨e, q⟩ := x; exact ⟨k _ _ (.inl rfl) e, ih q⟩
  | tbl ps =>
    have e : h.get? a = some { cls := .none, data := .fields ps } := x
    show h'.get? a = some { cls := .none, data := .fields ps }
    exact k a _ (.inl rfl) e
  | met f y =>
    have e : h.get? a = some (PySem.W.methodObj (.ref f) (.ref y)) := x
    show h'.get? a = some (PySem.W.methodObj (.ref f) (.ref y))
    exact k a _ (.inl rfl) e
  | ext φ => obtain ⟨p, ⟨o, e⟩, st⟩ := x; exact ⟨st _ _ p fun o q => k _ _ (.inl rfl) q, ⟨o, k _ _ (.inl rfl) e⟩, st⟩
theorem HOk.lt (x : HOk P w H h) (e : H a = some o) : a < h.objs.size := (x a o e).lt
theorem HOk.fresh (x : HOk P w H h) (e : h.objs.size ≤ a) : H a = none := by
  cases q : H a with
  | none => rfl
  | some u => exact absurd (Nat.lt_of_lt_of_le (x.lt q) e) (Nat.lt_irrefl _)
/-- every object of the heap is kept -/
theorem HOk.kept (x : HOk P w H h) (k : ∀ b u, h.get? b = some u → h'.get? b = some u) : HOk P w H h' := fun a o e =>
  (x a o e).stay (fun b u _ q => k b u q) (fun _ q => q) fun _ _ q => q
/-- a new object is laid and tracked -/
theorem HOk.laid (x : HOk P w H h) (k : ∀ b u, h.get? b = some u → h'.get? b = some u) (hp : h.objs.size ≤ a) (new : ObjOk P w (upd H a o) h' a o) : HOk P w (upd H a o) h' := fun b u e => by
  have hn := x.fresh hp
  by_cases hb : b = a
  · subst hb; rw [upd_same] at e; cases e; exact new
  · rw [upd_ne hb] at e
    exact (x b u e).stay (fun c v _ q => k c v q) (fun c q => by rw [upd_ne (ne_of_none q hn)]; exact q) fun c xs q => by rw [upd_ne (ne_of_none q hn)]; exact q
end

/-- what may be read as u: it is u, or a known u -/
def Rd (H : Hp) (a : Addr) (u : HO) : Prop := H a = some u ∨ ∃ o, H a = some (.frz o u)
theorem Rd.ok {P : Program} {w : World} {H : Hp} {h : Heap} {a : Addr} {u : HO} (r : Rd H a u) (x : HOk P w H h) : ObjOk P w H h a u := by
  rcases r with r | ⟨o, r⟩
  · exact x a u r
  · obtain ⟨_, q⟩ := x a _ r
    exact q
/-- what may be written -/
def Mut : Option HO → Prop
  | some (.lst _) => True
  | some (.dK _) => True
  | some (.dT _) => True
  | some (.set _ _) => True
  | some (.ins _ _ _) => True
  | some (.ext _) => True
  | _ => False
section
variable {P : Program} {w : World} {H : Hp} {h h' : Heap} {x e : Addr} {o' : HO}
/-- the object at e is changed: x itself, or the dict of the instance x -/
theorem HOk.write (ok : HOk P w H h) (mu : Mut (H x)) (he : e = x ∨ H e = some (.own x)) (k : ∀ b u, b ≠ e → h.get? b = some u → h'.get? b = some u) (heo : ∃ u, h'.get? e = some u)
    (new : ObjOk P w (upd H x o') h' x o') : HOk P w (upd H x o') h' := fun b u q => by
  have nown : ∀ c y, H c = some (.own y) → c ≠ x := fun c y r z => by subst z; rw [r] at mu; exact mu
  have ntup : ∀ c xs, H c = some (.tup xs) → c ≠ x := fun c xs r z => by subst z; rw [r] at mu; exact mu
  by_cases hb : b = x
  · subst hb; rw [upd_same] at q; cases q; exact new
  · rw [upd_ne hb] at q
    by_cases hbe : b = e
    · have q' : H b = some (.own x) := by
        rcases he with z | z
        · exact absurd (hbe.trans z) hb
        · rw [hbe]; exact z
      rw [q] at q'; cases q'
      obtain ⟨v, hv⟩ := heo
      exact ⟨v, by rw [hbe]; exact hv⟩
    · refine (ok b u q).stay (fun c v hc r => k c v ?_ r) (fun c r => by rw [upd_ne (nown c b r)]; exact r) fun c xs r => by rw [upd_ne (ntup c xs r)]; exact r
      rcases hc with rfl | hc
      · exact hbe
      · rintro rfl
        rcases he with z | z
        · exact nown c b hc z
        · rw [hc] at z; cases z; exact hb rfl
end

/-! ### kept unless tracked; of the frames at fs (the callers') the slots may change (an exception that passes writes there); of the records at ex (iterators) nothing is said -/
structure Un (fs ex : List Addr) (H H' : Hp) (h h' : Heap) : Prop where
  keep : ∀ b o, h.get? b = some o → H b = none → b ∉ fs → b ∉ ex → h'.get? b = some o
  slot : ∀ b o, h.get? b = some o → H b = none → b ∈ fs → b ∉ ex → ∃ sl, h'.get? b = some { o with slots := sl }
  free : ∀ b o, h.get? b = some o → H b = none → b ∉ ex → H' b = none
  there : ∀ b o, h.get? b = some o → b ∉ ex → ∃ o', h'.get? b = some o'
  tups : ∀ b xs, H b = some (.tup xs) → H' b = some (.tup xs)
  frzs : ∀ b o u, H b = some (.frz o u) → H' b = some (.frz o u)
  tbls : ∀ b ps, H b = some (.tbl ps) → ∃ more, H' b = some (.tbl (ps ++ more))
section
variable {fs fs' ex ex' : List Addr} {H H1 H2 : Hp} {h h1 h2 h' : Heap} {a x e : Addr} {o : HO}
theorem Un.any (u : Un fs ex H H1 h h1) {b : Addr} {ob : Obj} (q : h.get? b = some ob) (n : H b = none) (hx : b ∉ ex) : ∃ sl, h1.get? b = some { ob with slots := sl } := by
  by_cases hb : b ∈ fs
  · exact u.slot b ob q n hb hx
  · exact ⟨ob.slots, u.keep b ob q n hb hx⟩
theorem Un.kept (k : ∀ b u, h.get? b = some u → h'.get? b = some u) : Un fs ex H H h h' :=
  ⟨fun b ob q _ _ _ => k b ob q, fun b ob q _ _ _ => ⟨ob.slots, k b ob q⟩, fun _ _ _ n _ => n, fun b ob q _ => ⟨ob, k b ob q⟩, fun _ _ q => q, fun _ _ _ q => q, fun _ ps q => ⟨#[], by rw [q]; simp⟩⟩
theorem Un.refl : Un fs ex H H h h := Un.kept fun _ _ q => q
theorem Un.laid (k : ∀ b u, h.get? b = some u → h'.get? b = some u) (hp : h.objs.size ≤ a) (hn : H a = none) : Un fs ex H (upd H a o) h h' where
  keep := fun b u q _ _ _ => k b u q
  slot := fun b u q _ _ _ => ⟨u.slots, k b u q⟩
  free := fun b u q n _ => by rw [upd_ne (Nat.ne_of_lt (Nat.lt_of_lt_of_le (Heap.lt_size q) hp))]; exact n
  there := fun b u q _ => ⟨u, k b u q⟩
  tups := fun b xs q => by rw [upd_ne (ne_of_none q hn)]; exact q
  frzs := fun b u xs q => by rw [upd_ne (ne_of_none q hn)]; exact q
  tbls := fun b ps q => ⟨#[], by rw [upd_ne (ne_of_none q hn), q]; simp⟩
theorem Un.write (mu : Mut (H x)) (he : e = x ∨ H e = some (.own x)) (k : ∀ b u, b ≠ e → h.get? b = some u → h'.get? b = some u) (heo : ∃ u, h'.get? e = some u) : Un fs ex H (upd H x o) h h' := by
  have hx : ∀ b, H b = none → b ≠ x := fun b n z => by subst z; rw [n] at mu; exact mu
  have hb : ∀ b, H b = none → b ≠ e := fun b n z => by
    subst z
    rcases he with r | r
    · exact hx b n r
    · rw [n] at r; cases r
  have hm : ∀ b u, H b = some u → ¬ Mut (some u) → b ≠ x := fun b u q nm z => by subst z; rw [q] at mu; exact nm mu
  refine ⟨fun b u q n _ _ => k b u (hb b n) q, fun b u q n _ _ => ⟨u.slots, k b u (hb b n) q⟩, fun b u q n _ => by rw [upd_ne (hx b n)]; exact n, fun b u q _ => ?_,
    fun b xs q => by rw [upd_ne (hm b _ q fun z => z)]; exact q, fun b u xs q => by rw [upd_ne (hm b _ q fun z => z)]; exact q, fun b ps q => ⟨#[], by rw [upd_ne (hm b _ q fun z => z), q]; simp⟩⟩
  by_cases hbe : b = e
  · subst hbe; exact heo
  · exact ⟨u, k b u hbe q⟩
end

/-! ### the heap without what is tracked -/
def trk (h : Heap) (H : Hp) : List Addr := (List.range h.objs.size).filter fun a => (H a).isSome
def hidT (h : Heap) (H : Hp) : Heap := PySem.W.hideAll h (trk h H)
theorem hidT_size (h : Heap) (H : Hp) : (hidT h H).objs.size = h.objs.size := PySem.W.hideAll_size _ _
theorem hidT_get {h : Heap} {H : Hp} {b : Addr} {o : Obj} (e : h.get? b = some o) (n : H b = none) : (hidT h H).get? b = some o :=
  PySem.W.hideAll_get _ e fun hm => by
    have q : (H b).isSome = true := (List.mem_filter.mp hm).2
    rw [n] at q; simp at q
theorem of_hidT {h : Heap} {H : Hp} {b : Addr} {o : Obj} (e : (hidT h H).get? b = some o) : h.get? b = some o ∧ H b = none := by
  have e' : h.get? b = some o := PySem.W.of_hideAll (trk h H) e
  refine ⟨e', ?_⟩
  cases q : H b with
  | none => rfl
  | some x =>
    have hm : b ∈ trk h H := List.mem_filter.mpr ⟨List.mem_range.mpr (Heap.lt_size e'), by simp [q]⟩
    have z : (hidT h H).get? b = none := PySem.W.hideAll_none (trk h H) hm
    rw [z] at e; cases e

/-! ### OpenK's ledger, filled with every new object but one -/
end L2

namespace L2
open PySem PySem.Spec PyProof.Rows

/-- the module's facts, over the base: the heap at the law's entry without what is tracked there -/
structure Mod (K : PySem.W.Frag) (mg : Str → Option Value) (base : Heap) : Prop where
  kin : K.In base
  glob : base.Ns mainGlobals mg
  blt : ∃ mb, base.Ns builtinsNs mb ∧ ∀ x : Str, x ≠ "__name__" → mb x = bootBuiltins x
  nolimit : base.NoLimit

/-- the context: a def's body (or a comprehension's block) running. base: fixed through the whole law; s₀, H₀: the entry; outer: the frames whose slots others may change (a def's callers); stack: all frames that run;
   ex: iterators that were made ahead of the entry and are walked here (a comprehension's); fn: the names whose cells were made at the entry (a def: all; a comprehension's block: its own); calm: not within an except suite; pn: pins that every state bears; xe: what is wanted of an exception that leaves the code -/
structure Cx where
  prog : Program
  w : World
  K : PySem.W.Frag
  mg : Str → Option Value
  base : Heap
  A : Around
  N : List Str
  s_0 : Shared
  H_0 : Hp
  env : Env
  outer : List Env
  stack : List Env
  ex : List Addr
  fn : Str → Bool
  calm : Bool
  pn : List (Addr × Obj)
  xe : Value → Shared → Prop
/-- the callers' frames -/
def frs (l : List Env) : List Addr := l.filterMap (·.frame)
abbrev Cx.fs (X : Cx) : List Addr := frs X.outer

def Vis (sc : Scope) (x : Str) : Prop := sc.names.lookup x = some .local ∨ sc.names.lookup x = some .cell ∨ sc.names.lookup x = some .free
def Loc (sc : Scope) (x : Str) : Prop := sc.names.lookup x = some .local ∨ sc.names.lookup x = some .cell
def Look (env : Env) (h : Heap) (m : Str → Option Value) (x : Str) (u : Value) : Prop :=
  (env.kindOf x = some .local ∧ m x = some u) ∨ ((env.kindOf x = some .cell ∨ env.kindOf x = some .free) ∧ ∃ c, env.cells.lookup x = some c ∧ h.IsCell c (some u))

structure Cx.Ok (X : Cx) : Prop where
  mod : Mod X.K X.mg X.base
  kind : X.env.scope.kind = .function
  glob : X.env.globals = mainGlobals
  blt : X.env.builtins = builtinsNs
  above : X.s_0.heap.objs.size ≤ X.env.locals
  inj : ∀ x y c, X.env.cells.lookup x = some c → X.env.cells.lookup y = some c → x = y
  has : ∀ x, (X.env.kindOf x = some .cell ∨ X.env.kindOf x = some .free) → ∃ c, X.env.cells.lookup x = some c
  cab : ∀ x c, X.fn x = true → X.env.cells.lookup x = some c → X.s_0.heap.objs.size ≤ c
  hd : X.calm = true → X.A.handled = none
  frames : X.A.frames = some X.stack
  stk : X.stack = X.outer ∨ (X.stack = X.env :: X.outer ∧ X.env.frame = some X.env.locals)
  exf : ∀ b ∈ X.ex, b ≠ X.env.locals ∧ ∀ x c, X.env.cells.lookup x = some c → c ≠ b
  bs : ∀ b o, X.base.get? b = some o → X.s_0.heap.get? b = some o ∧ X.H_0 b = none
  bsz : X.base.objs.size ≤ X.s_0.heap.objs.size
  noex : ∀ b o, X.base.get? b = some o → b ∉ X.ex
  exfs : ∀ b ∈ X.ex, b ∉ X.fs
  funs : X.s_0.heap.FunFrames X.base X.outer
  frf : ∀ b ∈ X.fs, X.H_0 b = none

structure Inv (X : Cx) (pins : List (Addr × Obj)) (σ : List (Option V)) (H : Hp) (s : Shared) : Prop where
  ok : X.Ok
  os : s.os = X.s_0.os
  bare : AllBare s.gens
  base : Un X.fs X.ex X.H_0 H X.s_0.heap s.heap
  loc : ∃ m, s.heap.Ns X.env.locals m ∧ ∀ (i : Nat) (x : Str) (v : V), X.N[i]? = some x → σ[i]? = some (some v) → Vis X.env.scope x → ∃ u, RelV v u ∧ Look X.env s.heap m x u
  cell : ∀ x c, X.env.cells.lookup x = some c → ∃ v, s.heap.IsCell c v
  free : H X.env.locals = none
  freeC : ∀ x c, X.env.cells.lookup x = some c → H c = none
  pin : ∀ p ∈ X.pn ++ pins, s.heap.get? p.1 = some p.2 ∧ H p.1 = none ∧ p.1 ≠ X.env.locals ∧ p.1 ∉ X.fs ∧ ∀ v, p.2.data ≠ .cell v
  hok : HOk X.prog X.w H s.heap
  len : σ.length = X.N.length

section
variable {X : Cx} {pins : List (Addr × Obj)} {σ : List (Option V)} {H H' : Hp} {s : Shared} {h' : Heap}

theorem Cx.Ok.nofr (ok : X.Ok) {b : Addr} {o : Obj} (e : X.base.get? b = some o) : b ∉ X.fs := fun hb => by
  have := (ok.funs.mem hb).1
  rw [e] at this; cases this
theorem Inv.bs (I : Inv X pins σ H s) : ∀ b o, X.base.get? b = some o → s.heap.get? b = some o ∧ H b = none := fun b o e =>
  ⟨I.base.keep b o (I.ok.bs b o e).1 (I.ok.bs b o e).2 (I.ok.nofr e) (I.ok.noex b o e), I.base.free b o (I.ok.bs b o e).1 (I.ok.bs b o e).2 (I.ok.noex b o e)⟩
theorem Inv.bk (I : Inv X pins σ H s) : ∀ b o, X.base.get? b = some o → s.heap.get? b = some o := fun b o e => (I.bs b o e).1
theorem Inv.mod (I : Inv X pins σ H s) : Mod X.K X.mg X.base := I.ok.mod
theorem Inv.kIn (I : Inv X pins σ H s) : X.K.In s.heap := I.ok.mod.kin.keeps I.bk
theorem Inv.lt (I : Inv X pins σ H s) : X.env.locals < s.heap.objs.size := let ⟨_, hn, _⟩ := I.loc; hn.lt
theorem Inv.sz (I : Inv X pins σ H s) : X.s_0.heap.objs.size ≤ s.heap.objs.size := Nat.le_trans I.ok.above (Nat.le_of_lt I.lt)
theorem Inv.nofs (I : Inv X pins σ H s) {a : Addr} (h : s.heap.objs.size ≤ a) : a ∉ X.fs := fun hb => by
  obtain ⟨_, o, ho, _⟩ := I.ok.funs.mem hb
  exact absurd (Nat.lt_of_lt_of_le (Heap.lt_size ho) (Nat.le_trans I.sz h)) (Nat.lt_irrefl _)
theorem Inv.cne (I : Inv X pins σ H s) : ∀ x c, X.env.cells.lookup x = some c → c ≠ X.env.locals := fun x c e z => by
  obtain ⟨v, o, ho, hd⟩ := I.cell x c e
  obtain ⟨m, ⟨o', es, ep, ho', hd', _⟩, _⟩ := I.loc
  rw [z, ho'] at ho; cases ho; rw [hd'] at hd; cases hd
theorem Inv.funs (I : Inv X pins σ H s) : s.heap.FunFrames X.base X.outer := by
  have all : ∀ (l : List Env), (∀ b ∈ frs l, b ∈ X.fs) → X.s_0.heap.FunFrames X.base l → s.heap.FunFrames X.base l := by
    intro l
    induction l with
    | nil => intro _ _; trivial
    | cons env r ih =>
      intro hs hl
      obtain ⟨hk, ⟨L, o, hf, hn, ho, hd⟩, hr⟩ := hl
      have hL : L ∈ X.fs := hs L (by unfold frs; rw [List.filterMap_cons, hf]; exact List.mem_cons_self)
      obtain ⟨sl, e⟩ := I.base.slot L o ho (I.ok.frf L hL) hL fun z => I.ok.exfs L z hL
      exact ⟨hk, ⟨L, _, hf, hn, e, hd⟩, ih (fun b hb => hs b (by unfold frs; rw [List.filterMap_cons, hf]; exact List.mem_cons_of_mem _ hb)) hr⟩
  exact all X.outer (fun _ hb => hb) I.ok.funs

/-- the frames that run, for a call -/
theorem Inv.stack (I : Inv X pins σ H s) : s.heap.FunFrames X.base X.stack := by
  rcases I.ok.stk with e | ⟨e, hf⟩
  · rw [e]; exact I.funs
  · rw [e]
    obtain ⟨m, hn, _⟩ := I.loc
    refine .cons (by rw [I.ok.kind]; decide) hf hn ?_ I.funs
    exact Heap.get?_none_of_le (Nat.le_trans I.ok.bsz I.ok.above)
theorem Inv.stkSub (I : Inv X pins σ H s) : ∀ b ∈ frs X.stack, b ∈ X.env.locals :: X.fs := fun b hb => by
  rcases I.ok.stk with e | ⟨e, hf⟩
  · rw [e] at hb; exact List.mem_cons_of_mem _ hb
  · rw [e] at hb
    unfold frs at hb
    rw [List.filterMap_cons, hf] at hb
    exact hb
theorem Inv.stkFree (I : Inv X pins σ H s) : ∀ b ∈ frs X.stack, H b = none := fun b hb => by
  rcases List.mem_cons.mp (I.stkSub b hb) with e | hb
  · rw [e]; exact I.free
  · obtain ⟨_, o, ho, _⟩ := I.ok.funs.mem hb
    exact I.base.free b o ho (I.ok.frf b hb) fun z => I.ok.exfs b z hb

/-- THE STEP: the untracked objects but the frame and the records at ch are kept (the callers' frames up to slots), the frame's map is kept, the new abstract heap is held -/
theorem Inv.step {g' : Array GenState} {t' : Nat} {d' : Drawn} {ch : List Addr} (I : Inv X pins σ H s)
    (hch : ∀ b ∈ ch, (b ∈ X.ex ∨ X.s_0.heap.objs.size ≤ b) ∧ b ≠ X.env.locals ∧ (∀ x c, X.env.cells.lookup x = some c → c ≠ b) ∧ ∀ p ∈ X.pn ++ pins, p.1 ≠ b)
    (keep : ∀ b o, b ≠ X.env.locals → b ∉ X.fs → b ∉ ch → s.heap.get? b = some o → H b = none → h'.get? b = some o)
    (slot : ∀ b o, b ≠ X.env.locals → b ∈ X.fs → b ∉ ch → s.heap.get? b = some o → H b = none → ∃ sl, h'.get? b = some { o with slots := sl }) (free : ∀ b o, b ∉ ch → s.heap.get? b = some o → H b = none → H' b = none)
    (there : ∀ b o, b ∉ ch → s.heap.get? b = some o → ∃ o', h'.get? b = some o')
    (tups : ∀ b xs, H b = some (.tup xs) → H' b = some (.tup xs)) (frzs : ∀ b o u, H b = some (.frz o u) → H' b = some (.frz o u)) (tbls : ∀ b ps, H b = some (.tbl ps) → ∃ more, H' b = some (.tbl (ps ++ more)))
    (ns : ∀ m, s.heap.Ns X.env.locals m → h'.Ns X.env.locals m) (hok : HOk X.prog X.w H' h') (hg : AllBare g') :
    Inv X pins σ H' { s with heap := h', gens := g', drawn := d', toks := t' } := by
  have neL : ∀ b o, X.s_0.heap.get? b = some o → b ≠ X.env.locals := fun b o e => Nat.ne_of_lt (Nat.lt_of_lt_of_le (Heap.lt_size e) I.ok.above)
  have neC : ∀ b o, X.s_0.heap.get? b = some o → b ∉ X.ex → b ∉ ch := fun b o e hx hb => by
    rcases (hch b hb).1 with z | z
    · exact hx z
    · exact absurd (Nat.lt_of_lt_of_le (Heap.lt_size e) z) (Nat.lt_irrefl _)
  have cellK : ∀ x c, X.env.cells.lookup x = some c → ∀ v, s.heap.IsCell c v → h'.IsCell c v := fun x c e v ⟨o, ho, hd⟩ => by
    have nch : c ∉ ch := fun z => (hch c z).2.2.1 x c e rfl
    by_cases hc : c ∈ X.fs
    · obtain ⟨sl, q⟩ := slot c o (I.cne x c e) hc nch ho (I.freeC x c e)
      exact ⟨_, q, hd⟩
    · exact ⟨o, keep c o (I.cne x c e) hc nch ho (I.freeC x c e), hd⟩
  refine ⟨I.ok, I.os, hg, ⟨fun b o e n hb hx => ?_, fun b o e n hb hx => ?_, fun b o e n hx => ?_, fun b o e hx => ?_, fun b xs e => tups b xs (I.base.tups b xs e), fun b o xs e => frzs b o xs (I.base.frzs b o xs e), fun b ps e => ?_⟩, ?_, fun x c e => ?_, ?_, fun x c e => ?_, fun p hp => ?_, hok, I.len⟩
  · exact keep b o (neL b o e) hb (neC b o e hx) (I.base.keep b o e n hb hx) (I.base.free b o e n hx)
  · obtain ⟨sl, e1⟩ := I.base.slot b o e n hb hx
    obtain ⟨sl', e2⟩ := slot b _ (neL b o e) hb (neC b o e hx) e1 (I.base.free b o e n hx)
    exact ⟨sl', e2⟩
  · obtain ⟨o', e1⟩ := I.base.there b o e hx
    exact free b o' (neC b o e hx) e1 (I.base.free b o e n hx)
  · obtain ⟨o', e1⟩ := I.base.there b o e hx
    exact there b o' (neC b o e hx) e1
  · obtain ⟨m1, e1⟩ := I.base.tbls b ps e
    obtain ⟨m2, e2⟩ := tbls b _ e1
    exact ⟨m1 ++ m2, by rw [e2, Array.append_assoc]⟩
  · obtain ⟨m, hn, hl⟩ := I.loc
    refine ⟨m, ns m hn, fun i x v e1 e2 e3 => ?_⟩
    obtain ⟨u, r, l⟩ := hl i x v e1 e2 e3
    refine ⟨u, r, ?_⟩
    rcases l with l | ⟨k, c, e, z⟩
    · exact .inl l
    · exact .inr ⟨k, c, e, cellK x c e _ z⟩
  · obtain ⟨v, z⟩ := I.cell x c e
    exact ⟨v, cellK x c e v z⟩
  · obtain ⟨m, ⟨o, _, _, ho, _⟩, _⟩ := I.loc
    exact free _ o (fun z => (hch _ z).2.1 rfl) ho I.free
  · obtain ⟨v, o, ho, hd⟩ := I.cell x c e
    exact free c o (fun z => (hch c z).2.2.1 x c e rfl) ho (I.freeC x c e)
  · obtain ⟨e, n, ne, nf, d⟩ := I.pin p hp
    have nch : p.1 ∉ ch := fun z => (hch p.1 z).2.2.2 p hp rfl
    exact ⟨keep p.1 p.2 ne nf nch e n, free p.1 p.2 nch e n, ne, nf, d⟩
/-- .. where the frame's own object is kept too -/
theorem Inv.un {t' : Nat} (I : Inv X pins σ H s) (u : Un X.fs [] H H' s.heap h') (hok : HOk X.prog X.w H' h') : Inv X pins σ H' { s with heap := h', toks := t' } := by
  obtain ⟨m, ⟨o, es, ep, ho, r⟩, _⟩ := id I.loc
  obtain ⟨sl, hL⟩ := u.any ho I.free (by simp)
  exact I.step (g' := s.gens) (d' := s.drawn) (ch := []) (fun _ z => nomatch z) (fun b o _ hb _ e n => u.keep b o e n hb (by simp)) (fun b o _ hb _ e n => u.slot b o e n hb (by simp)) (fun b o _ e n => u.free b o e n (by simp)) (fun b o _ e => u.there b o e (by simp)) u.tups u.frzs u.tbls (fun m' hm => by
    obtain ⟨o', es', ep', ho', r'⟩ := hm
    rw [ho] at ho'; cases ho'
    exact ⟨_, es', ep', hL, r'⟩) hok I.bare
/-- behind a call (or a comprehension's block): the slots of this frame may have changed too, the records at ch may have turned -/
theorem Inv.call {g' : Array GenState} {t' : Nat} {d' : Drawn} {ch : List Addr} (I : Inv X pins σ H s) (u : Un (frs X.stack) ch H H' s.heap h') (hok : HOk X.prog X.w H' h') (hg : AllBare g')
    (hch : ∀ b ∈ ch, (b ∈ X.ex ∨ X.s_0.heap.objs.size ≤ b) ∧ b ≠ X.env.locals ∧ (∀ x c, X.env.cells.lookup x = some c → c ≠ b) ∧ ∀ p ∈ X.pn ++ pins, p.1 ≠ b) :
    Inv X pins σ H' { s with heap := h', gens := g', drawn := d', toks := t' } := by
  obtain ⟨m, ⟨o, es, ep, ho, r⟩, _⟩ := id I.loc
  obtain ⟨sl, hL⟩ := u.any ho I.free fun z => (hch _ z).2.1 rfl
  exact I.step (ch := ch) hch (fun b o hL hb hc e n => u.keep b o e n (fun z => (List.mem_cons.mp (I.stkSub b z)).elim hL hb) hc) (fun b o _ _ hc e n => u.any e n hc) (fun b o hc e n => u.free b o e n hc) (fun b o hc e => u.there b o e hc) u.tups u.frzs u.tbls (fun m' hm => by
    obtain ⟨o', es', ep', ho', r'⟩ := hm
    rw [ho] at ho'; cases ho'
    exact ⟨_, es', ep', hL, r'⟩) hok hg
/-- an untracked record of ours (an iterator) has turned -/
theorem Inv.turned {t' : Nat} {it : Addr} (I : Inv X pins σ H s) (k : ∀ b o, b ≠ it → s.heap.get? b = some o → h'.get? b = some o) (hn : H it = none) (hL : it ≠ X.env.locals)
    (h1 : it ∈ X.ex ∨ X.s_0.heap.objs.size ≤ it) (h2 : ∀ x c, X.env.cells.lookup x = some c → c ≠ it) (h3 : ∀ p ∈ X.pn ++ pins, p.1 ≠ it) : Inv X pins σ H { s with heap := h', toks := t' } := by
  have nit : ∀ b u, H b = some u → b ≠ it := fun b u e z => by rw [z, hn] at e; cases e
  refine I.step (g' := s.gens) (d' := s.drawn) (ch := [it]) (fun b hb => ?_) (fun b o _ _ hc e _ => k b o (fun z => hc (by simp [z])) e) (fun b o _ _ hc e _ => ⟨o.slots, k b o (fun z => hc (by simp [z])) e⟩) (fun _ _ _ _ n => n)
    (fun b o hc e => ⟨o, k b o (fun z => hc (by simp [z])) e⟩) (fun _ _ e => e) (fun _ _ _ e => e) (fun b ps e => ⟨#[], by rw [e]; simp⟩) (fun m hm => ?_) (fun b u e => ?_) I.bare
  · have e : b = it := by simpa using hb
    subst e
    exact ⟨h1, hL, h2, h3⟩
  · obtain ⟨o, es, ep, ho, r⟩ := hm
    exact ⟨o, es, ep, k _ o (Ne.symm hL) ho, r⟩
  · refine (I.hok b u e).stay (fun c v hc q => k c v ?_ q) (fun _ q => q) fun _ _ q => q
    rcases hc with z | z
    · rw [z]; exact nit b u e
    · exact nit c _ z
theorem Inv.tok (I : Inv X pins σ H s) (t : Nat) : Inv X pins σ H { s with toks := t } := I.un (h' := s.heap) (t' := t) Un.refl I.hok
/-- all objects kept -/
theorem Inv.kept {t' : Nat} (I : Inv X pins σ H s) (k : ∀ b u, s.heap.get? b = some u → h'.get? b = some u) : Inv X pins σ H { s with heap := h', toks := t' } := I.un (Un.kept k) (I.hok.kept k)
/-- a new object laid and tracked -/
theorem Inv.laid {a : Addr} {o : HO} {t' : Nat} (I : Inv X pins σ H s) (k : ∀ b u, s.heap.get? b = some u → h'.get? b = some u) (hp : s.heap.objs.size ≤ a) (new : ObjOk X.prog X.w (upd H a o) h' a o) :
    Inv X pins σ (upd H a o) { s with heap := h', toks := t' } := I.un (Un.laid k hp (I.hok.fresh hp)) (I.hok.laid k hp new)
/-- an object written -/
theorem Inv.write {x e : Addr} {o : HO} {t' : Nat} (I : Inv X pins σ H s) (mu : Mut (H x)) (he : e = x ∨ H e = some (.own x)) (k : ∀ b u, b ≠ e → s.heap.get? b = some u → h'.get? b = some u) (heo : ∃ u, h'.get? e = some u)
    (new : ObjOk X.prog X.w (upd H x o) h' x o) : Inv X pins σ (upd H x o) { s with heap := h', toks := t' } := I.un (Un.write mu he k heo) (I.hok.write mu he k heo new)
/-- forgetting slots, pins -/
theorem Inv.weak {σ' : List (Option V)} (I : Inv X pins σ H s) (hl : σ'.length = σ.length) (w : ∀ (i : Nat) v, σ'[i]? = some (some v) → σ[i]? = some (some v)) : Inv X pins σ' H s :=
  ⟨I.ok, I.os, I.bare, I.base, let ⟨m, hn, hl'⟩ := I.loc; ⟨m, hn, fun i x v e1 e2 e3 => hl' i x v e1 (w i v e2) e3⟩, I.cell, I.free, I.freeC, I.pin, I.hok, hl.trans I.len⟩
theorem Inv.pins_of {pins' : List (Addr × Obj)} (I : Inv X pins σ H s) (h : ∀ p ∈ pins', s.heap.get? p.1 = some p.2 ∧ H p.1 = none ∧ p.1 ≠ X.env.locals ∧ p.1 ∉ X.fs ∧ ∀ v, p.2.data ≠ .cell v) : Inv X pins' σ H s :=
  ⟨I.ok, I.os, I.bare, I.base, I.loc, I.cell, I.free, I.freeC, fun p hp => (List.mem_append.mp hp).elim (fun z => I.pin p (List.mem_append_left _ z)) (h p), I.hok, I.len⟩

theorem nodup_ix {N : List Str} (hN : N.Nodup) {i j : Nat} {x : Str} (a : N[i]? = some x) (b : N[j]? = some x) : i = j := by
  obtain ⟨h1, e1⟩ := List.getElem?_eq_some_iff.mp a
  obtain ⟨h2, e2⟩ := List.getElem?_eq_some_iff.mp b
  exact (List.getElem_inj hN).mp (e1.trans e2.symm)

/-- a name is stored; what changed -/
theorem store_ok2 {M : Model} {A : Around} {E : Value → Shared → Prop} {i : Nat} {x : Str} {v : V} {u : Value} {Q : Unit → Shared → Prop} (I : Inv X pins σ H s) (hN : X.N.Nodup) (hi : X.N[i]? = some x) (hx : Loc X.env.scope x) (r : RelV v u)
    (h : ∀ s', Inv X pins (σ.set i (some v)) H s' → (∃ a, Heap.SameBut a s.heap s'.heap ∧ (a = X.env.locals ∨ X.env.cells.lookup x = some a)) → Q () s') (hf : X.fn x = true ∨ X.env.scope.names.lookup x = some .local := by first | exact .inl rfl | exact .inr rfl | assumption) : wpAny M A (storeName X.env x u) Q E s := by
  obtain ⟨m, hn, hl⟩ := id I.loc
  have hcls : (X.env.scope.kind == .class || (X.env.scope.kind == .module && X.env.locals != X.env.globals)) = false := by rw [I.ok.kind]; rfl
  have hiσ : i < σ.length := by rw [I.len]; exact (List.getElem?_eq_some_iff.mp hi).1
  have cne := I.cne
  have tracked : ∀ {a : Addr} {h' : Heap}, (∃ o, s.heap.get? a = some o ∧ H a = none) → Heap.SameBut a s.heap h' → HOk X.prog X.w H h' := fun {a h'} ha hs b ob e => by
    obtain ⟨_, _, hfree⟩ := ha
    refine (I.hok b ob e).stay (fun c w' hc q => (hs.2 c ?_).trans q) (fun _ q => q) fun _ _ q => q
    rintro rfl
    rcases hc with rfl | hc
    · rw [hfree] at e; cases e
    · rw [hfree] at hc; cases hc
  rcases hx with hk | hk
  · refine wpAny_storeName_local hk hn (fun h' hn' hs => ?_) hcls
    obtain ⟨oL, _, _, hoL, _⟩ := id hn
    refine h _ ⟨I.ok, I.os, I.bare, ⟨fun b o e n hb hx => ?_, fun b o e n hb hx => ?_, I.base.free, fun b o e hx => ?_, I.base.tups, I.base.frzs, I.base.tbls⟩, ⟨_, hn', fun j y v' e1 e2 e3 => ?_⟩, fun y c e => ?_, I.free, I.freeC, fun p hp => ?_, tracked ⟨oL, hoL, I.free⟩ hs, by simpa using I.len⟩ ⟨_, hs, .inl rfl⟩
    · exact (hs.2 b (Nat.ne_of_lt (Nat.lt_of_lt_of_le (Heap.lt_size e) I.ok.above))).trans (I.base.keep b o e n hb hx)
    · obtain ⟨sl, e1⟩ := I.base.slot b o e n hb hx
      exact ⟨sl, (hs.2 b (Nat.ne_of_lt (Nat.lt_of_lt_of_le (Heap.lt_size e) I.ok.above))).trans e1⟩
    · obtain ⟨o', e1⟩ := I.base.there b o e hx
      exact ⟨o', (hs.2 b (Nat.ne_of_lt (Nat.lt_of_lt_of_le (Heap.lt_size e) I.ok.above))).trans e1⟩
    · by_cases hj : j = i
      · subst hj
        rw [hi] at e1; cases e1
        rw [List.getElem?_set_self hiσ] at e2
        cases e2
        exact ⟨u, r, .inl ⟨hk, by simp⟩⟩
      · rw [List.getElem?_set_ne (Ne.symm hj)] at e2
        obtain ⟨u', r', q⟩ := hl j y v' e1 e2 e3
        refine ⟨u', r', ?_⟩
        rcases q with ⟨k, e⟩ | ⟨k, c, e, z⟩
        · refine .inl ⟨k, ?_⟩
          have : y ≠ x := fun e => hj (nodup_ix hN e1 (e ▸ hi))
          simp [this, e]
        · exact .inr ⟨k, c, e, z.sameBut hs (cne y c e)⟩
    · obtain ⟨w', z⟩ := I.cell y c e
      exact ⟨w', z.sameBut hs (cne y c e)⟩
    · obtain ⟨e, n, ne, nf, d⟩ := I.pin p hp
      exact ⟨(hs.2 p.1 ne).trans e, n, ne, nf, d⟩
  · have hfn : X.fn x = true := by
      rcases hf with z | z
      · exact z
      · rw [z] at hk; cases hk
    obtain ⟨c, hc⟩ := I.ok.has x (.inl hk)
    obtain ⟨w', z⟩ := I.cell x c hc
    refine wpAny_storeName_cell I.ok.kind hk hc z (fun h' hc' hs => ?_)
    obtain ⟨oc, hoc, hocd⟩ := id z
    refine h { s with heap := h' } ⟨I.ok, I.os, I.bare, ⟨fun b o e n hb hx => ?_, fun b o e n hb hx => ?_, I.base.free, fun b o e hx => ?_, I.base.tups, I.base.frzs, I.base.tbls⟩, ⟨m, hn.sameBut hs (Ne.symm (cne x c hc)), fun j y v' e1 e2 e3 => ?_⟩, fun y c' e => ?_, I.free, I.freeC, fun p hp => ?_, tracked ⟨oc, hoc, I.freeC x c hc⟩ hs, by simpa using I.len⟩ ⟨c, hs, .inr hc⟩
    · exact (hs.2 b (Nat.ne_of_lt (Nat.lt_of_lt_of_le (Heap.lt_size e) (I.ok.cab x c hfn hc)))).trans (I.base.keep b o e n hb hx)
    · obtain ⟨sl, e1⟩ := I.base.slot b o e n hb hx
      exact ⟨sl, (hs.2 b (Nat.ne_of_lt (Nat.lt_of_lt_of_le (Heap.lt_size e) (I.ok.cab x c hfn hc)))).trans e1⟩
    · obtain ⟨o', e1⟩ := I.base.there b o e hx
      exact ⟨o', (hs.2 b (Nat.ne_of_lt (Nat.lt_of_lt_of_le (Heap.lt_size e) (I.ok.cab x c hfn hc)))).trans e1⟩
    · by_cases hj : j = i
      · subst hj
        rw [hi] at e1; cases e1
        rw [List.getElem?_set_self hiσ] at e2
        cases e2
        exact ⟨u, r, .inr ⟨.inl hk, c, hc, hc'⟩⟩
      · rw [List.getElem?_set_ne (Ne.symm hj)] at e2
        obtain ⟨u', r', q⟩ := hl j y v' e1 e2 e3
        refine ⟨u', r', ?_⟩
        rcases q with q | ⟨k, c', e, z'⟩
        · exact .inl q
        · refine .inr ⟨k, c', e, z'.sameBut hs ?_⟩
          rintro rfl
          exact hj (nodup_ix hN e1 (I.ok.inj _ _ _ e hc ▸ hi))
    · by_cases hcc : c' = c
      · subst hcc; exact ⟨_, hc'⟩
      · obtain ⟨w2, z2⟩ := I.cell y c' e
        exact ⟨w2, z2.sameBut hs hcc⟩
    · obtain ⟨e, n, ne, nf, d⟩ := I.pin p hp
      refine ⟨(hs.2 p.1 ?_).trans e, n, ne, nf, d⟩
      intro q
      rw [q, hoc] at e
      have q' : oc = p.2 := Option.some.inj e
      exact d w' (by rw [← q']; exact hocd)
theorem store_ok {M : Model} {A : Around} {E : Value → Shared → Prop} {i : Nat} {x : Str} {v : V} {u : Value} {Q : Unit → Shared → Prop} (I : Inv X pins σ H s) (hN : X.N.Nodup) (hi : X.N[i]? = some x) (hx : Loc X.env.scope x) (r : RelV v u)
    (h : ∀ s', Inv X pins (σ.set i (some v)) H s' → Q () s') (hf : X.fn x = true ∨ X.env.scope.names.lookup x = some .local := by first | exact .inl rfl | exact .inr rfl | assumption) : wpAny M A (storeName X.env x u) Q E s :=
  store_ok2 I hN hi hx r (fun s' I' _ => h s' I') hf
/-- behind a call or a block, the state as it is -/
theorem Inv.call' {s' : Shared} {ch : List Addr} (I : Inv X pins σ H s) (ho : s'.os = s.os) (u : Un (frs X.stack) ch H H' s.heap s'.heap) (hok : HOk X.prog X.w H' s'.heap) (hg : AllBare s'.gens)
    (hch : ∀ b ∈ ch, (b ∈ X.ex ∨ X.s_0.heap.objs.size ≤ b) ∧ b ≠ X.env.locals ∧ (∀ x c, X.env.cells.lookup x = some c → c ≠ b) ∧ ∀ p ∈ X.pn ++ pins, p.1 ≠ b) : Inv X pins σ H' s' := by
  obtain ⟨h', g', d', t', o'⟩ := s'
  have e : o' = s.os := ho
  subst e
  exact I.call (g' := g') (t' := t') (d' := d') u hok hg hch
end

/-! ### the judgements -/
/-- an exception: its class, its own dict's address (where it has one), the abstract heap behind it -/
abbrev XK := Value → Option Addr → Hp → Prop
abbrev St := List (Option V)
abbrev VK := V → Hp → Prop
/-- an expression's reading; a test's; an argument list's -/
abbrev TE := St → Hp → VK → Prop
abbrev TT := St → Hp → (Bool → Hp → Prop) → Prop
abbrev TA := St → Hp → (List V → Hp → Prop) → Prop
/-- what is wanted behind a statement -/
structure Ends where
  nx : St → Hp → Prop
  rt : VK
  bk : St → Hp → Prop := fun _ _ => False
  ct : St → Hp → Prop := fun _ _ => False
abbrev TS := Ends → St → Hp → Prop

def EP (X : Cx) (pins : List (Addr × Obj)) (σ : St) (Q : VK) (u : Value) (s' : Shared) : Prop := ∃ v H', Inv X pins σ H' s' ∧ RelV v u ∧ Q v H'
def TP (X : Cx) (pins : List (Addr × Obj)) (σ : St) (Q : Bool → Hp → Prop) (b : Bool) (s' : Shared) : Prop := ∃ H', Inv X pins σ H' s' ∧ Q b H'
def AP (X : Cx) (pins : List (Addr × Obj)) (σ : St) (Q : List V → Hp → Prop) (us : List Value) (s' : Shared) : Prop := ∃ vs H', Inv X pins σ H' s' ∧ Vals vs us ∧ Q vs H'
def SP (X : Cx) (pins : List (Addr × Obj)) (D : Ends) (f : Flow) (s' : Shared) : Prop :=
  match f with
  | .next => ∃ σ' H', Inv X pins σ' H' s' ∧ D.nx σ' H'
  | .brk => ∃ σ' H', Inv X pins σ' H' s' ∧ D.bk σ' H'
  | .cont => ∃ σ' H', Inv X pins σ' H' s' ∧ D.ct σ' H'
  | .ret u => ∃ v σ' H', Inv X pins σ' H' s' ∧ RelV v u ∧ D.rt v H'

def PE (X : Cx) (e : Expr) (t : TE) : Prop :=
  ∀ (pins : List (Addr × Obj)) (s : Shared) (σ : St) (H : Hp) (Q : VK), Inv X pins σ H s → t σ H Q → wpAny (model X.prog X.w) X.A (eval e X.env) (EP X pins σ Q) X.xe s
def PT (X : Cx) (e : Expr) (t : TT) : Prop :=
  ∀ (pins : List (Addr × Obj)) (s : Shared) (σ : St) (H : Hp) (Q : Bool → Hp → Prop), Inv X pins σ H s → t σ H Q → wpAny (model X.prog X.w) X.A (isTrue e X.env (eval e X.env)) (TP X pins σ Q) X.xe s
/-- a test whatever its 'whole' is (and, or) -/
def PW (X : Cx) (e : Expr) (t : TT) : Prop :=
  ∀ (whole : Sem Value) (pins : List (Addr × Obj)) (s : Shared) (σ : St) (H : Hp) (Q : Bool → Hp → Prop), Inv X pins σ H s → t σ H Q → wpAny (model X.prog X.w) X.A (isTrue e X.env whole) (TP X pins σ Q) X.xe s
theorem PW.pt {X : Cx} {e : Expr} {t : TT} (h : PW X e t) : PT X e t := h _
/-- an argument list (no star), from the left -/
def PA (X : Cx) (es : List Expr) (t : TA) : Prop :=
  ∀ (pos : Pos) (pins : List (Addr × Obj)) (s : Shared) (σ : St) (H : Hp) (Q : List V → Hp → Prop), Inv X pins σ H s → t σ H Q → wpAny (model X.prog X.w) X.A (spliced (backTo pos (starEach es X.env))) (AP X pins σ Q) X.xe s
def PS (X : Cx) (st : Stmt) (t : TS) : Prop :=
  ∀ (pins : List (Addr × Obj)) (s : Shared) (σ : St) (H : Hp) (D : Ends), Inv X pins σ H s → t D σ H → wpAny (model X.prog X.w) X.A (exec st X.env) (SP X pins D) X.xe s
def PSs (X : Cx) (st : List Stmt) (t : TS) : Prop :=
  ∀ (pins : List (Addr × Obj)) (s : Shared) (σ : St) (H : Hp) (D : Ends), Inv X pins σ H s → t D σ H → wpAny (model X.prog X.w) X.A (execs st X.env) (SP X pins D) X.xe s
/-- weaken the end -/
theorem thn {α : Type} {t : Sem α} {Q Q' : α → Shared → Prop} {M : Model} {A : Around} {E : Value → Shared → Prop} {s : Shared} (h : wpAny M A t Q E s) (hQ : ∀ a s, Q a s → Q' a s) : wpAny M A t Q' E s := wpAny_mono h hQ fun _ _ x => x
end L2

namespace L2
open PySem PySem.Spec PyProof.Rows
section
variable {X : Cx}


/-! ### names and constants -/
def tVar (i : Nat) : TE := fun σ H Q => ∃ v, σ[i]? = some (some v) ∧ Q v H
def tC (v : V) : TE := fun _ H Q => Q v H
theorem pe_var {i : Nat} {x : Str} {pos : Pos} (hN : X.N[i]? = some x) (hv : Vis X.env.scope x) (hd : (x == ("__debug__" : Str)) = false := by decide) (hcd : (x == ("__classdict__" : Str)) = false := by decide) : PE X (.Name x pos) (tVar i) := by
  intro pins s σ H Q I h
  obtain ⟨v, e, h⟩ := h
  obtain ⟨m, hn, hl⟩ := I.loc
  obtain ⟨u, r, l⟩ := hl i x v hN e hv
  have fin : EP X pins σ Q u s := ⟨v, H, I, r, h⟩
  rcases l with ⟨hk, hm⟩ | ⟨hk, c, hc, hcell⟩
  · exact wpAny_Name (wpAny_loadName_local I.ok.kind hk hn hm fin) hd
  · rcases hk with hk | hk
    · exact wpAny_Name (wpAny_loadName_cell I.ok.kind hk hc hcell fin) hd
    · exact wpAny_Name (wpAny_loadName_free I.ok.kind hk hc hcell fin hcd) hd
theorem pe_int {i j pos} : PE X (.Constant (.int i) j pos) (tC (.int i)) := fun _ _ _ H _ I h => wpAny_Constant_int ⟨.int i, H, I.tok _, ⟨_, rfl⟩, h⟩
theorem pe_bl {b j pos} : PE X (.Constant (.bool b) j pos) (tC (.bl b)) := fun _ _ _ H _ I h => Constant_bool ⟨.bl b, H, I, rfl, h⟩

/-- a global name of the def -/
def Gl (X : Cx) (x : Str) : Prop := X.env.kindOf x = some .globalImplicit
theorem ld_glob {E : Value → Shared → Prop} {pins : List (Addr × Obj)} {s : Shared} {σ : St} {H : Hp} {x : Str} {u : Value} {pos : Pos} {Q : Value → Shared → Prop} (I : Inv X pins σ H s) (hg : Gl X x) (hm : X.mg x = some u) (h : Q u s)
    (hd : (x == ("__debug__" : Str)) = false := by decide) : wpAny (model X.prog X.w) X.A (eval (.Name x pos) X.env) Q E s :=
  Calls.Name_function_global I.ok.kind hg (Calls.loadGlobal_global (by rw [I.ok.glob]; exact I.mod.glob.keeps I.bk) hm h) hd
theorem ld_blt {E : Value → Shared → Prop} {pins : List (Addr × Obj)} {s : Shared} {σ : St} {H : Hp} {x : Str} {u : Value} {pos : Pos} {Q : Value → Shared → Prop} (I : Inv X pins σ H s) (hg : Gl X x) (hm : X.mg x = none) (hv : bootBuiltins x = some u) (h : Q u s)
    (hn : x ≠ "__name__" := by decide) (hd : (x == ("__debug__" : Str)) = false := by decide) : wpAny (model X.prog X.w) X.A (eval (.Name x pos) X.env) Q E s := by
  obtain ⟨mb, h1, h2⟩ := I.mod.blt
  exact Calls.Name_function_global I.ok.kind hg (Calls.loadGlobal_builtin (by rw [I.ok.glob]; exact I.mod.glob.keeps I.bk) hm (by rw [I.ok.blt]; exact h1.keeps I.bk) ((h2 x hn).trans hv) h) hd
/-- a module's constant, a class, a function, as a value -/
theorem pe_glob {x : Str} {v : V} {u : Value} {pos : Pos} (hg : Gl X x) (hm : X.mg x = some u) (r : RelV v u) (hd : (x == ("__debug__" : Str)) = false := by decide) : PE X (.Name x pos) (tC v) :=
  fun _ _ _ H _ I h => ld_glob I hg hm ⟨v, H, I, r, h⟩ hd

/-! ### arithmetic -/
variable {a b : Expr} {ta tb : TE} {pos : Pos}

/-! ### comparisons -/
/-- a comparison as a value, as a test -/
def tB (t : TE) : TT := fun σ H Q => t σ H fun x H1 => ∃ c, x = .bl c ∧ Q c H1
/-- an expression whose value is a bool, as a test -/
theorem pt_val {e : Expr} {t : TE} (h : PE X e t) (he : ∀ whole, isTrue e X.env whole = (do let v ← whole; standAt e.pos; holding [v] (truthy v)) := by intro _; rfl) : PT X e (tB t) := by
  intro pins s σ H Q I hw
  refine isTrue_plain (thn (h pins s σ H _ I hw) fun v s1 ⟨x, H1, I1, r1, q1⟩ => ?_) (he _)
  obtain ⟨d, rfl, q⟩ := q1
  cases r1
  exact wpAny_truthy_bool ⟨H1, I1, q⟩

/-! ### and, or, not -/
variable {tA tB' : TT} {rest : List Expr}
def tAnd (t u : TT) : TT := fun σ H Q => t σ H fun c H1 => if c = true then u σ H1 Q else Q false H1
def tOr (t u : TT) : TT := fun σ H Q => t σ H fun c H1 => if c = true then Q true H1 else u σ H1 Q
def tNot (t : TT) : TT := fun σ H Q => t σ H fun c H1 => Q (!c) H1
theorem pw_and1 (ha : PT X a tA) : PW X (.BoolOp .And [a] pos) tA := by
  intro wh pins s σ H Q I h
  refine isTrue_and (thn (ha pins s σ H Q I h) fun c s1 e => ?_)
  cases c with
  | true => exact isTrue_and_nil e
  | false => exact e
theorem pw_or1 (ha : PT X a tA) : PW X (.BoolOp .Or [a] pos) tA := by
  intro wh pins s σ H Q I h
  refine isTrue_or (thn (ha pins s σ H Q I h) fun c s1 e => ?_)
  cases c with
  | false => exact isTrue_or_nil e
  | true => exact e
theorem pw_and (ha : PT X a tA) (hb : PW X (.BoolOp .And (b :: rest) pos) tB') : PW X (.BoolOp .And (a :: b :: rest) pos) (tAnd tA tB') := by
  intro wh pins s σ H Q I h
  refine isTrue_and (thn (ha pins s σ H _ I h) fun c s1 ⟨H1, I1, q1⟩ => ?_)
  cases c with
  | true => exact hb wh pins s1 σ H1 Q I1 q1
  | false => exact ⟨H1, I1, q1⟩
theorem pw_or (ha : PT X a tA) (hb : PW X (.BoolOp .Or (b :: rest) pos) tB') : PW X (.BoolOp .Or (a :: b :: rest) pos) (tOr tA tB') := by
  intro wh pins s σ H Q I h
  refine isTrue_or (thn (ha pins s σ H _ I h) fun c s1 ⟨H1, I1, q1⟩ => ?_)
  cases c with
  | true => exact ⟨H1, I1, q1⟩
  | false => exact hb wh pins s1 σ H1 Q I1 q1
theorem pt_not (ha : PT X a tA) : PT X (.UnaryOp .Not a pos) (tNot tA) := by
  intro pins s σ H Q I h
  exact isTrue_not (ha pins s σ H (fun c H1 => Q (!c) H1) I h)
/-- .. as values (bools) -/
def tAndV (ta tb : TE) : TE := fun σ H Q => ta σ H fun x H1 => ∃ c, x = .bl c ∧ if c = true then tb σ H1 Q else Q (.bl false) H1
def tNotV (ta : TE) : TE := fun σ H Q => ta σ H fun x H1 => ∃ c, x = .bl c ∧ Q (.bl (!c)) H1
theorem pe_one {op} {t : TE} (h : PE X a t) : PE X (.BoolOp op [a] pos) t := fun pins s σ H Q I hw => BoolOp_one (h pins s σ H Q I hw)
theorem pe_and (ha : PE X a ta) (hb : PE X (.BoolOp .And (b :: rest) pos) tb) : PE X (.BoolOp .And (a :: b :: rest) pos) (tAndV ta tb) := by
  intro pins s σ H Q I h
  refine BoolOp_and (thn (ha pins s σ H _ I h) fun v s1 ⟨x, H1, I1, r1, q1⟩ => ?_)
  obtain ⟨c, rfl, q1⟩ := q1
  cases r1
  refine wpAny_truthy_bool ?_
  cases c with
  | true => exact hb pins s1 σ H1 Q I1 q1
  | false => exact ⟨.bl false, H1, I1, rfl, q1⟩
theorem pe_not (ha : PE X a ta) : PE X (.UnaryOp .Not a pos) (tNotV ta) := by
  intro pins s σ H Q I h
  refine UnaryOp_ (thn (ha pins s σ H _ I h) fun v s1 ⟨x, H1, I1, r1, q1⟩ => ?_)
  obtain ⟨c, rfl, q1⟩ := q1
  cases r1
  exact not_of (wpAny_truthy_bool ⟨.bl (!c), H1, I1, rfl, q1⟩)
/-- a if t else b -/
def tIf (t : TT) (ta tb : TE) : TE := fun σ H Q => t σ H fun c H1 => if c = true then ta σ H1 Q else tb σ H1 Q
theorem pe_ifExp {c : Expr} (hc : PT X c tA) (ha : PE X a ta) (hb : PE X b tb) : PE X (.IfExp c a b pos) (tIf tA ta tb) := by
  intro pins s σ H Q I h
  refine wpAny_IfExp (thn (hc pins s σ H _ I h) fun d s1 ⟨H1, I1, q1⟩ => ?_)
  cases d with
  | true => exact ha pins s1 σ H1 Q I1 q1
  | false => exact hb pins s1 σ H1 Q I1 q1
end
end L2

namespace L2
open PySem PySem.Spec PyProof.Rows

/-! ### a list, a tuple that is read: tracked, frozen, or an object of the module -/
def SqL (K : PySem.W.Frag) (H : Hp) (a : Addr) (xs : List V) : Prop :=
  Rd H a (.lst xs) ∨
    ∃ (o : Obj) (its : Array Value) (n : Nat), K.lookup a = some o ∧ o.cls = .type "list" ∧ o.dict = none ∧ o.data = .seq its n ∧ its.size ≤ sizeLine ∧ Vals xs its.toList
def SqT (K : PySem.W.Frag) (H : Hp) (a : Addr) (xs : List V) : Prop :=
  Rd H a (.tup xs) ∨
    ∃ (o : Obj) (its : Array Value) (n : Nat), K.lookup a = some o ∧ o.cls = .type "tuple" ∧ o.data = .seq its n ∧ its.size ≤ sizeLine ∧ Vals xs its.toList
def absV : Value → Option V
  | .none => some .non
  | .bool b => some (.bl b)
  | .int i _ => some (.int i)
  | .str x _ => some (.str x)
  | .bytes b _ => some (.byt b)
  | .float b _ => some (.flt b)
  | .ref a => some (.ref a)
  | .type n => some (.ty n)
  | _ => none
theorem RelV.abs {x : V} {u : Value} (r : RelV x u) : absV u = some x := by
  cases x with
  | non => cases r; rfl
  | bl _ => cases r; rfl
  | int _ => obtain ⟨t, rfl⟩ := r; rfl
  | str _ => obtain ⟨t, rfl⟩ := r; rfl
  | byt _ => obtain ⟨t, rfl⟩ := r; rfl
  | flt _ => obtain ⟨t, rfl⟩ := r; rfl
  | ref _ => cases r; rfl
  | ty _ => cases r; rfl
theorem RelV.inj {x y : V} {u : Value} (r : RelV x u) (q : RelV y u) : x = y := Option.some.inj (r.abs.symm.trans q.abs)
theorem Vals.inj : ∀ {xs ys : List V} {us : List Value}, Vals xs us → Vals ys us → xs = ys
  | _, _, _, .nil, .nil => rfl
  | _, _, _, .cons r t, .cons r' t' => by rw [r.inj r', Vals.inj t t']
section
variable {X : Cx} {pins : List (Addr × Obj)} {σ : St} {H : Hp} {s : Shared} {a : Addr} {xs ys : List V}
theorem SqL.of {K : PySem.W.Frag} (h : H a = some (.lst xs)) : SqL K H a xs := .inl (.inl h)
theorem Inv.list (I : Inv X pins σ H s) (h : SqL X.K H a xs) : ∃ its : List Value, Vals xs its ∧ PlainL s.heap a its.toArray ∧ xs.length ≤ sizeLine := by
  rcases h with h | ⟨o, its, n, hk, hc, hd, hs, hz, r⟩
  · obtain ⟨z, its, n, r, e⟩ := h.ok I.hok
    exact ⟨its, r, ⟨_, n, e, rfl, rfl, rfl⟩, z⟩
  · refine ⟨its.toList, r, ⟨o, n, I.kIn a o hk, hc, hd, by simpa using hs⟩, ?_⟩
    have e := r.length
    simp only [Array.length_toList] at e
    omega
theorem Inv.tuple (I : Inv X pins σ H s) (h : SqT X.K H a xs) : ∃ its : List Value, Vals xs its ∧ IsTup s.heap a its.toArray ∧ xs.length ≤ sizeLine := by
  rcases h with h | ⟨o, its, n, hk, hc, hs, hz, r⟩
  · obtain ⟨z, its, r, p⟩ := h.ok I.hok
    exact ⟨its, r, p, z⟩
  · refine ⟨its.toList, r, ⟨o, I.kIn a o hk, hc, n, by simpa using hs⟩, ?_⟩
    have e := r.length
    simp only [Array.length_toList] at e
    omega
theorem Inv.list_inj (I : Inv X pins σ H s) (h : SqL X.K H a xs) (h' : SqL X.K H a ys) : xs = ys := by
  obtain ⟨its, r, ⟨o, n, e, _, _, d⟩, _⟩ := I.list h
  obtain ⟨its', r', ⟨o', n', e', _, _, d'⟩, _⟩ := I.list h'
  rw [e] at e'; cases e'
  rw [d] at d'
  injection d' with d1 _
  have : its = its' := by simpa using congrArg Array.toList d1
  subst this
  exact r.inj r'
end

/-! ### another wish about exceptions -/
abbrev Cx.wish (X : Cx) (E : Value → Shared → Prop) : Cx := { X with xe := E }
/-- no exception leaves -/
abbrev Cx.nox (X : Cx) : Cx := X.wish fun _ _ => False
theorem Cx.Ok.wish {X : Cx} (ok : X.Ok) (E : Value → Shared → Prop) : (X.wish E).Ok :=
  ⟨ok.mod, ok.kind, ok.glob, ok.blt, ok.above, ok.inj, ok.has, ok.cab, ok.hd, ok.frames, ok.stk, ok.exf, ok.bs, ok.bsz, ok.noex, ok.exfs, ok.funs, ok.frf⟩
theorem Cx.Ok.unwish {X : Cx} {E : Value → Shared → Prop} (ok : (X.wish E).Ok) : X.Ok :=
  ⟨ok.mod, ok.kind, ok.glob, ok.blt, ok.above, ok.inj, ok.has, ok.cab, ok.hd, ok.frames, ok.stk, ok.exf, ok.bs, ok.bsz, ok.noex, ok.exfs, ok.funs, ok.frf⟩
section
variable {X : Cx} {pins : List (Addr × Obj)} {σ : St} {H : Hp} {s : Shared} {E : Value → Shared → Prop}
theorem Inv.wish (I : Inv X pins σ H s) (E : Value → Shared → Prop) : Inv (X.wish E) pins σ H s := ⟨I.ok.wish E, I.os, I.bare, I.base, I.loc, I.cell, I.free, I.freeC, I.pin, I.hok, I.len⟩
theorem Inv.unwish (I : Inv (X.wish E) pins σ H s) : Inv X pins σ H s := ⟨I.ok.unwish, I.os, I.bare, I.base, I.loc, I.cell, I.free, I.freeC, I.pin, I.hok, I.len⟩
theorem SP.unwish {D : Ends} {f : Flow} {s' : Shared} (h : SP (X.wish E) pins D f s') : SP X pins D f s' := by
  cases f with
  | next => obtain ⟨σ', H', I, q⟩ := h; exact ⟨σ', H', I.unwish, q⟩
  | brk => obtain ⟨σ', H', I, q⟩ := h; exact ⟨σ', H', I.unwish, q⟩
  | cont => obtain ⟨σ', H', I, q⟩ := h; exact ⟨σ', H', I.unwish, q⟩
  | ret u => obtain ⟨v, σ', H', I, r, q⟩ := h; exact ⟨v, σ', H', I.unwish, r, q⟩
theorem PSs.nox {st : List Stmt} {t : TS} (h : PSs X.nox st t) : PSs X st t := fun pins s σ H D I hw =>
  wpAny_mono (h pins s σ H D (I.wish _) hw) (fun _ _ q => q.unwish) fun _ _ z => False.elim z
end

/-! ### blocks and small statements -/
section
variable {X : Cx} {st : Stmt} {rest : List Stmt} {t u : TS} {e : Expr} {te : TE} {pos : Pos}
def tNext : TS := fun D σ H => D.nx σ H
def tSeq (t u : TS) : TS := fun D σ H => t { D with nx := u D } σ H
theorem pss_nil : PSs X [] tNext := fun _ _ σ H _ I h => wpAny_execs_nil ⟨σ, H, I, h⟩
theorem pss_cons (h1 : PS X st t) (h2 : PSs X rest u) : PSs X (st :: rest) (tSeq t u) := by
  intro pins s σ H D I h
  refine wpAny_execs_cons (thn (h1 pins s σ H { D with nx := u D } I h) fun f s1 q => ?_)
  cases f with
  | next =>
    obtain ⟨σ', H', I', q⟩ := q
    exact h2 pins s1 σ' H' D I' q
  | ret v => exact q
  | brk => exact q
  | cont => exact q
theorem pss_one (h1 : PS X st t) : PSs X [st] t := by
  intro pins s σ H D I h
  refine wpAny_execs_cons (thn (h1 pins s σ H D I h) fun f s1 q => ?_)
  cases f with
  | next => exact wpAny_execs_nil q
  | ret v => exact q
  | brk => exact q
  | cont => exact q
/-- in a def's body nothing is shown -/
theorem Inv.quiet {pins : List (Addr × Obj)} {σ : St} {H : Hp} {s : Shared} (I : Inv X pins σ H s) : interactive X.env = false := by simp [interactive, I.ok.kind]
/-- an expression whose value is dropped -/
def tDrop (te : TE) : TS := fun D σ H => te σ H fun _ H1 => D.nx σ H1
theorem ps_expr (he : PE X e te) (hs : swapsWith e none pos.line X.env = pure false := by rfl) : PS X (.Expr e pos) (tDrop te) := by
  intro pins s σ H D I h
  exact wpAny_Expr_any (thn (he pins s σ H _ I h) fun v s1 ⟨x, H1, I1, r1, q1⟩ => ⟨σ, H1, I1, q1⟩) I.quiet hs
def tRet (te : TE) : TS := fun D σ H => te σ H D.rt
theorem ps_ret (he : PE X e te) : PS X (.Return (some e) pos) (tRet te) := by
  intro pins s σ H D I h
  exact wpAny_Return_some (thn (he pins s σ H _ I h) fun v s1 ⟨x, H1, I1, r1, q1⟩ => ⟨x, σ, H1, I1, r1, q1⟩)
def tIfS (c : TT) (t u : TS) : TS := fun D σ H => c σ H fun b H1 => if b = true then t D σ H1 else u D σ H1
theorem ps_if {c : Expr} {a b : List Stmt} {tc : TT} (hc : PT X c tc) (ha : PSs X a t) (hb : PSs X b u) : PS X (.If c a b pos) (tIfS tc t u) := by
  intro pins s σ H D I h
  refine wpAny_If (thn (hc pins s σ H _ I h) fun d s1 ⟨H1, I1, q1⟩ => ?_)
  cases d with
  | true => exact ha pins s1 σ H1 D I1 q1
  | false => exact hb pins s1 σ H1 D I1 q1
end

/-! ### targets -/
abbrev TG := V → St → Hp → (St → Hp → Prop) → Prop
abbrev TGs := List V → St → Hp → (St → Hp → Prop) → Prop
def PG (X : Cx) (target : Expr) (t : TG) : Prop :=
  ∀ (pins : List (Addr × Obj)) (s : Shared) (σ : St) (H : Hp) (v : V) (u : Value) (Q : St → Hp → Prop), Inv X pins σ H s → RelV v u → t v σ H Q →
    wpAny (model X.prog X.w) X.A (assign target X.env u) (fun _ s' => ∃ σ' H', Inv X pins σ' H' s' ∧ Q σ' H') X.xe s
/-- several targets, one after another -/
def PGs (X : Cx) (ts : List Expr) (t : TGs) : Prop :=
  ∀ (pins : List (Addr × Obj)) (s : Shared) (σ : St) (H : Hp) (vs : List V) (us : List Value) (Q : St → Hp → Prop), Inv X pins σ H s → Vals vs us → t vs σ H Q →
    wpAny (model X.prog X.w) X.A (assignInOrder ((assignEach ts X.env).map (·.2)) us) (fun _ s' => ∃ σ' H', Inv X pins σ' H' s' ∧ Q σ' H') X.xe s
/-- o[i] = v, by values -/
abbrev TSet := V → V → V → Hp → (Hp → Prop) → Prop
def PSet (X : Cx) (t : TSet) : Prop :=
  ∀ (pins : List (Addr × Obj)) (s : Shared) (σ : St) (H : Hp) (o i v : V) (ov iv u : Value) (Q : Hp → Prop), Inv X pins σ H s → RelV o ov → RelV i iv → RelV v u → t o i v H Q →
    wpAny (model X.prog X.w) X.A (setItem ov iv u) (fun _ s' => ∃ H', Inv X pins σ H' s' ∧ Q H') X.xe s
/-- a op= b, by values -/
abbrev TIp := V → V → Hp → VK → Prop
def PIp (X : Cx) (op : Operator) (t : TIp) : Prop :=
  ∀ (pins : List (Addr × Obj)) (s : Shared) (σ : St) (H : Hp) (x y : V) (v u : Value) (Q : VK), Inv X pins σ H s → RelV x v → RelV y u → t x y H Q →
    wpAny (model X.prog X.w) X.A (inplaceOp op v u) (EP X pins σ Q) X.xe s
section
variable {X : Cx} {pos : Pos}
def gName (i : Nat) : TG := fun v σ H Q => Q (σ.set i (some v)) H
theorem pg_name {i : Nat} {x : Str} (hN : X.N.Nodup) (hi : X.N[i]? = some x) (hx : Loc X.env.scope x) (hf : X.fn x = true ∨ X.env.scope.names.lookup x = some .local := by first | exact .inl rfl | exact .inr rfl | assumption) : PG X (.Name x pos) (gName i) := by
  intro pins s σ H v u Q I r h
  exact wpAny_assign_Name (store_ok I hN hi hx r (fun s' I' => ⟨_, H, I', h⟩) hf)
def gNil : TGs := fun vs σ H Q => vs = [] ∧ Q σ H
def gCons (t : TG) (u : TGs) : TGs := fun vs σ H Q => ∃ v r, vs = v :: r ∧ t v σ H fun σ' H' => u r σ' H' Q
theorem pgs_nil : PGs X [] gNil := by
  intro pins s σ H vs us Q I r h
  obtain ⟨e, h⟩ := h
  subst e
  cases r
  exact assignInOrder_nil ⟨σ, H, I, h⟩
theorem pgs_cons {e : Expr} {es : List Expr} {t : TG} {u : TGs} (h1 : PG X e t) (h2 : PGs X es u)
    (hs : (assignEach (e :: es) X.env).map (·.2) = assign e X.env :: (assignEach es X.env).map (·.2) := by rfl) : PGs X (e :: es) (gCons t u) := by
  intro pins s σ H vs us Q I r h
  obtain ⟨v, vr, e1, h⟩ := h
  subst e1
  cases r with
  | cons r rr =>
    rw [hs]
    refine assignInOrder_cons (thn (h1 pins s σ H _ _ _ I r h) fun _ s1 ⟨σ1, H1, I1, q1⟩ => ?_)
    exact h2 pins s1 σ1 H1 _ _ Q I1 rr q1
/-- (a, b, ..) = a tuple of that length -/
def gTup (K : PySem.W.Frag) (n : Nat) (t : TGs) : TG := fun v σ H Q => ∃ a xs, v = .ref a ∧ SqT K H a xs ∧ xs.length = n ∧ t xs σ H Q
theorem pg_tup {es : List Expr} {k : Nat} {t : TGs} {n : Nat} (hc : X.calm = true) (h : PGs X es t)
    (hn : (assignEach es X.env).length = n := by rfl) (hst : (assignEach es X.env).findIdx? (·.1) = none := by rfl) : PG X (.Tuple es k pos) (gTup X.K n t) := by
  intro pins s σ H v u Q I r hw
  obtain ⟨a, xs, e1, hq, hl, hw⟩ := hw
  subst e1
  cases r
  obtain ⟨its, rv, ht, hz⟩ := I.tuple hq
  refine assign_Tuple_tuple (I.ok.hd hc) ht (by simp [hn, ← hl, rv.length]) hst fun h' hx => ?_
  have I1 : Inv X pins σ H { s with heap := h' } := I.kept (t' := s.toks) fun b o e => hx b o (Nat.ne_of_lt (Heap.lt_size e)) e
  exact h pins _ σ H xs _ Q I1 (by simpa using rv) hw
/-- target = value -/
def tAsg (te : TE) (g : TG) : TS := fun D σ H => te σ H fun x H1 => g x σ H1 D.nx
/-- name = value -/
theorem ps_set {i : Nat} {x : Str} {e : Expr} {te : TE} {pos' : Pos} (hN : X.N.Nodup) (hi : X.N[i]? = some x) (hx : Loc X.env.scope x) (he : PE X e te) (hs : swapsWith e (some (.Name x pos')) pos.line X.env = pure false := by rfl) (hf : X.fn x = true ∨ X.env.scope.names.lookup x = some .local := by first | exact .inl rfl | exact .inr rfl | assumption) :
    PS X (.Assign [.Name x pos'] e pos) (tAsg te (gName i)) := by
  intro pins s σ H D I h
  refine wpAny_Assign_Name (thn (he pins s σ H _ I h) fun v s1 ⟨y, H1, I1, r1, q1⟩ => ?_) hs
  exact store_ok I1 hN hi hx r1 (fun s2 I2 => ⟨_, H1, I2, q1⟩) hf
/-- name op= e -/
def tAug (i : Nat) (te : TE) (ti : TIp) : TS := fun D σ H => ∃ x, σ[i]? = some (some x) ∧ te σ H fun y H1 => ti x y H1 fun z H2 => D.nx (σ.set i (some z)) H2
theorem ps_aug {i : Nat} {x : Str} {e : Expr} {te : TE} {op : Operator} {ti : TIp} {pos' : Pos} (hN : X.N.Nodup) (hi : X.N[i]? = some x) (hx : Loc X.env.scope x) (he : PE X e te) (ho : PIp X op ti) (hf : X.fn x = true ∨ X.env.scope.names.lookup x = some .local := by first | exact .inl rfl | exact .inr rfl | assumption) :
    PS X (.AugAssign (.Name x pos') op e pos) (tAug i te ti) := by
  intro pins s σ H D I h
  obtain ⟨v, e1, h⟩ := h
  obtain ⟨m, hn, hl⟩ := I.loc
  have vis : Vis X.env.scope x := by rcases hx with k | k; exact .inl k; exact .inr (.inl k)
  obtain ⟨u, r, l⟩ := hl i x v hi e1 vis
  refine wpAny_AugAssign_Name ?_
  have go : wpAny (model X.prog X.w) X.A (eval e X.env) (fun w s₂ => wpAny (model X.prog X.w) X.A (inplaceOp op u w) (fun r s₃ => wpAny (model X.prog X.w) X.A (storeName X.env x r) (fun _ => SP X pins D .next) X.xe s₃) X.xe s₂) X.xe s := by
    refine thn (he pins s σ H _ I h) fun w s1 ⟨y, H1, I1, r1, q1⟩ => ?_
    refine thn (ho pins s1 σ H1 v y u w _ I1 r r1 q1) fun z s2 ⟨zv, H2, I2, r2, q2⟩ => ?_
    exact store_ok I2 hN hi hx r2 (fun s3 I3 => ⟨_, H2, I3, q2⟩) hf
  rcases l with ⟨hk, hm⟩ | ⟨hk, c, hc, hcell⟩
  · exact wpAny_loadName_local I.ok.kind hk hn hm go
  · rcases hk with hk | hk
    · exact wpAny_loadName_cell I.ok.kind hk hc hcell go
    · rcases hx with k | k
      · have : X.env.scope.names.lookup x = some .free := hk
        rw [k] at this; cases this
      · have : X.env.scope.names.lookup x = some .free := hk
        rw [k] at this; cases this
/-- o[i] op= e -/
def tAugS (to ti te : TE) (tget : V → V → Hp → VK → Prop) (tip : TIp) (tset : TSet) : TS := fun D σ H => to σ H fun o H1 => ti σ H1 fun i H2 => tget o i H2 fun x H3 => te σ H3 fun y H4 => tip x y H4 fun z H5 => tset o i z H5 fun H6 => D.nx σ H6
/-- o[i], by values -/
def PGet (X : Cx) (t : V → V → Hp → VK → Prop) : Prop :=
  ∀ (pins : List (Addr × Obj)) (s : Shared) (σ : St) (H : Hp) (o i : V) (ov iv : Value) (Q : VK), Inv X pins σ H s → RelV o ov → RelV i iv → t o i H Q →
    wpAny (model X.prog X.w) X.A (getItem ov iv) (EP X pins σ Q) X.xe s
theorem ps_augS {o i e : Expr} {to ti te : TE} {tget : V → V → Hp → VK → Prop} {tip : TIp} {tset : TSet} {op : Operator} {tpos : Pos} (ho : PE X o to) (hi : PE X i ti) (hg : PGet X tget) (he : PE X e te) (hp : PIp X op tip) (hs : PSet X tset)
    (ha : ∀ ov iv new, augStore i ov iv new = (do holding [new, ov, iv] (setItem ov iv new); release [new, ov, iv] []; pure .next) := by intros; rfl) : PS X (.AugAssign (.Subscript o i tpos) op e pos) (tAugS to ti te tget tip tset) := by
  intro pins s σ H D I h
  refine wpAny_AugAssign_SubscriptAny (thn (ho pins s σ H _ I h) fun ov s1 ⟨x1, H1, I1, r1, q1⟩ => ?_) ha
  refine thn (hi pins s1 σ H1 _ I1 q1) fun iv s2 ⟨x2, H2, I2, r2, q2⟩ => ?_
  refine thn (hg pins s2 σ H2 x1 x2 ov iv _ I2 r1 r2 q2) fun old s3 ⟨x3, H3, I3, r3, q3⟩ => ?_
  refine thn (he pins s3 σ H3 _ I3 q3) fun v s4 ⟨x4, H4, I4, r4, q4⟩ => ?_
  refine thn (hp pins s4 σ H4 x3 x4 old v _ I4 r3 r4 q4) fun new s5 ⟨x5, H5, I5, r5, q5⟩ => ?_
  exact thn (hs pins s5 σ H5 x1 x2 x5 ov iv new _ I5 r1 r2 r5 q5) fun _ s6 ⟨H6, I6, q6⟩ => ⟨σ, H6, I6, q6⟩
end

/-! ### while -/
section
variable {X : Cx} {pos : Pos}
/-- the invariant W with its measure -/
def tWhile (c : TT) (tb : TS) : TS := fun D σ H => ∃ W : Nat → St → Hp → Prop, (∃ m, W m σ H) ∧ ∀ m σ H, W m σ H →
  c σ H fun b H1 => if b = true then ∃ N : St → Hp → Prop, (∀ σ' H', N σ' H' → ∃ m', m' < m ∧ W m' σ' H') ∧ tb { D with nx := N, ct := N, bk := D.nx } σ H1 else D.nx σ H1
theorem ps_while {c : Expr} {body : List Stmt} {tc : TT} {tb : TS} (hp : PassesOwn (model X.prog X.w) X.A X.env X.xe) (hc : PT X c tc) (hb : PSs X body tb) : PS X (.While c body [] pos) (tWhile tc tb) := by
  intro pins s σ H D I h
  obtain ⟨W, ⟨m0, w0⟩, turn⟩ := h
  refine wpAny_While (codeAny_whileLoop (fun n s' => ∃ σ' H', Inv X pins σ' H' s' ∧ W n σ' H') ?_ m0 ⟨σ, H, I, w0⟩)
  rintro n s1 ⟨σ1, H1, I1, w1⟩
  refine wpAny_passesOwn hp (thn (hc pins s1 σ1 H1 _ I1 (turn n σ1 H1 w1)) fun b s2 ⟨H2, I2, q2⟩ => ?_)
  cases b with
  | true =>
    obtain ⟨N, hN, q2⟩ := q2
    rw [if_pos rfl]
    refine wpAny_passesOwn hp (thn (hb pins s2 σ1 H2 _ I2 q2) fun f s3 q3 => ?_)
    cases f with
    | next =>
      obtain ⟨σ3, H3, I3, n3⟩ := q3
      obtain ⟨m', hm, w3⟩ := hN σ3 H3 n3
      exact ⟨m', hm, σ3, H3, I3, w3⟩
    | cont =>
      obtain ⟨σ3, H3, I3, n3⟩ := q3
      obtain ⟨m', hm, w3⟩ := hN σ3 H3 n3
      exact ⟨m', hm, σ3, H3, I3, w3⟩
    | brk => exact q3
    | ret v => exact q3
  | false =>
    rw [if_neg Bool.false_ne_true]
    exact wpAny_execs_nil ⟨σ1, H2, I2, q2⟩
end

/-! ### what a loop or a comprehension walks -/
/-- at turn i: it yields x (the heap may grow), or it stops -/
structure It where
  go : Nat → Hp → Prop
  yld : Nat → Hp → V → Hp → Prop
  stop : Nat → Hp → Prop
/-- the iterator's own objects may turn: they are not the frame's, not pinned, younger than the entry (or a comprehension's own) -/
def FpOk (X : Cx) (pins : List (Addr × Obj)) (H : Hp) (b : Addr) : Prop :=
  H b = none ∧ b ≠ X.env.locals ∧ b ∉ X.fs ∧ (b ∈ X.ex ∨ X.s_0.heap.objs.size ≤ b) ∧ (∀ x c, X.env.cells.lookup x = some c → c ≠ b) ∧ ∀ p ∈ X.pn ++ pins, p.1 ≠ b
theorem Inv.fpOk {X : Cx} {pins : List (Addr × Obj)} {σ : St} {H H' : Hp} {s : Shared} {b : Addr} (I : Inv X pins σ H s) (hb : s.heap.objs.size ≤ b) (hn : H' b = none) : FpOk X pins H' b := by
  refine ⟨hn, Nat.ne_of_gt (Nat.lt_of_lt_of_le I.lt hb), I.nofs hb, .inr (Nat.le_trans I.sz hb), fun x c e z => ?_, fun p hp z => ?_⟩
  · obtain ⟨v, q⟩ := I.cell x c e
    exact absurd (Nat.lt_of_lt_of_le q.lt (by rw [z]; exact hb)) (Nat.lt_irrefl _)
  · exact absurd (Nat.lt_of_lt_of_le (Heap.lt_size (I.pin p hp).1) (by rw [z]; exact hb)) (Nat.lt_irrefl _)
structure Turn (P : Program) (w : World) (K : PySem.W.Frag) (tg : Expr) (J : It) (fp : List Addr) (it : Addr) (tn : Nat → Heap → Prop) : Prop where
  mem : it ∈ fp
  obj : ∀ i h, tn i h → ∀ b ∈ fp, ∃ o, h.get? b = some o ∧ ∀ v, o.data ≠ .cell v
  keep : ∀ i h h', tn i h → (∀ b ∈ fp, ∀ o, h.get? b = some o → h'.get? b = some o) → tn i h'
  item : ∀ (X : Cx), X.prog = P → X.w = w → X.K = K → X.calm = true → ∀ (i : Nat) (pins : List (Addr × Obj)) (s : Shared) (σ : St) (H : Hp) (E : Value → Shared → Prop), Inv X pins σ H s → (∀ b ∈ fp, FpOk X pins H b) → tn i s.heap → J.go i H →
    wpAny (model P w) X.A (pyNext (.ref it)) (fun r s1 => ∃ u, r = some u ∧
      wpAny (model P w) X.A (letOwnedTupleGo tg (.ref it) u) (fun _ s2 => ∃ x H', Inv X pins σ H' s2 ∧ RelV x u ∧ J.yld i H x H' ∧ tn (i + 1) s2.heap ∧ ∀ b ∈ fp, H' b = none) E s1) E s
  done : ∀ (X : Cx), X.prog = P → X.w = w → X.K = K → X.calm = true → ∀ (i : Nat) (pins : List (Addr × Obj)) (s : Shared) (σ : St) (H : Hp) (E : Value → Shared → Prop), Inv X pins σ H s → (∀ b ∈ fp, FpOk X pins H b) → tn i s.heap → J.stop i H →
    wpAny (model P w) X.A (pyNext (.ref it)) (fun r s1 => r = none ∧ Inv X pins σ H s1) E s
  self : ∀ (A : Around) (i : Nat) (s : Shared) (Q : Value → Shared → Prop) (E : Value → Shared → Prop), tn i s.heap → Q (.ref it) s → wpAny (model P w) A (pyIter (.ref it)) Q E s
abbrev TI := St → Hp → (It → Hp → Prop) → Prop
/-- an iterator has come -/
def PIE (X : Cx) (pins : List (Addr × Obj)) (σ : St) (tg : Expr) (R : It → Hp → Prop) (itv : Value) (s2 : Shared) : Prop :=
  ∃ (it : Addr) (fp : List Addr) (tn : Nat → Heap → Prop) (J : It) (H' : Hp), itv = .ref it ∧ Inv X pins σ H' s2 ∧ Turn X.prog X.w X.K tg J fp it tn ∧ tn 0 s2.heap ∧ (∀ b ∈ fp, FpOk X pins H' b) ∧ R J H'
def PI (X : Cx) (tg iter : Expr) (wi : TI) : Prop :=
  ∀ (pins : List (Addr × Obj)) (s : Shared) (σ : St) (H : Hp) (R : It → Hp → Prop), Inv X pins σ H s → wi σ H R →
    wpAny (model X.prog X.w) X.A (eval iter X.env) (fun v s1 => wpAny (model X.prog X.w) X.A (pyIter v) (PIE X pins σ tg R) X.xe s1) X.xe s

/-- the step ahead of the store is nothing for an iterator that keeps no tuple -/
theorem go_of {M : Model} {A : Around} {E : Value → Shared → Prop} {s : Shared} {tg : Expr} {it : Addr} {u : Value} {o : Obj} {n : String} {vs : Array Value} {Q : Unit → Shared → Prop} (ho : s.heap.get? it = some o) (hc : o.cls = .type n) (hd : o.data = .fields vs)
    (hn : ["enumerate", "zip", "dict_itemiterator", "dict_reverseitemiterator", "odict_iterator", "itertools.zip_longest", "itertools.pairwise"].contains n = false) (hQ : Q () s) : wpAny M A (letOwnedTupleGo tg (.ref it) u) Q E s := by
  unfold letOwnedTupleGo
  cases tg <;> first
    | exact wpAny_pure hQ
    | (cases u <;> first
        | exact wpAny_pure hQ
        | (refine wpAny_bind (wpAny_load ho ?_)
           rw [hc, hd]
           show wpAny M A (if (["enumerate", "zip", "dict_itemiterator", "dict_reverseitemiterator", "odict_iterator", "itertools.zip_longest", "itertools.pairwise"].contains n && vs[0]? == some (rawInt _)) = true then _ else _) Q E s
           rw [if_neg (by intro h; rw [hn, Bool.false_and] at h; cases h)]
           exact wpAny_pure hQ))

/-- the list at a, as it stands at each turn (a loop may append to it) -/
def Itl (K : PySem.W.Frag) (a : Addr) : It :=
  ⟨fun i H => ∃ xs x, SqL K H a xs ∧ xs[i]? = some x, fun i H x H' => H' = H ∧ ∀ xs, SqL K H a xs → xs[i]? = some x, fun i H => ∃ xs, SqL K H a xs ∧ xs.length ≤ i⟩
/-- lo, lo + 1, .. (n of them) -/
def Itr (lo : Int) (n : Nat) : It := ⟨fun i _ => i < n, fun i H x H' => H' = H ∧ x = .int (lo + i), fun i _ => n ≤ i⟩
theorem turn_list {P : Program} {w : World} {K : PySem.W.Frag} {tg : Expr} (a it : Addr) : Turn P w K tg (Itl K a) [it] it (fun i h => h.IsListIter it a i) where
  mem := by simp
  obj := fun i h st b hb => by
    have e : b = it := by simpa using hb
    subst e
    obtain ⟨o, e, c, d⟩ := st
    exact ⟨o, e, fun v z => by rw [d] at z; cases z⟩
  keep := fun i h h' st k => st.at fun o e => k it (by simp) o e
  item := by
    intro X hP hw hK hc i pins s σ H E I hf st hg
    subst hP hw hK
    obtain ⟨xs, x, hq, hx⟩ := hg
    obtain ⟨its, rv, p, hz⟩ := I.list hq
    obtain ⟨u, hu, ru⟩ := rv.get hx
    obtain ⟨f0, f1, f2, f3, f4, f5⟩ := hf it (by simp)
    refine wpAny_pyNext_list_item st p.isList (x := u) (by simpa using hu) fun h' st' sb => ?_
    have I1 : Inv X pins σ H { s with heap := h' } := I.turned (t' := s.toks) (fun b o hb e => (sb.2 b hb).trans e) f0 f1 f3 f4 f5
    obtain ⟨o, e, c, d⟩ := id st'
    exact ⟨u, rfl, go_of (s := { s with heap := h' }) e c d (by decide) ⟨x, H, I1, ru, ⟨rfl, fun ys hy => by rw [I.list_inj hy hq]; exact hx⟩, st', fun b hb => (hf b hb).1⟩⟩
  done := by
    intro X hP hw hK hc i pins s σ H E I hf st hg
    subst hP hw hK
    obtain ⟨xs, hq, hx⟩ := hg
    obtain ⟨its, rv, p, hz⟩ := I.list hq
    obtain ⟨f0, f1, f2, f3, f4, f5⟩ := hf it (by simp)
    have hl := rv.length
    exact wpAny_pyNext_list_end (I.ok.hd hc) st p.isList (by simp; omega) fun h' eb => ⟨rfl, I.turned (t' := s.toks) (fun b o hb e => eb b o hb e) f0 f1 f3 f4 f5⟩
  self := fun _ _ _ _ _ st h => wpAny_pyIter_listiter st h
theorem turn_range {P : Program} {w : World} {K : PySem.W.Frag} {tg : Expr} (it : Addr) (lo : Int) (n : Nat) : Turn P w K tg (Itr lo n) [it] it (fun i h => IsRangeIter h it (lo + (i : Nat) * 1) ((n : Int) - (i : Nat)) 1) where
  mem := by simp
  obj := fun i h st b hb => by
    have e : b = it := by simpa using hb
    subst e
    exact ⟨_, st, fun v z => by
      have z' : Data.fields _ = Data.cell v := z
      cases z'⟩
  keep := fun i h h' st k => k it (by simp) _ st
  item := by
    intro X hP hw hK hc i pins s σ H E I hf st hg
    subst hP hw hK
    obtain ⟨f0, f1, f2, f3, f4, f5⟩ := hf it (by simp)
    have W := Walks.range (prog := X.prog) (w := X.w) (I.ok.hd hc) it lo 1 n
    refine W.item i s _ _ hg st fun v h' tk hv st' kk => ?_
    obtain ⟨t, rfl⟩ := hv
    have I1 : Inv X pins σ H { s with heap := h', toks := tk } := I.turned (fun b o hb e => kk b o (by simpa using hb) e) f0 f1 f3 f4 f5
    refine ⟨_, rfl, go_of (s := { s with heap := h', toks := tk }) (n := "range_iterator") st' rfl rfl (by decide) ⟨.int (lo + i), H, I1, ⟨t, ?_⟩, ⟨rfl, rfl⟩, st', fun b hb => (hf b hb).1⟩⟩
    rw [Int.mul_one]
  done := by
    intro X hP hw hK hc i pins s σ H E I hf st hg
    subst hP hw hK
    obtain ⟨f0, f1, f2, f3, f4, f5⟩ := hf it (by simp)
    exact wpAny_pyNext_range_end (I.ok.hd hc) st (by have : n ≤ i := hg; omega) fun h' eb => ⟨rfl, I.turned (t' := s.toks) (fun b o hb e => eb b o hb e) f0 f1 f3 f4 f5⟩
  self := fun _ _ _ _ _ st h => wpAny_pyIter_rangeiter st h
end L2

namespace L2
open PySem PySem.Spec PyProof.Rows
section
variable {X : Cx} {tg : Expr}
def iList (K : PySem.W.Frag) (tl : TE) : TI := fun σ H R => tl σ H fun x H1 => ∃ a, x = .ref a ∧ (∃ xs, SqL K H1 a xs) ∧ R (Itl K a) H1
theorem pi_list {l : Expr} {tl : TE} (hl : PE X l tl) : PI X tg l (iList X.K tl) := by
  intro pins s σ H R I h
  refine thn (hl pins s σ H _ I h) fun v s1 ⟨x, H1, I1, r1, q1⟩ => ?_
  obtain ⟨a, e, ⟨xs, hq⟩, q⟩ := q1
  subst e
  cases r1
  obtain ⟨its, rv, p, hz⟩ := I1.list hq
  refine wpAny_pyIter_list p.isList ?_
  refine ⟨s1.heap.objs.size, [s1.heap.objs.size], _, _, H1, rfl, I1.kept (t' := s1.toks) fun b o e => Heap.get?_push_of_some _ e, turn_list a _, ⟨_, Heap.get?_push_size _ rfl, rfl, rfl⟩, fun b hb => ?_, q⟩
  have e : b = s1.heap.objs.size := by simpa using hb
  subst e
  exact I1.fpOk (Nat.le_refl _) (I1.hok.fresh (Nat.le_refl _))
/-- a range object just made, walked -/
theorem range_it {pins : List (Addr × Obj)} {σ : St} {H : Hp} {s : Shared} {R : It → Hp → Prop} {E : Value → Shared → Prop} {lo hi : Int} {t u v : Tok} {tk : Nat} (I : Inv X pins σ H s) (h1 : -(2 ^ 62) ≤ lo) (h2 : lo < 2 ^ 62) (h3 : -(2 ^ 62) ≤ hi) (h4 : hi < 2 ^ 62)
    (q : R (Itr lo (hi - lo).toNat) H) : wpAny (model X.prog X.w) X.A (pyIter (.ref s.heap.objs.size)) (PIE X pins σ tg R) E { s with heap := s.heap.push { cls := .type "range", data := .fields #[.int lo t, .int hi u, .int 1 v] }, toks := tk } := by
  refine wpAny_pyIter_range (IsRange.new ..) (small_one h1 h2 h3 h4) ?_
  have I1 : Inv X pins σ H { s with heap := s.heap.push { cls := .type "range", data := .fields #[.int lo t, .int hi u, .int 1 v] }, toks := tk } := I.kept fun b o e => Heap.get?_push_of_some _ e
  refine ⟨(s.heap.push { cls := .type "range", data := .fields #[.int lo t, .int hi u, .int 1 v] }).objs.size, [(s.heap.push { cls := .type "range", data := .fields #[.int lo t, .int hi u, .int 1 v] }).objs.size], _, _, H, rfl,
    I1.kept (t' := tk) fun b o e => Heap.get?_push_of_some _ e, turn_range _ lo (hi - lo).toNat, ?_, fun b hb => ?_, q⟩
  · have e1 : lo + ((0 : Nat) : Int) * 1 = lo := by simp
    have e2 : (((hi - lo).toNat : Nat) : Int) - ((0 : Nat) : Int) = Builtin.Range.rangeSize lo hi 1 := by rw [rangeSize_one]; split <;> omega
    show IsRangeIter _ _ (lo + ((0 : Nat) : Int) * 1) ((((hi - lo).toNat : Nat) : Int) - ((0 : Nat) : Int)) 1
    rw [e1, e2]
    exact Heap.get?_push_size _ rfl
  · have e : b = (s.heap.push { cls := .type "range", data := .fields #[.int lo t, .int hi u, .int 1 v] }).objs.size := by simpa using hb
    subst e
    exact I1.fpOk (Nat.le_refl _) (I1.hok.fresh (Nat.le_refl _))
def iRng2 (ta : TA) : TI := fun σ H R => ta σ H fun vs H1 => ∃ i j : Int, vs = [.int i, .int j] ∧ (-(2 ^ 62) ≤ i ∧ i < 2 ^ 62 ∧ -(2 ^ 62) ≤ j ∧ j < 2 ^ 62) ∧ R (Itr i (j - i).toNat) H1
theorem pi_range2 {a b : Expr} {ta : TA} {p pos : Pos} (hg : Gl X "range") (hm : X.mg "range" = none) (ha : PA X [a, b] ta) (hs : starEach [a, b] X.env = [(false, eval a X.env), (false, eval b X.env)] := by rfl) (hs2 : starEach [b] X.env = [(false, eval b X.env)] := by rfl) :
    PI X tg (.Call (.Name "range" p) [a, b] [] pos) (iRng2 ta) := by
  intro pins s σ H R I h
  refine Call_ (ld_blt I hg hm boot_range (PyProof.Rows.callWith_type1 (thn (ha pos pins s σ H _ I h) fun us s1 ⟨vs, H1, I1, r1, q1⟩ => ?_) (by rw [hs, hs2]) (by rw [hs2]; rfl)))
  obtain ⟨i, j, e, ⟨q1, q2, q3, q4⟩, q⟩ := q1
  subst e
  cases r1 with
  | cons r rr =>
    cases rr with
    | cons r' rr =>
      cases rr
      obtain ⟨t, rfl⟩ := r
      obtain ⟨t', rfl⟩ := r'
      exact call_range_2 (range_it I1 q1 q2 q3 q4 q)

/-! ### for -/
/-- W: the invariant by the turn and a measure; N: what the body is to reach -/
def tFor (wi : TI) (g : TG) (tb : TS) : TS := fun D σ H => wi σ H fun J H1 => ∃ W : Nat → Nat → St → Hp → Prop, (∃ m, W 0 m σ H1) ∧ ∀ i m σ H, W i m σ H →
  (J.stop i H ∧ D.nx σ H) ∨ (J.go i H ∧ ∃ N : St → Hp → Prop, (∀ σ' H', N σ' H' → ∃ m', m' < m ∧ W (i + 1) m' σ' H') ∧ ∀ x H', J.yld i H x H' → g x σ H' fun σ2 H2 => tb { D with nx := N, ct := N, bk := D.nx } σ2 H2)
/-- the records at fp as they stand -/
def pinsAt (fp : List Addr) (h : Heap) : List (Addr × Obj) := fp.filterMap fun b => (h.get? b).map fun o => (b, o)
theorem mem_pinsAt {fp : List Addr} {h : Heap} {b : Addr} {o : Obj} (hb : b ∈ fp) (e : h.get? b = some o) : (b, o) ∈ pinsAt fp h := List.mem_filterMap.mpr ⟨b, hb, by rw [e]; rfl⟩
theorem of_pinsAt {fp : List Addr} {h : Heap} {p : Addr × Obj} (hp : p ∈ pinsAt fp h) : p.1 ∈ fp ∧ h.get? p.1 = some p.2 := by
  obtain ⟨b, hb, e⟩ := List.mem_filterMap.mp hp
  cases q : h.get? b with
  | none => rw [q] at e; cases e
  | some o =>
    rw [q] at e
    have e' : (b, o) = p := Option.some.inj e
    subst e'
    exact ⟨hb, q⟩
theorem Inv.pinned {pins : List (Addr × Obj)} {σ : St} {H : Hp} {s : Shared} {fp : List Addr} (I : Inv X pins σ H s) (hf : ∀ b ∈ fp, FpOk X pins H b) (ho : ∀ b ∈ fp, ∃ o, s.heap.get? b = some o ∧ ∀ v, o.data ≠ .cell v) : Inv X (pins ++ pinsAt fp s.heap) σ H s :=
  I.pins_of fun p hp => (List.mem_append.mp hp).elim (fun z => I.pin p (List.mem_append_right _ z)) fun z => by
    obtain ⟨hb, e⟩ := of_pinsAt z
    obtain ⟨f0, f1, f2, _⟩ := hf p.1 hb
    obtain ⟨o, e', d⟩ := ho p.1 hb
    rw [e] at e'; cases e'
    exact ⟨e, f0, f1, f2, d⟩
theorem Inv.unpinned {pins pl : List (Addr × Obj)} {σ : St} {H : Hp} {s : Shared} (I : Inv X (pins ++ pl) σ H s) : Inv X pins σ H s := I.pins_of fun p hp => I.pin p (List.mem_append_right _ (List.mem_append_left _ hp))
theorem ps_for {iter : Expr} {body : List Stmt} {wi : TI} {g : TG} {tb : TS} {pos : Pos} (hp : PassesOwn (model X.prog X.w) X.A X.env X.xe) (hc : X.calm = true) (hi : PI X tg iter wi) (hg : PG X tg g) (hb : PSs X body tb)
    (hs : ∀ x, foldedSetIterable iter X.env x = pure x := by intro _; rfl) : PS X (.For tg iter body [] pos) (tFor wi g tb) := by
  intro pins s σ H D I h
  refine wpAny_For (thn (hi pins s σ H _ I h) fun v s1 h1 => thn h1 fun itv s2 h2 => ?_) hs
  obtain ⟨it, fp, tn, J, H2, e, I2, T, st2, f2, W, ⟨m0, w0⟩, turn⟩ := h2
  subst e
  -- what stays true of the iterator's objects through the loop
  have stat : ∀ {H' : Hp}, (∀ b ∈ fp, H' b = none) → ∀ b ∈ fp, FpOk X pins H' b := fun hn b hb => ⟨hn b hb, (f2 b hb).2⟩
  refine codeAny_forLoop_any (fun n s' => ∃ i σ' H', Inv X pins σ' H' s' ∧ tn i s'.heap ∧ (∀ b ∈ fp, H' b = none) ∧ W i n σ' H') ?_ m0 ⟨0, σ, H2, I2, st2, fun b hb => (f2 b hb).1, w0⟩
  rintro n s3 ⟨i, σ3, H3, I3, st3, fr3, w3⟩
  rcases turn i n σ3 H3 w3 with ⟨stop, qn⟩ | ⟨go, N, hN, step⟩
  · refine wpAny_passesOwn hp (thn (T.done X rfl rfl rfl hc i pins s3 σ3 H3 X.xe I3 (stat fr3) st3 stop) fun r s4 ⟨hr, I4⟩ => ?_)
    subst hr
    exact wpAny_execs_nil ⟨σ3, H3, I4, qn⟩
  · refine wpAny_passesOwn hp (thn (T.item X rfl rfl rfl hc i pins s3 σ3 H3 X.xe I3 (stat fr3) st3 go) fun r s4 ⟨u, hr, h4⟩ => ?_)
    subst hr
    refine wpAny_passesOwn hp (thn h4 fun _ s5 ⟨x, H5, I5, r5, y5, st5, fr5⟩ => ?_)
    have I5' := I5.pinned (stat fr5) (T.obj _ _ st5)
    refine wpAny_passesOwn hp (thn (hg _ s5 σ3 H5 x u _ I5' r5 (step x H5 y5)) fun _ s6 ⟨σ6, H6, I6, q6⟩ => ?_)
    refine wpAny_passesOwn hp (thn (hb _ s6 σ6 H6 _ I6 q6) fun f s7 q7 => ?_)
    have again : ∀ {σ7 : St} {H7 : Hp}, Inv X (pins ++ pinsAt fp s5.heap) σ7 H7 s7 → N σ7 H7 → ∃ m, m < n ∧ ∃ i σ' H', Inv X pins σ' H' s7 ∧ tn i s7.heap ∧ (∀ b ∈ fp, H' b = none) ∧ W i m σ' H' := fun {σ7 H7} I7 n7 => by
      obtain ⟨m', hm, w7⟩ := hN σ7 H7 n7
      refine ⟨m', hm, i + 1, σ7, H7, I7.unpinned, T.keep _ _ _ st5 fun b hb o e => (I7.pin (b, o) (List.mem_append_right _ (List.mem_append_right _ (mem_pinsAt hb e)))).1, fun b hb => ?_, w7⟩
      obtain ⟨o, e, d⟩ := T.obj _ _ st5 b hb
      exact (I7.pin (b, o) (List.mem_append_right _ (List.mem_append_right _ (mem_pinsAt hb e)))).2.1
    cases f with
    | next => obtain ⟨σ7, H7, I7, n7⟩ := q7; exact again I7 n7
    | cont => obtain ⟨σ7, H7, I7, n7⟩ := q7; exact again I7 n7
    | brk => obtain ⟨σ7, H7, I7, q7⟩ := q7; exact ⟨σ7, H7, I7.unpinned, q7⟩
    | ret v => obtain ⟨x7, σ7, H7, I7, r7, q7⟩ := q7; exact ⟨x7, σ7, H7, I7.unpinned, r7, q7⟩
end

/-! ### the forms one uses -/
/-- over a list that the body leaves as it is -/
theorem for_list {K : PySem.W.Frag} {a : Addr} {xs : List V} {g : TG} {tb : TS} {D : Ends} {σ : St} {H : Hp} (Pv : Nat → St → Hp → Prop) (h0 : Pv 0 σ H) (hl : ∀ i σ H, i ≤ xs.length → Pv i σ H → SqL K H a xs)
    (hs : ∀ i x σ H, xs[i]? = some x → Pv i σ H → g x σ H fun σ2 H2 => tb { D with nx := Pv (i + 1), ct := Pv (i + 1), bk := D.nx } σ2 H2) (hd : ∀ σ H, Pv xs.length σ H → D.nx σ H) :
    ∃ W : Nat → Nat → St → Hp → Prop, (∃ m, W 0 m σ H) ∧ ∀ i m σ H, W i m σ H →
      ((Itl K a).stop i H ∧ D.nx σ H) ∨ ((Itl K a).go i H ∧ ∃ N : St → Hp → Prop, (∀ σ' H', N σ' H' → ∃ m', m' < m ∧ W (i + 1) m' σ' H') ∧ ∀ x H', (Itl K a).yld i H x H' → g x σ H' fun σ2 H2 => tb { D with nx := N, ct := N, bk := D.nx } σ2 H2) := by
  refine ⟨fun i m σ H => m = xs.length - i ∧ i ≤ xs.length ∧ Pv i σ H, ⟨xs.length, by simp, Nat.zero_le _, h0⟩, ?_⟩
  rintro i m σ H ⟨rfl, hi, p⟩
  have q := hl i σ H hi p
  by_cases hlt : i < xs.length
  · refine .inr ⟨⟨xs, xs[i], q, by simp [hlt]⟩, Pv (i + 1), fun σ' H' p' => ⟨xs.length - (i + 1), by omega, rfl, hlt, p'⟩, fun x H' y => ?_⟩
    obtain ⟨e, y⟩ := y
    subst e
    exact hs i x σ _ (y xs q) p
  · have e : i = xs.length := by omega
    subst e
    exact .inl ⟨⟨xs, q, Nat.le_refl _⟩, hd σ H p⟩
theorem for_range {lo : Int} {n : Nat} {g : TG} {tb : TS} {D : Ends} {σ : St} {H : Hp} (Pv : Nat → St → Hp → Prop) (h0 : Pv 0 σ H)
    (hs : ∀ i σ H, i < n → Pv i σ H → g (.int (lo + i)) σ H fun σ2 H2 => tb { D with nx := Pv (i + 1), ct := Pv (i + 1), bk := D.nx } σ2 H2) (hd : ∀ σ H, Pv n σ H → D.nx σ H) :
    ∃ W : Nat → Nat → St → Hp → Prop, (∃ m, W 0 m σ H) ∧ ∀ i m σ H, W i m σ H →
      ((Itr lo n).stop i H ∧ D.nx σ H) ∨ ((Itr lo n).go i H ∧ ∃ N : St → Hp → Prop, (∀ σ' H', N σ' H' → ∃ m', m' < m ∧ W (i + 1) m' σ' H') ∧ ∀ x H', (Itr lo n).yld i H x H' → g x σ H' fun σ2 H2 => tb { D with nx := N, ct := N, bk := D.nx } σ2 H2) := by
  refine ⟨fun i m σ H => m = n - i ∧ i ≤ n ∧ Pv i σ H, ⟨n, by simp, Nat.zero_le _, h0⟩, ?_⟩
  rintro i m σ H ⟨rfl, hi, p⟩
  by_cases hlt : i < n
  · refine .inr ⟨hlt, Pv (i + 1), fun σ' H' p' => ⟨n - (i + 1), by omega, rfl, hlt, p'⟩, fun x H' y => ?_⟩
    obtain ⟨e, y⟩ := y
    subst e y
    exact hs i σ _ hlt p
  · have e : i = n := by omega
    subst e
    exact .inl ⟨Nat.le_refl _, hd σ H p⟩
/-- while, by a word and a measure of the state -/
theorem while_by {c : TT} {tb : TS} {D : Ends} {σ : St} {H : Hp} (Pv : St → Hp → Prop) (μ : St → Hp → Nat) (h0 : Pv σ H)
    (hs : ∀ σ H, Pv σ H → c σ H fun b H1 => if b = true then tb { D with nx := fun σ' H' => Pv σ' H' ∧ μ σ' H' < μ σ H, ct := fun σ' H' => Pv σ' H' ∧ μ σ' H' < μ σ H, bk := D.nx } σ H1 else D.nx σ H1)
    (mono : ∀ σ H Q Q', (∀ b H1, Q b H1 → Q' b H1) → c σ H Q → c σ H Q') : tWhile c tb D σ H := by
  refine ⟨fun m σ H => m = μ σ H ∧ Pv σ H, ⟨_, rfl, h0⟩, ?_⟩
  rintro m σ H ⟨rfl, p⟩
  refine mono σ H _ _ (fun b H1 q => ?_) (hs σ H p)
  cases b with
  | true => exact ⟨_, fun σ' H' ⟨p', l⟩ => ⟨_, l, rfl, p'⟩, q⟩
  | false => exact q
end L2

namespace L2
open PySem PySem.Spec PyProof.Rows

abbrev R2 := V → V → Hp → VK → Prop
/-- a two-place operation on values: f is binaryOp op, inplaceOp op or compareOp op -/
def OpR (X : Cx) (f : Value → Value → Sem Value) (r : R2) : Prop :=
  ∀ (pins : List (Addr × Obj)) (s : Shared) (σ : St) (H : Hp) (x y : V) (v u : Value) (Q : VK), Inv X pins σ H s → RelV x v → RelV y u → r x y H Q →
    wpAny (model X.prog X.w) X.A (f v u) (EP X pins σ Q) X.xe s
/-- a one-place operation -/
def UnR (X : Cx) (f : Value → Sem Value) (r : V → Hp → VK → Prop) : Prop :=
  ∀ (pins : List (Addr × Obj)) (s : Shared) (σ : St) (H : Hp) (x : V) (v : Value) (Q : VK), Inv X pins σ H s → RelV x v → r x H Q →
    wpAny (model X.prog X.w) X.A (f v) (EP X pins σ Q) X.xe s
/-- a call of a value that is known (a builtin, a type) with values -/
def CallR (X : Cx) (f : Value) (r : List V → Hp → VK → Prop) : Prop :=
  ∀ (pins : List (Addr × Obj)) (s : Shared) (σ : St) (H : Hp) (xs : List V) (us : List Value) (Q : VK), Inv X pins σ H s → Vals xs us → r xs H Q →
    wpAny (model X.prog X.w) X.A (call f us) (EP X pins σ Q) X.xe s

def tOp (r : R2) (ta tb : TE) : TE := fun σ H Q => ta σ H fun x H1 => tb σ H1 fun y H2 => r x y H2 Q
def tUn (r : V → Hp → VK → Prop) (ta : TE) : TE := fun σ H Q => ta σ H fun x H1 => r x H1 Q
/-- ints in, under C, and a value out -/
def rI (C : Int → Int → Prop) (g : Int → Int → V) : R2 := fun x y H Q => ∃ i j, x = .int i ∧ y = .int j ∧ C i j ∧ Q (g i j) H
def rI0 (g : Int → Int → V) : R2 := fun x y H Q => ∃ i j, x = .int i ∧ y = .int j ∧ Q (g i j) H
def rU (g : Int → V) : V → Hp → VK → Prop := fun x H Q => ∃ i, x = .int i ∧ Q (g i) H

section
variable {X : Cx} {a b c : Expr} {ta tb tc : TE} {pos : Pos}

theorem binT (ha : PE X a ta) (hb : PE X b tb) {pins : List (Addr × Obj)} {s : Shared} {σ : St} {H : Hp} {R : V → V → Hp → Prop} (I : Inv X pins σ H s)
    (h : ta σ H fun x H1 => tb σ H1 fun y H2 => R x y H2) {Q : Value → Shared → Prop} {f : Value → Value → Sem Value}
    (hf : ∀ v u s2 x y H2, Inv X pins σ H2 s2 → RelV x v → RelV y u → R x y H2 → wpAny (model X.prog X.w) X.A (f v u) Q X.xe s2) :
    wpAny (model X.prog X.w) X.A (eval a X.env) (fun v s₁ => wpAny (model X.prog X.w) X.A (eval b X.env) (fun u s₂ => wpAny (model X.prog X.w) X.A (f v u) Q X.xe s₂) X.xe s₁) X.xe s := by
  refine thn (ha pins s σ H _ I h) fun v s1 ⟨x, H1, I1, r1, q1⟩ => ?_
  refine thn (hb pins s1 σ H1 _ I1 q1) fun u s2 ⟨y, H2, I2, r2, q2⟩ => ?_
  exact hf v u s2 x y H2 I2 r1 r2 q2

theorem pe_op {op : Operator} {r : R2} (ho : OpR X (binaryOp op) r) (ha : PE X a ta) (hb : PE X b tb) : PE X (.BinOp a op b pos) (tOp r ta tb) := by
  intro pins s σ H Q I h
  exact wpAny_BinOp (binT ha hb I h fun v u s2 x y H2 I2 rx ry q => ho pins s2 σ H2 x y v u Q I2 rx ry q)
theorem pe_un {op : UnaryOp} {r : V → Hp → VK → Prop} (ho : UnR X (unaryOp op) r) (ha : PE X a ta) : PE X (.UnaryOp op a pos) (tUn r ta) := by
  intro pins s σ H Q I h
  exact UnaryOp_ (thn (ha pins s σ H _ I h) fun v s1 ⟨x, H1, I1, r1, q1⟩ => ho pins s1 σ H1 x v Q I1 r1 q1)

/-! ### ints -/
theorem opI {f : Value → Value → Sem Value} {C : Int → Int → Prop} {g : Int → Int → Int}
    (rule : ∀ (i j : Int) (t u : Tok) (s : Shared) (Q : Value → Shared → Prop) (E : Value → Shared → Prop), C i j → Q (.int (g i j) s.toks) { s with toks := s.toks + 1 } → wpAny (model X.prog X.w) X.A (f (.int i t) (.int j u)) Q E s) :
    OpR X f (rI C fun i j => .int (g i j)) := by
  intro pins s σ H x y v u Q I rx ry h
  obtain ⟨i, j, rfl, rfl, hc, q⟩ := h
  obtain ⟨t, rfl⟩ := rx
  obtain ⟨t', rfl⟩ := ry
  exact rule i j t t' s _ _ hc ⟨.int (g i j), H, I.tok _, ⟨_, rfl⟩, q⟩
theorem opI0 {f : Value → Value → Sem Value} {g : Int → Int → Int}
    (rule : ∀ (i j : Int) (t u : Tok) (s : Shared) (Q : Value → Shared → Prop) (E : Value → Shared → Prop), Q (.int (g i j) s.toks) { s with toks := s.toks + 1 } → wpAny (model X.prog X.w) X.A (f (.int i t) (.int j u)) Q E s) :
    OpR X f (rI0 fun i j => .int (g i j)) := by
  intro pins s σ H x y v u Q I rx ry h
  obtain ⟨i, j, rfl, rfl, q⟩ := h
  obtain ⟨t, rfl⟩ := rx
  obtain ⟨t', rfl⟩ := ry
  exact rule i j t t' s _ _ ⟨.int (g i j), H, I.tok _, ⟨_, rfl⟩, q⟩
theorem opB0 {f : Value → Value → Sem Value} {g : Int → Int → Bool}
    (rule : ∀ (i j : Int) (t u : Tok) (s : Shared) (Q : Value → Shared → Prop) (E : Value → Shared → Prop), Q (.bool (g i j)) s → wpAny (model X.prog X.w) X.A (f (.int i t) (.int j u)) Q E s) :
    OpR X f (rI0 fun i j => .bl (g i j)) := by
  intro pins s σ H x y v u Q I rx ry h
  obtain ⟨i, j, rfl, rfl, q⟩ := h
  obtain ⟨t, rfl⟩ := rx
  obtain ⟨t', rfl⟩ := ry
  exact rule i j t t' s _ _ ⟨.bl (g i j), H, I, rfl, q⟩

def CDiv (i j : Int) : Prop := 0 < j ∧ j < 1073741824
def CPow (i j : Int) : Prop := 0 ≤ j ∧ j ≤ 1000000 ∧ i.natAbs < 2 ^ 64
def CMul (i j : Int) : Prop := (-(2 ^ 64) < i ∧ i < 2 ^ 64) ∨ (-(2 ^ 64) < j ∧ j < 2 ^ 64)
theorem CMul.ok {i j : Int} (h : CMul i j) : IntMulOk i j := by
  rcases h with ⟨h1, h2⟩ | ⟨h1, h2⟩
  · exact .of_left (intBits_le_64 h1 h2)
  · exact .of_right (intBits_le_64 h1 h2)
theorem two_pow_nn (k : Nat) : (0 : Int) ≤ 2 ^ k := by
  rw [two_pow_cast]
  exact Int.natCast_nonneg _

theorem op_add : OpR X (binaryOp .Add) (rI0 fun i j => .int (i + j)) := opI0 fun _ _ _ _ _ _ _ q => add_int q
theorem op_sub : OpR X (binaryOp .Sub) (rI0 fun i j => .int (i - j)) := opI0 fun _ _ _ _ _ _ _ q => sub_int q
theorem op_mul : OpR X (binaryOp .Mult) (rI CMul fun i j => .int (i * j)) := opI fun _ _ _ _ _ _ _ hc q => mul_int q hc.ok
/-- // by a positive divisor -/
theorem op_fdiv : OpR X (binaryOp .FloorDiv) (rI CDiv fun i j => .int (i / j)) := opI fun i j _ _ _ _ _ hc q => by
  have h1 : (0 : Int) < j := hc.1
  have h2 : j < 1073741824 := hc.2
  exact floordiv_int (by omega) (by rw [Int.fdiv_eq_ediv_of_nonneg i (by omega)]; exact q) (.inl (PyProof.noPylong_small (by omega)))
/-- % by a positive divisor of any size -/
theorem op_mod : OpR X (binaryOp .Mod) (rI (fun _ j => 0 < j) fun i j => .int (i % j)) := opI fun i j _ _ _ _ _ hc q => by
  have h1 : (0 : Int) < j := hc
  exact mod_int' (by omega) (by rw [Int.fmod_eq_emod_of_nonneg i (by omega)]; exact q)
theorem op_shl : OpR X (binaryOp .LShift) (rI CPow fun i j => .int (i * 2 ^ j.toNat)) := opI fun _ _ _ _ _ _ _ hc q => lshift_int_small hc.1 hc.2.1 hc.2.2 q
theorem op_shr : OpR X (binaryOp .RShift) (rI (fun _ j => 0 ≤ j) fun i j => .int (i / 2 ^ j.toNat)) := opI fun i j _ _ _ _ _ hc q =>
  rshift_int hc (by rw [Int.fdiv_eq_ediv_of_nonneg i (two_pow_nn _)]; exact q)
theorem op_and : OpR X (binaryOp .BitAnd) (rI0 fun i j => .int (Builtin.bitAnd i j)) := opI0 fun _ _ _ _ _ _ _ q => and_int q
theorem op_or : OpR X (binaryOp .BitOr) (rI0 fun i j => .int (Builtin.bitOr i j)) := opI0 fun _ _ _ _ _ _ _ q => or_int q

theorem iop_add : OpR X (inplaceOp .Add) (rI0 fun i j => .int (i + j)) := opI0 fun _ _ _ _ _ _ _ q => iadd_int q
theorem iop_sub : OpR X (inplaceOp .Sub) (rI0 fun i j => .int (i - j)) := opI0 fun _ _ _ _ _ _ _ q => isub_int q
theorem iop_or : OpR X (inplaceOp .BitOr) (rI0 fun i j => .int (Builtin.bitOr i j)) := opI0 fun _ _ _ _ _ _ _ q => ior_int q

theorem unI {f : Value → Sem Value} {g : Int → Int}
    (rule : ∀ (i : Int) (t : Tok) (s : Shared) (Q : Value → Shared → Prop) (E : Value → Shared → Prop), Q (.int (g i) s.toks) { s with toks := s.toks + 1 } → wpAny (model X.prog X.w) X.A (f (.int i t)) Q E s) :
    UnR X f (rU fun i => .int (g i)) := by
  intro pins s σ H x v Q I rx h
  obtain ⟨i, rfl, q⟩ := h
  obtain ⟨t, rfl⟩ := rx
  exact rule i t s _ _ ⟨.int (g i), H, I.tok _, ⟨_, rfl⟩, q⟩
theorem un_neg : UnR X (unaryOp .USub) (rU fun i => .int (-i)) := unI fun _ _ _ _ _ q => neg_int q

/-! ### bools among ints: n += (a < b) -/
end

/-! ### comparisons -/
/-- the scalars that == tells apart as data does -/
def scal : V → V → Bool
  | .non, .non => true | .non, .int _ => true | .int _, .non => true | .non, .bl _ => true | .bl _, .non => true | .non, .str _ => true | .str _, .non => true
  | .int _, .int _ => true | .bl _, .bl _ => true | .str _, .str _ => true | .byt _, .byt _ => true
  | .int _, .str _ => true | .str _, .int _ => true | .bl _, .str _ => true | .str _, .bl _ => true
  | _, _ => false
def rEq : R2 := fun x y H Q => scal x y = true ∧ Q (.bl (decide (x = y))) H
def rNe : R2 := fun x y H Q => scal x y = true ∧ Q (.bl (!decide (x = y))) H

theorem dec_int {i j : Int} : decide (V.int i = V.int j) = (i == j) := by
  rw [Bool.eq_iff_iff]
  simp
theorem dec_bl {i j : Bool} : decide (V.bl i = V.bl j) = (i == j) := by
  rw [Bool.eq_iff_iff]
  simp
theorem dec_str {i j : Str} : decide (V.str i = V.str j) = (i == j) := by
  rw [Bool.eq_iff_iff]
  simp
theorem dec_byt {i j : Array UInt8} : decide (V.byt i = V.byt j) = (i.toList == j.toList) := by
  rw [Bool.eq_iff_iff]
  cases i
  cases j
  simp

section
variable {X : Cx} {a b c : Expr} {ta tb tc : TE} {pos : Pos}
theorem fin_bl {pins : List (Addr × Obj)} {σ : St} {H : Hp} {s : Shared} {Q : VK} {k k' : Bool} (I : Inv X pins σ H s) (q : Q (.bl k) H) (e : k = k') : EP X pins σ Q (.bool k') s := by
  subst e
  exact ⟨.bl k, H, I, rfl, q⟩
theorem op_eq : OpR X (compareOp .Eq) rEq := by
  intro pins s σ H x y v u Q I rx ry h
  obtain ⟨hs, q⟩ := h
  cases x with
  | non =>
    cases rx
    cases y with
    | non => cases ry; exact PySem.EqNone.eq_none_none (fin_bl I q (by simp))
    | bl j => cases ry; exact PySem.EqNone.eq_none_bool (fin_bl I q (by simp))
    | int j => obtain ⟨t', rfl⟩ := ry; exact PySem.EqNone.eq_none_int (fin_bl I q (by simp))
    | str j => obtain ⟨t', rfl⟩ := ry; exact PySem.EqNone.eq_none_str (fin_bl I q (by simp))
    | _ => exact absurd (show false = true from hs) Bool.false_ne_true
  | bl i =>
    cases rx
    cases y with
    | non => cases ry; exact PySem.EqNone.eq_bool_none (fin_bl I q (by simp))
    | bl j => cases ry; exact eq_bool (fin_bl I q dec_bl)
    | str j => obtain ⟨t', rfl⟩ := ry; exact PySem.EqMixed.eq_bool_str (fin_bl I q (by simp))
    | _ => exact absurd (show false = true from hs) Bool.false_ne_true
  | int i =>
    obtain ⟨t, rfl⟩ := rx
    cases y with
    | non => cases ry; exact PySem.EqNone.eq_int_none (fin_bl I q (by simp))
    | int j => obtain ⟨t', rfl⟩ := ry; exact eq_int (fin_bl I q dec_int)
    | str j => obtain ⟨t', rfl⟩ := ry; exact PySem.EqMixed.eq_int_str (fin_bl I q (by simp))
    | _ => exact absurd (show false = true from hs) Bool.false_ne_true
  | str i =>
    obtain ⟨t, rfl⟩ := rx
    cases y with
    | non => cases ry; exact PySem.EqNone.eq_str_none (fin_bl I q (by simp))
    | bl j => cases ry; exact PySem.EqMixed.eq_str_bool (fin_bl I q (by simp))
    | int j => obtain ⟨t', rfl⟩ := ry; exact PySem.EqMixed.eq_str_int (fin_bl I q (by simp))
    | str j => obtain ⟨t', rfl⟩ := ry; exact eq_str (fin_bl I q dec_str)
    | _ => exact absurd (show false = true from hs) Bool.false_ne_true
  | byt i =>
    obtain ⟨t, rfl⟩ := rx
    cases y with
    | byt j => obtain ⟨t', rfl⟩ := ry; exact PySem.W.eq_bytes (fin_bl I q dec_byt)
    | _ => exact absurd (show false = true from hs) Bool.false_ne_true
  | _ => cases y <;> exact absurd (show false = true from hs) Bool.false_ne_true
theorem op_ne : OpR X (compareOp .NotEq) rNe := by
  intro pins s σ H x y v u Q I rx ry h
  obtain ⟨hs, q⟩ := h
  cases x with
  | non =>
    cases rx
    cases y with
    | non => cases ry; exact PySem.EqNone.ne_none_none (fin_bl I q (by simp))
    | bl j => cases ry; exact PySem.EqNone.ne_none_bool (fin_bl I q (by simp))
    | int j => obtain ⟨t', rfl⟩ := ry; exact PySem.EqNone.ne_none_int (fin_bl I q (by simp))
    | str j => obtain ⟨t', rfl⟩ := ry; exact PySem.EqNone.ne_none_str (fin_bl I q (by simp))
    | _ => exact absurd (show false = true from hs) Bool.false_ne_true
  | bl i =>
    cases rx
    cases y with
    | non => cases ry; exact PySem.EqNone.ne_bool_none (fin_bl I q (by simp))
    | bl j => cases ry; exact ne_bool (fin_bl I q (congrArg not dec_bl))
    | str j => obtain ⟨t', rfl⟩ := ry; exact PySem.EqMixed.ne_bool_str (fin_bl I q (by simp))
    | _ => exact absurd (show false = true from hs) Bool.false_ne_true
  | int i =>
    obtain ⟨t, rfl⟩ := rx
    cases y with
    | non => cases ry; exact PySem.EqNone.ne_int_none (fin_bl I q (by simp))
    | int j => obtain ⟨t', rfl⟩ := ry; exact ne_int (fin_bl I q (congrArg not dec_int))
    | str j => obtain ⟨t', rfl⟩ := ry; exact PySem.EqMixed.ne_int_str (fin_bl I q (by simp))
    | _ => exact absurd (show false = true from hs) Bool.false_ne_true
  | str i =>
    obtain ⟨t, rfl⟩ := rx
    cases y with
    | non => cases ry; exact PySem.EqNone.ne_str_none (fin_bl I q (by simp))
    | bl j => cases ry; exact PySem.EqMixed.ne_str_bool (fin_bl I q (by simp))
    | int j => obtain ⟨t', rfl⟩ := ry; exact PySem.EqMixed.ne_str_int (fin_bl I q (by simp))
    | str j => obtain ⟨t', rfl⟩ := ry; exact ne_str (fin_bl I q (congrArg not dec_str))
    | _ => exact absurd (show false = true from hs) Bool.false_ne_true
  | byt i =>
    obtain ⟨t, rfl⟩ := rx
    cases y with
    | byt j => obtain ⟨t', rfl⟩ := ry; exact PySem.W.ne_bytes (fin_bl I q (congrArg not dec_byt))
    | _ => exact absurd (show false = true from hs) Bool.false_ne_true
  | _ => cases y <;> exact absurd (show false = true from hs) Bool.false_ne_true

theorem op_lt : OpR X (compareOp .Lt) (rI0 fun i j => .bl (decide (i < j))) := opB0 fun _ _ _ _ _ _ _ q => lt_int q
theorem op_gt : OpR X (compareOp .Gt) (rI0 fun i j => .bl (decide (j < i))) := opB0 fun _ _ _ _ _ _ _ q => gt_int q
theorem op_ge : OpR X (compareOp .GtE) (rI0 fun i j => .bl (decide (j ≤ i))) := opB0 fun _ _ _ _ _ _ _ q => ge_int q




theorem nomark (b : Expr) {op : CmpOp} (h : op ≠ .In := by decide) (h2 : op ≠ .NotIn := by decide) : behindInMarks op b = false := by
  have e1 : (op == CmpOp.In) = false := by cases op <;> first | rfl | exact absurd rfl h
  have e2 : (op == CmpOp.NotIn) = false := by cases op <;> first | rfl | exact absurd rfl h2
  cases b <;> simp [behindInMarks, e1, e2]
/-- a comparison as a value; hm: nomark b, or (for in, not in) by with_unfolding_all rfl -/
theorem pe_cmpR {op : CmpOp} {r : R2} (ho : OpR X (compareOp op) r) (ha : PE X a ta) (hb : PE X b tb) (hm : behindInMarks op b = false) : PE X (.Compare a [op] [b] pos) (tOp r ta tb) := by
  intro pins s σ H Q I h
  exact wpAny_Compare1 (binT ha hb I h fun v u s2 x y H2 I2 rx ry q => ho pins s2 σ H2 x y v u Q I2 rx ry q) hm
/-- a reading of a value as a test -/
def tTest (t : TE) : TT := fun σ H Q => t σ H fun x H' => ∃ k, x = .bl k ∧ Q k H'
theorem pt_cmpR {op : CmpOp} {r : R2} (ho : OpR X (compareOp op) r) (ha : PE X a ta) (hb : PE X b tb) (hm : behindInMarks op b = false) : PT X (.Compare a [op] [b] pos) (tTest (tOp r ta tb)) := by
  intro pins s σ H Q I h
  refine wpAny_isTrue_Compare1 (thn (ha pins s σ H _ I h) fun v s1 ⟨x, H1, I1, r1, q1⟩ => thn (hb pins s1 σ H1 _ I1 q1) fun u s2 ⟨y, H2, I2, r2, q2⟩ =>
    thn (ho pins s2 σ H2 x y v u _ I2 r1 r2 q2) fun c s3 ⟨z, H3, I3, r3, k, e, q3⟩ => ?_) hm
  subst e
  cases r3
  exact wpAny_truthy_bool ⟨H3, I3, q3⟩

/-! ### truth -/
theorem line63 : (sizeLine : Nat) < 2 ^ 63 := by rw [sizeLine_eq]; decide

/-! ### strs and bytes -/


/-! ### scalar builtins, by CallR -/
theorem vals1 {x : V} {us : List Value} (r : Vals [x] us) : ∃ u, us = [u] ∧ RelV x u := by
  cases r with
  | cons r1 r2 => cases r2; exact ⟨_, rfl, r1⟩
end
end L2

namespace L2
open PySem PySem.Spec PyProof.Rows

/-! ### an instance, its attributes a map -/



section
variable {prog : Program} {w : World} {A : Around} {E : Value → Shared → Prop} {s : Shared} {K : PySem.W.Frag} {x dx C f : Addr} {mA : Str → Option Value} {name : Str} {v : Value}





end

/-! ### the attributes as a list of pairs -/


section
variable {P : Program} {w : World} {H H' : Hp} {h h' : Heap} {a C dx : Addr} {fs fs' : List (Str × V)}
end

/-! ### what of the text a class must have -/

section
variable {X : Cx} {pins : List (Addr × Obj)} {σ : St} {H : Hp} {s : Shared} {a C dx : Addr} {fs : List (Str × V)} {f : Str} {v : V} {A : Around} {E : Value → Shared → Prop}






end

/-! ### readings and rules -/

section
variable {X : Cx} {o e value : Expr} {f : Str} {pos pos' tpos : Pos} {ta tv : TE}

end

/-! ### isinstance -/
section
variable {X : Cx} {pins : List (Addr × Obj)} {σ : St} {H : Hp} {s : Shared} {A : Around} {E : Value → Shared → Prop} {Q : Value → Shared → Prop} {c : Value} {b : Bool}
end
end L2

namespace L2
open PySem PySem.Spec PyProof.Rows

/-! ### room -/
structure Room (k : Nat) (A : Around) : Prop where
  hd : A.handled = none
  dp : A.depth + 3 * k + 5 < recursionLimit
  un : A.units + 16 * k + 200 < cLine
theorem Room.mono {j k : Nat} {A : Around} (r : Room k A) (h : j ≤ k) : Room j A := ⟨r.hd, by have := r.dp; omega, by have := r.un; omega⟩
theorem Room.deeper {k : Nat} {A : Around} (r : Room (k + 1) A) (env : Env) : Room k (A.deeper env) :=
  ⟨r.hd, by have := r.dp; show A.depth + 1 + 3 * k + 5 < _; omega, by have := r.un; show A.units + 3 + 16 * k + 200 < _; omega⟩
theorem Room.depth {k : Nat} {A : Around} (r : Room k A) : A.depth < recursionLimit := by have := r.dp; omega

/-! ### argument lists and displays -/
def tNil : TA := fun _ H Q => Q [] H
def tCons (ta : TE) (tr : TA) : TA := fun σ H Q => ta σ H fun x H1 => tr σ H1 fun xs H2 => Q (x :: xs) H2
section
variable {X : Cx} {e : Expr} {es : List Expr} {te : TE} {t : TA} {pos : Pos}
theorem pa_nil : PA X [] tNil := fun _ _ _ _ H Q I h => Calls.spliced_nil ⟨[], H, I, .nil, h⟩
theorem pa_cons (ha : PE X e te) (hr : PA X es t) (hs : starEach (e :: es) X.env = (false, eval e X.env) :: starEach es X.env := by rfl) : PA X (e :: es) (tCons te t) := by
  intro pos pins s σ H Q I h
  rw [hs]
  show wpAny _ _ (spliced ((false, eval e X.env) :: backTo pos (starEach es X.env))) _ _ s
  refine Calls.spliced_cons (thn (ha pins s σ H _ I h) fun u s1 ⟨x, H1, I1, r1, q1⟩ => ?_)
  exact thn (hr pos pins s1 σ H1 _ I1 q1) fun us s2 ⟨xs, H2, I2, r2, q2⟩ => ⟨x :: xs, H2, I2, .cons r1 r2, q2⟩

def tLst (t : TA) : TE := fun σ H Q => t σ H fun xs H1 => xs.length ≤ sizeLine ∧ ∀ p, H1 p = none → Q (.ref p) (upd H1 p (.lst xs))
theorem pe_lst (h : PA X es t) : PE X (.List es pos) (tLst t) := by
  intro pins s σ H Q I hq
  refine wpAny_List_spliced (thn (h pos pins s σ H _ I hq) fun us s1 ⟨xs, H1, I1, r, z, q⟩ => ⟨by rw [← r.length]; exact z, ?_⟩)
  have hf : H1 s1.heap.objs.size = none := I1.hok.fresh (Nat.le_refl _)
  refine ⟨.ref s1.heap.objs.size, upd H1 s1.heap.objs.size (.lst xs), I1.laid (t' := s1.toks) (fun b u e => Heap.get?_push_of_some _ e) (Nat.le_refl _) ?_, rfl, q _ hf⟩
  exact ⟨z, us, 0, r, Heap.get?_push_size _ rfl⟩
end

/-! ### what a def promises -/
/-- a def's promise: the bound arguments in the parameters' order, the heap, the wanted end, the wanted exception -/
abbrev Sp := List V → Hp → VK → XK → Prop
/-- how an exception lies behind a call (file 08 gives it): the callers' frames, abstract heap and state ahead of the call, the wish, the exception, the state -/
abbrev CXT := List Env → Hp → Shared → XK → Value → Shared → Prop

/-- the state at a call -/
structure Env0 (P : Program) (w : World) (K : PySem.W.Frag) (mg : Str → Option Value) (base : Heap) (A : Around) (outer : List Env) (s : Shared) (H : Hp) : Prop where
  frames : A.frames = some outer
  mod : Mod K mg base
  bs : ∀ b o, base.get? b = some o → s.heap.get? b = some o ∧ H b = none
  bsz : base.objs.size ≤ s.heap.objs.size
  funs : s.heap.FunFrames base outer
  frf : ∀ b ∈ frs outer, H b = none
  hok : HOk P w H s.heap
  bare : AllBare s.gens
/-- a call's end -/
def CE (outer : List Env) (P : Program) (w : World) (H : Hp) (s : Shared) (Q : VK) (u : Value) (s' : Shared) : Prop :=
  ∃ v H', s'.os = s.os ∧ AllBare s'.gens ∧ Un (frs outer) [] H H' s.heap s'.heap ∧ HOk P w H' s'.heap ∧ RelV v u ∧ Q v H'
def CR (CX : CXT) (outer : List Env) (P : Program) (w : World) (H : Hp) (s : Shared) (Q : VK) (E : XK) (r : Result) (s' : Shared) : Prop :=
  match r with
  | .ok (.ret u) => CE outer P w H s Q u s'
  | .ok _ => False
  | .error e => CX outer H s E e s'
structure FnOk (P : Program) (w : World) (K : PySem.W.Frag) (mg : Str → Option Value) (base : Heap) (CX : CXT) (k : Nat) (f : Addr) (fd : FuncData) (ps : List Str) (sp : Sp) : Prop where
  len : ∀ vs H Q E, sp vs H Q E → vs.length = ps.length
  run : ∀ (A : Around) (outer : List Env) (s : Shared) (H : Hp) (args : Args) (us : List Value) (vs : List V) (Q : VK) (E : XK), Room k A → Env0 P w K mg base A outer s H → BindsTo s fd args (ps.zip us) → Vals vs us → sp vs H Q E →
    codeAny (model P w) A (.call (.ref f) args) (CR CX outer P w H s Q E) s


section
variable {X : Cx} {pins : List (Addr × Obj)} {σ : St} {H : Hp} {s s' : Shared}
/-- from a body: what a callee wants -/
theorem Inv.env0 (I : Inv X pins σ H s) : Env0 X.prog X.w X.K X.mg X.base X.A X.stack s H :=
  ⟨I.ok.frames, I.ok.mod, I.bs, Nat.le_trans I.ok.bsz I.sz, I.stack, I.stkFree, I.hok, I.bare⟩
/-- behind a call -/
theorem Inv.after {Q : VK} {u : Value} (I : Inv X pins σ H s) (h : CE X.stack X.prog X.w H s Q u s') : EP X pins σ Q u s' := by
  obtain ⟨v, H', os, bare, un, hok, r, q⟩ := h
  obtain ⟨hh, g, d, t, os'⟩ := s'
  obtain rfl : os' = s.os := os
  exact ⟨v, H', I.call (h' := hh) (g' := g) (d' := d) (t' := t) (ch := []) un hok bare (fun b z => absurd z (by simp)), r, q⟩
end

/-! ### calls -/
/-- f(..): the written arguments, then the defaults dvs; E: what is wanted of an exception -/
def tCall (sp : Sp) (dvs : List V) (E : XK) (t : TA) : TE := fun σ H Q => t σ H fun vs H1 => sp (vs ++ dvs) H1 Q E

/-- how the parameters are bound: us the positional arguments, kw the keywords' values by name, ds the defaults that fill up -/
def Binds (K : PySem.W.Frag) (fd : FuncData) (ps : List Str) (ds : List Value) : Prop :=
  ∀ (s : Shared) (us : List Value), K.In s.heap → (us ++ ds).length = ps.length → BindsTo s fd ⟨us, []⟩ (ps.zip (us ++ ds))
/-- every parameter is given -/
theorem Binds.all {K : PySem.W.Frag} {fd : FuncData} {ps : List Str} (h : ∀ us : List Value, us.length = ps.length → bindArgs fd ⟨us, []⟩ = pure (ps.zip us)) : Binds K fd ps [] := fun s us _ hl => by
  rw [List.append_nil] at hl ⊢
  exact .of_eq (h us hl)

/-- an exception of a callee reaches what this body wants of exceptions -/
def Passes (CX : CXT) (X : Cx) (E : XK) : Prop := ∀ (pins : List (Addr × Obj)) (σ : St) (H : Hp) (s : Shared) (e : Value) (s' : Shared), Inv X pins σ H s → CX X.stack H s E e s' → X.xe e s'

section
variable {X : Cx} {CX : CXT} {k : Nat} {f C : Addr} {fd : FuncData} {ps : List Str} {sp : Sp} {dvs : List V} {ds : List Value} {E : XK} {x m : Str} {p pos apos : Pos} {e o : Expr} {es : List Expr} {ta : TE} {t : TA}

/-- the callee runs -/
theorem run_fn {pins : List (Addr × Obj)} {σ : St} {H : Hp} {s : Shared} {Q : VK} {us : List Value} {vs : List V} (F : FnOk X.prog X.w X.K X.mg X.base CX k f fd ps sp) (hr : Room k X.A) (hb : Binds X.K fd ps ds) (hd : Vals dvs ds) (hx : Passes CX X E)
    (I : Inv X pins σ H s) (r : Vals vs us) (h : sp (vs ++ dvs) H Q E) : wpAny (model X.prog X.w) X.A (call (.ref f) us) (EP X pins σ Q) X.xe s := by
  have r2 : Vals (vs ++ dvs) (us ++ ds) := r.append hd
  have hl : (us ++ ds).length = ps.length := by rw [← r2.length]; exact F.len _ _ _ _ h
  refine wpAny_call (codeAny_mono (F.run X.A X.stack s H ⟨us, []⟩ (us ++ ds) (vs ++ dvs) Q E hr I.env0 (hb s us I.kIn hl) r2 h) fun r s' hq => ?_)
  cases r with
  | error e => exact hx pins σ H s e s' I hq
  | ok fl =>
    cases fl with
    | ret u => exact I.after hq
    | next => exact False.elim hq
    | brk => exact False.elim hq
    | cont => exact False.elim hq

theorem pe_call (F : FnOk X.prog X.w X.K X.mg X.base CX k f fd ps sp) (hr : Room k X.A) (hg : Gl X x) (hm : X.mg x = some (.ref f)) (hk : PySem.W.keepIn X.K (.ref f) = true) (hb : Binds X.K fd ps ds) (hd : Vals dvs ds) (hx : Passes CX X E)
    (ha : PA X (e :: es) t) (hdb : (x == ("__debug__" : Str)) = false := by decide) (he : starEach (e :: es) X.env = (false, eval e X.env) :: starEach es X.env := by rfl) (hpl : (backTo pos (starEach es X.env)).any (·.1) = false := by rfl) :
    PE X (.Call (.Name x p) (e :: es) [] pos) (tCall sp dvs E t) := by
  intro pins s σ H Q I h
  refine wpAny_Call_Name_kw (ld_glob I hg hm ?_ hdb)
  refine PySem.W.callWith_K (h₀ := X.base) I.ok.mod.kin hk (thn (ha pos pins s σ H _ I h) fun us s1 ⟨vs, H1, I1, r, q⟩ => ⟨I1.kIn, ?_⟩) he hpl
  exact run_fn F hr hb hd hx I1 r q



end

/-! ### keywords -/
section
variable {X : Cx} {CX : CXT} {k : Nat} {f C : Addr} {fd : FuncData} {ps ks : List Str} {sp : Sp} {E : XK} {x m : Str} {p pos apos kpos : Pos} {e o : Expr} {es : List Expr} {kws : List Keyword} {te ta : TE} {t tk : TA} {nm : Option Str}

variable {g : List Value → List Value → List Value} {gV : List V → List V → List V}
end

/-! ### a def's body keeps its promise -/
/-- names: the parameters first -/
structure FnScope (N P : List Str) (sc : Scope) : Prop where
  kind : sc.kind = .function
  co : sc.isCoroutine = false
  gen : sc.isGenerator = false
  nd : N.Nodup
  pre : N.take P.length = P
  par : ∀ x ∈ P, sc.names.lookup x = some .local ∨ sc.names.lookup x = some .cell
  nofree : ∀ y ∈ sc.names, y.2 ≠ .free

theorem bindL_out {kindOf : Str → Option NameKind} {x : Str} : ∀ {binds : List (Str × Value)} {m : Str → Option Value}, (∀ v, (x, v) ∉ binds) → bindL kindOf binds m x = m x
  | [], _, _ => rfl
  | (n, v) :: r, m, h => by
    unfold bindL
    rw [bindL_out fun w hw => h w (List.mem_cons_of_mem _ hw)]
    split
    · have : x ≠ n := by rintro rfl; exact h v List.mem_cons_self
      simp [this]
    · rfl
theorem bindC_out {kindOf : Str → Option NameKind} {x : Str} : ∀ {binds : List (Str × Value)} {m : Str → Option Value}, (∀ v, (x, v) ∉ binds) → bindC kindOf binds m x = m x
  | [], _, _ => rfl
  | (n, v) :: r, m, h => by
    unfold bindC
    rw [bindC_out fun w hw => h w (List.mem_cons_of_mem _ hw)]
    split
    · rfl
    · have : x ≠ n := by rintro rfl; exact h v List.mem_cons_self
      simp [this]
theorem bindL_get {kindOf : Str → Option NameKind} {x : Str} {v : Value} : ∀ {P : List Str} {vs : List Value} {i : Nat} {m : Str → Option Value}, P.Nodup → P[i]? = some x → vs[i]? = some v → kindOf x = some .local →
    bindL kindOf (P.zip vs) m x = some v
  | [], _, _, _, _, h, _, _ => by simp at h
  | _ :: _, [], _, _, _, _, h, _ => by simp at h
  | p :: P, w :: vs, 0, m, nd, h1, h2, hk => by
    simp at h1 h2; subst h1; subst h2
    show bindL kindOf ((p, w) :: P.zip vs) m p = _
    unfold bindL
    rw [bindL_out fun v hv => (List.nodup_cons.mp nd).1 (List.of_mem_zip hv).1, if_pos hk]
    simp
  | p :: P, w :: vs, i + 1, m, nd, h1, h2, hk => by
    show bindL kindOf ((p, w) :: P.zip vs) m x = _
    unfold bindL
    exact bindL_get (i := i) (List.nodup_cons.mp nd).2 (by simpa using h1) (by simpa using h2) hk
theorem bindC_get {kindOf : Str → Option NameKind} {x : Str} {v : Value} : ∀ {P : List Str} {vs : List Value} {i : Nat} {m : Str → Option Value}, P.Nodup → P[i]? = some x → vs[i]? = some v → kindOf x ≠ some .local →
    bindC kindOf (P.zip vs) m x = some v
  | [], _, _, _, _, h, _, _ => by simp at h
  | _ :: _, [], _, _, _, _, h, _ => by simp at h
  | p :: P, w :: vs, 0, m, nd, h1, h2, hk => by
    simp at h1 h2; subst h1; subst h2
    show bindC kindOf ((p, w) :: P.zip vs) m p = _
    unfold bindC
    rw [bindC_out fun v hv => (List.nodup_cons.mp nd).1 (List.of_mem_zip hv).1, if_neg hk]
    simp
  | p :: P, w :: vs, i + 1, m, nd, h1, h2, hk => by
    show bindC kindOf ((p, w) :: P.zip vs) m x = _
    unfold bindC
    exact bindC_get (i := i) (List.nodup_cons.mp nd).2 (by simpa using h1) (by simpa using h2) hk

/-- the names' values at the entry -/
def start (N : List Str) (vs : List V) : St := vs.map some ++ List.replicate (N.length - vs.length) none

/-- the context of a def's body, at its entry; an exception leaves the frame, then lies as CX says -/
def cxOf (CX : CXT) (P : Program) (w : World) (K : PySem.W.Frag) (mg : Str → Option Value) (base : Heap) (N : List Str) (qual : Str) (scope : Scope) (f : Addr) (cd : Value) (A : Around) (outer : List Env) (s : Shared) (H : Hp) (E : XK) : Cx where
  prog := P
  w := w
  K := K
  mg := mg
  base := base
  A := A.deeper (envOfC qual scope s.heap.objs.size f cd)
  N := N
  s_0 := s
  H_0 := H
  env := envOfC qual scope s.heap.objs.size f cd
  outer := outer
  stack := envOfC qual scope s.heap.objs.size f cd :: outer
  ex := []
  calm := true
  fn := fun _ => true
  pn := []
  xe := fun e s' => wpAny (model P w) (A.deeper (envOfC qual scope s.heap.objs.size f cd)) (leaving (envOfC qual scope s.heap.objs.size f cd) e) (fun _ s'' => CX outer H s E e s'') (fun e' s'' => CX outer H s E e' s'') s'

theorem cell_has {sc : Scope} {n : Nat} {x : Str} (h : sc.names.lookup x = some .cell) : ∃ c, (cellsFrom n sc.names []).lookup x = some c := by
  have q := PySem.W.cellsFrom_some sc.names n [] (.inl h)
  exact Option.isSome_iff_exists.mp q

theorem inv_start {CX : CXT} {P : Program} {w : World} {K : PySem.W.Frag} {mg : Str → Option Value} {base : Heap} {N ps : List Str} {qual : Str} {scope : Scope} {f : Addr} {cd : Value} {A : Around} {outer : List Env} {s s1 : Shared} {H : Hp} {E : XK} {us : List Value} {vs : List V}
    (S : FnScope N ps scope) (hd : A.handled = none) (e0 : Env0 P w K mg base A outer s H) (hl : vs.length = ps.length) (r : Vals vs us)
    (x : InCallC s s.heap.objs.size (bindL (envOfC qual scope s.heap.objs.size f cd).kindOf (ps.zip us) fun _ => none) (cellsFrom (s.heap.objs.size + 1) scope.names []) (bindC (envOfC qual scope s.heap.objs.size f cd).kindOf (ps.zip us) fun _ => none) s1) :
    Inv (cxOf CX P w K mg base N qual scope f cd A outer s H E) [] (start N vs) H s1 := by
  have hpl : ps.length ≤ N.length := by have := congrArg List.length S.pre; rw [List.length_take] at this; omega
  obtain ⟨h1, tk, rfl, hk⟩ := x.done
  have noA : ∀ b : Addr, b ∉ (cxOf CX P w K mg base N qual scope f cd A outer s H E).ex := fun b z => absurd (show b ∈ ([] : List Addr) from z) (by simp)
  refine ⟨⟨e0.mod, S.kind, rfl, rfl, Nat.le_refl _, fun y z c h1 h2 => ?_, fun y hy => ?_, fun y c _ h => ?_, fun _ => hd, Around.frames_deeper e0.frames, .inr ⟨rfl, rfl⟩, fun b z => absurd z (noA b), e0.bs, e0.bsz, fun b _ _ => noA b, fun b z => absurd z (noA b), e0.funs, e0.frf⟩,
    rfl, e0.bare, Un.kept hk, ⟨_, x.toInCall.ns, fun i y v h1 h2 h3 => ?_⟩, fun y c h => ⟨_, x.cell y c h⟩, e0.hok.fresh (Nat.le_refl _), fun y c h => ?_, fun p hp => absurd (show p ∈ ([] : List (Addr × Obj)) from hp) (by simp), e0.hok.kept hk, ?_⟩
  · exact name_of_addr x.apart (PySem.mem_of_lookup h1) (PySem.mem_of_lookup h2)
  · have hy : scope.names.lookup y = some .cell ∨ scope.names.lookup y = some .free := hy
    rcases hy with hy | hy
    · exact cell_has hy
    · exact absurd rfl (S.nofree _ (PySem.mem_of_lookup hy))
  · exact Nat.le_of_lt (x.above y c (PySem.mem_of_lookup h))
  · have hi : i < vs.length := by
      unfold start at h2
      by_cases hi : i < vs.length
      · exact hi
      · rw [List.getElem?_append_right (by simpa using hi)] at h2
        rw [List.getElem?_replicate] at h2
        split at h2 <;> cases h2
    have ha : vs[i]? = some v := by
      unfold start at h2
      rw [List.getElem?_append_left (by simpa using hi), List.getElem?_map] at h2
      cases e : vs[i]? with
      | none => rw [e] at h2; cases h2
      | some a => rw [e] at h2; cases h2; rfl
    obtain ⟨u, hu, rv⟩ := r.get ha
    have hp : ps[i]? = some y := by
      rw [← S.pre, List.getElem?_take_of_lt (by omega)]; exact h1
    have ndP : ps.Nodup := by rw [← S.pre]; exact S.nd.sublist (List.take_sublist _ _)
    refine ⟨u, rv, ?_⟩
    rcases S.par y (List.mem_of_getElem? hp) with k | k
    · exact .inl ⟨k, bindL_get ndP hp hu k⟩
    · obtain ⟨c, e⟩ := cell_has (n := s.heap.objs.size + 1) k
      refine .inr ⟨.inl k, c, e, ?_⟩
      have q := x.cell y c e
      rw [bindC_get ndP hp hu (by show scope.names.lookup y ≠ _; rw [k]; decide)] at q
      exact q
  · exact e0.hok.fresh (Nat.le_of_lt (x.above y c (PySem.mem_of_lookup h)))
  · unfold start
    show _ = N.length
    rw [List.length_append, List.length_map, List.length_replicate]
    omega

/-- THE RULE: a def (or a method) of the text, by its body. The body's reading t is chosen for each entry; it is run at the parameters' values -/
theorem fn_of {CX : CXT} {P : Program} {w : World} {K : PySem.W.Frag} {mg : Str → Option Value} {base : Heap} {k : Nat} {f : Addr} {name qual : Str} {params : Arguments} {body : List Stmt} {scope : Scope} {dV kV doc pm cdv ct oc : Value} {an od : Option Addr}
    {osl : Array (Option Value)} {N ps : List Str} {sp : Sp} (lk : K.lookup f = some ⟨oc, od, .func (PySem.W.fnOf name qual params body scope dV kV doc pm an cdv ct), osl⟩) (hcd : PySem.W.codeIn K cdv qual = true) (S : FnScope N ps scope)
    (len : ∀ vs H Q E, sp vs H Q E → vs.length = ps.length)
    (hbody : ∀ (A : Around) (outer : List Env) (s : Shared) (H : Hp) (vs : List V) (Q : VK) (E : XK), Room k (A.deeper (envOfC qual scope s.heap.objs.size f cdv)) → sp vs H Q E →
      ∃ t, PSs (cxOf CX P w K mg base N qual scope f cdv A outer s H E) body t ∧ t { nx := fun _ H' => Q .non H', rt := Q } (start N vs) H) :
    FnOk P w K mg base CX (k + 1) f (PySem.W.fnOf name qual params body scope dV kV doc pm an cdv ct) ps sp := by
  refine ⟨len, fun A outer s H args us vs Q E hr e0 hb r hsp => ?_⟩
  have hl := len _ _ _ _ hsp
  have KX : K.In s.heap := e0.mod.kin.keeps fun b o e => (e0.bs b o e).1
  have lim : s.heap.NoLimit := e0.mod.nolimit.keeps fun b o e => (e0.bs b o e).1
  have hkind : ∀ y ∈ ps.zip us, scope.names.lookup y.1 = some .local ∨ (scope.names.lookup y.1 = some .cell ∧ ((cellsFrom (s.heap.objs.size + 1) scope.names []).lookup y.1).isSome = true) := fun ⟨n, v⟩ hy => by
    rcases S.par n (List.of_mem_zip hy).1 with q | q
    · exact .inl q
    · exact .inr ⟨q, PySem.W.cellsFrom_some _ _ _ (.inl q)⟩
  refine codeAny_call_function hr.depth (KX _ _ lk) rfl S.co S.gen rfl (PySem.W.codeRec_of KX hcd) (hb _ _ _ _ ?_)
  refine wpAny_newFunctionEnv_cells S.kind hkind fun env he s1 x => ?_
  subst he
  refine ⟨lim.keeps x.toInCall.keep, codeAny_func ?_⟩
  obtain ⟨t, ht, hq⟩ := hbody A outer s H vs Q E (hr.deeper _) hsp
  have I : Inv (cxOf CX P w K mg base N qual scope f cdv A outer s H E) [] (start N vs) H s1 := inv_start S hr.hd e0 hl r x
  refine wpAny_mono (ht [] s1 (start N vs) H _ I hq) (fun fl s' hs => ?_) fun e s' hs => hs
  have fin : ∀ {σ' : St} {H' : Hp} {v : V} {u : Value}, Inv (cxOf CX P w K mg base N qual scope f cdv A outer s H E) [] σ' H' s' → RelV v u → Q v H' → CE outer P w H s Q u s' :=
    fun {σ' H' v u} J rv q => ⟨v, H', J.os, J.bare, J.base, J.hok, rv, q⟩
  cases fl with
  | ret u =>
    obtain ⟨v, σ', H', J, rv, q⟩ := hs
    exact fin J rv q
  | next =>
    obtain ⟨σ', H', J, q⟩ := hs
    exact fin (v := V.non) (u := Value.none) J rfl q
  | brk =>
    obtain ⟨_, _, _, q⟩ := hs
    exact False.elim q
  | cont =>
    obtain ⟨_, _, _, q⟩ := hs
    exact False.elim q
end L2

namespace L2
open PySem PySem.Spec PyProof.Rows
section
variable {X : Cx} {x : Str} {p pos : Pos} {e : Expr} {es : List Expr} {t : TA} {id T : String} {r : List V → Hp → VK → Prop}

def tCB (r : List V → Hp → VK → Prop) (t : TA) : TE := fun σ H Q => t σ H fun vs H1 => r vs H1 Q
/-- f(e, ..), f a built-in function -/
theorem pe_callB (hc : CallR X (.builtin id) r) (hg : Gl X x) (hm : X.mg x = none) (hv : bootBuiltins x = some (.builtin id)) (ha : PA X (e :: es) t) (hn : x ≠ "__name__" := by decide) (hdb : (x == ("__debug__" : Str)) = false := by decide)
    (he : starEach (e :: es) X.env = (false, eval e X.env) :: starEach es X.env := by rfl) (hpl : (backTo pos (starEach es X.env)).any (·.1) = false := by rfl) : PE X (.Call (.Name x p) (e :: es) [] pos) (tCB r t) := by
  intro pins s σ H Q I h
  refine wpAny_Call_Name_kw (ld_blt I hg hm hv ?_ hn hdb)
  exact PyProof.Rows.callWith_builtin1 (thn (ha pos pins s σ H _ I h) fun us s1 ⟨vs, H1, I1, r1, q1⟩ => hc pins s1 σ H1 vs us Q I1 r1 q1) he hpl
/-- T(e, ..), T a built-in type -/
theorem pe_callTy (hc : CallR X (.type T) r) (hg : Gl X x) (hm : X.mg x = none) (hv : bootBuiltins x = some (.type T)) (ha : PA X (e :: es) t) (hn : x ≠ "__name__" := by decide) (hdb : (x == ("__debug__" : Str)) = false := by decide)
    (he : starEach (e :: es) X.env = (false, eval e X.env) :: starEach es X.env := by rfl) (hpl : (backTo pos (starEach es X.env)).any (·.1) = false := by rfl) : PE X (.Call (.Name x p) (e :: es) [] pos) (tCB r t) := by
  intro pins s σ H Q I h
  refine wpAny_Call_Name_kw (ld_blt I hg hm hv ?_ hn hdb)
  exact PyProof.Rows.callWith_type1 (thn (ha pos pins s σ H _ I h) fun us s1 ⟨vs, H1, I1, r1, q1⟩ => hc pins s1 σ H1 vs us Q I1 r1 q1) he hpl
end
end L2

namespace HT
open PySem PyProof.Rows



section
open PySem.SeqAt
open PySem.AutoSeq1 (wpAny_loadPart')
open PySem.MeetsSeq PySem.MeetsSeq2 PySem.MeetsSeq3

end

section
variable {prog : Program} {w : World} {A : Around} {E : Value → Shared → Prop} {s : Shared}



/-! ### t[a:b], not the whole -/

end
end HT

namespace L2
open PySem PySem.Spec PyProof.Rows

/-! ### the parts of a slice -/


section
variable {X : Cx} {e : Expr} {te : TE} {lo hi : Option Expr} {tl th : TO} {pos p2 : Pos}




/-! ### t < u, t + u -/
end
end L2

namespace L2
open PySem PySem.Spec PyProof.Rows

/-! ### places -/
/-- the place that an index of any sign means -/
def ixN (n : Nat) (i : Int) : Option Nat := if 0 ≤ i then (if i < n then some i.toNat else none) else if -(n : Int) ≤ i then some (i + n).toNat else none
def atI {α : Type} (xs : List α) (i : Int) : Option α := (ixN xs.length i).bind fun j => xs[j]?
theorem ixN_seq {n : Nat} {i : Int} {j : Nat} (h : ixN n i = some j) : seqIndex? i n = some j ∧ j < n ∧ -(n : Int) ≤ i ∧ i < n := by
  unfold ixN at h
  by_cases h0 : 0 ≤ i
  · rw [if_pos h0] at h
    by_cases h1 : i < n
    · rw [if_pos h1] at h
      have e : i.toNat = j := Option.some.inj h
      exact ⟨by rw [seqIndex_of h0 h1, e], by omega, by omega, h1⟩
    · rw [if_neg h1] at h; cases h
  · rw [if_neg h0] at h
    by_cases h1 : -(n : Int) ≤ i
    · rw [if_pos h1] at h
      have e : (i + n).toNat = j := Option.some.inj h
      exact ⟨by rw [seqIndex_neg (by omega) h1, e], by omega, h1, by omega⟩
    · rw [if_neg h1] at h; cases h
theorem atI_get {α : Type} {xs : List α} {i : Int} {v : α} (h : atI xs i = some v) : ∃ j, seqIndex? i xs.length = some j ∧ xs[j]? = some v ∧ j < xs.length ∧ -(xs.length : Int) ≤ i ∧ i < xs.length := by
  unfold atI at h
  cases e : ixN xs.length i with
  | none => rw [e] at h; cases h
  | some j =>
    rw [e] at h
    obtain ⟨h1, h2, h3, h4⟩ := ixN_seq e
    exact ⟨j, h1, h, h2, h3, h4⟩
theorem atI_nat {α : Type} {xs : List α} {j : Nat} {v : α} (h : xs[j]? = some v) : atI xs (j : Int) = some v := by
  have hj : j < xs.length := (List.getElem?_eq_some_iff.mp h).1
  have e : ixN xs.length (j : Int) = some j := by
    unfold ixN
    rw [if_pos (by omega), if_pos (by omega)]; simp
  unfold atI; rw [e]; exact h

/-! ### what may be subscripted -/
/-- what stands as an index of a plain subscript -/
def PlainIx (b : Expr) : Prop := ∀ o i, subscripted b false o i = operate [o, i] (getItem o i)
/-- a subscript by values -/
def IxR (X : Cx) (r : R2) : Prop :=
  ∀ (value slice : Expr) (pins : List (Addr × Obj)) (s : Shared) (σ : St) (H : Hp) (x y : V) (v u : Value) (Q : VK), Inv X pins σ H s → RelV x v → RelV y u → r x y H Q →
    subscripted slice false v u = operate [v, u] (getItem v u) → wpAny (model X.prog X.w) X.A (subscriptTail value slice v u) (EP X pins σ Q) X.xe s
/-- a call of a builtin's method by values: the receiver, the arguments -/
def MtR (X : Cx) (id : String) (r : V → List V → Hp → VK → Prop) : Prop :=
  ∀ (pins : List (Addr × Obj)) (s : Shared) (σ : St) (H : Hp) (x : V) (xs : List V) (v : Value) (us : List Value) (Q : VK), Inv X pins σ H s → RelV x v → Vals xs us → r x xs H Q →
    wpAny (model X.prog X.w) X.A (call (.builtin id) (v :: us)) (EP X pins σ Q) X.xe s
section
variable {X : Cx} {a b : Expr} {ta tb : TE} {pos : Pos}
/-- a[b] -/
theorem pe_ix {r : R2} (hr : IxR X r) (ha : PE X a ta) (hb : PE X b tb) (hs : PlainIx b) : PE X (.Subscript a b pos) (tOp r ta tb) := by
  intro pins s σ H Q I h
  exact Subscript_ (binT ha hb I h fun v u s2 x y H2 I2 rx ry q => hr a b pins s2 σ H2 x y v u Q I2 rx ry q (hs _ _))

def rIxL (K : PySem.W.Frag) : R2 := fun x y H Q => ∃ p xs i v, x = .ref p ∧ y = .int i ∧ SqL K H p xs ∧ atI xs i = some v ∧ Q v H
theorem ix_list : IxR X (rIxL X.K) := by
  intro value slice pins s σ H x y v u Q I rx ry h hs
  obtain ⟨p, xs, i, z, rfl, rfl, hq, he, q⟩ := h
  cases rx
  obtain ⟨t, rfl⟩ := ry
  obtain ⟨its, r, pl, hz⟩ := I.list hq
  obtain ⟨j, h1, h2, h3, h4, h5⟩ := atI_get he
  obtain ⟨w, ew, rw'⟩ := r.get h2
  have hl := r.length
  have hn := line63
  have fin : EP X pins σ Q w s := ⟨z, H, I, rw', q⟩
  by_cases h0 : 0 ≤ i
  · have hj : i.toNat = j := by
      rw [seqIndex_of h0 h5] at h1
      exact Option.some.inj h1
    exact item_listR pl.isList h0 (by omega) (by rw [hj]; simpa using ew) fin hs
  · have hj : (i + (its.toArray.size : Int)).toNat = j := by
      rw [seqIndex_neg (by omega) h4] at h1
      rw [List.size_toArray, ← hl]
      exact Option.some.inj h1
    exact subscriptTail_builtinR (x := w) pl.isList.typeIs slot_list_getitem.lookup
      (wpAny_getItem_list_neg (Q := fun r s' => r = w ∧ EP X pins σ Q r s') pl.isList (by omega) (by rw [List.size_toArray] <;> omega) (by omega) (by rw [hj]; simpa using ew) ⟨rfl, fin⟩) hs

/-! ### xs[i] = v, any sign -/
/-- the list's object behind a store -/
theorem mapSeq_set (its : List Value) (n j : Nat) (u : Value) : Obj.mapSeq (·.setIfInBounds j u) { cls := .type "list", data := .seq its.toArray n } = { cls := .type "list", data := .seq (its.set j u).toArray n } := by
  simp [Obj.mapSeq]
theorem Inv.lst {pins : List (Addr × Obj)} {σ : St} {H : Hp} {s : Shared} {p : Addr} {xs : List V} (I : Inv X pins σ H s) (h : H p = some (.lst xs)) :
    ∃ (its : List Value) (n : Nat), Vals xs its ∧ s.heap.get? p = some { cls := .type "list", data := .seq its.toArray n } ∧ xs.length ≤ sizeLine := by
  obtain ⟨z, its, n, r, e⟩ := I.hok p _ h
  exact ⟨its, n, r, e, z⟩
/-- the list at p is written by an update of its object -/
theorem Inv.lstUpd {pins : List (Addr × Obj)} {σ : St} {H : Hp} {s : Shared} {p : Addr} {xs ys : List V} {its its' : List Value} {n n' : Nat} {f : Obj → Obj} (I : Inv X pins σ H s) (h : H p = some (.lst xs))
    (ho : s.heap.get? p = some { cls := .type "list", data := .seq its.toArray n }) (hf : f { cls := .type "list", data := .seq its.toArray n } = { cls := .type "list", data := .seq its'.toArray n' }) (r : Vals ys its') (hz : ys.length ≤ sizeLine) (t : Nat) :
    Inv X pins σ (upd H p (.lst ys)) { s with heap := s.heap.update p f, toks := t } := by
  have e : (s.heap.update p f).get? p = some { cls := .type "list", data := .seq its'.toArray n' } := by
    rw [Heap.get?_update_self f ho (by rw [hf] <;> rfl), hf]
  refine I.write (x := p) (e := p) (by rw [h]; trivial) (.inl rfl) (fun b u hb q => (Heap.get?_update_other _ _ (Ne.symm hb)).trans q) ⟨_, e⟩ ?_
  exact ⟨hz, its', n', r, e⟩
def rSetL : V → V → V → Hp → (Hp → Prop) → Prop := fun o i v H Q => ∃ p xs k j, o = .ref p ∧ i = .int k ∧ H p = some (.lst xs) ∧ ixN xs.length k = some j ∧ Q (upd H p (.lst (xs.set j v)))
theorem set_list : PSet X rSetL := by
  intro pins s σ H o i v ov iv u Q I ro ri rv h
  obtain ⟨p, xs, k, j, rfl, rfl, hp, hj, q⟩ := h
  cases ro
  obtain ⟨t, rfl⟩ := ri
  obtain ⟨its, n, r, ho, hz⟩ := I.lst hp
  obtain ⟨h1, h2, h3, h4⟩ := ixN_seq hj
  have hl := r.length
  have hn := line63
  have I' : Inv X pins σ (upd H p (.lst (xs.set j v))) { s with heap := s.heap.update p (Obj.mapSeq (·.setIfInBounds j u)) } :=
    I.lstUpd hp ho (mapSeq_set its n j u) (r.set rv j) (by rw [List.length_set]; exact hz) s.toks
  by_cases h0 : 0 ≤ k
  · have hk : k.toNat = j := by
      rw [seqIndex_of h0 h4] at h1
      exact Option.some.inj h1
    exact PySem.W.ki_setAt ho h0 (by omega) (by rw [List.size_toArray, ← hl]; exact h4) (by rw [hk]; exact ⟨_, I', q⟩)
  · have hk : (k + (its.toArray.size : Int)).toNat = j := by
      rw [seqIndex_neg (by omega) h3] at h1
      rw [List.size_toArray, ← hl]
      exact Option.some.inj h1
    exact PySem.W.ki_setBack ho (by omega) (by rw [List.size_toArray, ← hl]; exact h3) (by omega) (by rw [hk]; exact ⟨_, I', q⟩)

/-! ### slices -/

/-! ### in, not in: flat items -/
def flatV : V → Bool
  | .non => true
  | .bl _ => true
  | .int _ => true
  | .str _ => true
  | _ => false
/-- == of flat values -/
def eqV : V → V → Bool
  | .non, .non => true
  | .bl a, .bl b => a == b
  | .bl a, .int b => (if a then 1 else 0) == b
  | .int a, .bl b => a == (if b then 1 else 0)
  | .int a, .int b => a == b
  | .str a, .str b => a == b
  | _, _ => false
theorem eqAt_V {A : Around} {s : Shared} {y x : V} {u v : Value} (ry : RelV y u) (rx : RelV x v) (fy : flatV y = true) (fx : flatV x = true) : SeqAt.EqAt A s u v (eqV y x) := by
  cases y with
  | non =>
    cases ry
    cases x with
    | non => cases rx; exact SeqAt.EqAt.same _
    | bl b => cases rx; exact SeqAt.EqAt.none_bool b
    | int b => obtain ⟨t, rfl⟩ := rx; exact SeqAt.EqAt.none_int b t
    | str b => obtain ⟨t, rfl⟩ := rx; exact SeqAt.EqAt.none_str b t
    | _ => exact absurd (show false = true from fx) Bool.false_ne_true
  | bl a =>
    cases ry
    cases x with
    | non => cases rx; exact SeqAt.EqAt.bool_none a
    | bl b => cases rx; exact SeqAt.EqAt.bool_bool a b
    | int b => obtain ⟨t, rfl⟩ := rx; exact SeqAt.EqAt.bool_int a b t
    | str b => obtain ⟨t, rfl⟩ := rx; exact SeqAt.EqAt.bool_str a b t
    | _ => exact absurd (show false = true from fx) Bool.false_ne_true
  | int a =>
    obtain ⟨t', rfl⟩ := ry
    cases x with
    | non => cases rx; exact SeqAt.EqAt.int_none a t'
    | bl b => cases rx; exact SeqAt.EqAt.int_bool a t' b
    | int b => obtain ⟨t, rfl⟩ := rx; exact SeqAt.EqAt.int_int a t' b t
    | str b => obtain ⟨t, rfl⟩ := rx; exact SeqAt.EqAt.int_str a t' b t
    | _ => exact absurd (show false = true from fx) Bool.false_ne_true
  | str a =>
    obtain ⟨t', rfl⟩ := ry
    cases x with
    | non => cases rx; exact SeqAt.EqAt.str_none a t'
    | bl b => cases rx; exact SeqAt.EqAt.str_bool a t' b
    | int b => obtain ⟨t, rfl⟩ := rx; exact SeqAt.EqAt.str_int a t' b t
    | str b => obtain ⟨t, rfl⟩ := rx; exact SeqAt.EqAt.str_str a t' b t
    | _ => exact absurd (show false = true from fx) Bool.false_ne_true
  | _ => exact absurd (show false = true from fy) Bool.false_ne_true
/-- the items' answers, read off the values (a value's own answer does not lean on its token) -/
def eqU (x : V) (u : Value) : Bool := match u with
  | .none => eqV .non x
  | .bool b => eqV (.bl b) x
  | .int i _ => eqV (.int i) x
  | .str z _ => eqV (.str z) x
  | _ => false
theorem eqU_of {x y : V} {u : Value} (r : RelV y u) (f : flatV y = true) : eqU x u = eqV y x := by
  cases y with
  | non => cases r; rfl
  | bl b => cases r; rfl
  | int i => obtain ⟨t, rfl⟩ := r; rfl
  | str z => obtain ⟨t, rfl⟩ := r; rfl
  | _ => exact absurd (show false = true from f) Bool.false_ne_true
theorem mem_eqAt {A : Around} {s : Shared} {x : V} {v : Value} (rx : RelV x v) (fx : flatV x = true) : ∀ {xs : List V} {us : List Value}, Vals xs us → xs.all flatV = true → ∀ u ∈ us, SeqAt.EqAt A s u v (eqU x u)
  | _, _, .nil, _ => fun u hu => by cases hu
  | y :: xs, u :: us, .cons r t, f => fun u' hu => by
    rw [List.all_cons, Bool.and_eq_true] at f
    rcases List.mem_cons.mp hu with rfl | hu
    · rw [eqU_of r f.1]; exact eqAt_V r rx f.1 fx
    · exact mem_eqAt rx fx t f.2 u' hu

/-! ### len, list(x), tuple(x) of any list or tuple that is read -/
theorem call_len_seq : CallR X (.builtin "len") (fun xs H Q => ∃ p ys, xs = [.ref p] ∧ (SqL X.K H p ys ∨ SqT X.K H p ys) ∧ Q (.int ys.length) H) := by
  intro pins s σ H xs us Q I r h
  obtain ⟨p, ys, rfl, hq, q⟩ := h
  obtain ⟨u, rfl, rx⟩ := vals1 r
  cases rx
  have hn := line63
  rcases hq with hq | hq
  · obtain ⟨its, r', pl, hz⟩ := I.list hq
    have hlen := r'.length
    exact Calls.call_len_list pl.isList (by simp only [List.size_toArray] <;> omega) ⟨.int ys.length, H, I.tok _, ⟨s.toks + 1, by rw [List.size_toArray, hlen]⟩, q⟩
  · obtain ⟨its, r', pl, hz⟩ := I.tuple hq
    have hlen := r'.length
    exact len_tuple pl (by simp only [List.size_toArray] <;> omega) ⟨.int ys.length, H, I.tok _, ⟨s.toks + 1, by rw [List.size_toArray, hlen]⟩, q⟩
theorem call_list_of : CallR X (.type "list") (fun xs H Q => ∃ p ys, xs = [.ref p] ∧ (SqL X.K H p ys ∨ SqT X.K H p ys) ∧ ∀ l, H l = none → Q (.ref l) (upd H l (.lst ys))) := by
  intro pins s σ H xs us Q I r h
  obtain ⟨p, ys, rfl, hq, q⟩ := h
  obtain ⟨u, rfl, rx⟩ := vals1 r
  cases rx
  have fin : ∀ (its : List Value), Vals ys its → ys.length ≤ sizeLine → ∀ (h' : Heap) (c' : Nat), (∀ b o', s.heap.get? b = some o' → h'.get? b = some o') →
      h'.get? s.heap.objs.size = some { cls := .type "list", dict := none, data := .seq its.toArray c', slots := #[] } → EP X pins σ Q (.ref s.heap.objs.size) { s with heap := h' } := fun its r' hz h' c' kp e =>
    ⟨.ref s.heap.objs.size, _, I.laid (t' := s.toks) kp (Nat.le_refl _) (show ObjOk X.prog X.w _ h' _ (.lst ys) from ⟨hz, its, c', r', e⟩), rfl, q _ (I.hok.fresh (Nat.le_refl _))⟩
  rcases hq with hq | hq
  · obtain ⟨its, r', pl, hz⟩ := I.list hq
    have hlen := r'.length
    obtain ⟨o, ho, hc, n, hd⟩ := pl.isList
    exact call_list_seq p (.inl rfl) ho hc hd (fun h' c' kp e => fin its r' hz h' c' kp e) (by simp only [List.size_toArray] <;> omega)
  · obtain ⟨its, r', pl, hz⟩ := I.tuple hq
    have hlen := r'.length
    obtain ⟨o, ho, hc, n, hd⟩ := pl
    exact call_list_seq p (.inr rfl) ho hc hd (fun h' c' kp e => fin its r' hz h' c' kp e) (by simp only [List.size_toArray] <;> omega)

/-! ### the call of a builtin's method: o.m(..) -/
/-- the value is of that builtin type -/
def tyV (K : PySem.W.Frag) (T : String) (x : V) (H : Hp) : Prop := match x with
  | .str _ => T = "str"
  | .int _ => T = "int"
  | .ref p => (T = "list" ∧ ∃ xs, SqL K H p xs) ∨ (T = "tuple" ∧ ∃ o, K.lookup p = some o ∧ o.cls = .type "tuple" ∧ o.dict = none) ∨
      (T = "dict" ∧ ((∃ kvs, H p = some (.dK kvs)) ∨ ∃ kvs, H p = some (.dT kvs))) ∨ (T = "set" ∧ ∃ S n, H p = some (.set S n))
  | _ => False
theorem tyV_is {pins : List (Addr × Obj)} {σ : St} {H : Hp} {s : Shared} {T : String} {x : V} {v : Value} (I : Inv X pins σ H s) (r : RelV x v) (ty : tyV X.K T x H) :
    s.TypeIs v T ∧ ∀ a, v = .ref a → ∃ ob, s.heap.get? a = some ob ∧ ob.dict = none := by
  cases x with
  | str z =>
    obtain ⟨t, rfl⟩ := r
    cases (show T = "str" from ty)
    exact ⟨typeIs_str s z t, fun _ e => nomatch e⟩
  | int i =>
    obtain ⟨t, rfl⟩ := r
    cases (show T = "int" from ty)
    exact ⟨typeIs_int s i t, fun _ e => nomatch e⟩
  | ref p =>
    cases r
    rcases ty with ⟨rfl, xs, hq⟩ | ⟨rfl, o, hk, hc, hd⟩ | ⟨rfl, hk⟩ | ⟨rfl, S, n, hk⟩
    · obtain ⟨its, _, pl, _⟩ := I.list hq
      refine ⟨pl.isList.typeIs, fun a e => ?_⟩
      cases e
      obtain ⟨o, n, e, c, hd, _⟩ := pl
      exact ⟨o, e, hd⟩
    · refine ⟨⟨o, I.kIn p o hk, hc⟩, fun a e => ?_⟩
      cases e
      exact ⟨o, I.kIn _ o hk, hd⟩
    · have z : ∃ o, s.heap.get? p = some o ∧ o.ExactDict := by
        rcases hk with ⟨kvs, hk⟩ | ⟨kvs, hk⟩
        · obtain ⟨_, _, _, _, o, _, _, e, ex, _⟩ := I.hok p _ hk
          exact ⟨o, e, ex⟩
        · obtain ⟨_, _, _, _, o, _, _, e, ex, _⟩ := I.hok p _ hk
          exact ⟨o, e, ex⟩
      obtain ⟨o, e, ex⟩ := z
      refine ⟨⟨o, e, ex.1⟩, fun a e2 => ?_⟩
      cases e2
      exact ⟨o, e, ex.2.1⟩
    · obtain ⟨o, _, _, _, e, ex, _⟩ := I.hok p _ hk
      refine ⟨⟨o, e, ex.1⟩, fun a e2 => ?_⟩
      cases e2
      exact ⟨o, e, ex.2.1⟩
  | _ => exact False.elim ty
def tBM0 (K : PySem.W.Frag) (T : String) (r : V → List V → Hp → VK → Prop) (to : TE) : TE := fun σ H Q => to σ H fun x H1 => tyV K T x H1 ∧ r x [] H1 Q
def tBM (K : PySem.W.Frag) (T : String) (r : V → List V → Hp → VK → Prop) (to : TE) (t : TA) : TE := fun σ H Q => to σ H fun x H1 => tyV K T x H1 ∧ t σ H1 fun xs H2 => r x xs H2 Q
variable {o e : Expr} {es : List Expr} {to : TE} {t : TA} {name : Str} {apos cpos : Pos} {T id : String} {r : V → List V → Hp → VK → Prop}
theorem pe_bm0 (pa : PlainAttrs T) (slot : Slot T name id) (hty : typeOf (.builtin id) = pure (.type "method_descriptor")) (hm : MtR X id r) (ho : PE X o to)
    (hbase : attributeBase o name X.env (eval o X.env) = eval o X.env := by rfl) (hline : (apos.endLine == cpos.line) = true := by rfl) : PE X (.Call (.Attribute o name apos) [] [] cpos) (tBM0 X.K T r to) := by
  intro pins s σ H Q I h
  refine wpAny_Call_method0_late hbase hline (thn (ho pins s σ H _ I h) fun v s1 ⟨x, H1, I1, r1, ty, q1⟩ => ?_)
  obtain ⟨h1, h2⟩ := tyV_is I1 r1 ty
  exact ⟨T, id, pa, slot, hty, h1, h2, Calls.callWith_builtin rfl (PySem.evalArgs_none (hm pins s1 σ H1 x [] v [] Q I1 r1 .nil q1))⟩
theorem pe_bm (pa : PlainAttrs T) (slot : Slot T name id) (hty : typeOf (.builtin id) = pure (.type "method_descriptor")) (hm : MtR X id r) (ho : PE X o to) (ha : PA X (e :: es) t)
    (hbase : attributeBase o name X.env (eval o X.env) = eval o X.env := by rfl)
    (hfew : ((backTo cpos (starEach (e :: es) X.env)).all (fun x => !x.1) && (backToKw cpos (keywordEach [] X.env)).all (fun x => x.1.isSome)
      && decide ((e :: es).length + ([] : List Keyword).length + (if ([] : List Keyword).isEmpty then 0 else 1) < 30)) = true := by rfl)
    (hline : (apos.endLine == cpos.line) = true := by rfl) (hs : starEach (e :: es) X.env = (false, eval e X.env) :: starEach es X.env := by rfl) (hplain : (backTo cpos (starEach es X.env)).any (·.1) = false := by rfl) :
    PE X (.Call (.Attribute o name apos) (e :: es) [] cpos) (tBM X.K T r to t) := by
  intro pins s σ H Q I h
  refine wpAny_Call_method_late hbase hfew hline rfl (thn (ho pins s σ H _ I h) fun v s1 ⟨x, H1, I1, r1, ty, q1⟩ => ?_)
  obtain ⟨h1, h2⟩ := tyV_is I1 r1 ty
  refine ⟨T, id, pa, slot, hty, h1, h2, ?_⟩
  have hA := ha cpos pins s1 σ H1 _ I1 q1
  rw [hs] at hA ⊢
  refine Calls.callWith_builtin (by show (false || (backTo cpos (starEach es X.env)).any (·.1)) = false; rw [hplain] <;> rfl) (Calls.evalArgs_plain ?_)
  exact thn hA fun us s2 ⟨vs, H2, I2, r2, q2⟩ => hm pins s2 σ H2 x vs v us Q I2 r1 r2 q2
/- xs.append(e), list.index on a module's tuple .. are MtR facts of 06m -/
end
end L2

namespace L2
open PySem PySem.Spec PyProof.Rows

def MtM (X : Cx) (id : String) (r : V → List V → Hp → VK → Prop) : Prop :=
  ∀ (pins : List (Addr × Obj)) (s : Shared) (σ : St) (H : Hp) (x : V) (xs : List V) (v : Value) (us : List Value) (Q : VK), Inv X pins σ H s → RelV x v → Vals xs us → r x xs H Q →
    wpAny (model X.prog X.w) X.A (call (.builtin id) (v :: us)) (EP X pins σ Q) X.xe s

/-! ### lists of values -/
theorem Vals.one : ∀ {x : V} {us : List Value}, Vals [x] us → ∃ u, us = [u] ∧ RelV x u
  | _, _, .cons r .nil => ⟨_, rfl, r⟩

section
variable {X : Cx} {pins : List (Addr × Obj)} {σ : St} {H : Hp} {s : Shared} {l b : Addr} {xs ys zs : List V}

/-! ### the two steps: a tracked list is rewritten, a new list is laid -/
theorem Inv.lset {its its' : List Value} {n : Nat} {f : Array Value → Array Value} {t' : Nat} (I : Inv X pins σ H s) (hH : H l = some (.lst xs))
    (e : s.heap.get? l = some { cls := .type "list", data := .seq its.toArray n }) (hf : f its.toArray = its'.toArray) (hv : Vals ys its') (hz : ys.length ≤ sizeLine) :
    Inv X pins σ (upd H l (.lst ys)) { s with heap := s.heap.update l (Obj.mapSeq f), toks := t' } := by
  have q := PySem.IsL.update e f
  rw [hf] at q
  refine I.write (x := l) (e := l) (by rw [hH]; exact trivial) (.inl rfl) (fun b' u hb hu => (Heap.get?_update_other s.heap (Obj.mapSeq f) (Ne.symm hb)).trans hu) ⟨_, q⟩ ?_
  exact ⟨hz, its', _, hv, q⟩
theorem Inv.lnew {its : List Value} {t' : Nat} (I : Inv X pins σ H s) (hv : Vals ys its) (hz : ys.length ≤ sizeLine) :
    Inv X pins σ (upd H s.heap.objs.size (.lst ys)) { s with heap := s.heap.push { cls := .type "list", data := .seq its.toArray }, toks := t' } :=
  I.laid (fun _ _ q => Heap.get?_push_of_some _ q) (Nat.le_refl _) ⟨hz, its, 0, hv, Heap.get?_push_size _ rfl⟩
theorem Inv.fresh (I : Inv X pins σ H s) : H s.heap.objs.size = none := I.hok.fresh (Nat.le_refl _)
theorem Inv.lstM (I : Inv X pins σ H s) (hH : H l = some (.lst xs)) : xs.length ≤ sizeLine ∧ ∃ (its : List Value) (n : Nat), Vals xs its ∧ xs.length = its.length ∧ s.heap.get? l = some { cls := .type "list", data := .seq its.toArray n } := by
  obtain ⟨z, its, n, r, e⟩ := I.hok l _ hH
  exact ⟨z, its, n, r, r.length, e⟩

end

section
variable {X : Cx}

/-! ### methods -/
def rAppend : V → List V → Hp → VK → Prop := fun x vs H Q => ∃ l xs y, x = .ref l ∧ vs = [y] ∧ H l = some (.lst xs) ∧ xs.length < sizeLine ∧ Q .non (upd H l (.lst (xs ++ [y])))
theorem mt_append : MtM X "list.append" rAppend := by
  intro pins s σ H x vs v us Q I rx rv h
  obtain ⟨l, xs, y, rfl, rfl, hH, hz, q⟩ := h
  cases rx
  obtain ⟨u, rfl, ru⟩ := rv.one
  obtain ⟨z, its, n, r, hl, e⟩ := I.lstM hH
  refine call_meets F.slot_list_append ⟨_, e, rfl⟩ F.entry_list_append (F.args_list_append_2 _ _) (PySem.list_append l its.toArray n u (by rw [List.size_toArray]; omega)) ⟨e, ?_⟩
  refine ⟨.non, _, I.lset (its' := its ++ [u]) hH e (by simp) (r.append (.cons ru .nil)) ?_, rfl, q⟩
  rw [List.length_append, List.length_singleton]
  omega






/-! ### list + list, list += list, list * int -/
def rCat : R2 := fun x y H Q => ∃ l b xs zs, x = .ref l ∧ y = .ref b ∧ H l = some (.lst xs) ∧ H b = some (.lst zs) ∧ xs.length + zs.length ≤ sizeLine ∧ ∀ p, H p = none → Q (.ref p) (upd H p (.lst (xs ++ zs)))
theorem op_cat : OpR X (binaryOp .Add) rCat := by
  intro pins s σ H x y v u Q I rx ry h
  obtain ⟨l, b, xs, zs, rfl, rfl, hH, hB, hz, q⟩ := h
  cases rx
  cases ry
  obtain ⟨z, its, n, r, hl, e⟩ := I.lstM hH
  obtain ⟨z2, its2, n2, r2, hl2, e2⟩ := I.lstM hB
  refine PySem.P.add_list e e2 ?_ (by rw [List.size_toArray, List.size_toArray]; omega)
  have ea : its.toArray ++ its2.toArray = (its ++ its2).toArray := by simp
  rw [ea]
  exact ⟨.ref _, _, I.lnew (t' := s.toks) (r.append r2) (by rw [List.length_append]; omega), rfl, q _ I.fresh⟩

/-! ### del xs[i] -/
end

/-! ### xs[a:b] = ys -/
section
variable {prog : Program} {w : World} {A : Around} {E : Value → Shared → Prop} {s : Shared}
end

section
variable {X : Cx}
end
end L2

namespace L2
open PySem PySem.Spec PyProof.Rows

theorem Vals.ints : ∀ {ns : List Int} {us : List Value}, Vals (ns.map V.int) us → IntsAre us ns
  | [], us, h => by
    rw [List.map_nil] at h
    cases h
    exact IntsAre.nil
  | n :: ns, us, h => by
    rw [List.map_cons] at h
    cases h with
    | cons r t =>
      obtain ⟨k, rfl⟩ := r
      exact IntsAre.cons n k (Vals.ints t)
theorem Vals.bls : ∀ {bs : List Bool} {us : List Value}, Vals (bs.map V.bl) us → us = bs.map Value.bool
  | [], us, h => by
    rw [List.map_nil] at h
    cases h
    rfl
  | b :: bs, us, h => by
    rw [List.map_cons] at h
    cases h with
    | cons r t =>
      cases r
      rw [Vals.bls t, List.map_cons]
theorem Vals.ref1 {a : Addr} {us : List Value} (r : Vals [V.ref a] us) : us = [Value.ref a] := by
  cases r with
  | cons r t =>
    cases t
    cases r
    rfl

/-! ### the library's walks over a list of ints, kept objects alone -/
section
variable {prog : Program} {w : World} {A : Around} {E : Value → Shared → Prop} {s : Shared} {l : Addr} {its : List Value} {ns : List Int} {Q : Value → Shared → Prop}
theorem max_raw (hh : A.handled = none) (hl : s.heap.IsList l its.toArray) (hi : IntsAre its ns) (hne : 0 < ns.length)
    (h : ∀ h' tk M t', (∀ b o, s.heap.get? b = some o → h'.get? b = some o) → M ∈ ns → (∀ a, a ∈ ns → a ≤ M) → Q (.int M t') { s with heap := h', toks := tk }) : wpAny (model prog w) A (call (.builtin "max") [.ref l]) Q E s := by
  obtain ⟨xs, e⟩ := hi.allInts.items
  have hn : numsOf (intItems xs).toList = ns := by rw [← e]; exact hi.numsOf
  rw [nums_intItems] at hn
  subst hn
  rw [e] at hl
  have hsz : 0 < xs.size := by simpa using hne
  refine PySem.max_intList hh hl hsz fun v h' tk hv hk => ?_
  obtain ⟨t, rfl⟩ := intItems_at hv
  obtain ⟨h1, h2⟩ := argBest_gt (numAt xs) (xs.size - 1)
  refine h h' tk _ t hk ?_ fun a ha => ?_
  · rw [numAt_eq]; exact PySem.getD_mem (by rw [List.length_map, Array.length_toList]; omega)
  · obtain ⟨j, hj, rfl⟩ := mem_getD ha
    rw [List.length_map, Array.length_toList] at hj
    rw [← numAt_eq]; exact h2 j (by omega)
theorem min_raw (hh : A.handled = none) (hl : s.heap.IsList l its.toArray) (hi : IntsAre its ns) (hne : 0 < ns.length)
    (h : ∀ h' tk M t', (∀ b o, s.heap.get? b = some o → h'.get? b = some o) → M ∈ ns → (∀ a, a ∈ ns → M ≤ a) → Q (.int M t') { s with heap := h', toks := tk }) : wpAny (model prog w) A (call (.builtin "min") [.ref l]) Q E s := by
  obtain ⟨xs, e⟩ := hi.allInts.items
  have hn : numsOf (intItems xs).toList = ns := by rw [← e]; exact hi.numsOf
  rw [nums_intItems] at hn
  subst hn
  rw [e] at hl
  have hsz : 0 < xs.size := by simpa using hne
  refine PySem.min_intList hh hl hsz fun v h' tk hv hk => ?_
  obtain ⟨t, rfl⟩ := intItems_at hv
  obtain ⟨h1, h2⟩ := argBest_lt (numAt xs) (xs.size - 1)
  refine h h' tk _ t hk ?_ fun a ha => ?_
  · rw [numAt_eq]; exact PySem.getD_mem (by rw [List.length_map, Array.length_toList]; omega)
  · obtain ⟨j, hj, rfl⟩ := mem_getD ha
    rw [List.length_map, Array.length_toList] at hj
    rw [← numAt_eq]; exact h2 j (by omega)
end

/-! ### the calls, by values (CallR of 03t; MtR of 06l) -/
section
variable {X : Cx}
/-- max(xs), min(xs) of a list of ints -/
def rMax (K : PySem.W.Frag) : List V → Hp → VK → Prop := fun vs H Q => ∃ (a : Addr) (ns : List Int), vs = [V.ref a] ∧ SqL K H a (ns.map V.int) ∧ 0 < ns.length ∧ ∀ m, m ∈ ns → (∀ y, y ∈ ns → y ≤ m) → Q (.int m) H
def rMin (K : PySem.W.Frag) : List V → Hp → VK → Prop := fun vs H Q => ∃ (a : Addr) (ns : List Int), vs = [V.ref a] ∧ SqL K H a (ns.map V.int) ∧ 0 < ns.length ∧ ∀ m, m ∈ ns → (∀ y, y ∈ ns → m ≤ y) → Q (.int m) H
theorem cr_max (hc : X.calm = true) : CallR X (.builtin "max") (rMax X.K) := by
  intro pins s σ H vs us Q I r h
  obtain ⟨a, ns, rfl, hs, hne, q⟩ := h
  obtain ⟨its, rv, hl, _⟩ := I.list hs
  rw [Vals.ref1 r]
  exact max_raw (I.ok.hd hc) hl.isList rv.ints hne fun h' tk m t' hk h1 h2 => ⟨.int _, H, I.kept hk, ⟨_, rfl⟩, q m h1 h2⟩
theorem cr_min (hc : X.calm = true) : CallR X (.builtin "min") (rMin X.K) := by
  intro pins s σ H vs us Q I r h
  obtain ⟨a, ns, rfl, hs, hne, q⟩ := h
  obtain ⟨its, rv, hl, _⟩ := I.list hs
  rw [Vals.ref1 r]
  exact min_raw (I.ok.hd hc) hl.isList rv.ints hne fun h' tk m t' hk h1 h2 => ⟨.int _, H, I.kept hk, ⟨_, rfl⟩, q m h1 h2⟩

/-! sorted, sort (fewer than 64 items: the library's own bound) -/
end

/-! ### list.index, flat items -/
section
variable {X : Cx}
def rIndex (K : PySem.W.Frag) : V → List V → Hp → VK → Prop := fun x xs H Q => ∃ (a : Addr) (ys : List V) (y : V) (j : Nat) (z : V), x = V.ref a ∧ xs = [y] ∧ SqL K H a ys ∧ flatV y = true ∧ ys.all flatV = true ∧ ys[j]? = some z ∧ eqV z y = true ∧
  (∀ (m : Nat) (z' : V), m < j → ys[m]? = some z' → eqV z' y = false) ∧ Q (.int (j : Nat)) H
theorem flat_at {ys : List V} (f : ys.all flatV = true) {j : Nat} {z : V} (h : ys[j]? = some z) : flatV z = true := List.all_eq_true.mp f z (List.mem_of_getElem? h)
theorem mt_index : MtR X "list.index" (rIndex X.K) := by
  intro pins s σ H x xs v us Q I rx rxs h
  obtain ⟨a, ys, y, j, z, rfl, rfl, hs, fy, fys, hz, hzj, hno, q⟩ := h
  cases rx
  cases rxs with
  | cons ry rt =>
    rename_i uy ut
    cases rt
    obtain ⟨its, rv, ⟨⟨cls, dd, data, sl⟩, n, ho, hc, hdn, hd⟩, hlen⟩ := I.list hs
    simp only at hc hd
    subst hc hd
    obtain ⟨u, hu, ru⟩ := rv.get hz
    obtain ⟨hjl, hje⟩ := List.getElem?_eq_some_iff.mp hu
    have hvl := rv.length
    have hj : j < its.toArray.size := by simpa using hjl
    have hsl := sizeLine_eq
    refine call_meets PySem.F.slot_list_index ⟨_, ho, rfl⟩ PySem.F.entry_list_index (PySem.F.args_list_index_2 _ _)
      (SeqAt.list_indexAt a its.toArray n dd sl uy (eqU y) j hj (by omega) ?_ ?_) ⟨ho, fun u' hu' => mem_eqAt ry fy rv fys u' (by simpa using hu'), ?_⟩
    · have e1 : its.toArray[j] = u := by simpa using hje
      rw [e1, eqU_of ru (flat_at fys hz)]
      exact hzj
    · intro m hm hmj
      have hml : m < its.length := by simpa using hm
      have hmy : m < ys.length := by omega
      have hy' : ys[m]? = some ys[m] := List.getElem?_eq_getElem hmy
      obtain ⟨u2, hu2, ru2⟩ := rv.get hy'
      obtain ⟨_, hme⟩ := List.getElem?_eq_some_iff.mp hu2
      have e1 : its.toArray[m] = u2 := by simpa using hme
      rw [e1, eqU_of ru2 (flat_at fys hy')]
      exact hno m _ hmj hy'
    · exact ⟨.int (j : Nat), H, I.tok _, ⟨_, rfl⟩, q⟩
end

/-! ### type(x) of an own instance; is, is not of a module's class -/
section
variable {X : Cx}
end

/-! ### any(xs), all(xs) of a list of bools -/
theorem iter_any {prog : Program} {w : World} {A : Around} {E : Value → Shared → Prop} {s : Shared} {l : Addr} {items : Array Value} {Q : Value → Shared → Prop} (hl : s.heap.IsList l items)
    (h : ∀ s₂ : Shared, s₂ = { s with heap := s.heap.push { cls := .type "list_iterator", data := .fields #[.ref l, .int 0 0] } } →
      (s₂.heap.IsListIter s.heap.objs.size l 0 ∧ s₂.heap.IsList l items) → l ≠ s.heap.objs.size → Q (.ref s.heap.objs.size) s₂) : wpAny (model prog w) A (pyIter (.ref l)) Q E s := by
  have hlt : l < s.heap.objs.size := by obtain ⟨_, e, _⟩ := hl; exact Heap.lt_size e
  exact wpAny_pyIter_list hl (h _ rfl ⟨⟨_, Heap.get?_push_size _ rfl, rfl, rfl⟩, hl.push _⟩ (Nat.ne_of_lt hlt))
theorem truth_bools {prog : Program} {w : World} {A : Around} {bs : List Bool} {its : List Value} (e : its = bs.map Value.bool) :
    TruthOf prog w A (fun i v => its.toArray[i]? = some v) (fun i => bs.getD i false) := fun i v s Q E hv hq => by
  have hv' : its[i]? = some v := by simpa using hv
  rw [e, List.getElem?_map] at hv'
  obtain ⟨b, hb, rfl⟩ := Option.map_eq_some_iff.mp hv'
  have hg : bs.getD i false = b := by rw [List.getD_eq_getElem?_getD, hb] <;> rfl
  have hq' : Q (bs.getD i false) s := hq
  rw [hg] at hq'
  exact wpAny_truthy_bool hq'
theorem any_range : ∀ bs : List Bool, (List.range bs.length).any (fun i => bs.getD i false) = bs.any id
  | [] => rfl
  | b :: bs => by
    rw [List.length_cons, List.range_succ_eq_map, List.any_cons, List.any_map, List.any_cons, ← any_range bs]
    all_goals rfl
theorem all_range : ∀ bs : List Bool, (List.range bs.length).all (fun i => bs.getD i false) = bs.all id
  | [] => rfl
  | b :: bs => by
    rw [List.length_cons, List.range_succ_eq_map, List.all_cons, List.all_map, List.all_cons, ← all_range bs]
    all_goals rfl
section
variable {X : Cx}
def rAny (K : PySem.W.Frag) : List V → Hp → VK → Prop := fun vs H Q => ∃ (a : Addr) (bs : List Bool), vs = [V.ref a] ∧ SqL K H a (bs.map V.bl) ∧ Q (.bl (bs.any id)) H
def rAll (K : PySem.W.Frag) : List V → Hp → VK → Prop := fun vs H Q => ∃ (a : Addr) (bs : List Bool), vs = [V.ref a] ∧ SqL K H a (bs.map V.bl) ∧ Q (.bl (bs.all id)) H
theorem cr_any (hc : X.calm = true) : CallR X (.builtin "any") (rAny X.K) := by
  intro pins s σ H vs us Q I r h
  obtain ⟨a, bs, rfl, hs, q⟩ := h
  obtain ⟨its, rv, hl, _⟩ := I.list hs
  rw [Vals.ref1 r]
  have hb := rv.bls
  refine call_any_walk (iter_any hl.isList fun s₂ e2 st hne => ?_)
  subst e2
  refine ⟨_, _, _, _, _, _, _, rfl, Walks.list (A := X.A.in1) (I.ok.hd hc) _ a hne its.toArray, st, truth_bools hb, fun h' tk hk => ?_⟩
  refine ⟨.bl _, H, I.kept fun b o eo => hk b o (fun hmem => ?_) (Heap.get?_push_of_some _ eo), ?_, q⟩
  · rcases List.mem_cons.mp hmem with e1 | hmem
    · exact absurd (e1 ▸ Heap.lt_size eo) (Nat.lt_irrefl _)
    · cases hmem
  · show Value.bool _ = Value.bool _
    rw [← any_range, hb, List.size_toArray, List.length_map]
theorem cr_all (hc : X.calm = true) : CallR X (.builtin "all") (rAll X.K) := by
  intro pins s σ H vs us Q I r h
  obtain ⟨a, bs, rfl, hs, q⟩ := h
  obtain ⟨its, rv, hl, _⟩ := I.list hs
  rw [Vals.ref1 r]
  have hb := rv.bls
  refine call_all_walk (iter_any hl.isList fun s₂ e2 st hne => ?_)
  subst e2
  refine ⟨_, _, _, _, _, _, _, rfl, Walks.list (A := X.A.in1) (I.ok.hd hc) _ a hne its.toArray, st, truth_bools hb, fun h' tk hk => ?_⟩
  refine ⟨.bl _, H, I.kept fun b o eo => hk b o (fun hmem => ?_) (Heap.get?_push_of_some _ eo), ?_, q⟩
  · rcases List.mem_cons.mp hmem with e1 | hmem
    · exact absurd (e1 ▸ Heap.lt_size eo) (Nat.lt_irrefl _)
    · cases hmem
  · show Value.bool _ = Value.bool _
    rw [← all_range, hb, List.size_toArray, List.length_map]
end

/-! ### == and != of data at any depth: none, bools, ints, texts, lists, tuples -/
mutual
inductive Dp (K : PySem.W.Frag) (H : Hp) : V → PyData → Prop
  | non : Dp K H .non .none
  | bl (b : Bool) : Dp K H (.bl b) (.bool b)
  | int (i : Int) : Dp K H (.int i) (.int i)
  | str (x : Str) : Dp K H (.str x) (.str x)
  | lst {a : Addr} {xs : List V} {ds : List PyData} : SqL K H a xs → DpAll K H xs ds → Dp K H (.ref a) (.list ds)
  | tup {a : Addr} {xs : List V} {ds : List PyData} : SqT K H a xs → DpAll K H xs ds → Dp K H (.ref a) (.tuple ds)
inductive DpAll (K : PySem.W.Frag) (H : Hp) : List V → List PyData → Prop
  | nil : DpAll K H [] []
  | cons {v : V} {vs : List V} {d : PyData} {ds : List PyData} : Dp K H v d → DpAll K H vs ds → DpAll K H (v :: vs) (d :: ds)
end
section
variable {X : Cx} {pins : List (Addr × Obj)} {σ : St} {H : Hp} {s : Shared}
mutual
theorem Dp.reads (I : Inv X pins σ H s) : ∀ (d : PyData) (v : V) (u : Value), Dp X.K H v d → RelV v u → ∃ as, Reads s.heap u d as
  | .none, _, _, h, r => by
    cases h
    cases r
    exact ⟨_, Reads.none⟩
  | .bool b, _, _, h, r => by
    cases h
    cases r
    exact ⟨_, Reads.bool b⟩
  | .int i, _, _, h, r => by
    cases h
    obtain ⟨t, rfl⟩ := r
    exact ⟨_, Reads.int i t⟩
  | .str x, _, _, h, r => by
    cases h
    obtain ⟨t, rfl⟩ := r
    exact ⟨_, Reads.str x t⟩
  | .list ds, _, _, h, r => by
    cases h with
    | lst hs ha =>
      cases r
      obtain ⟨its, rv, ⟨o, n, ho, hc, _, hd⟩, _⟩ := I.list hs
      obtain ⟨as, hr⟩ := Dp.readsAll I ds _ its ha rv
      exact ⟨_, Reads.list ho hc hd hr⟩
  | .tuple ds, _, _, h, r => by
    cases h with
    | tup hs ha =>
      cases r
      obtain ⟨its, rv, ⟨o, ho, hc, n, hd⟩, _⟩ := I.tuple hs
      obtain ⟨as, hr⟩ := Dp.readsAll I ds _ its ha rv
      exact ⟨_, Reads.tuple ho hc hd hr⟩
  | .dict _, _, _, h, _ => by cases h
theorem Dp.readsAll (I : Inv X pins σ H s) : ∀ (ds : List PyData) (vs : List V) (us : List Value), DpAll X.K H vs ds → Vals vs us → ∃ as, ReadsAll s.heap us ds as
  | [], _, _, h, r => by
    cases h
    cases r
    exact ⟨_, ReadsAll.nil⟩
  | d :: ds, _, _, h, r => by
    cases h with
    | cons h1 h2 =>
      cases r with
      | cons r1 r2 =>
        obtain ⟨as, q1⟩ := Dp.reads I d _ _ h1 r1
        obtain ⟨bs, q2⟩ := Dp.readsAll I ds _ _ h2 r2
        exact ⟨_, ReadsAll.cons q1 q2⟩
end
end
section
variable {X : Cx}
end
end L2

namespace L2
open PySem PySem.Spec PyProof.Rows
abbrev CellAt (h : Heap) (c : Addr) (v : Option Value) : Prop := h.IsCell c v
def relS (scope sc : Scope) : Scope :=
  { scope with names := scope.names.map fun (n, k) => if (k == .free && sc.kind == .function && sc.names.lookup n == some .cell) then (n, .cell) else (n, k) }

def cloFrom (cells : List (Str × Addr)) : List (Str × NameKind) → List (Str × Addr) → List (Str × Addr)
  | [], acc => acc
  | (n, k) :: r, acc => if k == .free then cloFrom cells r ((n, (cells.lookup n).getD 0) :: acc) else cloFrom cells r acc

theorem closure_loop (env : Env) (f : Str × NameKind → List (Str × Addr) → Sem (ForInStep (List (Str × Addr))))
    (hf : ∀ n k c, f (n, k) c = if k == .free then (do let a ← cellOf env n; pure (.yield ((n, a) :: c))) else pure (.yield c)) :
    ∀ (names : List (Str × NameKind)) (acc : List (Str × Addr)), (∀ y ∈ names, y.2 = .free → ∃ c, env.cells.lookup y.1 = some c) → forIn names acc f = pure (cloFrom env.cells names acc)
  | [], acc, _ => by rw [List.forIn_nil]; rfl
  | (n, k) :: r, acc, h => by
    rw [List.forIn_cons, hf]
    have ih := fun acc => closure_loop env f hf r acc fun y hy => h y (List.mem_cons_of_mem _ hy)
    unfold cloFrom
    by_cases hk : (k == NameKind.free) = true
    · rw [if_pos hk, if_pos hk]
      obtain ⟨c, hc⟩ := h (n, k) List.mem_cons_self (by simpa using hk)
      have e : cellOf env n = pure c := by unfold cellOf; rw [hc]
      rw [e]
      have e2 : (env.cells.lookup n).getD 0 = c := by rw [hc]; rfl
      rw [e2]
      exact ih _
    · rw [if_neg hk, if_neg hk]
      exact ih _
theorem closure_ok {scope : Scope} {env : Env} (h : ∀ y ∈ scope.names, y.2 = .free → ∃ c, env.cells.lookup y.1 = some c) : closureFor scope env = pure (cloFrom env.cells scope.names []) := by
  simp only [closureFor]
  rw [closure_loop env _ (fun n k c => rfl) scope.names [] h]
  rfl

theorem mem_lookup {α : Type} : ∀ {l : List (Str × α)} {n : Str} {c : α}, (n, c) ∈ l → ∃ c', l.lookup n = some c'
  | (k, v) :: r, n, c, h => by
    rw [List.lookup_cons]
    cases hb : n == k with
    | true => exact ⟨_, rfl⟩
    | false =>
      rcases List.mem_cons.mp h with e | h
      · cases e; simp at hb
      · exact mem_lookup h

theorem cloFrom_mem {cells : List (Str × Addr)} : ∀ {names : List (Str × NameKind)} {acc : List (Str × Addr)} {n : Str} {c : Addr}, (n, c) ∈ cloFrom cells names acc → (n, c) ∈ acc ∨ ((n, .free) ∈ names ∧ c = (cells.lookup n).getD 0)
  | [], _, _, _, h => .inl h
  | (m, k) :: r, acc, n, c, h => by
    unfold cloFrom at h
    split at h
    · rename_i hk
      have hk : k = .free := by simpa using hk
      rcases cloFrom_mem h with h | ⟨h1, h2⟩
      · rcases List.mem_cons.mp h with e | h
        · cases e; exact .inr ⟨hk ▸ List.mem_cons_self, rfl⟩
        · exact .inl h
      · exact .inr ⟨List.mem_cons_of_mem _ h1, h2⟩
    · rcases cloFrom_mem h with h | ⟨h1, h2⟩
      · exact .inl h
      · exact .inr ⟨List.mem_cons_of_mem _ h1, h2⟩
theorem cloFrom_acc {cells : List (Str × Addr)} : ∀ {names : List (Str × NameKind)} {acc : List (Str × Addr)} {p : Str × Addr}, p ∈ acc → p ∈ cloFrom cells names acc
  | [], _, _, h => h
  | (m, k) :: r, acc, p, h => by
    unfold cloFrom
    split
    · exact cloFrom_acc (List.mem_cons_of_mem _ h)
    · exact cloFrom_acc h
theorem cloFrom_has {cells : List (Str × Addr)} : ∀ {names : List (Str × NameKind)} {acc : List (Str × Addr)} {n : Str}, (n, .free) ∈ names → (n, (cells.lookup n).getD 0) ∈ cloFrom cells names acc
  | (m, k) :: r, acc, n, h => by
    unfold cloFrom
    rcases List.mem_cons.mp h with e | h
    · cases e
      exact cloFrom_acc List.mem_cons_self
    · split
      · exact cloFrom_has h
      · exact cloFrom_has h

theorem cells_mem : ∀ {names : List (Str × NameKind)} {h : Heap} {acc : List (Str × Addr)} {x : Str} {c : Addr}, (x, c) ∈ cellsFrom h.objs.size names acc →
    (x, c) ∈ acc ∨ ((x, .cell) ∈ names ∧ h.objs.size ≤ c ∧ CellAt (pushCells h names) c none)
  | [], _, _, _, _, h => .inl h
  | (n, k) :: r, h, acc, x, c, hm => by
    unfold cellsFrom at hm
    unfold pushCells
    split at hm
    · rename_i hk
      rw [if_pos hk]
      have hk : k = .cell := by simpa using hk
      rw [← Heap.size_push h { cls := .type "cell", data := .cell none }] at hm
      rcases cells_mem hm with hm | ⟨h1, h2, h3⟩
      · rcases List.mem_cons.mp hm with e | hm
        · cases e
          exact .inr ⟨hk ▸ List.mem_cons_self, Nat.le_refl _, _, pushCells_keeps r _ _ _ (Heap.get?_push_size _ rfl), rfl⟩
        · exact .inl hm
      · rw [Heap.size_push] at h2
        exact .inr ⟨List.mem_cons_of_mem _ h1, Nat.le_of_succ_le h2, h3⟩
    · rename_i hk
      rw [if_neg hk]
      rcases cells_mem hm with hm | ⟨h1, h2, h3⟩
      · exact .inl hm
      · exact .inr ⟨List.mem_cons_of_mem _ h1, h2, h3⟩
theorem cells_acc : ∀ {names : List (Str × NameKind)} {n : Nat} {acc : List (Str × Addr)} {p : Str × Addr}, p ∈ acc → p ∈ cellsFrom n names acc
  | [], _, _, _, h => h
  | (m, k) :: r, n, acc, p, h => by
    unfold cellsFrom
    split
    · exact cells_acc (List.mem_cons_of_mem _ h)
    · exact cells_acc h
theorem cells_has : ∀ {names : List (Str × NameKind)} {n : Nat} {acc : List (Str × Addr)} {x : Str}, (x, .cell) ∈ names → ∃ c, (x, c) ∈ cellsFrom n names acc
  | (m, k) :: r, n, acc, x, h => by
    unfold cellsFrom
    rcases List.mem_cons.mp h with e | h
    · cases e
      exact ⟨n, cells_acc List.mem_cons_self⟩
    · split
      · exact cells_has h
      · exact cells_has h
theorem cells_inj : ∀ {names : List (Str × NameKind)} {h : Heap} {acc : List (Str × Addr)} {x y : Str} {c : Addr}, (∀ p ∈ acc, p.2 < h.objs.size) → (∀ x y c, (x, c) ∈ acc → (y, c) ∈ acc → x = y) →
    (x, c) ∈ cellsFrom h.objs.size names acc → (y, c) ∈ cellsFrom h.objs.size names acc → x = y
  | [], _, _, _, _, _, _, hi, h1, h2 => hi _ _ _ h1 h2
  | (n, k) :: r, h, acc, x, y, c, hl, hi, h1, h2 => by
    unfold cellsFrom at h1 h2
    split at h1
    · rename_i hk
      rw [if_pos hk] at h2
      rw [← Heap.size_push h { cls := .type "cell", data := .cell none }] at h1 h2
      refine cells_inj (h := h.push _) (fun p hp => ?_) (fun x y c a b => ?_) h1 h2
      · rw [Heap.size_push]
        rcases List.mem_cons.mp hp with rfl | hp
        · exact Nat.lt_succ_self _
        · exact Nat.lt_succ_of_lt (hl p hp)
      · rcases List.mem_cons.mp a with e | a <;> rcases List.mem_cons.mp b with e' | b
        · cases e; cases e'; rfl
        · cases e; exact absurd (hl _ b) (Nat.lt_irrefl _)
        · cases e'; exact absurd (hl _ a) (Nat.lt_irrefl _)
        · exact hi _ _ _ a b
    · rename_i hk
      rw [if_neg hk] at h2
      exact cells_inj hl hi h1 h2

theorem newEnv_comp {M : Model} {A : Around} {E : Value → Shared → Prop} {s : Shared} {scope : Scope} {globals : Addr} {closure : List (Str × Addr)} {qual : Str} {func : Option Addr} {code : Value} {around : Env} {builtins : Addr} {Q : Env → Shared → Prop}
    (h : Q (newEnv scope s.heap.objs.size globals (cellsFrom (s.heap.objs.size + 1) scope.names closure) qual func code (some around) builtins)
      { s with heap := pushCells (s.heap.push { cls := .type "dict", data := .dict #[] }) scope.names }) :
    wpAny M A (newFunctionEnv scope globals closure [] qual func code (some around) builtins) Q E s := by
  simp only [newFunctionEnv, Option.isSome_some, if_true]
  refine wpAny_bind (wpAny_alloc ?_)
  refine wpAny_bind (wpAny_layCells _ (fun n k c => rfl) scope.names closure _ _ ?_)
  rw [show ({ s with heap := s.heap.push { cls := .type "dict", data := .dict #[] } } : Shared).heap.objs.size = s.heap.objs.size + 1 from Heap.size_push ..]
  rw [List.forIn_nil]
  exact wpAny_bind (wpAny_pure (wpAny_pure h))

/-- every name of the written scope, in the scope that runs -/
theorem lookup_relS {sc : Scope} : ∀ {names : List (Str × NameKind)} {x : Str} {k : NameKind},
    (names.map fun (n, k) => if (k == NameKind.free && sc.kind == .function && sc.names.lookup n == some .cell) then (n, NameKind.cell) else (n, k)).lookup x = some k →
    ∃ k', names.lookup x = some k' ∧ (k = k' ∨ (k' = .free ∧ k = .cell))
  | [], _, _, h => by simp at h
  | (n, k₀) :: r, x, k, h => by
    have ih := @lookup_relS sc r x k
    have h' : List.lookup x ((if (k₀ == NameKind.free && sc.kind == .function && sc.names.lookup n == some .cell) = true then (n, NameKind.cell) else (n, k₀)) :: (r.map _)) = some k := h
    cases hx : x == n with
    | true =>
      simp only [List.lookup_cons, hx]
      by_cases hc : (k₀ == NameKind.free && sc.kind == .function && sc.names.lookup n == some .cell) = true
      · rw [if_pos hc] at h'
        simp only [List.lookup_cons, hx] at h'
        cases h'
        simp only [Bool.and_eq_true, beq_iff_eq] at hc
        exact ⟨k₀, rfl, .inr ⟨hc.1.1, rfl⟩⟩
      · rw [if_neg hc] at h'
        simp only [List.lookup_cons, hx] at h'
        cases h'
        exact ⟨_, rfl, .inl rfl⟩
    | false =>
      simp only [List.lookup_cons, hx]
      by_cases hc : (k₀ == NameKind.free && sc.kind == .function && sc.names.lookup n == some .cell) = true
      · rw [if_pos hc] at h'
        simp only [List.lookup_cons, hx] at h'
        exact ih h'
      · rw [if_neg hc] at h'
        simp only [List.lookup_cons, hx] at h'
        exact ih h'



/-- the names of a comprehension's block: its own (with their places in N), or captured -/
structure BlkOk (N : List Str) (sc scope : Scope) (own : List (Str × Nat)) : Prop where
  kind : scope.kind = .function
  uniq : ∀ y ∈ scope.names, scope.names.lookup y.1 = some y.2
  ix : ∀ p ∈ own, N[p.2]? = some p.1
  free : ∀ y ∈ scope.names, y.2 = .free → sc.names.lookup y.1 = some .cell ∨ sc.names.lookup y.1 = some .free
  own : ∀ y ∈ scope.names, y.2 = .local ∨ y.2 = .cell → y.1 ∈ own.map (·.1) ∨ y.1 ∉ N
/-- the slots of the block's own names forgotten -/
def wipe (σ : St) : List Nat → St
  | [] => σ
  | v :: vs => (wipe σ vs).set v none
theorem wipe_length (σ : St) : ∀ vs : List Nat, (wipe σ vs).length = σ.length
  | [] => rfl
  | v :: vs => by unfold wipe; rw [List.length_set, wipe_length σ vs]
theorem wipe_some {σ : St} {i : Nat} {x : V} : ∀ {vs : List Nat}, (wipe σ vs)[i]? = some (some x) → σ[i]? = some (some x) ∧ i ∉ vs
  | [], h => ⟨h, by simp⟩
  | v :: vs, h => by
    unfold wipe at h
    by_cases hi : v = i
    · subst hi
      by_cases hv : v < (wipe σ vs).length
      · rw [List.getElem?_set_self hv] at h; cases h
      · rw [List.getElem?_eq_none (by simpa using hv)] at h; cases h
    · rw [List.getElem?_set_ne hi] at h
      obtain ⟨h1, h2⟩ := wipe_some h
      exact ⟨h1, by simp only [List.mem_cons, not_or]; exact ⟨fun e => hi e.symm, h2⟩⟩

/-- the context of a block that starts at s, its iterator's objects at fp -/
abbrev Cx.blk (X : Cx) (s : Shared) (H : Hp) (scope : Scope) (cenv : Env) (fp : List Addr) : Cx := { X with s_0 := s, H_0 := H, env := cenv, outer := X.stack, ex := fp, fn := fun x => scope.names.lookup x == some .cell, pn := [], xe := fun _ _ => False }
section
variable {X : Cx} {pins : List (Addr × Obj)} {σ : St} {H : Hp} {s : Shared}
theorem block_start {scope : Scope} {own : List (Str × Nat)} {fp : List Addr} (I : Inv X pins σ H s) (ok : BlkOk X.N X.env.scope scope own) (hN : X.N.Nodup) (hfp : ∀ b ∈ fp, FpOk X pins H b ∧ b < s.heap.objs.size) :
    Inv (X.blk s H scope (compEnvC scope (cellsFrom (s.heap.objs.size + 1) scope.names (cloFrom X.env.cells scope.names [])) s.heap.objs.size X.env) fp) [] (wipe σ (own.map (·.2))) H { s with heap := pushCells (s.heap.push { cls := .type "dict", data := .dict #[] }) scope.names } := by
  have hfree : ∀ y ∈ scope.names, y.2 = .free → ∃ c, X.env.cells.lookup y.1 = some c := fun y hy e => by
    rcases ok.free y hy e with k | k
    · exact I.ok.has _ (.inl k)
    · exact I.ok.has _ (.inr k)
  generalize hcenv : compEnvC scope (cellsFrom (s.heap.objs.size + 1) scope.names (cloFrom X.env.cells scope.names [])) s.heap.objs.size X.env = cenv
  have kp : ∀ b o, s.heap.get? b = some o → (pushCells (s.heap.push { cls := .type "dict", data := .dict #[] }) scope.names).get? b = some o := fun b o e => pushCells_keeps _ _ _ _ (Heap.get?_push_of_some _ e)
  have hL : cenv.locals = s.heap.objs.size := by rw [← hcenv]; rfl
  have hcl : cenv.cells = cellsFrom (s.heap.objs.size + 1) scope.names (cloFrom X.env.cells scope.names []) := by rw [← hcenv]; rfl
  have hsc : cenv.scope = relS scope X.env.scope := by rw [← hcenv]; rfl
  rw [← Heap.size_push s.heap { cls := .type "dict", data := .dict #[] }] at hcl
  have cm : ∀ {y c}, (y, c) ∈ cloFrom X.env.cells scope.names [] → X.env.cells.lookup y = some c ∧ c < s.heap.objs.size := fun {y c} hm => by
    rcases cloFrom_mem hm with hm | ⟨h1, rfl⟩
    · cases hm
    · obtain ⟨c, hc⟩ := hfree _ h1 rfl
      rw [hc]
      obtain ⟨w, z⟩ := I.cell _ _ hc
      exact ⟨rfl, z.lt⟩
  have mem : ∀ {y c}, cenv.cells.lookup y = some c → (X.env.cells.lookup y = some c ∧ c < s.heap.objs.size) ∨ (s.heap.objs.size + 1 ≤ c ∧ CellAt (pushCells (s.heap.push { cls := .type "dict", data := .dict #[] }) scope.names) c none) := fun {y c} e => by
    rw [hcl] at e
    rcases cells_mem (PySem.mem_of_lookup e) with hm | ⟨_, h2, h3⟩
    · exact .inl (cm hm)
    · rw [Heap.size_push] at h2; exact .inr ⟨h2, h3⟩
  have look : ∀ {y}, scope.names.lookup y = some .free → ∃ c, cenv.cells.lookup y = some c ∧ X.env.cells.lookup y = some c := fun {y} hl => by
    have hy : (y, NameKind.free) ∈ scope.names := PySem.mem_of_lookup hl
    obtain ⟨c', e'⟩ := mem_lookup (cells_acc (names := scope.names) (n := (s.heap.push { cls := .type "dict", data := .dict #[] }).objs.size) (cloFrom_has (cells := X.env.cells) (acc := []) hy))
    rw [← hcl] at e'
    refine ⟨c', e', ?_⟩
    rw [hcl] at e'
    rcases cells_mem (PySem.mem_of_lookup e') with hm | ⟨h1, _, _⟩
    · exact (cm hm).1
    · have := ok.uniq _ h1
      rw [hl] at this; cases this
  have okB : (X.blk s H scope cenv fp).Ok := by
    refine ⟨I.ok.mod, by show cenv.scope.kind = _; rw [hsc]; exact ok.kind, by show cenv.globals = _; rw [← hcenv]; exact I.ok.glob, by show cenv.builtins = _; rw [← hcenv]; exact I.ok.blt, by show s.heap.objs.size ≤ cenv.locals; rw [hL]; exact Nat.le_refl _,
      fun y z c e1 e2 => ?_, fun y hy => ?_, fun y c z e => ?_, I.ok.hd, I.ok.frames, .inl rfl, fun b hb => ⟨?_, fun y c e z => ?_⟩, I.bs, Nat.le_trans I.ok.bsz I.sz, fun b o e hb => ?_, fun b hb z => ?_, I.stack, I.stkFree⟩
    · have e1 : cenv.cells.lookup y = some c := e1
      have e2 : cenv.cells.lookup z = some c := e2
      rw [hcl] at e1 e2
      refine cells_inj (fun p hp => ?_) (fun y z c a b => I.ok.inj y z c (cm a).1 (cm b).1) (PySem.mem_of_lookup e1) (PySem.mem_of_lookup e2)
      rw [Heap.size_push]
      exact Nat.lt_succ_of_lt (cm (y := p.1) (c := p.2) hp).2
    · show ∃ c, cenv.cells.lookup y = some c
      have key : ∀ k, cenv.kindOf y = some k → (k = .cell ∨ k = .free) → ∃ c, cenv.cells.lookup y = some c := fun k hk hk' => by
        unfold Env.kindOf at hk
        rw [hsc] at hk
        obtain ⟨k', e, r⟩ := lookup_relS hk
        have : k' = .cell ∨ k' = .free := by
          rcases r with rfl | ⟨rfl, _⟩
          · exact hk'
          · exact .inr rfl
        rcases this with rfl | rfl
        · obtain ⟨c, hm⟩ := cells_has (n := (s.heap.push { cls := .type "dict", data := .dict #[] }).objs.size) (acc := cloFrom X.env.cells scope.names []) (PySem.mem_of_lookup e)
          obtain ⟨c', e'⟩ := mem_lookup hm
          exact ⟨c', by rw [hcl]; exact e'⟩
        · obtain ⟨c, h1, _⟩ := look e
          exact ⟨c, h1⟩
      rcases hy with hy | hy
      · exact key _ hy (.inl rfl)
      · exact key _ hy (.inr rfl)
    · have z : (scope.names.lookup y == some NameKind.cell) = true := z
      have z : scope.names.lookup y = some .cell := by simpa using z
      have e : cenv.cells.lookup y = some c := e
      rw [hcl] at e
      rcases cells_mem (PySem.mem_of_lookup e) with hm | ⟨_, h2, _⟩
      · rcases cloFrom_mem hm with hm | ⟨h1, _⟩
        · cases hm
        · have q := ok.uniq _ h1
          rw [z] at q; cases q
      · rw [Heap.size_push] at h2
        exact Nat.le_of_succ_le h2
    · show b ≠ cenv.locals
      rw [hL]; exact Nat.ne_of_lt (hfp b hb).2
    · have e : cenv.cells.lookup y = some c := e
      rcases mem e with ⟨h1, _⟩ | ⟨h1, _⟩
      · exact (hfp b hb).1.2.2.2.2.1 y c h1 z
      · have h2 : s.heap.objs.size + 1 ≤ b := by rw [← z]; exact h1
        exact absurd (Nat.lt_of_lt_of_le (hfp b hb).2 (Nat.le_of_succ_le h2)) (Nat.lt_irrefl _)
    · rcases (hfp b hb).1.2.2.2.1 with z | z
      · exact I.ok.noex b o e z
      · exact absurd (Nat.lt_of_lt_of_le (Heap.lt_size e) (Nat.le_trans I.ok.bsz z)) (Nat.lt_irrefl _)
    · rcases List.mem_cons.mp (I.stkSub b z) with z | z
      · exact (hfp b hb).1.2.1 z
      · exact (hfp b hb).1.2.2.1 z
  refine ⟨okB, rfl, I.bare, Un.kept kp, ⟨fun _ => none, ?_, fun i y av e1 e2 e3 => ?_⟩, fun y c e => ?_, ?_, fun y c e => ?_, fun p hp => ?_, I.hok.kept kp, by rw [wipe_length]; exact I.len⟩
  · show Heap.Ns _ cenv.locals _
    rw [hL]
    exact Heap.Ns.keeps (Heap.Ns.new ..) fun b o e => pushCells_keeps _ _ _ _ e
  · obtain ⟨e2, hne⟩ := wipe_some e2
    have hfr : scope.names.lookup y = some .free ∧ (cenv.kindOf y = some .cell ∨ cenv.kindOf y = some .free) := by
      have key : ∀ k, cenv.scope.names.lookup y = some k → k = .local ∨ k = .cell ∨ k = .free → scope.names.lookup y = some .free ∧ (cenv.kindOf y = some .cell ∨ cenv.kindOf y = some .free) := fun k hk hk' => by
        have hk0 := hk
        rw [hsc] at hk
        obtain ⟨k', e, r⟩ := lookup_relS hk
        have no : ¬ (k' = .local ∨ k' = .cell) := fun hh => by
          rcases ok.own _ (PySem.mem_of_lookup e) hh with e' | e'
          · obtain ⟨p, hp, hpy⟩ := List.mem_map.mp e'
            have e3 := ok.ix p hp
            have : p.1 = y := hpy
            rw [this] at e3
            exact hne (List.mem_map.mpr ⟨p, hp, nodup_ix hN e3 e1⟩)
          · exact e' (List.mem_of_getElem? e1)
        rcases r with rfl | ⟨rfl, rfl⟩
        · rcases hk' with rfl | rfl | rfl
          · exact absurd (.inl rfl) no
          · exact absurd (.inr rfl) no
          · exact ⟨e, .inr hk0⟩
        · exact ⟨e, .inl hk0⟩
      have e3 : Vis cenv.scope y := e3
      rcases e3 with e3 | e3 | e3
      · exact key _ e3 (.inl rfl)
      · exact key _ e3 (.inr (.inl rfl))
      · exact key _ e3 (.inr (.inr rfl))
    obtain ⟨m, hn, hl⟩ := I.loc
    have hvis : Vis X.env.scope y := (ok.free _ (PySem.mem_of_lookup hfr.1) rfl).elim (fun k => .inr (.inl k)) (fun k => .inr (.inr k))
    obtain ⟨w, r, q⟩ := hl i y av e1 e2 hvis
    refine ⟨w, r, .inr ⟨hfr.2, ?_⟩⟩
    obtain ⟨c, h1, h2⟩ := look hfr.1
    rcases q with ⟨k, _⟩ | ⟨_, c', e', z⟩
    · have k : X.env.scope.names.lookup y = some .local := k
      rcases ok.free _ (PySem.mem_of_lookup hfr.1) rfl with k' | k' <;> rw [show X.env.scope.names.lookup y = _ from k'] at k <;> cases k
    · rw [h2] at e'; cases e'
      exact ⟨c, h1, z.keeps kp⟩
  · have e : cenv.cells.lookup y = some c := e
    rcases mem e with ⟨h1, _⟩ | ⟨_, z⟩
    · obtain ⟨w, z⟩ := I.cell y c h1
      exact ⟨w, z.keeps kp⟩
    · exact ⟨_, z⟩
  · show H cenv.locals = none
    rw [hL]; exact I.hok.fresh (Nat.le_refl _)
  · have e : cenv.cells.lookup y = some c := e
    rcases mem e with ⟨h1, _⟩ | ⟨h1, _⟩
    · exact I.freeC y c h1
    · exact I.hok.fresh (Nat.le_of_succ_le h1)
  · exact absurd (show p ∈ ([] : List (Addr × Obj)) ++ [] from hp) (by simp)

/-- an item appended to a tracked list -/
theorem app_ok {E : Value → Shared → Prop} {D : Addr} {xs : List V} {y : V} {v : Value} {Q : Value → Shared → Prop} (I : Inv X pins σ H s) (hD : H D = some (.lst xs)) (hz : xs.length < sizeLine) (r : RelV y v)
    (h : ∀ s', Inv X pins σ (upd H D (.lst (xs ++ [y]))) s' → Q .none s') : wpAny (model X.prog X.w) X.A (call (.builtin "list.append") [.ref D, v]) Q E s := by
  obtain ⟨hz', its, n, ri, e⟩ := I.hok D _ hD
  have hl := ri.length
  refine append_at (hsz := by rw [List.size_toArray]; omega) e fun h' sb ho' => ?_
  refine h { s with heap := h' } (I.write (t' := s.toks) (by rw [hD]; trivial) (.inl rfl) (fun b u hb q => (sb.2 b hb).trans q) ⟨_, ho'⟩ ⟨by rw [List.length_append]; exact hz, its ++ [v], n + 1, ri.append (.cons r .nil), ?_⟩)
  rw [ho']
  simp

/-- a clause's tests -/
def PTs (X : Cx) (ifs : List Expr) (t : TT) : Prop :=
  ∀ (pins : List (Addr × Obj)) (s : Shared) (σ : St) (H : Hp) (Q : Bool → Hp → Prop), Inv X pins σ H s → t σ H Q →
    wpAny (model X.prog X.w) X.A (forIn ifs true fun c r => if r = true then do let ok ← isTrue c X.env (eval c X.env); pure (ForInStep.yield ok) else pure (ForInStep.yield r)) (TP X pins σ Q) X.xe s
def tYes : TT := fun _ H Q => Q true H
theorem pts_nil : PTs X [] tYes := fun _ _ _ H _ I h => wpAny_tests_nil ⟨H, I, h⟩
theorem pts_one {c : Expr} {t : TT} (h : PT X c t) : PTs X [c] t := fun pins s σ H Q I hw => wpAny_tests_one (h pins s σ H Q I hw)
end

theorem thnF {α : Type} {t : Sem α} {Q Q' : α → Shared → Prop} {M : Model} {A : Around} {E : Value → Shared → Prop} {s : Shared} (h : wpAny M A t Q (fun _ _ => False) s) (hQ : ∀ a s, Q a s → Q' a s) : wpAny M A t Q' E s := wpAny_mono h hQ fun _ _ z => False.elim z

/-- the loop of a list comprehension's block, the target of any form (codeAny_compLoop_tests asks a target that no tuple goes to; statement and proof follow it, PyProof/CompMap.lean:41-61, with the step letOwnedTupleGo kept) -/
theorem compLoop_any {prog : Program} {w : World} {A : Around} {R : Result → Shared → Prop} {s : Shared} {elt target iter : Expr} {ifs : List Expr} {scope : Scope} {pos : Pos} {it acc : Value} {env : Env} (I : Nat → Shared → Prop)
    (turn : ∀ n s, I n s → wpAny (model prog w) A (pyNext it) (fun r s₁ => match r with
      | none => R (.ok .next) s₁
      | some v => wpAny (model prog w) A (letOwnedTupleGo target it v) (fun _ s₁' => wpAny (model prog w) A (assign target env v) (fun _ s₂ =>
          wpAny (model prog w) A (forIn ifs true fun c r => if r = true then do let ok ← isTrue c env (eval c env); pure (ForInStep.yield ok) else pure (ForInStep.yield r)) (fun ok s₃ =>
            if ok = true then wpAny (model prog w) A (eval elt env) (fun x s₄ =>
              wpAny (model prog w) A (call (.builtin "list.append") [acc, x]) (fun _ s₅ => ∃ m, m < n ∧ I m s₅) (notedBy (model prog w) A env fun e s' => R (.error e) s') s₄) (notedBy (model prog w) A env fun e s' => R (.error e) s') s₃
            else ∃ m, m < n ∧ I m s₃) (notedBy (model prog w) A env fun e s' => R (.error e) s') s₂) (notedBy (model prog w) A env fun e s' => R (.error e) s') s₁') (notedBy (model prog w) A env fun e s' => R (.error e) s') s₁) (notedBy (model prog w) A env fun e s' => R (.error e) s') s)
    (n : Nat) (h : I n s) :
    codeAny (model prog w) A (.compLoop (.ListComp elt [⟨target, iter, ifs, 0⟩] scope pos) 0 it acc env) R s := by
  refine codeAny_loop rfl I (fun n s hI => ?_) n h
  show wpAny _ A ((compTurn (.ListComp elt [⟨target, iter, ifs, 0⟩] scope pos) 0 it acc env).onRaise (fun x => do noteFrame x env; theTreesLotGoes x)) _ _ s
  refine wpAny_noted ?_
  rw [compTurn_list]
  refine wpAny_bind (wpAny_standAt (wpAny_bind (wpAny_mono (turn n s hI) (fun r s₁ h₁ => ?_) fun _ _ h' => h')))
  cases r with
  | none => exact wpAny_pure h₁
  | some v =>
    refine wpAny_bind (wpAny_mono h₁ (fun _ s₁' h₁' => ?_) fun _ _ h' => h')
    refine wpAny_bind (wpAny_mono h₁' (fun _ s₂ h₂ => wpAny_bind (wpAny_mono h₂ (fun ok s₃ h₃ => ?_) fun _ _ h' => h')) fun _ _ h' => h')
    cases ok with
    | false => exact wpAny_pure ⟨rfl, h₃⟩
    | true =>
      exact wpAny_bind (wpAny_bind (wpAny_mono h₃ (fun x s₄ h₄ => wpAny_bind (wpAny_mono h₄ (fun _ s₅ h₅ => wpAny_pure (wpAny_pure ⟨rfl, h₅⟩)) fun _ _ h' => h')) fun _ _ h' => h'))

section
variable {X : Cx}
/-- [elt for target in iter if ..]: D the new list; W by the turn and a measure, Nx what a turn is to reach -/
def tLc (wi : TI) (g : TG) (tt : TT) (te : TE) (vs : List Nat) : TE := fun σ H Q => wi σ H fun J H1 => ∀ D, H1 D = none → ∃ W : Nat → Nat → Hp → Prop, (∃ m, W 0 m (upd H1 D (.lst []))) ∧ ∀ i m H, W i m H →
  (J.stop i H ∧ Q (.ref D) H) ∨ (J.go i H ∧ ∃ Nx : Hp → Prop, (∀ H', Nx H' → ∃ m', m' < m ∧ W (i + 1) m' H') ∧ ∀ x H', J.yld i H x H' → g x (wipe σ vs) H' fun σ2 H2 => wipe σ2 vs = wipe σ vs ∧ tt σ2 H2 fun b H3 =>
    if b = true then te σ2 H3 fun y H4 => ∃ acc, H4 D = some (.lst acc) ∧ acc.length < sizeLine ∧ Nx (upd H4 D (.lst (acc ++ [y]))) else Nx H3)
theorem lc_core {pins : List (Addr × Obj)} {s : Shared} {σ : St} {H : Hp} {Q : VK} {elt tg iter : Expr} {ifs : List Expr} {scope : Scope} {own : List (Str × Nat)} {pos pos' : Pos} {wi : TI} {g : TG} {tt : TT} {te : TE} {use : Option (Value → Sem Unit)} {Qf : Value → Shared → Prop}
    (hc : X.calm = true) (hN : X.N.Nodup) (I : Inv X pins σ H s) (hi : PI X tg iter wi) (ok : BlkOk X.N X.env.scope scope own)
    (hg : ∀ (s : Shared) (H : Hp) (C : Addr) (cl : List (Str × Addr)) (fp : List Addr), PG (X.blk s H scope (compEnvC scope cl C X.env) fp) tg g) (ht : ∀ (s : Shared) (H : Hp) (C : Addr) (cl : List (Str × Addr)) (fp : List Addr), PTs (X.blk s H scope (compEnvC scope cl C X.env) fp) ifs tt)
    (he : ∀ (s : Shared) (H : Hp) (C : Addr) (cl : List (Str × Addr)) (fp : List Addr), PE (X.blk s H scope (compEnvC scope cl C X.env) fp) elt te) (hs : ∀ x, foldedSetIterable iter X.env x = pure x)
    (h : tLc wi g tt te (own.map (·.2)) σ H Q)
    (hRR : ∀ D C s' m H', Inv X pins σ H' s' → Q (.ref D) H' → s'.heap.Ns C m → FpOk X pins H' C → compPost (model X.prog X.w) X.A X.xe use Qf (.ref D) C (.ok .next) s') :
    wpAny (model X.prog X.w) X.A (comprehension (.ListComp elt [⟨tg, iter, ifs, 0⟩] scope pos) scope X.env pos' (newList []) false (eval iter X.env) use) Qf X.xe s := by
  have hfree : ∀ y ∈ scope.names, y.2 = .free → ∃ c, X.env.cells.lookup y.1 = some c := fun y hy e => by
    rcases ok.free y hy e with k | k
    · exact I.ok.has _ (.inl k)
    · exact I.ok.has _ (.inr k)
  refine wpAny_comprehension_free (use := use) rfl hs (closure_ok hfree) ok.kind (fun y hy e => by rw [ok.uniq y hy, e])
    (thn (hi pins s σ H _ I h) fun xv s1 hx => thn hx fun itv s2 h2 => ?_)
  obtain ⟨it, fp, tn, J, H2, e, I2, T, st2, f2, q⟩ := h2
  subst e
  refine wpAny_newObj_type (newEnv_comp ?_) (by show 0 ≤ sizeLine; decide)
  generalize hD : s2.heap.objs.size = D
  have hDn : H2 D = none := I2.hok.fresh (Nat.le_of_eq hD)
  obtain ⟨W, ⟨m0, w0⟩, turn⟩ := q D hDn
  -- the new list
  generalize hs3 : ({ s2 with heap := s2.heap.push { cls := .type "list", data := .seq ([] : List Value).toArray } } : Shared) = s3
  have I3 : Inv X pins σ (upd H2 D (.lst [])) s3 := by
    rw [← hs3]
    refine I2.laid (t' := s2.toks) (fun b o e => Heap.get?_push_of_some _ e) (Nat.le_of_eq hD) ⟨Nat.zero_le _, [], 0, .nil, ?_⟩
    rw [← hD]
    exact Heap.get?_push_size _ rfl
  have h3 : s3.heap = s2.heap.push { cls := .type "list", data := .seq ([] : List Value).toArray } := by rw [← hs3]
  have sz : ∀ b ∈ fp, b < s2.heap.objs.size := fun b hb => by
    obtain ⟨o, e, _⟩ := T.obj _ _ st2 b hb
    exact Heap.lt_size e
  have f3 : ∀ b ∈ fp, FpOk X pins (upd H2 D (.lst [])) b ∧ b < s3.heap.objs.size := fun b hb => by
    have hlt := sz b hb
    refine ⟨⟨?_, (f2 b hb).2⟩, by rw [h3, Heap.size_push]; exact Nat.lt_succ_of_lt hlt⟩
    rw [upd_ne (by rw [← hD]; exact Nat.ne_of_lt hlt)]
    exact (f2 b hb).1
  have st3 : tn 0 s3.heap := T.keep _ _ _ st2 fun b _ o e => by rw [h3]; exact Heap.get?_push_of_some _ e
  have I4 := block_start I3 ok hN f3
  have pg := hg s3 (upd H2 D (.lst [])) s3.heap.objs.size (cellsFrom (s3.heap.objs.size + 1) scope.names (cloFrom X.env.cells scope.names [])) fp
  have pt := ht s3 (upd H2 D (.lst [])) s3.heap.objs.size (cellsFrom (s3.heap.objs.size + 1) scope.names (cloFrom X.env.cells scope.names [])) fp
  have pe := he s3 (upd H2 D (.lst [])) s3.heap.objs.size (cellsFrom (s3.heap.objs.size + 1) scope.names (cloFrom X.env.cells scope.names [])) fp
  show codeAny _ _ (.compStart (.ListComp elt [⟨tg, iter, ifs, 0⟩] scope pos) 0 (.ref it) (.ref D) (compEnvC scope (cellsFrom (s3.heap.objs.size + 1) scope.names (cloFrom X.env.cells scope.names [])) s3.heap.objs.size X.env)) (compPost (model X.prog X.w) X.A X.xe use Qf (.ref D) s3.heap.objs.size) { s3 with heap := pushCells (s3.heap.push { cls := .type "dict", data := .dict #[] }) scope.names }
  have nfp : ∀ b ∈ fp, (upd H2 D (.lst [])) b = none := fun b hb => (f3 b hb).1.1
  generalize hce : compEnvC scope (cellsFrom (s3.heap.objs.size + 1) scope.names (cloFrom X.env.cells scope.names [])) s3.heap.objs.size X.env = ce at I4 pg pt pe ⊢
  have cL : ce.locals = s3.heap.objs.size := by subst hce; rfl
  generalize hH3 : upd H2 D (.lst []) = H3 at I3 I4 pg pt pe w0 nfp f3
  generalize hs4 : ({ s3 with heap := pushCells (s3.heap.push { cls := .type "dict", data := .dict #[] }) scope.names } : Shared) = s4 at I4 ⊢
  have st4 : tn 0 s4.heap := T.keep _ _ _ st3 fun b _ o e => by rw [← hs4]; exact pushCells_keeps _ _ _ _ (Heap.get?_push_of_some _ e)
  have stat : ∀ {σ' : St} {H' : Hp} {s' : Shared}, Inv (X.blk s3 H3 scope ce fp) [] σ' H' s' → (∀ b ∈ fp, H' b = none) → ∀ b ∈ fp, FpOk (X.blk s3 H3 scope ce fp) [] H' b := fun {σ' H' s'} I' hn b hb =>
    ⟨hn b hb, (I'.ok.exf b hb).1, I'.ok.exfs b hb, .inl hb, fun x c e => (I'.ok.exf b hb).2 x c e, fun p hp => absurd (show p ∈ ([] : List (Addr × Obj)) ++ [] from hp) (by simp)⟩
  have loop : codeAny (model X.prog X.w) X.A (.compLoop (.ListComp elt [⟨tg, iter, ifs, 0⟩] scope pos) 0 (.ref it) (.ref D) ce) (compPost (model X.prog X.w) X.A X.xe use Qf (.ref D) s3.heap.objs.size) s4 := by
    refine compLoop_any (fun n s' => ∃ i H', Inv (X.blk s3 H3 scope ce fp) [] (wipe σ (own.map (·.2))) H' s' ∧ tn i s'.heap ∧ (∀ b ∈ fp, H' b = none) ∧ W i n H') ?_ m0 ⟨0, H3, I4, st4, nfp, w0⟩
    rintro n s5 ⟨i, H5, I5, st5, n5, w5⟩
    rcases turn i n H5 w5 with ⟨stop, qq⟩ | ⟨go, Nx, hNx, step⟩
    · have td := T.done (X.blk s3 H3 scope ce fp) rfl rfl rfl hc i [] s5 _ H5 (fun _ _ => False) I5 (stat I5 n5) st5 stop
      refine thnF td fun r s6 ⟨hr, I6⟩ => ?_
      subst hr
      -- back in the def's context
      have I7 : Inv X pins σ H5 s6 := I3.call' (ch := fp) I6.os I6.base I6.hok I6.bare fun b hb => ⟨(f3 b hb).1.2.2.2.1, (f3 b hb).1.2.1, (f3 b hb).1.2.2.2.2.1, (f3 b hb).1.2.2.2.2.2⟩
      have nC : H5 s3.heap.objs.size = none := by
        have z : H5 ce.locals = none := I6.free
        rw [cL] at z
        exact z
      obtain ⟨m, hn, _⟩ := I6.loc
      have hn : s6.heap.Ns ce.locals m := hn
      rw [cL] at hn
      exact hRR D s3.heap.objs.size s6 m H5 I7 qq hn (I3.fpOk (Nat.le_refl _) nC)
    · have ti := T.item (X.blk s3 H3 scope ce fp) rfl rfl rfl hc i [] s5 _ H5 (fun _ _ => False) I5 (stat I5 n5) st5 go
      refine thnF ti fun r s6 ⟨u, hr, h6⟩ => ?_
      subst hr
      refine thnF h6 fun _ s7 ⟨x, H7, I7, r7, y7, st7, n7⟩ => ?_
      have I7' := I7.pinned (stat I7 n7) (T.obj _ _ st7)
      refine thnF (pg _ s7 _ H7 x u _ I7' r7 (step x H7 y7)) fun _ s8 ⟨σ8, H8, I8, hw8, q8⟩ => ?_
      refine thnF (pt _ s8 σ8 H8 _ I8 q8) fun b s9 ⟨H9, I9, q9⟩ => ?_
      -- the turn's end
      have fin : ∀ {s' : Shared} {H' : Hp}, Inv (X.blk s3 H3 scope ce fp) ([] ++ pinsAt fp s7.heap) σ8 H' s' → Nx H' → ∃ m, m < n ∧ ∃ i H', Inv (X.blk s3 H3 scope ce fp) [] (wipe σ (own.map (·.2))) H' s' ∧ tn i s'.heap ∧ (∀ b ∈ fp, H' b = none) ∧ W i m H' := fun {s' H'} I' nx => by
        obtain ⟨m', hm, w'⟩ := hNx H' nx
        have pin' : ∀ b ∈ fp, ∀ o, s7.heap.get? b = some o → s'.heap.get? b = some o ∧ H' b = none := fun b hb o e =>
          let z := I'.pin (b, o) (List.mem_append_right _ (List.mem_append_right _ (mem_pinsAt hb e)))
          ⟨z.1, z.2.1⟩
        have hl : (wipe σ (own.map (·.2))).length = σ8.length := by rw [← hw8, wipe_length]
        refine ⟨m', hm, i + 1, H', (I'.unpinned (pins := [])).weak hl (fun j v e => ?_), T.keep _ _ _ st7 fun b hb o e => (pin' b hb o e).1, fun b hb => ?_, w'⟩
        · rw [← hw8] at e
          exact (wipe_some e).1
        · obtain ⟨o, e, _⟩ := T.obj _ _ st7 b hb
          exact (pin' b hb o e).2
      cases b with
      | false =>
        simp only [Bool.false_eq_true, if_false] at q9 ⊢
        exact fin I9 q9
      | true =>
        simp only [if_true] at q9 ⊢
        refine thnF (pe _ s9 σ8 H9 _ I9 q9) fun z s10 ⟨yv, H10, I10, r10, acc, hD10, hz10, nx⟩ => ?_
        exact app_ok (X := X.blk s3 H3 scope ce fp) I10 hD10 hz10 r10 fun s11 I11 => fin I11 nx
  exact codeAny_compStart_list loop (T.self X.A 0 _ _ _ st4 loop)
/-- as a value -/
theorem pe_lc {elt tg iter : Expr} {ifs : List Expr} {scope : Scope} {own : List (Str × Nat)} {pos : Pos} {wi : TI} {g : TG} {tt : TT} {te : TE} (hc : X.calm = true) (hN : X.N.Nodup) (hi : PI X tg iter wi) (ok : BlkOk X.N X.env.scope scope own)
    (hg : ∀ (s : Shared) (H : Hp) (C : Addr) (cl : List (Str × Addr)) (fp : List Addr), PG (X.blk s H scope (compEnvC scope cl C X.env) fp) tg g) (ht : ∀ (s : Shared) (H : Hp) (C : Addr) (cl : List (Str × Addr)) (fp : List Addr), PTs (X.blk s H scope (compEnvC scope cl C X.env) fp) ifs tt)
    (he : ∀ (s : Shared) (H : Hp) (C : Addr) (cl : List (Str × Addr)) (fp : List Addr), PE (X.blk s H scope (compEnvC scope cl C X.env) fp) elt te) (hs : ∀ x, foldedSetIterable iter X.env x = pure x := by intro _; rfl) :
    PE X (.ListComp elt [⟨tg, iter, ifs, 0⟩] scope pos) (tLc wi g tt te (own.map (·.2))) := by
  intro pins s σ H Q I h
  rw [eval_ListComp]
  refine lc_core hc hN I hi ok hg ht he hs h fun D C s' m H' I' q hn f => ⟨m, hn, fun h'' sb => ?_⟩
  obtain ⟨f0, f1, f2, f3, f4, f5⟩ := f
  exact ⟨.ref D, H', I'.turned (t' := s'.toks) (fun b o hb e => (sb.2 b hb).trans e) f0 f1 f3 f4 f5, rfl, q⟩
/-- name = [..] on one line, the name a local -/
theorem ps_setLc {i : Nat} {y : Str} {py : Pos} {elt tg iter : Expr} {ifs : List Expr} {scope : Scope} {own : List (Str × Nat)} {pos spos : Pos} {wi : TI} {g : TG} {tt : TT} {te : TE} (hc : X.calm = true) (hN : X.N.Nodup) (hy : X.N[i]? = some y) (hyl : X.env.scope.names.lookup y = some .local)
    (hsw : swapsWith (.ListComp elt [⟨tg, iter, ifs, 0⟩] scope pos) (some (.Name y py)) spos.line X.env = pure true) (hi : PI X tg iter wi) (ok : BlkOk X.N X.env.scope scope own)
    (hg : ∀ (s : Shared) (H : Hp) (C : Addr) (cl : List (Str × Addr)) (fp : List Addr), PG (X.blk s H scope (compEnvC scope cl C X.env) fp) tg g) (ht : ∀ (s : Shared) (H : Hp) (C : Addr) (cl : List (Str × Addr)) (fp : List Addr), PTs (X.blk s H scope (compEnvC scope cl C X.env) fp) ifs tt)
    (he : ∀ (s : Shared) (H : Hp) (C : Addr) (cl : List (Str × Addr)) (fp : List Addr), PE (X.blk s H scope (compEnvC scope cl C X.env) fp) elt te) (hs : ∀ x, foldedSetIterable iter X.env x = pure x := by intro _; rfl) :
    PS X (.Assign [.Name y py] (.ListComp elt [⟨tg, iter, ifs, 0⟩] scope pos) spos) (tAsg (tLc wi g tt te (own.map (·.2))) (gName i)) := by
  intro pins s σ H D I h
  rw [exec_Assign_Name_used _ _ _ _ hsw]
  refine wpAny_bind (wpAny_standAt (wpAny_bind ?_))
  show wpAny _ X.A (do let _ ← comprehension (.ListComp elt [⟨tg, iter, ifs, 0⟩] scope pos) scope X.env (firstIterPos [⟨tg, iter, ifs, 0⟩] pos) (newList []) false (eval iter X.env) (some (assign (.Name y py) X.env))) _ _ s
  have h : tLc wi g tt te (own.map (·.2)) σ H (fun x H1 => gName i x σ H1 D.nx) := h
  refine wpAny_bind (thn (lc_core (Qf := fun _ s' => SP X pins D .next s') hc hN I hi ok hg ht he hs h fun L C s' m H' I' q hn f => ?_) fun _ s' hq => wpAny_pure (wpAny_pure hq))
  show wpAny _ _ (assign (.Name y py) X.env (.ref L)) _ _ _
  refine wpAny_assign_Name (store_ok2 (v := V.ref L) I' hN hy (.inl hyl) rfl (fun s2 I2 ⟨a, sb, ha⟩ => ?_) (.inr hyl))
  obtain ⟨f0, f1, f2, f3, f4, f5⟩ := f
  have haC : C ≠ a := by
    rcases ha with z | z
    · rw [z]; exact f1
    · exact fun e => f4 y a z e.symm
  refine ⟨m, hn.sameBut sb haC, fun h3 sb3 => ?_⟩
  exact ⟨_, H', I2.turned (t' := s2.toks) (fun b o hb e => (sb3.2 b hb).trans e) f0 f1 f3 f4 f5, q⟩
end

/-! ### the forms one uses -/
/-- over a list that the block leaves as it is -/
theorem lc_list {K : PySem.W.Frag} {a : Addr} {xs : List V} {g : TG} {tt : TT} {te : TE} {vs : List Nat} {σ : St} {H1 : Hp} {D : Addr} {Qd : Hp → Prop} (Pv : Nat → Hp → Prop) (h0 : Pv 0 (upd H1 D (.lst []))) (hl : ∀ i H, i ≤ xs.length → Pv i H → SqL K H a xs)
    (hs : ∀ i x H, xs[i]? = some x → Pv i H → g x (wipe σ vs) H fun σ2 H2 => wipe σ2 vs = wipe σ vs ∧ tt σ2 H2 fun b H3 =>
      if b = true then te σ2 H3 fun y H4 => ∃ acc, H4 D = some (.lst acc) ∧ acc.length < sizeLine ∧ Pv (i + 1) (upd H4 D (.lst (acc ++ [y]))) else Pv (i + 1) H3) (hd : ∀ H, Pv xs.length H → Qd H) :
    ∃ W : Nat → Nat → Hp → Prop, (∃ m, W 0 m (upd H1 D (.lst []))) ∧ ∀ i m H, W i m H →
      ((Itl K a).stop i H ∧ Qd H) ∨ ((Itl K a).go i H ∧ ∃ Nx : Hp → Prop, (∀ H', Nx H' → ∃ m', m' < m ∧ W (i + 1) m' H') ∧ ∀ x H', (Itl K a).yld i H x H' → g x (wipe σ vs) H' fun σ2 H2 => wipe σ2 vs = wipe σ vs ∧ tt σ2 H2 fun b H3 =>
        if b = true then te σ2 H3 fun y H4 => ∃ acc, H4 D = some (.lst acc) ∧ acc.length < sizeLine ∧ Nx (upd H4 D (.lst (acc ++ [y]))) else Nx H3) := by
  refine ⟨fun i m H => m = xs.length - i ∧ i ≤ xs.length ∧ Pv i H, ⟨xs.length, by simp, Nat.zero_le _, h0⟩, ?_⟩
  rintro i m H ⟨rfl, hi, p⟩
  have q := hl i H hi p
  by_cases hlt : i < xs.length
  · refine .inr ⟨⟨xs, xs[i], q, by simp [hlt]⟩, Pv (i + 1), fun H' p' => ⟨xs.length - (i + 1), by omega, rfl, hlt, p'⟩, fun x H' y => ?_⟩
    obtain ⟨e, y⟩ := y
    subst e
    exact hs i x _ (y xs q) p
  · have e : i = xs.length := by omega
    subst e
    exact .inl ⟨⟨xs, q, Nat.le_refl _⟩, hd H p⟩
def blkC (N : List Str) (sc scope : Scope) (own : List (Str × Nat)) : Bool :=
  (match scope.kind with | .function => true | _ => false) && (scope.names.all fun y => decide (scope.names.lookup y.1 = some y.2)) && (own.all fun p => decide (N[p.2]? = some p.1)) &&
    (scope.names.all fun y => match y.2 with
      | .free => (match sc.names.lookup y.1 with | some .cell => true | some .free => true | _ => false)
      | .local => decide (y.1 ∈ own.map (·.1)) || decide (y.1 ∉ N)
      | .cell => decide (y.1 ∈ own.map (·.1)) || decide (y.1 ∉ N)
      | _ => true)
theorem blkOk_by {N : List Str} {sc scope : Scope} {own : List (Str × Nat)} (h : blkC N sc scope own = true) : BlkOk N sc scope own := by
  unfold blkC at h
  simp only [Bool.and_eq_true, List.all_eq_true, decide_eq_true_eq] at h
  obtain ⟨⟨⟨h1, h2⟩, h3⟩, h4⟩ := h
  refine ⟨?_, h2, h3, fun y hy e => ?_, fun y hy e => ?_⟩
  · split at h1
    · assumption
    · cases h1
  · have q := h4 y hy
    simp only [e] at q
    split at q <;> first | exact .inl (by assumption) | exact .inr (by assumption) | cases q
  · have q := h4 y hy
    rcases e with e | e <;> (simp only [e, Bool.or_eq_true, decide_eq_true_eq] at q; exact q)
end L2

namespace L2
open PySem PySem.Spec PyProof.Rows


section
variable {prog : Program} {w : World} {A : Around} {R : Result → Shared → Prop} {s : Shared} {elt t0 i0 t1 i1 : Expr} {ifs0 ifs1 : List Expr} {scope : Scope} {pos : Pos} {it acc : Value} {env : Env}
end

section
variable {X : Cx}
end
end L2

namespace L2
open PySem PySem.Spec PyProof.Rows

/-! ### lists of pairs as tables -/
section
variable {κ : Type} [DecidableEq κ]



end


/-! ### a tracked dict, its keys ints and texts or tuples of these -/


section
variable {P : Program} {w : World} {H : Hp} {h : Heap} {a : Addr}
end



section
variable {X : Cx} {pins : List (Addr × Obj)} {σ : St} {H : Hp} {s : Shared} {a : Addr} {y v : V} {u r : Value} {o : Option V} {A : Around} {E : Value → Shared → Prop}


end

section
variable {X : Cx} {pins : List (Addr × Obj)} {σ : St} {H : Hp} {s : Shared} {a : Addr} {kvs : List (Key × V)} {k : Key} {u : Value} {A : Around} {E : Value → Shared → Prop}
end


/-! ### readings and rules -/



section
variable {X : Cx} {o i e value : Expr} {pos pos' tpos : Pos} {td ty tv : TE}
end


/-! ### displays -/
section
variable {X : Cx} {pos : Pos}
end




/-! ### methods -/


section
variable {X : Cx} {pins : List (Addr × Obj)} {σ : St} {H : Hp} {s : Shared} {a : Addr} {y d : V} {u r : Value} {o : Option V} {A : Around} {E : Value → Shared → Prop}
end

section
variable {X : Cx} {o e f : Expr} {apos cpos : Pos} {td ty tx : TE}
end

/-! ### dict(d): a copy -/
section
variable {X : Cx} {pins : List (Addr × Obj)} {σ : St} {H : Hp} {s : Shared} {a : Addr} {kvs : List (Key × V)} {A : Around} {E : Value → Shared → Prop}
end


section
variable {X : Cx} {pins : List (Addr × Obj)} {σ : St} {H : Hp} {s : Shared} {a : Addr} {y : V} {u : Value} {A : Around} {E : Value → Shared → Prop}
end
end L2

namespace L2
open PySem PySem.Spec PyProof.Rows


section
variable {prog : Program} {w : World} {A : Around} {E : Value → Shared → Prop}


end

section
variable {X : Cx}
end
end L2

namespace L2
open PySem PySem.Spec PyProof.Rows


section
variable {X : Cx} {pins : List (Addr × Obj)} {σ : St} {H : Hp} {s : Shared} {h' : Heap}
/-- several records of ours have turned -/
theorem Inv.turnedL {t' : Nat} {ch : List Addr} (I : Inv X pins σ H s) (k : ∀ b o, b ∉ ch → s.heap.get? b = some o → h'.get? b = some o) (hf : ∀ b ∈ ch, FpOk X pins H b) : Inv X pins σ H { s with heap := h', toks := t' } := by
  have nit : ∀ b u, H b = some u → b ∉ ch := fun b u e z => by
    have q := (hf b z).1
    rw [q] at e; cases e
  refine I.step (g' := s.gens) (d' := s.drawn) (ch := ch) (fun b hb => ⟨(hf b hb).2.2.2.1, (hf b hb).2.1, (hf b hb).2.2.2.2.1, (hf b hb).2.2.2.2.2⟩) (fun b o _ _ hc e _ => k b o hc e) (fun b o _ _ hc e _ => ⟨o.slots, k b o hc e⟩)
    (fun _ _ _ _ n => n) (fun b o hc e => ⟨o, k b o hc e⟩) (fun _ _ e => e) (fun _ _ _ e => e) (fun b ps e => ⟨#[], by rw [e]; simp⟩) (fun m hm => ?_) (fun b u e => ?_) I.bare
  · obtain ⟨o, es, ep, ho, r⟩ := hm
    exact ⟨o, es, ep, k _ o (fun z => (hf _ z).2.1 rfl) ho, r⟩
  · refine (I.hok b u e).stay (fun c v hc q => k c v ?_ q) (fun _ q => q) fun _ _ q => q
    rcases hc with z | z
    · rw [z]; exact nit b u e
    · exact nit c _ z
/-- .. and one new object is laid -/
theorem Inv.turnedNew {t' : Nat} {ch : List Addr} {T : Addr} {ob : HO} (I : Inv X pins σ H s) (k : ∀ b o, b ∉ ch → s.heap.get? b = some o → h'.get? b = some o) (hf : ∀ b ∈ ch, FpOk X pins H b) (hT : s.heap.objs.size ≤ T)
    (new : ObjOk X.prog X.w (upd H T ob) h' T ob) : Inv X pins σ (upd H T ob) { s with heap := h', toks := t' } := by
  have hn : H T = none := I.hok.fresh hT
  have nit : ∀ b u, H b = some u → b ∉ ch := fun b u e z => by
    have q := (hf b z).1
    rw [q] at e; cases e
  refine I.step (g' := s.gens) (d' := s.drawn) (ch := ch) (fun b hb => ⟨(hf b hb).2.2.2.1, (hf b hb).2.1, (hf b hb).2.2.2.2.1, (hf b hb).2.2.2.2.2⟩) (fun b o _ _ hc e _ => k b o hc e) (fun b o _ _ hc e _ => ⟨o.slots, k b o hc e⟩)
    (fun b o _ e n => ?_) (fun b o hc e => ⟨o, k b o hc e⟩) (fun b xs e => ?_) (fun b o u e => ?_) (fun b ps e => ⟨#[], ?_⟩) (fun m hm => ?_) (fun b u e => ?_) I.bare
  · rw [upd_ne (Nat.ne_of_lt (Nat.lt_of_lt_of_le (Heap.lt_size e) hT))]; exact n
  · rw [upd_ne (ne_of_none e hn)]; exact e
  · rw [upd_ne (ne_of_none e hn)]; exact e
  · rw [upd_ne (ne_of_none e hn), e]; simp
  · obtain ⟨o, es, ep, ho, r⟩ := hm
    exact ⟨o, es, ep, k _ o (fun z => (hf _ z).2.1 rfl) ho, r⟩
  · by_cases hb : b = T
    · subst hb
      rw [upd_same] at e
      cases e
      exact new
    · rw [upd_ne hb] at e
      refine (I.hok b u e).stay (fun c v hc q => k c v ?_ q) (fun c q => by rw [upd_ne (ne_of_none q hn)]; exact q) fun c xs q => by rw [upd_ne (ne_of_none q hn)]; exact q
      rcases hc with z | z
      · rw [z]; exact nit b u e
      · exact nit c _ z

/-! ### locking a thing while a statement runs -/
end
section
variable {X : Cx}

/-! ### one iterator just laid -/
end

/-! ### range with a step -/
section
variable {X : Cx} {tg : Expr}
end

/-! ### reversed(list) -/
section
variable {X : Cx} {tg : Expr}
end

/-! ### a str -/

/-! ### a dict's keys: any dict's entries -/
section
variable {prog : Program} {w : World} {A : Around} {E : Value → Shared → Prop} {s : Shared}
end

/-! ### a locked dict -/
section
variable {X : Cx} {pins : List (Addr × Obj)} {σ : St} {H : Hp} {s : Shared} {d : Addr} {o : Obj}
end

section
variable {P : Program} {w : World} {K : PySem.W.Frag} {tg : Expr} {d : Addr} {o : Obj} {es : Array DictEntry} {ep : Nat}
end

/-! ### for k in d, d.keys(), d.values(), d.items() -/
section
variable {X : Cx} {tg e : Expr} {td : TE} {apos cpos : Pos}
end

/-! ### enumerate(list) -/
/-- the list at a as it stands at each turn, each item in a new pair -/
def Ite (K : PySem.W.Frag) (a : Addr) : It :=
  ⟨fun i H => ∃ (xs : List V) (x : V), SqL K H a xs ∧ xs[i]? = some x, fun i H v H' => ∃ T x, v = .ref T ∧ H T = none ∧ H' = upd H T (.tup [.int (i : Nat), x]) ∧ ∀ xs, SqL K H a xs → xs[i]? = some x, fun i H => ∃ xs : List V, SqL K H a xs ∧ xs.length ≤ i⟩
theorem turn_enum {P : Program} {w : World} {K : PySem.W.Frag} {elts : List Expr} {kk : Nat} {tpos : Pos} (a e it : Addr) :
    Turn P w K (.Tuple elts kk tpos) (Ite K a) [e, it] e (fun i h => (∃ old, IsEnum h e it ((i : Nat) : Int) old) ∧ h.IsListIter it a i ∧ e ≠ it) where
  mem := by simp
  obj := fun i h st b hb => by
    obtain ⟨⟨old, he⟩, ⟨o, ho, hc, hd⟩, _⟩ := st
    have e' : b = e ∨ b = it := by simpa using hb
    rcases e' with z | z
    · rw [z]; exact ⟨_, he, fun v q => nomatch q⟩
    · rw [z]; exact ⟨o, ho, fun v q => by rw [hd] at q; cases q⟩
  keep := fun i h h' st k => let ⟨⟨old, he⟩, hi, hne⟩ := st; ⟨⟨old, k e (by simp) _ he⟩, hi.at fun o q => k it (by simp) o q, hne⟩
  item := by
    intro X hP hw hK hc i pins s σ H E I hf st hg
    subst hP hw hK
    obtain ⟨⟨old, he⟩, hit, hne⟩ := st
    obtain ⟨xs, x, hq, hx⟩ := hg
    obtain ⟨its, rv, p, hz⟩ := I.list hq
    obtain ⟨u, hu, ru⟩ := rv.get hx
    have hel : e < s.heap.objs.size := Heap.lt_size he
    have hil : it < s.heap.objs.size := by obtain ⟨_, q, _⟩ := hit; exact Heap.lt_size q
    refine wpAny_pyNext_enum_item he hit p.isList (x := u) (by simpa using hu) hne fun h' ho hit' hT hsz hk => ?_
    refine ⟨_, rfl, wpAny_letOwnedTupleGo_enum (s := { s with heap := h', toks := s.toks + 1 }) ho fun h'' he' sb => ?_⟩
    have hT2 : h''.get? s.heap.objs.size = some { cls := .type "tuple", data := .seq #[.int i s.toks, u] } := (sb.2 _ (Nat.ne_of_gt hel)).trans hT
    have new : ObjOk X.prog X.w (upd H s.heap.objs.size (.tup [.int (i : Nat), x])) h'' s.heap.objs.size (.tup [.int (i : Nat), x]) :=
      ⟨by show 2 ≤ sizeLine; decide, [.int i s.toks, u], .cons ⟨_, rfl⟩ (.cons ru .nil), ⟨_, hT2, rfl, _, rfl⟩⟩
    have I1 : Inv X pins σ (upd H s.heap.objs.size (.tup [.int (i : Nat), x])) { s with heap := h'', toks := s.toks + 1 } :=
      I.turnedNew (ch := [e, it]) (fun b ob hb q => (sb.2 b (fun z => hb (by simp [z]))).trans (hk b ob (fun z => hb (by simp [z])) (fun z => hb (by simp [z])) q)) hf (Nat.le_refl _) new
    refine ⟨.ref s.heap.objs.size, _, I1, rfl, ⟨_, x, rfl, I.hok.fresh (Nat.le_refl _), rfl, fun ys hy => by rw [I.list_inj hy hq]; exact hx⟩, ⟨⟨u, ?_⟩, hit'.at fun o q => (sb.2 it (Ne.symm hne)).trans q, hne⟩, fun b hb => ?_⟩
    · have e1 : ((i + 1 : Nat) : Int) = (i : Int) + 1 := by omega
      rw [e1]; exact he'
    · have hb' : b < s.heap.objs.size := by
        have e' : b = e ∨ b = it := by simpa using hb
        rcases e' with z | z
        · rw [z]; exact hel
        · rw [z]; exact hil
      rw [upd_ne (Nat.ne_of_lt hb')]
      exact (hf b hb).1
  done := by
    intro X hP hw hK hc i pins s σ H E I hf st hg
    subst hP hw hK
    obtain ⟨⟨old, he⟩, hit, hne⟩ := st
    obtain ⟨xs, hq, hx⟩ := hg
    obtain ⟨its, rv, p, hz⟩ := I.list hq
    obtain ⟨f0, f1, f2, f3, f4, f5⟩ := hf it (by simp)
    have hl := rv.length
    exact wpAny_pyNext_enum_end (I.ok.hd hc) he hit p.isList (by simp; omega) fun h' eb => ⟨rfl, I.turned (t' := s.toks) (fun b o hb q => eb b o hb q) f0 f1 f3 f4 f5⟩
  self := fun A i s Q E st h => let ⟨⟨_, he⟩, _⟩ := st; wpAny_pyIter_enum he h
def iEnum (K : PySem.W.Frag) (ta : TA) : TI := fun σ H R => ta σ H fun vs H1 => ∃ a xs, vs = [.ref a] ∧ SqL K H1 a xs ∧ R (Ite K a) H1
theorem pi_enum {X : Cx} {e : Expr} {ta : TA} {p pos tpos : Pos} {elts : List Expr} {kk : Nat} (hg : Gl X "enumerate") (hm : X.mg "enumerate" = none) (ha : PA X [e] ta) (hs : starEach [e] X.env = [(false, eval e X.env)] := by rfl) :
    PI X (.Tuple elts kk tpos) (.Call (.Name "enumerate" p) [e] [] pos) (iEnum X.K ta) := by
  intro pins s σ H R I h
  refine Call_ (ld_blt I hg hm boot_enumerate (PyProof.Rows.callWith_type1 (thn (ha pos pins s σ H _ I h) fun us s1 ⟨vs, H1, I1, r1, q1⟩ => ?_) hs rfl))
  obtain ⟨a, xs, ex, hq, q⟩ := q1
  subst ex
  cases r1 with
  | cons r rr =>
    cases rr
    cases r
    obtain ⟨its, rv, p', hz⟩ := I1.list hq
    refine call_enumerate_list p'.isList fun h' he hit hsz hk => wpAny_pyIter_enum he ?_
    have I2 : Inv X pins σ H1 { s1 with heap := h' } := I1.kept (t' := s1.toks) hk
    refine ⟨s1.heap.objs.size + 1, [s1.heap.objs.size + 1, s1.heap.objs.size], _, _, H1, rfl, I2, turn_enum a (s1.heap.objs.size + 1) s1.heap.objs.size, ⟨⟨.none, he⟩, hit, Nat.succ_ne_self _⟩, fun b hb => ?_, q⟩
    have e' : b = s1.heap.objs.size + 1 ∨ b = s1.heap.objs.size := by simpa using hb
    have hle : s1.heap.objs.size ≤ b := by
      rcases e' with z | z
      · rw [z]; exact Nat.le_add_right _ _
      · rw [z]; exact Nat.le_refl _
    exact I1.fpOk hle (I1.hok.fresh hle)
/-! ### zip(list, list) -/
theorem boot_zip5 : bootBuiltins "zip" = some (.type "zip") := by decide +kernel
/-- the lists at a and b as they stand at each turn, the items in new pairs -/
def Itz (K : PySem.W.Frag) (a b : Addr) : It :=
  ⟨fun i H => ∃ (xs ys : List V) (x y : V), SqL K H a xs ∧ SqL K H b ys ∧ xs[i]? = some x ∧ ys[i]? = some y,
    fun i H v H' => ∃ T x y, v = .ref T ∧ H T = none ∧ H' = upd H T (.tup [x, y]) ∧ (∀ xs, SqL K H a xs → xs[i]? = some x) ∧ ∀ ys, SqL K H b ys → ys[i]? = some y,
    fun i H => ∃ xs ys : List V, SqL K H a xs ∧ SqL K H b ys ∧ (xs.length ≤ i ∨ ys.length ≤ i)⟩
theorem turn_zip {P : Program} {w : World} {K : PySem.W.Frag} {elts : List Expr} {kk : Nat} {tpos : Pos} {a b z TI TO i1 i2 : Addr} (D : ZipApart z TI TO i1 i2 a b) :
    Turn P w K (.Tuple elts kk tpos) (Itz K a b) [z, TI, TO, i1, i2] z (fun i h => IsZip h z TI TO .none ∧ IsPair h TI (.ref i1) (.ref i2) ∧ (∃ x y, IsPair h TO x y) ∧ h.IsListIter i1 a i ∧ h.IsListIter i2 b i) where
  mem := by simp
  obj := fun i h st c hc => by
    obtain ⟨hz, hTI, ⟨x, y, hTO⟩, ⟨o1, e1, _, d1⟩, ⟨o2, e2, _, d2⟩⟩ := st
    have e' : c = z ∨ c = TI ∨ c = TO ∨ c = i1 ∨ c = i2 := by simpa using hc
    rcases e' with q | q | q | q | q
    · rw [q]; exact ⟨_, hz, fun v q => nomatch q⟩
    · rw [q]; exact ⟨_, hTI, fun v q => nomatch q⟩
    · rw [q]; exact ⟨_, hTO, fun v q => nomatch q⟩
    · rw [q]; exact ⟨o1, e1, fun v q => by rw [d1] at q; cases q⟩
    · rw [q]; exact ⟨o2, e2, fun v q => by rw [d2] at q; cases q⟩
  keep := fun i h h' st k => by
    obtain ⟨hz, hTI, ⟨x, y, hTO⟩, h1, h2⟩ := st
    exact ⟨k z (by simp) _ hz, k TI (by simp) _ hTI, ⟨x, y, k TO (by simp) _ hTO⟩, h1.at fun o q => k i1 (by simp) o q, h2.at fun o q => k i2 (by simp) o q⟩
  item := by
    intro X hP hw hK hc i pins s σ H E I hf st hg
    subst hP hw hK
    obtain ⟨hz, hTI, ⟨x0, y0, hTO⟩, h1, h2⟩ := st
    obtain ⟨xs, ys, x, y, hqx, hqy, hx, hy⟩ := hg
    obtain ⟨its, rv, p, _⟩ := I.list hqx
    obtain ⟨its2, rv2, p2, _⟩ := I.list hqy
    obtain ⟨u, hu, ru⟩ := rv.get hx
    obtain ⟨u2, hu2, ru2⟩ := rv2.get hy
    have hzl : z < s.heap.objs.size := Heap.lt_size hz
    refine wpAny_pyNext_zip_item D hz hTI hTO h1 h2 p.isList p2.isList (x := u) (y := u2) (by simpa using hu) (by simpa using hu2) fun h' z' TO' h1' h2' hT hsz hk => ?_
    refine ⟨_, rfl, wpAny_letOwnedTupleGo_zip (s := { s with heap := h' }) z' fun h'' z'' sb => ?_⟩
    have hT2 : h''.get? s.heap.objs.size = some { cls := .type "tuple", data := .seq #[u, u2] } := (sb.2 _ (Nat.ne_of_gt hzl)).trans hT
    have new : ObjOk X.prog X.w (upd H s.heap.objs.size (.tup [x, y])) h'' s.heap.objs.size (.tup [x, y]) :=
      ⟨by show 2 ≤ sizeLine; decide, [u, u2], .cons ru (.cons ru2 .nil), ⟨_, hT2, rfl, _, rfl⟩⟩
    have I1 : Inv X pins σ (upd H s.heap.objs.size (.tup [x, y])) { s with heap := h'' } :=
      I.turnedNew (t' := s.toks) (ch := [z, TI, TO, i1, i2]) (fun c o hb q => (sb.2 c (fun q' => hb (by simp [q']))).trans (hk c o (fun q' => hb (by simp [q'])) (fun q' => hb (by simp [q'])) (fun q' => hb (by simp [q'])) (fun q' => hb (by simp [q'])) q)) hf (Nat.le_refl _) new
    refine ⟨.ref s.heap.objs.size, _, I1, rfl, ⟨_, x, y, rfl, I.hok.fresh (Nat.le_refl _), rfl, fun l hl => by rw [I.list_inj hl hqx]; exact hx, fun l hl => by rw [I.list_inj hl hqy]; exact hy⟩, ⟨z'', ?_, ⟨u, u2, ?_⟩, ?_, ?_⟩, fun c hcm => ?_⟩
    · exact (sb.2 _ D.TIz).trans (hk _ _ D.TIz D.TITO D.TIi1 D.TIi2 hTI)
    · exact (sb.2 _ D.TOz).trans TO'
    · exact h1'.at fun o q => (sb.2 _ D.i1z).trans q
    · exact h2'.at fun o q => (sb.2 _ D.i2z).trans q
    · have hlt : c < s.heap.objs.size := by
        have e' : c = z ∨ c = TI ∨ c = TO ∨ c = i1 ∨ c = i2 := by simpa using hcm
        rcases e' with q | q | q | q | q
        · rw [q]; exact hzl
        · rw [q]; exact Heap.lt_size hTI
        · rw [q]; exact Heap.lt_size hTO
        · rw [q]; obtain ⟨_, e1, _⟩ := h1; exact Heap.lt_size e1
        · rw [q]; obtain ⟨_, e2, _⟩ := h2; exact Heap.lt_size e2
      rw [upd_ne (Nat.ne_of_lt hlt)]
      exact (hf c hcm).1
  done := by
    intro X hP hw hK hc i pins s σ H E I hf st hg
    subst hP hw hK
    obtain ⟨hz, hTI, ⟨x0, y0, hTO⟩, h1, h2⟩ := st
    obtain ⟨xs, ys, hqx, hqy, hend⟩ := hg
    obtain ⟨its, rv, p, _⟩ := I.list hqx
    obtain ⟨its2, rv2, p2, _⟩ := I.list hqy
    have l1 := rv.length
    have l2 := rv2.length
    have he : its.toArray[i]? = none ∨ its2.toArray[i]? = none := by
      rcases hend with q | q
      · exact .inl (by simp; omega)
      · exact .inr (by simp; omega)
    exact wpAny_pyNext_zip_end (I.ok.hd hc) D hz hTI hTO h1 h2 p.isList p2.isList he fun h' hk => ⟨rfl, I.turnedL (t' := s.toks) (ch := [z, TI, TO, i1, i2]) (fun c o hb q =>
      hk c o (fun q' => hb (by simp [q'])) (fun q' => hb (by simp [q'])) (fun q' => hb (by simp [q'])) (fun q' => hb (by simp [q'])) q) hf⟩
  self := fun A i s Q E st h => wpAny_pyIter_zip st.1 h
def iZip (K : PySem.W.Frag) (ta : TA) : TI := fun σ H R => ta σ H fun vs H1 => ∃ a b xs ys, vs = [.ref a, .ref b] ∧ SqL K H1 a xs ∧ SqL K H1 b ys ∧ R (Itz K a b) H1
theorem pi_zip {X : Cx} {e e2 : Expr} {ta : TA} {p pos tpos : Pos} {elts : List Expr} {kk : Nat} (hg : Gl X "zip") (hm : X.mg "zip" = none) (ha : PA X [e, e2] ta)
    (hs : starEach [e, e2] X.env = (false, eval e X.env) :: starEach [e2] X.env := by rfl) (hpl : (backTo pos (starEach [e2] X.env)).any (·.1) = false := by rfl) :
    PI X (.Tuple elts kk tpos) (.Call (.Name "zip" p) [e, e2] [] pos) (iZip X.K ta) := by
  intro pins s σ H R I h
  refine Call_ (ld_blt I hg hm boot_zip5 (PyProof.Rows.callWith_type1 (thn (ha pos pins s σ H _ I h) fun us s1 ⟨vs, H1, I1, r1, q1⟩ => ?_) hs hpl))
  obtain ⟨a, b, xs, ys, ex, hqx, hqy, q⟩ := q1
  subst ex
  cases r1 with
  | cons r rr =>
    cases rr with
    | cons r' rr =>
      cases rr
      cases r
      cases r'
      obtain ⟨its, rv, p1, _⟩ := I1.list hqx
      obtain ⟨its2, rv2, p2, _⟩ := I1.list hqy
      have la : a < s1.heap.objs.size := p1.lt
      have lb : b < s1.heap.objs.size := p2.lt
      refine call_zip_2 p1.isList p2.isList fun h' hz hTI hTO h1 h2 hsz hk => wpAny_pyIter_zip hz ?_
      have I2 : Inv X pins σ H1 { s1 with heap := h' } := I1.kept (t' := s1.toks) hk
      refine ⟨s1.heap.objs.size + 4, [s1.heap.objs.size + 4, s1.heap.objs.size + 2, s1.heap.objs.size + 3, s1.heap.objs.size, s1.heap.objs.size + 1], _, _, H1, rfl, I2, turn_zip (PySem.W.ktu_apart s1.heap.objs.size a b la lb), ⟨hz, hTI, ⟨_, _, hTO⟩, h1, h2⟩, fun c hcm => ?_, q⟩
      have e' : c = s1.heap.objs.size + 4 ∨ c = s1.heap.objs.size + 2 ∨ c = s1.heap.objs.size + 3 ∨ c = s1.heap.objs.size ∨ c = s1.heap.objs.size + 1 := by simpa using hcm
      have hle : s1.heap.objs.size ≤ c := by
        rcases e' with z | z | z | z | z
        · rw [z]; exact Nat.le_add_right _ _
        · rw [z]; exact Nat.le_add_right _ _
        · rw [z]; exact Nat.le_add_right _ _
        · rw [z]; exact Nat.le_refl _
        · rw [z]; exact Nat.le_add_right _ _
      exact I1.fpOk hle (I1.hok.fresh hle)
end L2

section 
namespace Bits
open PySem PyProof.Rows







theorem bitOr_pp {x y : Int} (hx : 0 ≤ x) (hy : 0 ≤ y) : Builtin.bitOr x y = ((x.toNat ||| y.toNat : Nat) : Int) := by
  have e := nat_or_add_and x.toNat y.toNat
  rw [bitOr_and, bitAnd_pp hx hy]
  omega

end Bits
end 

section 
namespace TL
open PySem PySem.Builtin PySem.Builtin.Str PySem.StrLaws


/-! ### the list functions -/




/-! ### the model's split and partition are these -/




/-! ### computing spl and par -/


/-! ### digits -/

/-! ### words: x.split() -/
end TL
end 

namespace L2
open PySem PySem.Spec PyProof.Rows




section
variable {X : Cx} {pins : List (Addr × Obj)} {σ : St} {H : Hp} {s : Shared} {Q : VK}
end

section
variable {X : Cx}





/-! ### of a text alone -/

/-! ### of a text and a text -/

end

section
variable {X : Cx} {o e : Expr} {to te : TE}

end
end L2

namespace L2
open PySem PySem.Spec PyProof.Rows

section
variable {X : Cx}
end

/-! ### slices of a text -/


end L2

section
set_option Elab.async false
set_option linter.all false
set_option maxRecDepth 100000
set_option maxHeartbeats 2000000
namespace L2
open PySem PySem.Spec PyProof.Rows
open PySem.W (WData Codec OpenSpec Well WellAll ReadsW ReadsAllW)
/-! ### an answer as data -/
mutual
/-- x stands for the datum d, lists and tuples all the way -/
inductive Dw (K : PySem.W.Frag) (H : Hp) : V → WData → Prop
  | non : Dw K H .non .none
  | bl (b : Bool) : Dw K H (.bl b) (.bool b)
  | int (i : Int) : Dw K H (.int i) (.int i)
  | str (x : Str) : Dw K H (.str x) (.str x)
  | byt (b : Array UInt8) : Dw K H (.byt b) (.bytes b.toList)
  | lst {a : Addr} {xs : List V} {ds : List WData} : SqL K H a xs → DwAll K H xs ds → Dw K H (.ref a) (.list ds)
  | tup {a : Addr} {xs : List V} {ds : List WData} : SqT K H a xs → DwAll K H xs ds → Dw K H (.ref a) (.tuple ds)
inductive DwAll (K : PySem.W.Frag) (H : Hp) : List V → List WData → Prop
  | nil : DwAll K H [] []
  | cons {v : V} {vs : List V} {d : WData} {ds : List WData} : Dw K H v d → DwAll K H vs ds → DwAll K H (v :: vs) (d :: ds)
end
theorem dw_ints {K : PySem.W.Frag} {H : Hp} : ∀ ns : List Int, DwAll K H (ns.map V.int) (ns.map WData.int)
  | [] => .nil
  | n :: r => .cons (.int n) (dw_ints r)
theorem ints_dw {K : PySem.W.Frag} {H : Hp} : ∀ (ns : List Int) (xs : List V), DwAll K H xs (ns.map WData.int) → xs = ns.map V.int
  | [], xs, h => by
    cases h
    rfl
  | n :: r, xs, h => by
    cases h with
    | cons h1 h2 =>
      cases h1
      rw [ints_dw r _ h2] <;> rfl
section
variable {P : Program} {w : World} {K : PySem.W.Frag} {H : Hp} {h : Heap} {R : PySem.W.WRecords} {cl : Str → Option Addr}
theorem sqL_at {a : Addr} {xs : List V} (hok : HOk P w H h) (KX : K.In h) (q : SqL K H a xs) : ∃ (its : List Value) (o : Obj) (n : Nat), Vals xs its ∧ h.get? a = some o ∧ o.cls = .type "list" ∧ o.data = .seq its.toArray n := by
  rcases q with q | ⟨o, its, n, e, hc, _, hd, _, hv⟩
  · obtain ⟨_, its, n, hv, e⟩ := (show ObjOk P w H h a (.lst xs) from q.ok hok)
    exact ⟨its, _, n, hv, e, rfl, rfl⟩
  · exact ⟨its.toList, o, n, hv, KX _ _ e, hc, by simp [hd]⟩
theorem sqT_at {a : Addr} {xs : List V} (hok : HOk P w H h) (KX : K.In h) (q : SqT K H a xs) : ∃ (its : List Value) (o : Obj) (n : Nat), Vals xs its ∧ h.get? a = some o ∧ o.cls = .type "tuple" ∧ o.data = .seq its.toArray n := by
  rcases q with q | ⟨o, its, n, e, hc, hd, _, hv⟩
  · obtain ⟨_, its, hv, o, e, hc, n, hd⟩ := (show ObjOk P w H h a (.tup xs) from q.ok hok)
    exact ⟨its, o, n, hv, e, hc, hd⟩
  · exact ⟨its.toList, o, n, hv, KX _ _ e, hc, by simp [hd]⟩
mutual
theorem Dw.reads (hok : HOk P w H h) (KX : K.In h) : ∀ (d : WData) (v : V) (u : Value), Dw K H v d → RelV v u → ∃ as, ReadsW R cl h u d as
  | .none, _, _, x, r => by
    cases x
    cases r
    exact ⟨_, ReadsW.none⟩
  | .bool b, _, _, x, r => by
    cases x
    cases r
    exact ⟨_, ReadsW.bool b⟩
  | .int i, _, _, x, r => by
    cases x
    obtain ⟨t, rfl⟩ := r
    exact ⟨_, ReadsW.int i t⟩
  | .str s, _, _, x, r => by
    cases x
    obtain ⟨t, rfl⟩ := r
    exact ⟨_, ReadsW.str s t⟩
  | .bytes b, _, _, x, r => by
    cases x
    obtain ⟨t, rfl⟩ := r
    exact ⟨_, ReadsW.bytes _ t⟩
  | .list ds, _, _, x, r => by
    cases x with
    | lst hs ha =>
      cases r
      obtain ⟨its, o, n, rv, ho, hc, hd⟩ := sqL_at hok KX hs
      obtain ⟨as, hr⟩ := Dw.readsAll hok KX ds _ its ha rv
      exact ⟨_, ReadsW.list ho hc hd hr⟩
  | .tuple ds, _, _, x, r => by
    cases x with
    | tup hs ha =>
      cases r
      obtain ⟨its, o, n, rv, ho, hc, hd⟩ := sqT_at hok KX hs
      obtain ⟨as, hr⟩ := Dw.readsAll hok KX ds _ its ha rv
      exact ⟨_, ReadsW.tuple ho hc hd hr⟩
  | .float _, _, _, x, _ => by cases x
  | .dict _, _, _, x, _ => by cases x
  | .bytearray _, _, _, x, _ => by cases x
  | .set _, _, _, x, _ => by cases x
  | .frozenset _, _, _, x, _ => by cases x
  | .obj _ _, _, _, x, _ => by cases x
theorem Dw.readsAll (hok : HOk P w H h) (KX : K.In h) : ∀ (ds : List WData) (vs : List V) (us : List Value), DwAll K H vs ds → Vals vs us → ∃ as, ReadsAllW R cl h us ds as
  | [], _, _, x, r => by
    cases x
    cases r
    exact ⟨_, ReadsAllW.nil⟩
  | d :: ds, _, _, x, r => by
    cases x with
    | cons h1 h2 =>
      cases r with
      | cons r1 r2 =>
        obtain ⟨as, q1⟩ := Dw.reads hok KX d _ _ h1 r1
        obtain ⟨bs, q2⟩ := Dw.readsAll hok KX ds _ _ h2 r2
        exact ⟨_, ReadsAllW.cons q1 q2⟩
end
end
/-! ### the arguments -/
mutual
/-- data that a codec tells -/
def plW : WData → Bool
  | .none => true
  | .bool _ => true
  | .int _ => true
  | .str _ => true
  | .bytes _ => true
  | .list xs => plWs xs
  | .tuple xs => plWs xs
  | _ => false
def plWs : List WData → Bool
  | [] => true
  | x :: r => plW x && plWs r
end
theorem plWs_map {α : Type} {f : α → WData} (h : ∀ a, plW (f a) = true) : ∀ l : List α, plWs (l.map f) = true
  | [] => rfl
  | x :: r => by
    show (plW (f x) && plWs (r.map f)) = true
    rw [h x, plWs_map h r] <;> rfl
theorem pl_enc : ∀ (c : Codec) (a : c.denote), plW (c.enc a) = true
  | .unit, _ => rfl
  | .bool, _ => rfl
  | .int _ _, _ => rfl
  | .nat _ _, _ => rfl
  | .u8, _ => rfl
  | .bytes _ _, _ => rfl
  | .text _ _ _ _, _ => rfl
  | .list _ _ c, a => plWs_map (fun x => pl_enc c x) a
  | .pair c d, a => by
    show (plW (c.enc a.1) && (plW (d.enc a.2) && true)) = true
    rw [pl_enc c a.1, pl_enc d a.2] <;> rfl
  | .triple c d e, a => by
    show (plW (c.enc a.1) && (plW (d.enc a.2.1) && (plW (e.enc a.2.2) && true))) = true
    rw [pl_enc c a.1, pl_enc d a.2.1, pl_enc e a.2.2] <;> rfl
  | .option c, none => rfl
  | .option c, some x => pl_enc c x
theorem pl_encAll : ∀ (cs : List Codec) (a : Codec.denoteAll cs), plWs (Codec.encAll cs a) = true
  | [], _ => rfl
  | c :: cs, a => by
    show (plW (c.enc a.1) && plWs (Codec.encAll cs a.2)) = true
    rw [pl_enc c a.1, pl_encAll cs a.2] <;> rfl
theorem weight_mem : ∀ {xs : List WData} {d : WData}, d ∈ xs → d.weight ≤ WData.weightAll xs
  | [], d, h => absurd h (by simp)
  | x :: r, d, h => by
    show d.weight ≤ x.weight + 1 + WData.weightAll r
    rcases List.mem_cons.mp h with e | m
    · rw [e]
      omega
    · have z := weight_mem m
      omega
def toV : Value → V
  | .none => .non
  | .bool b => .bl b
  | .int i _ => .int i
  | .str x _ => .str x
  | .bytes b _ => .byt b
  | .ref a => .ref a
  | _ => .non
/-- a value of the arguments, its objects among A -/
def OkU (A : List Addr) : Value → Prop
  | .none => True
  | .bool _ => True
  | .int _ _ => True
  | .str _ _ => True
  | .bytes _ _ => True
  | .ref a => a ∈ A
  | _ => False
theorem OkU.mono {A B : List Addr} (h : ∀ a ∈ A, a ∈ B) : ∀ {u : Value}, OkU A u → OkU B u := fun {u} x => by
  cases u with
  | ref a => exact h a x
  | none => trivial
  | bool b => trivial
  | int i t => trivial
  | str s t => trivial
  | bytes b t => trivial
  | _ => exact False.elim x
theorem relV_toV {A : List Addr} {u : Value} (x : OkU A u) : RelV (toV u) u := by
  cases u with
  | ref a => rfl
  | none => rfl
  | bool b => rfl
  | int i t => exact ⟨t, rfl⟩
  | str s t => exact ⟨t, rfl⟩
  | bytes b t => exact ⟨t, rfl⟩
  | _ => exact False.elim x
theorem vals_toV {A : List Addr} : ∀ {vs : List Value}, (∀ u ∈ vs, OkU A u) → Vals (vs.map toV) vs
  | [], _ => .nil
  | u :: r, h => .cons (relV_toV (h u (List.mem_cons_self ..))) (vals_toV fun x hx => h x (List.mem_cons_of_mem _ hx))
/-- an object of the arguments -/
def ArgOb (h : Heap) (A : List Addr) (a : Addr) : Prop := ∃ vs : List Value, vs.length ≤ sizeLine ∧ (∀ u ∈ vs, OkU A u) ∧
  (h.get? a = some { cls := .type "list", data := .seq vs.toArray } ∨ h.get? a = some { cls := .type "tuple", data := .seq vs.toArray })
theorem ArgOb.mono {h : Heap} {A B : List Addr} {a : Addr} (k : ∀ a ∈ A, a ∈ B) (x : ArgOb h A a) : ArgOb h B a := by
  obtain ⟨vs, h1, h2, h3⟩ := x
  exact ⟨vs, h1, fun u hu => (h2 u hu).mono k, h3⟩
theorem wellAll_len {P : Params} {h : Heap} : ∀ {vs : List Value} {ds : List WData}, WellAll P h vs ds → vs.length = ds.length
  | _, _, .nil => rfl
  | _, _, .cons _ b => by
    show _ + 1 = _ + 1
    rw [wellAll_len b]
theorem well_list {P : Params} {h : Heap} {v : Value} {ds : List WData} (x : Well P h v (.list ds)) : ∃ (a : Addr) (vs : List Value), v = .ref a ∧ h.get? a = some { cls := .type "list", data := .seq vs.toArray } ∧ WellAll P h vs ds := by
  cases x with
  | list ho hall => exact ⟨_, _, rfl, ho, hall⟩
theorem well_tuple {P : Params} {h : Heap} {v : Value} {ds : List WData} (x : Well P h v (.tuple ds)) : ∃ (a : Addr) (vs : List Value), v = .ref a ∧ h.get? a = some { cls := .type "tuple", data := .seq vs.toArray } ∧ WellAll P h vs ds := by
  cases x with
  | tuple ho hall => exact ⟨_, _, rfl, ho, hall⟩
theorem well_cons {P : Params} {h : Heap} {us : List Value} {d : WData} {ds : List WData} (x : WellAll P h us (d :: ds)) : ∃ (v : Value) (vs : List Value), us = v :: vs ∧ Well P h v d ∧ WellAll P h vs ds := by
  cases x with
  | cons a b => exact ⟨_, _, rfl, a, b⟩
theorem line_of {n : Nat} (h : n ≤ 1048576) : n ≤ sizeLine := Nat.le_trans h (by decide)
section
variable {P : Params} {h : Heap}
mutual
theorem area_one : ∀ (d : WData) (v : Value), Well P h v d → plW d = true → d.weight ≤ 1048576 → ∃ A : List Addr, OkU A v ∧ ∀ a ∈ A, ArgOb h A a
  | .none, _, x, _, _ => by
    cases x
    exact ⟨[], trivial, fun a m => absurd m (by simp)⟩
  | .bool b, _, x, _, _ => by
    cases x
    exact ⟨[], trivial, fun a m => absurd m (by simp)⟩
  | .int i, _, x, _, _ => by
    cases x
    exact ⟨[], trivial, fun a m => absurd m (by simp)⟩
  | .str s, _, x, _, _ => by
    cases x
    exact ⟨[], trivial, fun a m => absurd m (by simp)⟩
  | .bytes b, _, x, _, _ => by
    cases x
    exact ⟨[], trivial, fun a m => absurd m (by simp)⟩
  | .list ds, _, x, p, z => by
    obtain ⟨a, vs, rfl, ho, hall⟩ := well_list x
    have z2 : WData.weightAll ds ≤ 1048576 := z
    obtain ⟨A, h1, h2⟩ := area_all ds _ hall p fun d hd => Nat.le_trans (weight_mem hd) z2
    have k : ∀ b ∈ A, b ∈ a :: A := fun b hb => List.mem_cons_of_mem _ hb
    refine ⟨a :: A, List.mem_cons_self .., fun b hb => ?_⟩
    rcases List.mem_cons.mp hb with e | m
    · rw [e]
      exact ⟨vs, line_of (by rw [wellAll_len hall]; exact Nat.le_trans (PySem.W.length_le_weightAllW ds) z2), fun u hu => (h1 u hu).mono k, .inl ho⟩
    · exact (h2 b m).mono k
  | .tuple ds, _, x, p, z => by
    obtain ⟨a, vs, rfl, ho, hall⟩ := well_tuple x
    have z2 : WData.weightAll ds ≤ 1048576 := z
    obtain ⟨A, h1, h2⟩ := area_all ds _ hall p fun d hd => Nat.le_trans (weight_mem hd) z2
    have k : ∀ b ∈ A, b ∈ a :: A := fun b hb => List.mem_cons_of_mem _ hb
    refine ⟨a :: A, List.mem_cons_self .., fun b hb => ?_⟩
    rcases List.mem_cons.mp hb with e | m
    · rw [e]
      exact ⟨vs, line_of (by rw [wellAll_len hall]; exact Nat.le_trans (PySem.W.length_le_weightAllW ds) z2), fun u hu => (h1 u hu).mono k, .inr ho⟩
    · exact (h2 b m).mono k
  | .float _, _, _, p, _ => Bool.noConfusion (show false = true from p)
  | .dict _, _, _, p, _ => Bool.noConfusion (show false = true from p)
  | .bytearray _, _, _, p, _ => Bool.noConfusion (show false = true from p)
  | .set _, _, _, p, _ => Bool.noConfusion (show false = true from p)
  | .frozenset _, _, _, p, _ => Bool.noConfusion (show false = true from p)
  | .obj _ _, _, _, p, _ => Bool.noConfusion (show false = true from p)
theorem area_all : ∀ (ds : List WData) (vs : List Value), WellAll P h vs ds → plWs ds = true → (∀ d ∈ ds, d.weight ≤ 1048576) → ∃ A : List Addr, (∀ u ∈ vs, OkU A u) ∧ ∀ a ∈ A, ArgOb h A a
  | [], _, x, _, _ => by
    cases x
    exact ⟨[], fun u m => absurd m (by simp), fun a m => absurd m (by simp)⟩
  | d :: ds, _, x, p, z => by
    obtain ⟨v, vs, rfl, x1, x2⟩ := well_cons x
    have q : plW d = true ∧ plWs ds = true := Bool.and_eq_true_iff.mp p
    obtain ⟨A, a1, a2⟩ := area_one d v x1 q.1 (z d (List.mem_cons_self ..))
    obtain ⟨B, b1, b2⟩ := area_all ds vs x2 q.2 fun e he => z e (List.mem_cons_of_mem _ he)
    have kA : ∀ b ∈ A, b ∈ A ++ B := fun b hb => List.mem_append.mpr (.inl hb)
    have kB : ∀ b ∈ B, b ∈ A ++ B := fun b hb => List.mem_append.mpr (.inr hb)
    refine ⟨A ++ B, fun u hu => ?_, fun b hb => ?_⟩
    · rcases List.mem_cons.mp hu with e | m
      · rw [e]
        exact a1.mono kA
      · exact (b1 u m).mono kB
    · rcases List.mem_append.mp hb with m | m
      · exact (a2 b m).mono kA
      · exact (b2 b m).mono kB
end
end
/-- what is tracked of an argument's object -/
def hoOf (o : Obj) : Option HO := match o.data with
  | .seq vs _ => if (o.cls == Value.type "list") = true then some (.frz o (.lst (vs.toList.map toV))) else some (.frz o (.tup (vs.toList.map toV)))
  | _ => none
def argH (K : PySem.W.Frag) (h : Heap) (A : List Addr) : Hp := fun b => if b ∈ A then (if (K.lookup b).isNone = true then (h.get? b).bind hoOf else none) else none
/-- nothing is tracked but what is known to the object -/
def OnlyF (H : Hp) : Prop := ∀ b, H b = none ∨ ∃ o u, H b = some (.frz o u)
theorem hoOf_lst (vs : List Value) : hoOf { cls := .type "list", data := .seq vs.toArray } = some (.frz { cls := .type "list", data := .seq vs.toArray } (.lst (vs.map toV))) := by
  show (if (Value.type "list" == Value.type "list") = true then some (HO.frz { cls := .type "list", data := .seq vs.toArray } (.lst (vs.toArray.toList.map toV))) else some (HO.frz { cls := .type "list", data := .seq vs.toArray } (.tup (vs.toArray.toList.map toV)))) = _
  rw [if_pos (beq_self_eq_true _)]
theorem hoOf_tup (vs : List Value) : hoOf { cls := .type "tuple", data := .seq vs.toArray } = some (.frz { cls := .type "tuple", data := .seq vs.toArray } (.tup (vs.map toV))) := by
  show (if (Value.type "tuple" == Value.type "list") = true then some (HO.frz { cls := .type "tuple", data := .seq vs.toArray } (.lst (vs.toArray.toList.map toV))) else some (HO.frz { cls := .type "tuple", data := .seq vs.toArray } (.tup (vs.toArray.toList.map toV)))) = _
  rw [if_neg (by decide)]
section
variable {P : Program} {w : World} {K : PySem.W.Frag} {h : Heap} {A : List Addr}
theorem argH_at {b : Addr} {o : Obj} (hb : b ∈ A) (hk : K.lookup b = none) (e : h.get? b = some o) : argH K h A b = hoOf o := by
  unfold argH
  rw [if_pos hb, hk, if_pos (show (none : Option Obj).isNone = true from rfl), e] <;> rfl
theorem of_argH {b : Addr} {u : HO} (q : argH K h A b = some u) : b ∈ A ∧ K.lookup b = none := by
  unfold argH at q
  by_cases hb : b ∈ A
  · rw [if_pos hb] at q
    cases hk : K.lookup b with
    | none => exact ⟨hb, rfl⟩
    | some o =>
      rw [hk, if_neg (by simp)] at q
      cases q
  · rw [if_neg hb] at q
    cases q
/-- what stands tracked -/
theorem argH_is (ar : ∀ a ∈ A, ArgOb h A a) {b : Addr} {u : HO} (q : argH K h A b = some u) : K.lookup b = none ∧ ∃ vs : List Value, vs.length ≤ sizeLine ∧ (∀ u ∈ vs, OkU A u) ∧
    ((h.get? b = some { cls := .type "list", data := .seq vs.toArray } ∧ u = .frz { cls := .type "list", data := .seq vs.toArray } (.lst (vs.map toV))) ∨
     (h.get? b = some { cls := .type "tuple", data := .seq vs.toArray } ∧ u = .frz { cls := .type "tuple", data := .seq vs.toArray } (.tup (vs.map toV)))) := by
  obtain ⟨hb, hk⟩ := of_argH q
  obtain ⟨vs, h1, h2, h3⟩ := ar b hb
  refine ⟨hk, vs, h1, h2, ?_⟩
  rcases h3 with e | e
  · rw [argH_at hb hk e, hoOf_lst] at q
    exact .inl ⟨e, (Option.some.inj q).symm⟩
  · rw [argH_at hb hk e, hoOf_tup] at q
    exact .inr ⟨e, (Option.some.inj q).symm⟩
theorem argH_only (ar : ∀ a ∈ A, ArgOb h A a) : OnlyF (argH K h A) := fun b => by
  cases q : argH K h A b with
  | none => exact .inl rfl
  | some u =>
    obtain ⟨_, vs, _, _, ⟨_, e⟩ | ⟨_, e⟩⟩ := argH_is ar q
    · exact .inr ⟨_, _, by rw [e]⟩
    · exact .inr ⟨_, _, by rw [e]⟩
theorem argH_ok (ar : ∀ a ∈ A, ArgOb h A a) : HOk P w (argH K h A) h := fun b u q => by
  obtain ⟨_, vs, h1, h2, ⟨e, rfl⟩ | ⟨e, rfl⟩⟩ := argH_is ar q
  · exact ⟨e, by rw [List.length_map]; exact h1, vs, _, vals_toV h2, e⟩
  · exact ⟨e, by rw [List.length_map]; exact h1, vs, vals_toV h2, _, e, rfl, _, rfl⟩
theorem seq_inj {c c' : Value} {vs us : List Value} (e : (some { cls := c, data := .seq vs.toArray } : Option Obj) = some { cls := c', data := .seq us.toArray }) : c = c' ∧ vs = us := by
  have e1 := Option.some.inj e
  have e2 : c = c' := congrArg Obj.cls e1
  have e3 : Data.seq vs.toArray = Data.seq us.toArray := congrArg Obj.data e1
  injection e3 with e4
  refine ⟨e2, ?_⟩
  have e5 := congrArg Array.toList e4
  simpa using e5
/-- a list argument -/
theorem argL (KX : K.In h) (ar : ∀ a ∈ A, ArgOb h A a) {a : Addr} {vs : List Value} (ha : a ∈ A) (e : h.get? a = some { cls := .type "list", data := .seq vs.toArray }) : (∀ u ∈ vs, OkU A u) ∧ SqL K (argH K h A) a (vs.map toV) := by
  obtain ⟨us, h1, h2, h3⟩ := ar a ha
  have hu : us = vs := by
    rcases h3 with q | q
    · rw [e] at q
      exact (seq_inj q).2.symm
    · rw [e] at q
      exact absurd (Value.type.inj (seq_inj q).1) (by decide)
  subst hu
  refine ⟨h2, ?_⟩
  cases hk : K.lookup a with
  | none => exact .inl (.inr ⟨_, by rw [argH_at ha hk e, hoOf_lst]⟩)
  | some o =>
    have e2 := KX a o hk
    rw [e] at e2
    obtain rfl := Option.some.inj e2
    exact .inr ⟨_, us.toArray, _, hk, rfl, rfl, rfl, by rw [List.size_toArray]; exact h1, by simpa using vals_toV h2⟩
theorem argT (KX : K.In h) (ar : ∀ a ∈ A, ArgOb h A a) {a : Addr} {vs : List Value} (ha : a ∈ A) (e : h.get? a = some { cls := .type "tuple", data := .seq vs.toArray }) : (∀ u ∈ vs, OkU A u) ∧ SqT K (argH K h A) a (vs.map toV) := by
  obtain ⟨us, h1, h2, h3⟩ := ar a ha
  have hu : us = vs := by
    rcases h3 with q | q
    · rw [e] at q
      exact absurd (Value.type.inj (seq_inj q).1) (by decide)
    · rw [e] at q
      exact (seq_inj q).2.symm
  subst hu
  refine ⟨h2, ?_⟩
  cases hk : K.lookup a with
  | none => exact .inl (.inr ⟨_, by rw [argH_at ha hk e, hoOf_tup]⟩)
  | some o =>
    have e2 := KX a o hk
    rw [e] at e2
    obtain rfl := Option.some.inj e2
    exact .inr ⟨_, us.toArray, _, hk, rfl, rfl, by rw [List.size_toArray]; exact h1, by simpa using vals_toV h2⟩
mutual
theorem dw_one {Pm : Params} (KX : K.In h) (ar : ∀ a ∈ A, ArgOb h A a) : ∀ (d : WData) (v : Value), Well Pm h v d → plW d = true → OkU A v → Dw K (argH K h A) (toV v) d
  | .none, _, x, _, _ => by
    cases x
    exact .non
  | .bool b, _, x, _, _ => by
    cases x
    exact .bl b
  | .int i, _, x, _, _ => by
    cases x
    exact .int i
  | .str s, _, x, _, _ => by
    cases x
    exact .str s
  | .bytes b, _, x, _, _ => by
    cases x
    have z := Dw.byt (K := K) (H := argH K h A) b.toArray
    exact z
  | .list ds, _, x, p, hu => by
    obtain ⟨a, vs, rfl, ho, hall⟩ := well_list x
    obtain ⟨h2, hs⟩ := argL KX ar hu ho
    exact .lst hs (dw_all KX ar ds _ hall p h2)
  | .tuple ds, _, x, p, hu => by
    obtain ⟨a, vs, rfl, ho, hall⟩ := well_tuple x
    obtain ⟨h2, hs⟩ := argT KX ar hu ho
    exact .tup hs (dw_all KX ar ds _ hall p h2)
  | .float _, _, _, p, _ => Bool.noConfusion (show false = true from p)
  | .dict _, _, _, p, _ => Bool.noConfusion (show false = true from p)
  | .bytearray _, _, _, p, _ => Bool.noConfusion (show false = true from p)
  | .set _, _, _, p, _ => Bool.noConfusion (show false = true from p)
  | .frozenset _, _, _, p, _ => Bool.noConfusion (show false = true from p)
  | .obj _ _, _, _, p, _ => Bool.noConfusion (show false = true from p)
theorem dw_all {Pm : Params} (KX : K.In h) (ar : ∀ a ∈ A, ArgOb h A a) : ∀ (ds : List WData) (vs : List Value), WellAll Pm h vs ds → plWs ds = true → (∀ u ∈ vs, OkU A u) → DwAll K (argH K h A) (vs.map toV) ds
  | [], _, x, _, _ => by
    cases x
    exact .nil
  | d :: ds, _, x, p, hu => by
    obtain ⟨v, vs, rfl, x1, x2⟩ := well_cons x
    have q : plW d = true ∧ plWs ds = true := Bool.and_eq_true_iff.mp p
    exact .cons (dw_one KX ar d v x1 q.1 (hu _ (List.mem_cons_self ..))) (dw_all KX ar ds vs x2 q.2 fun u m => hu u (List.mem_cons_of_mem _ m))
end
end
/-! ### the call -/
theorem spec_call {P : Program} {w : World} {K : PySem.W.Frag} {mg mb : Str → Option Value} {CX : CXT} {k : Nat} {fa : Addr} {fd : FuncData} {ps : List Str} {sp : Sp} {s₁ : Shared} {vals : List Value} {ds : List WData} {R : PySem.W.WRecords} {cl : Str → Option Addr} {d0 : WData}
    (KX : K.In s₁.heap) (hns : s₁.heap.Ns mainGlobals mg) (hb : s₁.heap.Ns builtinsNs mb) (hbb : ∀ x : Str, x ≠ "__name__" → mb x = bootBuiltins x) (hlim : s₁.heap.NoLimit) (hg : s₁.gens = #[])
    (hwl : WellAll w.params s₁.heap vals ds) (hpl : plWs ds = true) (hwt : ∀ d ∈ ds, d.weight ≤ 1048576) (hr : Room k callerA)
    (F : ∀ base : Heap, K.In base → base.Ns mainGlobals mg → FnOk P w K mg base CX k fa fd ps sp) (hbind : ∀ (s : Shared) (us : List Value), us.length = ps.length → BindsTo s fd ⟨us, []⟩ (ps.zip us)) (hlen : ds.length = ps.length)
    (hsp : ∀ (H : Hp) (xs : List V), OnlyF H → DwAll K H xs ds → sp xs H (fun v H' => Dw K H' v d0) fun _ _ _ => False)
    (hCX : ∀ H e s', CX [] H s₁ (fun _ _ _ => False) e s' → False) :
    codeAny (model P w) callerA (.call (.ref fa) ⟨vals, []⟩) (fun r s' => ∃ u as, r = .ok (.ret u) ∧ ReadsW R cl s'.heap u d0 as ∧ OldK s₁.heap s'.heap ∧ s'.os = s₁.os ∧ AllBare s'.gens) s₁ := by
  obtain ⟨A, ho, ar⟩ := area_all ds vals hwl hpl hwt
  have hO : OnlyF (argH K s₁.heap A) := argH_only ar
  have hok : HOk P w (argH K s₁.heap A) s₁.heap := argH_ok ar
  have hS := dw_all KX ar ds vals hwl hpl ho
  have hV := vals_toV ho
  have hK : ∀ b u, argH K s₁.heap A b = some u → K.lookup b = none := fun b u q => (argH_is ar q).1
  have noA : ∀ {b : Addr} {o : Obj} {es : Array DictEntry} {ep : Nat}, s₁.heap.get? b = some o → o.data = .dict es ep → argH K s₁.heap A b = none := fun {b o es ep} e d => by
    cases q : argH K s₁.heap A b with
    | none => rfl
    | some u =>
      obtain ⟨_, vs, _, _, ⟨e2, _⟩ | ⟨e2, _⟩⟩ := argH_is ar q
      · rw [e2] at e
        cases e
        have d' : Data.seq vs.toArray _ = Data.dict es ep := d
        cases d'
      · rw [e2] at e
        cases e
        have d' : Data.seq vs.toArray _ = Data.dict es ep := d
        cases d'
  generalize argH K s₁.heap A = H at hO hok hS hK noA
  have base_of : ∀ {b : Addr} {o : Obj}, s₁.heap.get? b = some o → H b = none → (hidT s₁.heap H).get? b = some o := fun e n => hidT_get e n
  have nsK : ∀ {b : Addr} {m : Str → Option Value}, s₁.heap.Ns b m → (hidT s₁.heap H).Ns b m := fun {b m} ⟨o, es, ep, e, d, r⟩ => ⟨o, es, ep, base_of e (noA e d), d, r⟩
  have nK : ∀ b o, K.lookup b = some o → H b = none := fun b o e => by
    cases q : H b with
    | none => rfl
    | some u =>
      rw [hK b u q] at e
      cases e
  have hKb : K.In (hidT s₁.heap H) := fun b o e => base_of (KX b o e) (nK b o e)
  have hM : Mod K mg (hidT s₁.heap H) := ⟨hKb, nsK hns, ⟨mb, nsK hb, hbb⟩, let ⟨mc, h1, h2⟩ := hlim; ⟨mc, nsK h1, h2⟩⟩
  have e0 : Env0 P w K mg (hidT s₁.heap H) callerA [] s₁ H := ⟨rfl, hM, fun b o e => of_hidT e, Nat.le_of_eq (hidT_size _ _), trivial, fun b hb => absurd (show b ∈ ([] : List Addr) from hb) (by simp), hok, .of_eq hg⟩
  have hl : vals.length = ps.length := by rw [wellAll_len hwl]; exact hlen
  refine codeAny_mono ((F _ hKb (nsK hns)).run callerA [] s₁ H ⟨vals, []⟩ vals (vals.map toV) _ _ hr e0 (hbind s₁ vals hl) hV (hsp H _ hO hS)) fun r s' x => ?_
  cases r with
  | error e => exact (hCX H e s' x).elim
  | ok fl =>
    cases fl with
    | next => exact False.elim x
    | brk => exact False.elim x
    | cont => exact False.elim x
    | ret u =>
      obtain ⟨v, H', os, bare, un, hok', r', q⟩ := x
      have kept : ∀ b o, s₁.heap.get? b = some o → s'.heap.get? b = some o := fun b o e => by
        cases q2 : H b with
        | none => exact un.keep b o e q2 (by intro z; exact absurd (show b ∈ ([] : List Addr) from z) (by simp)) (by simp)
        | some u2 =>
          rcases hO b with z | ⟨ob, u3, z⟩
          · rw [q2] at z
            cases z
          · have z2 := un.frzs b ob _ z
            obtain ⟨e1, _⟩ := hok b _ z
            obtain ⟨e2, _⟩ := hok' b _ z2
            rw [e] at e1
            cases e1
            exact e2
      have KX' : K.In s'.heap := fun b o e => kept b o (KX b o e)
      obtain ⟨as, hrd⟩ := Dw.reads (R := R) (cl := cl) hok' KX' d0 v u q r'
      exact ⟨u, as, rfl, hrd, OldK.of_keep kept, os, bare⟩
/-! ### the row -/
theorem layable_weight {ds : List WData} (h : WData.layableAll ds = true) : ∀ d ∈ ds, d.weight ≤ 1048576 := fun d hd =>
  (PySem.W.layableW_iff.mp (List.all_eq_true.mp h d hd)).2.2
theorem encAll_len : ∀ (cs : List Codec) (a : Codec.denoteAll cs), (Codec.encAll cs a).length = cs.length
  | [], _ => rfl
  | c :: cs, a => by
    show (Codec.encAll cs a.2).length + 1 = cs.length + 1
    rw [encAll_len cs a.2]
/-- the goal that k_headS leaves (case hc), from the promise of the row's def: whatever the arguments that the codecs let and the row asks for, the def gives what stands for enc (f ..) -/
theorem walk_spec {r : OpenSpec} {k : Nat} {q : Program} {loose : List Str} {XP : (Str → Option Value) → Heap → Prop} {YP : World → Heap → Prop} {d : DefRec} {K : Params → PySem.W.Frag} {CX : World → CXT} {ps : List Str} {sp : World → Sp}
    (hwell : r.wellSaid = true) (hdf : d.params.defaults = []) (hlen : r.args.length = ps.length) (hr : Room k callerA)
    (hY : ∀ (w : World) (h : Heap), YP w h → (K w.params).In h)
    (F : ∀ (w : World) (mg : Str → Option Value) (fa : Addr) (h : Heap), YP w h → (K w.params).In h → h.Ns mainGlobals mg → mg d.name = some (.ref fa) →
      ∃ fd : FuncData, (∀ (s : Shared) (us : List Value), us.length = ps.length → BindsTo s fd ⟨us, []⟩ (ps.zip us)) ∧
        ∀ base : Heap, (K w.params).In base → base.Ns mainGlobals mg → FnOk r.prog w (K w.params) mg base (CX w) k fa fd ps (sp w))
    (hsp : ∀ (w : World) (H : Hp) (xs : List V) (a : Codec.denoteAll r.args), OnlyF H → Codec.withinAll r.args a = true → Codec.app r.args r.asked a = true → DwAll (K w.params) H xs (Codec.encAll r.args a) →
      sp w xs H (fun v H' => Dw (K w.params) H' v (r.ret.enc (Codec.app r.args r.f a))) fun _ _ _ => False)
    (hCX : ∀ (w : World) (H : Hp) (s : Shared) (e : Value) (s' : Shared), CX w [] H s (fun _ _ _ => False) e s' → False) :
    PySem.W.WalkOS q loose XP YP r d [] (fun f vs => PySem.call f vs) := by
  intro w s_0 s₁ mg mb G Y fa o pm cd doc dV kV ho hd hcd hD hmg hg args vals as hpre hlay hrd hwl hlo
  obtain ⟨a, e1, e2⟩ := PySem.W.os_pre_some hpre
  obtain ⟨e3, hwi⟩ := Codec.encAll_of_decAll r.args args a e1
  subst e3
  have KX := hY w _ Y
  obtain ⟨fd, hb, hF⟩ := F w mg fa _ Y KX G.T.g hmg
  refine PySem.W.enter_call (codeAny_mono (spec_call (R := []) (cl := classAt s_0.heap) (d0 := r.ret.enc (Codec.app r.args r.f a)) KX G.T.g G.T.b G.T.builtins G.T.nolimit hg hwl (pl_encAll _ _) (layable_weight hlay) hr hF hb (by rw [encAll_len]; exact hlen)
    (fun H xs hO hS => hsp w H xs a hO hwi e2 hS) fun H e s' => hCX w H s₁ e s') fun r' s' hq => ?_)
  obtain ⟨u, as', rfl, h1, h2, h3, h4⟩ := hq
  exact ⟨.inl ⟨u, _, as', rfl, fun _ => rfl, h1, (OpenSpec.post_iff hwell hwi _ _).mpr rfl, fun z => Bool.noConfusion (show false = true from z)⟩, h2, h3, h4⟩
/-- the same where the promise hangs on the written part alone -/
theorem walk_specK {r : OpenSpec} {k : Nat} {q : Program} {loose : List Str} {XP : (Str → Option Value) → Heap → Prop} {YP : World → Heap → Prop} {d : DefRec} {K : Params → PySem.W.Frag} {CX : CXT} {ps : List Str} {sp : PySem.W.Frag → Sp}
    (hwell : r.wellSaid = true) (hdf : d.params.defaults = []) (hlen : r.args.length = ps.length) (hr : Room k callerA)
    (hY : ∀ (w : World) (h : Heap), YP w h → (K w.params).In h)
    (F : ∀ (w : World) (mg : Str → Option Value) (fa : Addr) (h : Heap), YP w h → (K w.params).In h → h.Ns mainGlobals mg → mg d.name = some (.ref fa) →
      ∃ fd : FuncData, (∀ (s : Shared) (us : List Value), us.length = ps.length → BindsTo s fd ⟨us, []⟩ (ps.zip us)) ∧
        ∀ base : Heap, (K w.params).In base → base.Ns mainGlobals mg → FnOk r.prog w (K w.params) mg base CX k fa fd ps (sp (K w.params)))
    (hsp : ∀ (K : PySem.W.Frag) (H : Hp) (xs : List V) (a : Codec.denoteAll r.args), OnlyF H → Codec.withinAll r.args a = true → Codec.app r.args r.asked a = true → DwAll K H xs (Codec.encAll r.args a) →
      sp K xs H (fun v H' => Dw K H' v (r.ret.enc (Codec.app r.args r.f a))) fun _ _ _ => False)
    (hCX : ∀ (H : Hp) (s : Shared) (e : Value) (s' : Shared), CX [] H s (fun _ _ _ => False) e s' → False) :
    PySem.W.WalkOS q loose XP YP r d [] (fun f vs => PySem.call f vs) :=
  walk_spec (K := K) (CX := fun _ => CX) (sp := fun w => sp (K w.params)) hwell hdf hlen hr hY F (fun w H xs a h1 h2 h3 h4 => hsp (K w.params) H xs a h1 h2 h3 h4) fun _ H s e s' => hCX H s e s'
end L2
end
/-! SHORT WORDS over the layer: a def of the text, its body, what a loop and a test want. -/
namespace L2
open PySem PySem.Spec PyProof.Rows

/-! ### the text by places -/
def defArgs (s : Stmt) : Arguments := match s with
  | .FunctionDef _ a _ _ _ _ _ _ _ _ => a
  | _ => { posonlyargs := [], args := [], vararg := none, kwonlyargs := [], kw_defaults := [], kwarg := none, defaults := [] }
def defBody (s : Stmt) : List Stmt := match s with
  | .FunctionDef _ _ b _ _ _ _ _ _ _ => b
  | _ => []
def defScope (s : Stmt) : Scope := match s with
  | .FunctionDef _ _ _ _ _ _ sc _ _ _ => sc
  | _ => { kind := .function, names := [], isGenerator := false, isCoroutine := false }

/-! ### no exception leaves a def -/
abbrev CX0 : CXT := fun _ _ _ _ _ _ => False
abbrev E0 : XK := fun _ _ _ => False
theorem pass0 {X : Cx} : Passes CX0 X E0 := fun _ _ _ _ _ _ _ h => h.elim

/-! ### a def (or method) of the text as it stands behind the top -/
structure Fun (K : PySem.W.Frag) (x qual : Str) (st : Stmt) (f : Addr) (fd : FuncData) : Prop where
  ex : ∃ (oc : Value) (od : Option Addr) (kV doc pm : Value) (an : Option Addr) (cdv ct : Value) (osl : Array (Option Value)),
    fd = PySem.W.fnOf x qual (defArgs st) (defBody st) (defScope st) .none kV doc pm an cdv ct ∧ K.lookup f = some ⟨oc, od, .func fd, osl⟩ ∧ PySem.W.codeIn K cdv qual = true
  kp : PySem.W.keepIn K (.ref f) = true
section
variable {P : Program} {w : World} {K : PySem.W.Frag} {mg : Str → Option Value} {base : Heap}
/-- THE RULE for a def: its body as a term of rules, and the reading of that term -/
theorem Fun.ok {x qual : Str} {st : Stmt} {f : Addr} {fd : FuncData} {N ps : List Str} {k : Nat} {sp : Sp} (F : Fun K x qual st f fd) (S : FnScope N ps (defScope st)) (len : ∀ vs H Q E, sp vs H Q E → vs.length = ps.length)
    (hbody : ∀ (cdv : Value) (A : Around) (outer : List Env) (s : Shared) (H : Hp) (vs : List V) (Q : VK) (E : XK), Room k (A.deeper (envOfC qual (defScope st) s.heap.objs.size f cdv)) → sp vs H Q E →
      ∃ t, PSs (cxOf CX0 P w K mg base N qual (defScope st) f cdv A outer s H E).nox (defBody st) t ∧ t { nx := fun _ H' => Q .non H', rt := Q } (start N vs) H) : FnOk P w K mg base CX0 (k + 1) f fd ps sp := by
  obtain ⟨oc, od, kV, doc, pm, an, cdv, ct, osl, rfl, lk, hcd⟩ := F.ex
  refine fn_of lk hcd S len fun A outer s H vs Q E hr hsp => ?_
  obtain ⟨t, h, q⟩ := hbody cdv A outer s H vs Q E hr hsp
  exact ⟨t, h.nox, q⟩
/-- how its arguments bind (no defaults): h is «fun _ _ _ _ _ _ us hl => match us, hl with | [_, _], _ => rfl», one _ a parameter -/
theorem Fun.binds {x qual : Str} {st : Stmt} {f : Addr} {fd : FuncData} {ps : List Str} (F : Fun K x qual st f fd)
    (h : ∀ (kV doc pm : Value) (an : Option Addr) (cdv ct : Value) (us : List Value), us.length = ps.length → bindArgs (PySem.W.fnOf x qual (defArgs st) (defBody st) (defScope st) .none kV doc pm an cdv ct) ⟨us, []⟩ = pure (ps.zip us)) : Binds K fd ps [] := by
  obtain ⟨oc, od, kV, doc, pm, an, cdv, ct, osl, rfl, lk, hcd⟩ := F.ex
  exact .all (h kV doc pm an cdv ct)
theorem fun_mk {x qual : Str} {st : Stmt} {f : Addr} {oc : Value} {od an : Option Addr} {osl : Array (Option Value)} {kV doc pm cdv ct : Value} (l : K.lookup f = some ⟨oc, od, .func (PySem.W.fnOf x qual (defArgs st) (defBody st) (defScope st) .none kV doc pm an cdv ct), osl⟩)
    (c : PySem.W.codeIn K cdv qual = true) (k : PySem.W.keepIn K (.ref f) = true) : Fun K x qual st f (PySem.W.fnOf x qual (defArgs st) (defBody st) (defScope st) .none kV doc pm an cdv ct) := ⟨⟨oc, od, kV, doc, pm, an, cdv, ct, osl, rfl, l, c⟩, k⟩
end

/-! ### expressions in short: the name that stands in the i-th slot -/
section
variable {X : Cx}
theorem pv (i : Nat) {x : Str} {pos : Pos} (hN : X.N[i]? = some x := by rfl) (hv : Vis X.env.scope x := by first | exact Or.inl rfl | exact Or.inr (Or.inl rfl) | exact Or.inr (Or.inr rfl)) (hd : (x == ("__debug__" : Str)) = false := by decide)
    (hcd : (x == ("__classdict__" : Str)) = false := by decide) : PE X (.Name x pos) (tVar i) := pe_var hN hv hd hcd
end

/-! ### tests -/
theorem iteF {A B : Prop} (h : B) : if false = true then A else B := by
  rw [if_neg Bool.false_ne_true]
  exact h
theorem iteT {A B : Prop} (h : A) : if true = true then A else B := by
  rw [if_pos rfl]
  exact h
theorem ite2 {c A B : Prop} [Decidable c] (h1 : c → A) (h2 : ¬ c → B) : if c then A else B := by
  by_cases h : c
  · rw [if_pos h]
    exact h1 h
  · rw [if_neg h]
    exact h2 h

/-! ### heaps -/
/-- all that was tracked is as it was -/
def Same (H H' : Hp) : Prop := ∀ b o, H b = some o → H' b = some o
theorem Same.trans {H H1 H2 : Hp} (a : Same H H1) (b : Same H1 H2) : Same H H2 := fun c o h => b c o (a c o h)
theorem Same.free {H H' : Hp} (e : Same H H') {l : Addr} (h : H' l = Option.none) : H l = Option.none := by
  cases q : H l with
  | none => rfl
  | some o =>
    rw [e l o q] at h
    cases h
theorem Same.seq {K : PySem.W.Frag} {H H' : Hp} {a : Addr} {xs : List V} (e : Same H H') (h : SqL K H a xs) : SqL K H' a xs := by
  rcases h with (h | ⟨o, h⟩) | h
  · exact .inl (.inl (e _ _ h))
  · exact .inl (.inr ⟨o, e _ _ h⟩)
  · exact .inr h

/-! ### a dict's pairs: keys that differ -/
section
variable {κ : Type} [DecidableEq κ]
end
/-! ### lists -/
theorem at_of {xs : List V} {z : Int} {j : Nat} {v : V} (e : z = (j : Int)) (h : xs[j]? = some v) : atI xs z = some v := by
  rw [e]
  exact atI_nat h
end L2


end
section
set_option Elab.async false
set_option linter.all false
set_option maxRecDepth 100000
set_option maxHeartbeats 2000000
/-! ### short words of this program's proofs over the layer -/
namespace L2
open PySem PySem.Spec PyProof.Rows
theorem boot_any5 : bootBuiltins "any" = some (.builtin "any") := by decide +kernel
theorem boot_all5 : bootBuiltins "all" = some (.builtin "all") := by decide +kernel
theorem boot_min5 : bootBuiltins "min" = some (.builtin "min") := by decide +kernel
theorem boot_max5 : bootBuiltins "max" = some (.builtin "max") := by decide +kernel
theorem boot_list5 : bootBuiltins "list" = some (.type "list") := by decide +kernel
/-- a def of the top: its text, its name, how it binds -/
def HasDef (K : PySem.W.Frag) (mg : Str → Option Value) (x : Str) (st : Stmt) (ps : List Str) : Prop := ∃ f fd, Fun K x x st f fd ∧ mg x = some (.ref f) ∧ Binds K fd ps []
/-- a def of the top that keeps its promise -/
def Ok (P : Program) (w : World) (K : PySem.W.Frag) (mg : Str → Option Value) (base : Heap) (k : Nat) (x : Str) (ps : List Str) (sp : Sp) : Prop :=
  ∃ f fd, FnOk P w K mg base CX0 k f fd ps sp ∧ mg x = some (.ref f) ∧ PySem.W.keepIn K (.ref f) = true ∧ Binds K fd ps [] ∧ ∃ oc od osl, K.lookup f = some ⟨oc, od, .func fd, osl⟩
section
variable {P : Program} {w : World} {K : PySem.W.Frag} {mg : Str → Option Value} {base : Heap}
theorem HasDef.ok {x : Str} {st : Stmt} {N ps : List Str} {k : Nat} {sp : Sp} (D : HasDef K mg x st ps) (S : FnScope N ps (defScope st)) (len : ∀ vs H Q E, sp vs H Q E → vs.length = ps.length)
    (hbody : ∀ (f : Addr) (cdv : Value) (A : Around) (outer : List Env) (s : Shared) (H : Hp) (vs : List V) (Q : VK) (E : XK), Room k (A.deeper (envOfC x (defScope st) s.heap.objs.size f cdv)) → sp vs H Q E →
      ∃ t, PSs (cxOf CX0 P w K mg base N x (defScope st) f cdv A outer s H E).nox (defBody st) t ∧ t { nx := fun _ H' => Q .non H', rt := Q } (start N vs) H) : Ok P w K mg base (k + 1) x ps sp := by
  obtain ⟨f, fd, F, m, b⟩ := D
  obtain ⟨oc, od, _, _, _, _, _, _, osl, _, lk, _⟩ := F.ex
  exact ⟨f, fd, F.ok S len fun cdv A outer s H vs Q E => hbody f cdv A outer s H vs Q E, m, F.kp, b, oc, od, osl, lk⟩
theorem Ok.fn {x : Str} {ps : List Str} {k : Nat} {sp : Sp} (O : Ok P w K mg base k x ps sp) {fa : Addr} {fd : FuncData} {oc : Value} {od : Option Addr} {osl : Array (Option Value)} (h : mg x = some (.ref fa)) (l : K.lookup fa = some ⟨oc, od, .func fd, osl⟩) : FnOk P w K mg base CX0 k fa fd ps sp := by
  obtain ⟨f, fd', F, m, _, _, _, _, _, l'⟩ := O
  rw [h] at m
  cases m
  rw [l] at l'
  cases l'
  exact F
end
section
variable {X : Cx}
theorem pe_globI {x : Str} {i : Int} {pos : Pos} (h : ∃ t, X.mg x = some (.int i t)) (hg : Gl X x := by rfl) (hd : (x == ("__debug__" : Str)) = false := by decide) : PE X (.Name x pos) (tC (.int i)) := by
  obtain ⟨t, h⟩ := h
  exact pe_glob hg h ⟨t, rfl⟩ hd
theorem pip_of {op : Operator} {r : R2} (ho : OpR X (inplaceOp op) r) : PIp X op r := ho
theorem pe_co {x : Str} {ps : List Str} {k : Nat} {sp : Sp} {e : Expr} {es : List Expr} {t : TA} {p pos : Pos} (O : Ok X.prog X.w X.K X.mg X.base k x ps sp) (hr : Room k X.A) (ha : PA X (e :: es) t) (hg : Gl X x := by rfl)
    (hdb : (x == ("__debug__" : Str)) = false := by decide) (he : starEach (e :: es) X.env = (false, eval e X.env) :: starEach es X.env := by rfl) (hpl : (backTo pos (starEach es X.env)).any (·.1) = false := by rfl) :
    PE X (.Call (.Name x p) (e :: es) [] pos) (tCall sp [] E0 t) := by
  obtain ⟨f, fd, F, m, kp, b, _⟩ := O
  exact pe_call F hr hg m kp b .nil pass0 ha hdb he hpl
theorem get_list : PGet X (rIxL X.K) := by
  intro pins s σ H x y v u Q I rx ry h
  obtain ⟨p, xs, i, z, rfl, rfl, hq, he, q⟩ := h
  cases rx
  obtain ⟨t, rfl⟩ := ry
  obtain ⟨its, r, pl, hz⟩ := I.list hq
  obtain ⟨j, h1, h2, h3, h4, h5⟩ := atI_get he
  obtain ⟨w, ew, rw'⟩ := r.get h2
  have hl := r.length
  have hn := line63
  have fin : EP X pins σ Q w s := ⟨z, H, I, rw', q⟩
  by_cases h0 : 0 ≤ i
  · have hj : i.toNat = j := by
      rw [seqIndex_of h0 h5] at h1
      exact Option.some.inj h1
    exact wpAny_getItem_list pl.isList h0 (by omega) (by rw [hj]; simpa using ew) fin
  · have hj : (i + (its.toArray.size : Int)).toNat = j := by
      rw [seqIndex_neg (by omega) h4] at h1
      rw [List.size_toArray, ← hl]
      exact Option.some.inj h1
    exact wpAny_getItem_list_neg pl.isList (by omega) (by rw [List.size_toArray] <;> omega) (by omega) (by rw [hj]; simpa using ew) fin
end
/-! ### facts about the heap -/
theorem Same.rfl' {H : Hp} : Same H H := fun _ _ h => h
theorem Same.new {H : Hp} {l : Addr} {o : HO} (h : H l = Option.none) : Same H (upd H l o) := fun b u e => by
  rw [upd_ne (ne_of_none e h)]
  exact e
theorem Same.grow {H H1 : Hp} {l : Addr} {o : HO} (e : Same H H1) (h : H l = Option.none) : Same H (upd H1 l o) := fun b u q => by
  rw [upd_ne (ne_of_none q h)]
  exact e b u q
/-- an item of a list of ints -/
theorem atI_int {ns : List Int} {i : Int} {j : Nat} (hj : i = (j : Int)) (h : j < ns.length) : atI (ns.map V.int) i = some (.int (ns.getD j 0)) := by
  refine at_of hj ?_
  rw [List.getElem?_map, List.getElem?_eq_getElem h]
  simp [List.getD, List.getElem?_eq_getElem h]
theorem map_int_at {ns : List Int} {i : Nat} {y : V} (hi : (ns.map V.int)[i]? = some y) : ∃ z, ns[i]? = some z ∧ y = V.int z := by
  rw [List.getElem?_map] at hi
  cases e : ns[i]? with
  | none =>
    rw [e] at hi
    cases hi
  | some z =>
    rw [e] at hi
    exact ⟨z, rfl, (Option.some.inj hi).symm⟩
theorem take_snoc' {α : Type} : ∀ {l : List α} {i : Nat} {x : α}, l[i]? = some x → l.take (i + 1) = l.take i ++ [x]
  | [], i, x, h => by simp at h
  | a :: l, 0, x, h => by
    have e : a = x := Option.some.inj h
    subst e
    rfl
  | a :: l, i + 1, x, h => by
    have ih := take_snoc' (l := l) (i := i) (x := x) h
    show a :: l.take (i + 1) = a :: l.take i ++ [x]
    rw [ih]
    rfl
/-! ### a comprehension without a test whose element is f of the item -/
def tLcR (J : It) (g : TG) (tt : TT) (te : TE) (vs : List Nat) (σ : St) (H1 : Hp) (Q : Addr → Hp → Prop) : Prop := ∀ D, H1 D = none → ∃ W : Nat → Nat → Hp → Prop, (∃ m, W 0 m (upd H1 D (.lst []))) ∧ ∀ i m H, W i m H →
  (J.stop i H ∧ Q D H) ∨ (J.go i H ∧ ∃ Nx : Hp → Prop, (∀ H', Nx H' → ∃ m', m' < m ∧ W (i + 1) m' H') ∧ ∀ x H', J.yld i H x H' → g x (wipe σ vs) H' fun σ2 H2 => wipe σ2 vs = wipe σ vs ∧ tt σ2 H2 fun b H3 =>
    if b = true then te σ2 H3 fun y H4 => ∃ acc, H4 D = some (.lst acc) ∧ acc.length < sizeLine ∧ Nx (upd H4 D (.lst (acc ++ [y]))) else Nx H3)
theorem comp_list {K : PySem.W.Frag} {a : Addr} {ns : List Int} {σ : St} {H : Hp} {j : Nat} {vs : List Nat} {te : TE} {Q : Addr → Hp → Prop} (f : Int → V) (hS : SqL K H a (ns.map V.int)) (hlen : ns.length < sizeLine)
    (hw : ∀ z : Int, wipe ((wipe σ vs).set j (some (.int z))) vs = wipe σ vs)
    (hel : ∀ z ∈ ns, ∀ (H' : Hp) (Q' : VK), Same H H' → (∀ H'', Same H' H'' → Q' (f z) H'') → te ((wipe σ vs).set j (some (.int z))) H' Q')
    (hd : ∀ (D : Addr) (H' : Hp), H D = none → H' D = some (.lst (ns.map f)) → Same H H' → Q D H') : tLcR (Itl K a) (gName j) tYes te vs σ H Q := by
  intro D hD
  refine lc_list (K := K) (a := a) (xs := ns.map V.int) (Qd := fun H' => Q D H') (fun i H' => H' D = some (.lst ((ns.take i).map f)) ∧ Same H H') ⟨upd_same, Same.new hD⟩ (fun i H' _ q => q.2.seq hS) ?_ ?_
  · rintro i y H' hi ⟨q1, q2⟩
    obtain ⟨z, hz, rfl⟩ := map_int_at hi
    refine ⟨hw z, hel z (List.mem_of_getElem? hz) H' _ q2 fun H'' q3 => ⟨_, q3 _ _ q1, ?_, ?_, ?_⟩⟩
    · rw [List.length_map, List.length_take]
      omega
    · rw [upd_same, take_snoc' hz, List.map_append]
      rfl
    · exact (q2.trans q3).grow hD
  · rintro H' ⟨q1, q2⟩
    rw [List.length_map, List.take_length] at q1
    exact hd D H' hD q1 q2
/-! ### bits of numbers from 0 on -/
theorem andN (m n : Nat) : Builtin.bitAnd (m : Int) (n : Int) = ((m &&& n : Nat) : Int) := by
  rw [bitAnd_pp (by omega) (by omega), Int.toNat_natCast, Int.toNat_natCast]
theorem orN (m n : Nat) : Builtin.bitOr (m : Int) (n : Int) = ((m ||| n : Nat) : Int) := by
  rw [Bits.bitOr_pp (by omega) (by omega), Int.toNat_natCast, Int.toNat_natCast]
theorem shrN (m k : Nat) : (m : Int) / 2 ^ k = ((m / 2 ^ k : Nat) : Int) := by
  rw [two_pow_cast]
  exact (Int.natCast_ediv _ _).symm
end L2
namespace L2
open PySem PySem.Spec PyProof.Rows
/-- (n >> c) & 1 == 1 -/
theorem bit_test (n c : Nat) : decide (V.int (Builtin.bitAnd ((n : Int) / 2 ^ (c : Int).toNat) 1) = V.int 1) = n.testBit c := by
  rw [Int.toNat_natCast, shrN, bitAnd_m1, Nat.testBit_eq_decide_div_mod_eq]
  apply decide_eq_decide.mpr
  constructor
  · intro z
    have := V.int.inj z
    omega
  · intro z
    congr 1
    omega
/-- a list of numbers from 0 on, as ints -/
theorem nats_back {ns : List Int} (hn : ∀ n ∈ ns, 0 ≤ n) : ns = (ns.map Int.toNat).map Int.ofNat := by
  rw [List.map_map]
  conv => lhs; rw [← List.map_id ns]
  apply List.map_congr_left
  intro n hm
  show n = ((n.toNat : Nat) : Int)
  have := hn n hm
  omega
end L2
namespace L2
open PySem PySem.Spec PyProof.Rows
theorem getD_ofNat (l : List Nat) (j : Nat) : (l.map Int.ofNat).getD j 0 = ((l.getD j 0 : Nat) : Int) := by
  simp only [List.getD, List.getElem?_map]
  cases l[j]? <;> rfl
theorem atI_nats {l : List Nat} {i : Int} {j : Nat} (hj : i = (j : Int)) (h : j < l.length) : atI ((l.map Int.ofNat).map V.int) i = some (.int ((l.getD j 0 : Nat) : Int)) := by
  rw [atI_int hj (by rw [List.length_map]; exact h), getD_ofNat]
theorem ixN_nat {n j : Nat} (h : j < n) : ixN n (j : Int) = some j := by
  unfold ixN
  rw [if_pos (Int.natCast_nonneg j), if_pos (by omega), Int.toNat_natCast]
theorem nats_at {l : List Nat} {i : Nat} {y : V} (hi : ((l.map Int.ofNat).map V.int)[i]? = some y) : ∃ n : Nat, l[i]? = some n ∧ y = V.int (n : Int) := by
  obtain ⟨z, hz, rfl⟩ := map_int_at hi
  rw [List.getElem?_map] at hz
  cases q : l[i]? with
  | none => rw [q] at hz; cases hz
  | some n => rw [q] at hz; exact ⟨n, rfl, by rw [← Option.some.inj hz]; rfl⟩
theorem len_nats (l : List Nat) : ((l.map Int.ofNat).map V.int).length = l.length := by rw [List.length_map, List.length_map]
end L2
/-! ### own classes -/
namespace L2
open PySem PySem.Spec PyProof.Rows
section
variable {P : Program} {w : World} {K : PySem.W.Frag} {mg : Str → Option Value} {base : Heap}
end
section
variable {X : Cx}
end
end L2
/-! ### tuple.index -/
namespace PySem.SeqAt
open AutoSeq1 (wpAny_loadPart')
open MeetsSeq MeetsSeq2 MeetsSeq3 SeqRoads2
end PySem.SeqAt

namespace L2
open PySem PySem.Spec PyProof.Rows
end L2
/-! ### more of lists, ints, sets; enumerate, zip -/
namespace L2
open PySem PySem.Spec PyProof.Rows
theorem boot_set5 : bootBuiltins "set" = some (.type "set") := by decide +kernel
section
variable {X : Cx}
/-- list + list, either one read only -/
def rCatS (K : PySem.W.Frag) : R2 := fun x y H Q => ∃ l b xs zs, x = .ref l ∧ y = .ref b ∧ SqL K H l xs ∧ SqL K H b zs ∧ xs.length + zs.length ≤ sizeLine ∧ ∀ p, H p = none → Q (.ref p) (upd H p (.lst (xs ++ zs)))
theorem op_catS : OpR X (binaryOp .Add) (rCatS X.K) := by
  intro pins s σ H x y v u Q I rx ry h
  obtain ⟨l, b, xs, zs, rfl, rfl, hH, hB, hz, q⟩ := h
  cases rx
  cases ry
  obtain ⟨its, r, ⟨⟨cls, dd, data, sl⟩, n, ho, hc, hdn, hd⟩, hl⟩ := I.list hH
  obtain ⟨its2, r2, ⟨⟨cls2, dd2, data2, sl2⟩, n2, ho2, hc2, hdn2, hd2⟩, hl2⟩ := I.list hB
  simp only at hc hd hc2 hd2
  subst hc hd hc2 hd2
  have e1 := r.length
  have e2 := r2.length
  have e : its.toArray ++ its2.toArray = (its ++ its2).toArray := by simp
  refine concat_meets ⟨_, ho, rfl⟩ ⟨_, ho2, rfl⟩ noFill_list_add seq_list_add PySem.F.slot_list_add PySem.F.entry_list_add (PySem.F.args_list_add_2 _ _) (list_addW l b its.toArray its2.toArray n n2 dd dd2 sl sl2 (by simp; omega)) ⟨ho, ho2, ?_⟩
  rw [e]
  exact ⟨.ref _, _, I.lnew (t' := s.toks) (r.append r2) (by rw [List.length_append]; omega), rfl, q _ I.fresh⟩
/-- i.bit_length() -/
theorem mt_bitlen : MtR X "int.bit_length" (fun x xs H Q => ∃ i : Int, x = .int i ∧ xs = [] ∧ Q (.int (Builtin.Int.intBits i : Nat)) H) := by
  intro pins s σ H x xs v us Q I rx rxs h
  obtain ⟨i, rfl, rfl, q⟩ := h
  obtain ⟨t, rfl⟩ := rx
  cases rxs
  exact call_int_bit_length ⟨.int _, H, I.tok _, ⟨_, rfl⟩, q⟩
theorem firstMet_fold (ns : List Int) : firstMet (fun i => ns.getD i 0) ns.length = ns.foldl step_dedup [] := by
  unfold firstMet
  congr 1
  apply List.ext_getElem
  · simp
  · intro i h1 h2
    simp [List.getD, List.getElem?_eq_getElem h2]
/-- set(xs) of a list of ints, and its len -/
theorem call_set_of (hc : X.calm = true) : CallR X (.type "set") (fun xs H Q => ∃ (p : Addr) (ns : List Int), xs = [.ref p] ∧ SqL X.K H p (ns.map V.int) ∧ ns.length ≤ 1000 ∧ ∀ (l : Addr) (S : Int → Bool), H l = none → Q (.ref l) (upd H l (.set S (ns.foldl step_dedup []).length))) := by
  intro pins s σ H xs us Q I r h
  obtain ⟨p, ns, rfl, hq, hz, q⟩ := h
  obtain ⟨u, rfl, rx⟩ := vals1 r
  cases rx
  obtain ⟨its, rv, hl, _⟩ := I.list hq
  have hlen := rv.length
  rw [List.length_map] at hlen
  refine PySem.call_set_list (items := its.toArray) (ns := ns) (I.ok.hd hc) hl.isList (by simpa using rv.ints) (by rw [List.size_toArray]; unfold scanBound; omega) fun h' tk hS hk => ?_
  have esz : its.toArray.size = ns.length := by rw [List.size_toArray, hlen]
  rw [esz, firstMet_fold] at hS
  exact ⟨.ref s.heap.objs.size, _, I.laid (t' := tk) (fun b o e => hk b o (Heap.lt_size e) e) (Nat.le_refl _) (show ObjOk X.prog X.w _ h' _ (.set _ _) from hS), rfl, q _ _ (I.hok.fresh (Nat.le_refl _))⟩
theorem call_len_set5 : CallR X (.builtin "len") (fun xs H Q => ∃ (p : Addr) (S : Int → Bool) (n : Nat), xs = [.ref p] ∧ H p = some (.set S n) ∧ Q (.int n) H) := by
  intro pins s σ H xs us Q I r h
  obtain ⟨p, S, n, rfl, hq, q⟩ := h
  obtain ⟨u, rfl, rx⟩ := vals1 r
  cases rx
  obtain ⟨o, es, ep, t, ho, hex, hd, _, _, hsz, hf, hn⟩ := I.hok p _ hq
  unfold scanBound at hsz
  exact PySem.call_len_set ho hex hd hf (by omega) ⟨.int n, H, I.tok _, ⟨_, by rw [hn]⟩, q⟩
end
theorem Same.nw {H H' : Hp} {T : Addr} {o : HO} (e : Same H H') (h : H' T = none) : Same H (upd H' T o) := e.trans (Same.new h)
/-- for i, x in enumerate(list) -/
theorem for_enum {K : PySem.W.Frag} {a : Addr} {xs : List V} {j1 j2 : Nat} {tb : TS} {D : Ends} {σ : St} {H : Hp} (Pv : Nat → St → Hp → Prop) (h0 : Pv 0 σ H) (hl : ∀ i σ H, i ≤ xs.length → Pv i σ H → SqL K H a xs)
    (hs : ∀ i x σ H T, xs[i]? = some x → Pv i σ H → H T = none → tb { D with nx := Pv (i + 1), ct := Pv (i + 1), bk := D.nx } ((σ.set j1 (some (.int (i : Nat)))).set j2 (some x)) (upd H T (.tup [.int (i : Nat), x]))) (hd : ∀ σ H, Pv xs.length σ H → D.nx σ H) :
    ∃ W : Nat → Nat → St → Hp → Prop, (∃ m, W 0 m σ H) ∧ ∀ i m σ H, W i m σ H →
      ((Ite K a).stop i H ∧ D.nx σ H) ∨ ((Ite K a).go i H ∧ ∃ N : St → Hp → Prop, (∀ σ' H', N σ' H' → ∃ m', m' < m ∧ W (i + 1) m' σ' H') ∧ ∀ x H', (Ite K a).yld i H x H' → (gTup K 2 (gCons (gName j1) (gCons (gName j2) gNil))) x σ H' fun σ2 H2 => tb { D with nx := N, ct := N, bk := D.nx } σ2 H2) := by
  refine ⟨fun i m σ H => m = xs.length - i ∧ i ≤ xs.length ∧ Pv i σ H, ⟨xs.length, by simp, Nat.zero_le _, h0⟩, ?_⟩
  rintro i m σ H ⟨rfl, hi, p⟩
  have q := hl i σ H hi p
  by_cases hlt : i < xs.length
  · refine .inr ⟨⟨xs, xs[i], q, by simp [hlt]⟩, Pv (i + 1), fun σ' H' p' => ⟨xs.length - (i + 1), by omega, rfl, hlt, p'⟩, fun v H' y => ?_⟩
    obtain ⟨T, x, rfl, hT, rfl, hx⟩ := y
    exact ⟨T, [.int (i : Nat), x], rfl, .inl (.inl upd_same), rfl, _, _, rfl, _, _, rfl, rfl, hs i x σ H T (hx xs q) p hT⟩
  · have e : i = xs.length := by omega
    subst e
    exact .inl ⟨⟨xs, q, Nat.le_refl _⟩, hd σ H p⟩
/-- [f for x, y in zip(xs, ys) if keep], lists of ints -/
theorem comp_zip {K : PySem.W.Frag} {a b : Addr} {xs ys : List Int} {σ : St} {H : Hp} {j1 j2 : Nat} {vs : List Nat} {tt : TT} {te : TE} {Q : Addr → Hp → Prop} (keep : Int → Int → Bool) (f : Int → Int → V) (hX : SqL K H a (xs.map V.int)) (hY : SqL K H b (ys.map V.int)) (hlen : xs.length = ys.length) (hsz : xs.length < sizeLine)
    (hw : ∀ x y : Int, wipe (((wipe σ vs).set j1 (some (.int x))).set j2 (some (.int y))) vs = wipe σ vs)
    (ht : ∀ (x y : Int) (H' : Hp) (Q' : Bool → Hp → Prop), Same H H' → Q' (keep x y) H' → tt (((wipe σ vs).set j1 (some (.int x))).set j2 (some (.int y))) H' Q')
    (hel : ∀ (x y : Int) (H' : Hp) (Q' : VK), Same H H' → Q' (f x y) H' → te (((wipe σ vs).set j1 (some (.int x))).set j2 (some (.int y))) H' Q')
    (hd : ∀ (D : Addr) (H' : Hp), H D = none → H' D = some (.lst (((xs.zip ys).filter fun p => keep p.1 p.2).map fun p => f p.1 p.2)) → Same H H' → Q D H') :
    tLcR (Itz K a b) (gTup K 2 (gCons (gName j1) (gCons (gName j2) gNil))) tt te vs σ H Q := by
  intro D hD
  have hzl : (xs.zip ys).length = xs.length := by rw [List.length_zip, ← hlen, Nat.min_self]
  refine ⟨fun i m H' => m = xs.length - i ∧ i ≤ xs.length ∧ H' D = some (.lst ((((xs.zip ys).take i).filter fun p => keep p.1 p.2).map fun p => f p.1 p.2)) ∧ Same H H', ⟨xs.length, by simp, Nat.zero_le _, upd_same, Same.new hD⟩, ?_⟩
  rintro i m H' ⟨rfl, hi, h1, h2⟩
  by_cases hlt : i < xs.length
  · have hlt2 : i < ys.length := by omega
    have ex : (xs.map V.int)[i]? = some (V.int xs[i]) := by rw [List.getElem?_map, List.getElem?_eq_getElem hlt]; rfl
    have ey : (ys.map V.int)[i]? = some (V.int ys[i]) := by rw [List.getElem?_map, List.getElem?_eq_getElem hlt2]; rfl
    have ez : (xs.zip ys)[i]? = some (xs[i], ys[i]) := by
      rw [List.getElem?_eq_getElem (by rw [hzl]; exact hlt), List.getElem_zip]
    refine .inr ⟨⟨_, _, _, _, h2.seq hX, h2.seq hY, ex, ey⟩, fun H'' => H'' D = some (.lst ((((xs.zip ys).take (i + 1)).filter fun p => keep p.1 p.2).map fun p => f p.1 p.2)) ∧ Same H H'', fun H'' p => ⟨xs.length - (i + 1), by omega, rfl, hlt, p⟩, ?_⟩
    rintro v H3 ⟨T, x, y, rfl, hT, rfl, hx, hy⟩
    have x1 := hx _ (h2.seq hX)
    have y1 := hy _ (h2.seq hY)
    rw [ex] at x1
    rw [ey] at y1
    cases x1
    cases y1
    have s3 : Same H (upd H' T (.tup [V.int xs[i], V.int ys[i]])) := h2.nw hT
    have d3 : upd H' T (.tup [V.int xs[i], V.int ys[i]]) D = _ := (Same.new hT) _ _ h1
    refine ⟨T, [V.int xs[i], V.int ys[i]], rfl, .inl (.inl upd_same), rfl, _, _, rfl, _, _, rfl, rfl, hw _ _, ht _ _ _ _ s3 ?_⟩
    have hp : (xs.zip ys).take (i + 1) = (xs.zip ys).take i ++ [(xs[i], ys[i])] := take_snoc' ez
    cases hk : keep xs[i] ys[i] with
    | true =>
      rw [if_pos rfl]
      refine hel _ _ _ _ s3 ⟨_, d3, ?_, ?_, s3.grow hD⟩
      · rw [List.length_map]
        have := List.length_filter_le (fun p : Int × Int => keep p.1 p.2) ((xs.zip ys).take i)
        rw [List.length_take] at this
        omega
      · rw [upd_same, hp, List.filter_append, List.map_append]
        congr 2
        simp [hk]
    | false =>
      rw [if_neg Bool.false_ne_true]
      refine ⟨?_, s3⟩
      rw [d3, hp, List.filter_append, List.map_append]
      simp [hk]
  · have e : i = xs.length := by omega
    subst e
    refine .inl ⟨⟨_, _, h2.seq hX, h2.seq hY, .inl (by rw [List.length_map]; exact Nat.le_refl _)⟩, hd D H' hD ?_ h2⟩
    rw [h1, ← hzl, List.take_length]
/-- the lowest bit -/
theorem low_and {r c : Nat} (h0 : 0 < r) (h : (r &&& (r - 1)) + 2 ^ c = r) : Builtin.bitAnd (r : Int) (-(r : Int)) = ((2 ^ c : Nat) : Int) := by
  have e1 : (Builtin.bitNot (-(r : Int))).toNat = r - 1 := by
    unfold Builtin.bitNot
    omega
  rw [bitAnd_pn (by omega) (by omega), e1, Int.toNat_natCast]
  omega
theorem bits_pow (c : Nat) : Builtin.Int.intBits ((2 ^ c : Nat) : Int) = c + 1 := by
  unfold Builtin.Int.intBits
  have h : ¬ (((2 ^ c : Nat) : Int) == 0) = true := by
    have := Nat.two_pow_pos c
    intro z
    have z1 : ((2 ^ c : Nat) : Int) = 0 := eq_of_beq z
    omega
  rw [if_neg h, Int.natAbs_natCast, Nat.log2_two_pow]
end L2
namespace L2
open PySem PySem.Spec
abbrev adr {K : PySem.W.Frag} {H : Hp} {a : Addr} {xs : List V} (_ : SqL K H a xs) : Addr := a
end L2
namespace L2
open PySem PySem.Spec PyProof.Rows
/-- two names at once -/
theorem pg_two {X : Cx} (K : PySem.W.Frag) {i j : Nat} {x y : Str} {px py pos : Pos} {k : Nat} (hK : X.K = K) (hc : X.calm = true) (hN : X.N.Nodup) (hi : X.N[i]? = some x) (hx : Loc X.env.scope x) (hj : X.N[j]? = some y) (hy : Loc X.env.scope y)
    (hf : X.fn x = true ∨ X.env.scope.names.lookup x = some .local := by first | exact .inl rfl | exact .inr rfl | assumption) (hg : X.fn y = true ∨ X.env.scope.names.lookup y = some .local := by first | exact .inl rfl | exact .inr rfl | assumption) :
    PG X (.Tuple [.Name x px, .Name y py] k pos) (gTup K 2 (gCons (gName i) (gCons (gName j) gNil))) := by
  subst hK
  exact pg_tup hc (pgs_cons (pg_name hN hi hx hf) (pgs_cons (pg_name hN hj hy hg) pgs_nil))
end L2
/-! ### dict.setdefault with a tuple as key -/
namespace PySem
section
variable {prog : Program} {w : World} {K : Type} [DecidableEq K] {knd : HeapKind prog w K} {A : Around} {E : Value → Shared → Prop} {s : Shared}
end
end PySem
namespace L2
open PySem PySem.Spec PyProof.Rows
end L2

end
section
set_option Elab.async false
set_option linter.all false
namespace Mt
/-- number of ones -/
def pop (n : Nat) : Nat := if h : n = 0 then 0 else n % 2 + pop (n / 2)
termination_by n
decreasing_by omega

theorem pop_zero : pop 0 = 0 := by unfold pop; simp
theorem pop_rec (n : Nat) : pop n = n % 2 + pop (n / 2) := by
  by_cases h : n = 0
  · subst h; simp [pop_zero]
  · rw [pop, dif_neg h]
theorem pop_two (m : Nat) : pop (2 * m) = pop m := by
  rw [pop_rec]
  have : 2 * m % 2 = 0 := by omega
  have h2 : 2 * m / 2 = m := by omega
  rw [this, h2, Nat.zero_add]
theorem pop_two1 (m : Nat) : pop (2 * m + 1) = 1 + pop m := by
  rw [pop_rec]
  have : (2 * m + 1) % 2 = 1 := by omega
  have h2 : (2 * m + 1) / 2 = m := by omega
  rw [this, h2]
theorem and_two (a b : Nat) : (2 * a) &&& (2 * b + 1) = 2 * (a &&& b) := by
  apply Nat.eq_of_testBit_eq
  intro i
  rw [Nat.testBit_and]
  cases i with
  | zero => simp [Nat.testBit_zero]
  | succ i =>
    have h1 : 2 * a / 2 = a := by omega
    have h2 : (2 * b + 1) / 2 = b := by omega
    have h3 : 2 * (a &&& b) / 2 = (a &&& b) := by omega
    rw [Nat.testBit_succ, Nat.testBit_succ, Nat.testBit_succ, h1, h2, h3, Nat.testBit_and]
theorem and_two1 (a : Nat) : (2 * a + 1) &&& (2 * a) = 2 * a := by
  apply Nat.eq_of_testBit_eq
  intro i
  rw [Nat.testBit_and]
  cases i with
  | zero => simp [Nat.testBit_zero]
  | succ i =>
    have h1 : 2 * a / 2 = a := by omega
    have h2 : (2 * a + 1) / 2 = a := by omega
    rw [Nat.testBit_succ, Nat.testBit_succ, h1, h2, Bool.and_self]
theorem pop_step (n : Nat) (h : 0 < n) : pop (n &&& (n - 1)) + 1 = pop n := by
  induction n using Nat.strongRecOn with
  | _ n ih =>
    rcases (by omega : n = 2 * (n / 2) ∨ n = 2 * (n / 2) + 1) with e | e
    · generalize n / 2 = m at e
      subst e
      have hm : 0 < m := by omega
      have e1 : 2 * m - 1 = 2 * (m - 1) + 1 := by omega
      rw [e1, and_two, pop_two, pop_two]
      exact ih m (by omega) hm
    · generalize n / 2 = m at e
      subst e
      have e1 : 2 * m + 1 - 1 = 2 * m := by omega
      rw [e1, and_two1, pop_two, pop_two1]; omega
theorem and_pred_lt (n : Nat) (h : 0 < n) : n &&& (n - 1) < n := by
  have := Nat.and_le_right (n := n) (m := n - 1)
  omega
theorem count_bits : ∀ (k h : Nat), h < 2 ^ k → ((List.range k).filter fun c => h.testBit c).length = pop h
  | 0, h, e => by
    have : h = 0 := by simpa using e
    subst this; simp [pop_zero]
  | k + 1, h, e => by
    have e2 : h / 2 < 2 ^ k := by rw [Nat.pow_succ] at e; omega
    have ih := count_bits k (h / 2) e2
    rw [List.range_succ_eq_map, List.filter_cons, List.filter_map, pop_rec]
    have e3 : ((fun c => h.testBit c) ∘ Nat.succ) = fun c => (h / 2).testBit c := by
      funext c; simp [Nat.testBit_succ]
    rw [e3]
    have e4 : h.testBit 0 = decide (h % 2 = 1) := Nat.testBit_zero h
    rw [e4]
    rcases (by omega : h % 2 = 0 ∨ h % 2 = 1) with q | q
    · simp [q, ih]
    · simp [q, ih]; omega
theorem many_pop {h : Nat} (e : h < 2 ^ 52) : Oh.many h = pop h := count_bits 52 h e
/-! ### the fault -/
theorem four_of {l : List Nat} (h : l.length = 4) : ∃ a b c d, l = [a, b, c, d] := by
  match l, h with
  | [a, b, c, d], _ => exact ⟨a, b, c, d, rfl⟩
theorem high_eq (l : List Nat) (h : l.length = 4) : Oh.high l = l.any fun n => decide (0 < n / 2 ^ 52) := by
  obtain ⟨a, b, c, d, rfl⟩ := four_of h
  have e : ∀ n : Nat, decide (2 ^ 52 ≤ n) = decide (0 < n / 2 ^ 52) := fun n => by
    apply decide_eq_decide.mpr; omega
  simp [Oh.high, Oh.PLAYERS, Oh.hand, List.range, List.range.loop]
/-- the running test -/
def twice : Nat → List Nat → Bool
  | _, [] => false
  | s, h :: r => if s &&& h != 0 then true else twice (s ||| h) r
theorem or_and_ne (a b c : Nat) : ((a ||| b) &&& c != 0) = ((a &&& c != 0) || (b &&& c != 0)) := by
  rw [Nat.and_or_distrib_right]
  generalize a &&& c = x
  generalize b &&& c = y
  have h : (x ||| y = 0) ↔ (x = 0 ∧ y = 0) := Nat.or_eq_zero_iff
  rw [Bool.eq_iff_iff]
  simp only [bne_iff_ne, Bool.or_eq_true, ne_eq, h]
  by_cases hx : x = 0 <;> by_cases hy : y = 0 <;> simp [hx, hy]
theorem common_eq (l : List Nat) (h : l.length = 4) : Oh.common l = twice 0 l := by
  obtain ⟨a, b, c, d, rfl⟩ := four_of h
  have e1 : Oh.common [a, b, c, d] = ((a &&& b != 0) || (a &&& c != 0) || (a &&& d != 0) || (b &&& c != 0) || (b &&& d != 0) || (c &&& d != 0)) := by
    simp [Oh.common, Oh.PLAYERS, Oh.hand, List.range, List.range.loop, Bool.or_assoc]
  rw [e1]
  simp only [twice, or_and_ne, Nat.zero_and, Nat.zero_or]
  cases (a &&& b != 0) <;> cases (a &&& c != 0) <;> cases (a &&& d != 0) <;> cases (b &&& c != 0) <;> cases (b &&& d != 0) <;> cases (c &&& d != 0) <;> rfl

theorem uneven_eq (l : List Nat) (h : l.length = 4) (hb : ∀ n ∈ l, n < 2 ^ 52) {lo hi : Int} (h1 : lo ∈ l.map fun n => (pop n : Int)) (h2 : ∀ y, y ∈ l.map (fun n => (pop n : Int)) → lo ≤ y)
    (h3 : hi ∈ l.map fun n => (pop n : Int)) (h4 : ∀ y, y ∈ l.map (fun n => (pop n : Int)) → y ≤ hi) : Oh.uneven l = !decide (lo = hi) := by
  obtain ⟨a, b, c, d, rfl⟩ := four_of h
  have ea := many_pop (hb a (by simp))
  have eb := many_pop (hb b (by simp))
  have ec := many_pop (hb c (by simp))
  have ed := many_pop (hb d (by simp))
  have e1 : Oh.uneven [a, b, c, d] = ((pop b != pop a) || ((pop c != pop a) || (pop d != pop a))) := by
    simp [Oh.uneven, Oh.PLAYERS, Oh.hand, List.range, List.range.loop, ea, eb, ec, ed]
  rw [e1]
  simp only [List.map_cons, List.map_nil, List.mem_cons, List.not_mem_nil, or_false, forall_eq_or_imp, forall_eq] at h1 h2 h3 h4
  rw [Bool.eq_iff_iff]
  simp only [bne_iff_ne, ne_eq, Bool.or_eq_true, Bool.not_eq_true', decide_eq_false_iff_not]
  omega
def faultN (l : List Nat) : Nat := if (l.any fun n => decide (0 < n / 2 ^ 52)) = true then 1 else if twice 0 l = true then 2 else if Oh.uneven l = true then 3 else 0
theorem fault_eq (l : List Nat) (h : l.length = 4) : Oh.fault l = faultN l := by
  unfold Oh.fault faultN
  rw [high_eq l h, common_eq l h]
theorem isDeal_eq (l : List Nat) (h : l.length = 4) : Oh.isDeal l = decide (Oh.fault l = 0) := by
  unfold Oh.isDeal
  rw [h, Bool.eq_iff_iff]; simp
theorem nats_len (ns : List Int) : (OhNeutral.nats ns).length = ns.length := by simp [OhNeutral.nats]
/-! ### points -/
def bitAt (h c : Nat) : Nat := if h.testBit c = true then 1 else 0
theorem sumOf_acc : ∀ (l : List Nat) (a : Nat), l.foldl (fun a b => a + b) a = a + Oh.sumOf l
  | [], a => rfl
  | x :: l, a => by
    show l.foldl (fun a b => a + b) (a + x) = a + l.foldl (fun a b => a + b) (0 + x)
    rw [sumOf_acc l, sumOf_acc l]; omega
theorem sumOf_cons (x : Nat) (l : List Nat) : Oh.sumOf (x :: l) = x + Oh.sumOf l := by
  show l.foldl (fun a b => a + b) (0 + x) = _
  rw [sumOf_acc]; omega
theorem sumOf_nil : Oh.sumOf [] = 0 := rfl
/-! ### shape -/
end Mt
namespace Mt
end Mt

end
section
set_option Elab.async false
set_option linter.all false
namespace Mt
/-! ### the text of a deal -/
/-! ### numbers of full deals -/
end Mt
namespace Mt
end Mt

end
section
set_option Elab.async false
set_option linter.all false
namespace Mt
/-- how many of a hand's cards lie below k -/
def cntb (h k : Nat) : Nat := ((List.range k).filter fun c => h.testBit c).length
theorem cntb_zero (h : Nat) : cntb h 0 = 0 := rfl
theorem cntb_succ (h k : Nat) : cntb h (k + 1) = cntb h k + bitAt h k := by
  unfold cntb bitAt
  rw [List.range_succ, List.filter_append, List.length_append]
  congr 1
  rw [List.filter_cons]
  split <;> rfl
theorem many_cntb (h : Nat) : Oh.many h = cntb h 52 := rfl
end Mt
namespace Mt
end Mt

end
section
set_option Elab.async false
set_option linter.all false
namespace Mt
/-! ### reading: one bit more -/
theorem bit_or (h c i : Nat) : (h ||| 2 ^ c).testBit i = (h.testBit i || decide (c = i)) := by
  rw [Nat.testBit_or, Nat.testBit_two_pow]
theorem add_bit {h c : Nat} (e : h.testBit c = false) : h + 2 ^ c = h ||| 2 ^ c := by
  have h1 : h &&& 2 ^ c = 0 := by
    apply Nat.eq_of_testBit_eq
    intro i
    rw [Nat.testBit_and, Nat.testBit_two_pow, Nat.zero_testBit]
    by_cases q : c = i
    · subst q; simp [e]
    · simp [q]
  have h2 : ∀ a b : Nat, (a ||| b) + (a &&& b) = a + b := by
    intro a
    induction a using Nat.strongRecOn with
    | _ a ih =>
      intro b
      by_cases h0 : a = 0
      · subst h0; simp
      · have ih' := ih (a / 2) (by omega) (b / 2)
        rw [← Nat.or_div_two, ← Nat.and_div_two] at ih'
        have o1 := @Nat.or_mod_two_eq_one a b
        have a1 := @Nat.and_mod_two_eq_one a b
        omega
  have := h2 h (2 ^ c)
  omega
theorem cntb_or {h c : Nat} (e : h.testBit c = false) : ∀ k, cntb (h ||| 2 ^ c) k = cntb h k + (if c < k then 1 else 0)
  | 0 => by simp [cntb_zero]
  | k + 1 => by
    rw [cntb_succ, cntb_succ, cntb_or e k]
    unfold bitAt
    rw [bit_or]
    by_cases q : c = k
    · subst q
      rw [e]
      simp
    · have : (c < k + 1) = (c < k) := by apply propext; omega
      simp only [q, decide_false, Bool.or_false, this]
      omega
theorem many_or {h c : Nat} (e : h.testBit c = false) (hc : c < 52) : Oh.many (h ||| 2 ^ c) = Oh.many h + 1 := by
  rw [many_cntb, many_cntb, cntb_or e, if_pos hc]
end Mt

end
section
set_option Elab.async false
set_option linter.all false
namespace Mt
/-! ### best play: the plain minimax over positions -/
theorem sub_bit {h c : Nat} (e : h.testBit c = true) : h - 2 ^ c = h ^^^ 2 ^ c := by
  have h1 : (h ^^^ 2 ^ c).testBit c = false := by rw [Nat.testBit_xor, e, Nat.testBit_two_pow]; simp
  have h2 := add_bit h1
  have h3 : (h ^^^ 2 ^ c) ||| 2 ^ c = h := by
    apply Nat.eq_of_testBit_eq
    intro i
    rw [Nat.testBit_or, Nat.testBit_xor, Nat.testBit_two_pow]
    by_cases q : c = i
    · subst q; simp [e]
    · simp [q]
  omega
theorem sub_testBit {h c : Nat} (e : h.testBit c = true) (i : Nat) : (h - 2 ^ c).testBit i = (h.testBit i && decide (i ≠ c)) := by
  rw [sub_bit e, Nat.testBit_xor, Nat.testBit_two_pow]
  by_cases q : c = i
  · subst q; simp [e]
  · have : i ≠ c := fun z => q z.symm
    simp [q, this]
theorem cardsIn_sub {h c : Nat} (e : h.testBit c = true) : Oh.cardsIn (h - 2 ^ c) = (Oh.cardsIn h).filter fun x => x != c := by
  unfold Oh.cardsIn Oh.inHand
  rw [List.filter_filter]
  apply List.filter_congr
  intro x _
  rw [sub_testBit e]
  by_cases q : x = c
  · simp [q]
  · simp [q]
theorem mem_cardsIn {h c : Nat} : c ∈ Oh.cardsIn h ↔ c < 52 ∧ h.testBit c = true := by
  unfold Oh.cardsIn Oh.CARDS Oh.inHand
  rw [List.mem_filter, List.mem_range]
theorem many_sub {h c : Nat} (hc : c < 52) (e : h.testBit c = true) : Oh.many (h - 2 ^ c) + 1 = Oh.many h := by
  have h1 : (h - 2 ^ c).testBit c = false := by rw [sub_testBit e]; simp
  have h2 := many_or h1 hc
  have h3 : (h - 2 ^ c) ||| 2 ^ c = h := by
    apply Nat.eq_of_testBit_eq
    intro i
    rw [Nat.testBit_or, sub_testBit e, Nat.testBit_two_pow]
    by_cases q : c = i
    · subst q; simp [e]
    · have : i ≠ c := fun z => q z.symm
      simp [q, this]
  rw [h3] at h2
  exact h2.symm
theorem hand_players (g : Nat → Nat) {q : Nat} (h : q < 4) : Oh.hand (Oh.PLAYERS.map g) q = g q := by
  match q, h with
  | 0, _ => rfl
  | 1, _ => rfl
  | 2, _ => rfl
  | 3, _ => rfl
theorem hand_without (d : List Nat) (p c : Nat) {q : Nat} (h : q < 4) : Oh.hand (Oh.without d p c) q = if q = p then Oh.hand d q - 2 ^ c else Oh.hand d q := by
  unfold Oh.without
  rw [hand_players _ h]
theorem turn_lt (p : Oh.Pos) : p.turn < 4 := Nat.mod_lt _ (by decide)
theorem winner_lt (s l : Nat) (t : List Nat) : Oh.winner s l t < 4 := Nat.mod_lt _ (by decide)
/-- the row of what may be played, as cards of the hand -/
theorem plays_sub {p : Oh.Pos} {c : Nat} (h : c ∈ p.plays) : c < 52 ∧ (Oh.hand p.hands p.turn).testBit c = true := by
  unfold Oh.Pos.plays at h
  simp only at h
  split at h
  · exact mem_cardsIn.mp h
  · split at h
    · exact mem_cardsIn.mp h
    · unfold Oh.ofSuit at h
      exact mem_cardsIn.mp (List.mem_filter.mp h).1
def sitOf (p : Oh.Pos) : Oh.Sit := ⟨Oh.PLAYERS.map fun q => Oh.cardsIn (Oh.hand p.hands q), p.strain, p.leader, p.cards⟩
theorem sit_row (p : Oh.Pos) {q : Nat} (h : q < 4) : (sitOf p).rows.getD q [] = Oh.cardsIn (Oh.hand p.hands q) := by
  match q, h with
  | 0, _ => rfl
  | 1, _ => rfl
  | 2, _ => rfl
  | 3, _ => rfl
theorem sit_plays (p : Oh.Pos) : (sitOf p).plays = p.plays := by
  unfold Oh.Sit.plays Oh.Pos.plays
  simp only
  have : (sitOf p).turn = p.turn := rfl
  rw [this, sit_row p (turn_lt p)]
  rfl
theorem set_map4 {α : Type} (g : Nat → α) (t : Nat) (ht : t < 4) (x : α) : (Oh.PLAYERS.map g).set t x = Oh.PLAYERS.map fun q => if q = t then x else g q := by
  match t, ht with
  | 0, _ => rfl
  | 1, _ => rfl
  | 2, _ => rfl
  | 3, _ => rfl
theorem rows_step (p : Oh.Pos) (c : Nat) (h : (Oh.hand p.hands p.turn).testBit c = true) :
    (sitOf p).rows.set p.turn (((sitOf p).rows.getD p.turn []).filter fun x => x != c) = Oh.PLAYERS.map fun q => Oh.cardsIn (Oh.hand (Oh.without p.hands p.turn c) q) := by
  rw [sit_row p (turn_lt p)]
  show (Oh.PLAYERS.map fun q => Oh.cardsIn (Oh.hand p.hands q)).set p.turn _ = _
  rw [set_map4 _ _ (turn_lt p)]
  apply List.map_congr_left
  intro q hq
  have hq4 : q < 4 := by simpa [Oh.PLAYERS] using hq
  rw [hand_without _ _ _ hq4]
  by_cases e : q = p.turn
  · rw [if_pos e, if_pos e, e, cardsIn_sub h]
  · rw [if_neg e, if_neg e]
theorem sit_step (p : Oh.Pos) (c : Nat) (h : (Oh.hand p.hands p.turn).testBit c = true) : (sitOf p).step c = ((p.step c).1, sitOf (p.step c).2) := by
  unfold Oh.Sit.step Oh.Pos.step
  simp only
  have e1 : (sitOf p).turn = p.turn := rfl
  have e2 : (sitOf p).cards = p.cards := rfl
  rw [e1, e2, rows_step p c h]
  by_cases q : (p.cards ++ [c]).length < 4
  · rw [if_pos q, if_pos q]
    rfl
  · rw [if_neg q, if_neg q]
    rfl
/-- the most or the least, plainly -/
def foldBy (side : Nat) (f : Nat → Nat) : List Nat → Nat → Nat
  | [], b => b
  | c :: r, b => foldBy side f r (if side = 0 then Nat.max b (f c) else Nat.min b (f c))
def mm : Nat → Oh.Pos → Nat
  | 0, _ => 0
  | n + 1, p => match p.plays with
    | [] => 0
    | c :: r => foldBy (p.turn % 2) (fun x => (p.step x).1 + mm n (p.step x).2) r ((p.step c).1 + mm n (p.step c).2)
theorem foldBy_top {f : Nat → Nat} {top : Nat} : ∀ (l : List Nat), (∀ x ∈ l, f x ≤ top) → foldBy 0 f l top = top
  | [], _ => rfl
  | c :: r, h => by
    have h1 : Nat.max top (f c) = top := Nat.max_eq_left (h c (by simp))
    show foldBy 0 f r (if (0 : Nat) = 0 then Nat.max top (f c) else _) = top
    rw [if_pos rfl, h1]
    exact foldBy_top r fun x hx => h x (by simp [hx])
theorem foldBy_zero {f : Nat → Nat} {side : Nat} (hs : ¬ side = 0) : ∀ (l : List Nat), foldBy side f l 0 = 0
  | [] => rfl
  | c :: r => by
    show foldBy side f r (if side = 0 then _ else Nat.min 0 (f c)) = 0
    rw [if_neg hs, show Nat.min 0 (f c) = 0 from Nat.zero_min _]
    exact foldBy_zero hs r
theorem foldBy_le {f : Nat → Nat} {side top : Nat} : ∀ (l : List Nat) (b : Nat), (∀ x ∈ l, f x ≤ top) → b ≤ top → foldBy side f l b ≤ top
  | [], b, _, hb => hb
  | c :: r, b, h, hb => by
    refine foldBy_le r _ (fun x hx => h x (by simp [hx])) ?_
    have := h c (by simp)
    split
    · exact Nat.max_le.mpr ⟨hb, this⟩
    · exact Nat.le_trans (Nat.min_le_left _ _) hb
theorem pick_fold {f g : Nat → Nat} {side top : Nat} : ∀ (l : List Nat) (b : Nat), (∀ x ∈ l, g x = f x) → (∀ x ∈ l, f x ≤ top) → b ≤ top → Oh.pickBy side top g l b = foldBy side f l b
  | [], b, _, _, _ => rfl
  | c :: r, b, e, h, hb => by
    unfold Oh.pickBy
    by_cases hs : side = 0
    · subst hs
      by_cases q : top ≤ b
      · have : b = top := by omega
        subst this
        rw [if_pos (by simp), foldBy_top _ h]
      · rw [if_neg (by simp [q])]
        rw [e c (by simp)]
        show Oh.pickBy 0 top g r _ = foldBy 0 f r _
        refine pick_fold r _ (fun x hx => e x (by simp [hx])) (fun x hx => h x (by simp [hx])) ?_
        rw [if_pos rfl]
        exact Nat.max_le.mpr ⟨hb, h c (by simp)⟩
    · by_cases q : b = 0
      · subst q
        rw [if_pos (by simp [hs]), foldBy_zero hs]
      · rw [if_neg (by simp [hs, q]), e c (by simp)]
        refine pick_fold r _ (fun x hx => e x (by simp [hx])) (fun x hx => h x (by simp [hx])) ?_
        rw [if_neg hs]
        exact Nat.le_trans (Nat.min_le_left _ _) hb
/-- player q has played to the trick under way -/
def hasPlayed (p : Oh.Pos) (q : Nat) : Nat := if (q + 4 - p.leader) % 4 < p.cards.length then 1 else 0
/-- so many tricks to come, the one under way among them -/
structure Fit (top : Nat) (p : Oh.Pos) : Prop where
  leader : p.leader < 4
  cards : p.cards.length ≤ 3
  size : ∀ q < 4, Oh.many (Oh.hand p.hands q) + hasPlayed p q = top
theorem Fit.turn_new {top : Nat} {p : Oh.Pos} (F : Fit top p) : hasPlayed p p.turn = 0 := by
  unfold hasPlayed Oh.Pos.turn
  have h1 := F.leader
  have h2 := F.cards
  rw [if_neg]
  omega
theorem Fit.pos {top : Nat} {p : Oh.Pos} (F : Fit top p) {c : Nat} (h : c ∈ p.plays) : 0 < top := by
  obtain ⟨h1, h2⟩ := plays_sub h
  have h3 := F.size p.turn (turn_lt p)
  have h4 := many_sub h1 h2
  omega
theorem step_lt {p : Oh.Pos} (c : Nat) (h : p.cards.length < 3) : p.step c = (0, ⟨Oh.without p.hands p.turn c, p.strain, p.leader, p.cards ++ [c]⟩) := by
  unfold Oh.Pos.step
  simp only
  rw [if_pos (by rw [List.length_append]; show p.cards.length + 1 < 4; omega)]
theorem step_eq {p : Oh.Pos} (c : Nat) (h : p.cards.length = 3) : p.step c = (if Oh.winner p.strain p.leader (p.cards ++ [c]) % 2 = 0 then 1 else 0, ⟨Oh.without p.hands p.turn c, p.strain, Oh.winner p.strain p.leader (p.cards ++ [c]), []⟩) := by
  unfold Oh.Pos.step
  simp only
  rw [if_neg (by rw [List.length_append]; show ¬ p.cards.length + 1 < 4; omega)]
theorem Fit.step {top : Nat} {p : Oh.Pos} (F : Fit top p) {c : Nat} (h : c ∈ p.plays) : Fit (if (p.step c).2.cards.isEmpty = true then top - 1 else top) (p.step c).2 ∧ (p.step c).1 + (if (p.step c).2.cards.isEmpty = true then top - 1 else top) ≤ top := by
  obtain ⟨h1, h2⟩ := plays_sub h
  have hm := many_sub h1 h2
  have hp := F.pos h
  have hc := F.cards
  have hl := F.leader
  have h0 := F.turn_new
  by_cases q : p.cards.length < 3
  · rw [step_lt c q]
    have : (p.cards ++ [c]).isEmpty = false := by cases p.cards <;> rfl
    simp only [this, Bool.false_eq_true, if_false]
    refine ⟨⟨hl, by show (p.cards ++ [c]).length ≤ 3; rw [List.length_append]; show p.cards.length + 1 ≤ 3; omega, fun r hr => ?_⟩, by omega⟩
    have hs := F.size r hr
    show Oh.many (Oh.hand (Oh.without p.hands p.turn c) r) + hasPlayed ⟨_, _, p.leader, p.cards ++ [c]⟩ r = top
    rw [hand_without _ _ _ hr]
    unfold hasPlayed at hs h0 ⊢
    simp only [List.length_append, List.length_singleton]
    by_cases e : r = p.turn
    · subst e
      rw [if_pos rfl]
      rw [h0] at hs
      rw [if_pos (by unfold Oh.Pos.turn; omega)]
      omega
    · rw [if_neg e]
      have : ((r + 4 - p.leader) % 4 < p.cards.length + 1) ↔ ((r + 4 - p.leader) % 4 < p.cards.length) := by
        unfold Oh.Pos.turn at e
        omega
      simp only [this]
      exact hs
  · have q3 : p.cards.length = 3 := by omega
    rw [step_eq c q3]
    simp only [List.isEmpty_nil, if_true]
    refine ⟨⟨winner_lt _ _ _, Nat.zero_le _, fun r hr => ?_⟩, by split <;> omega⟩
    have hs := F.size r hr
    have hz : hasPlayed (⟨Oh.without p.hands p.turn c, p.strain, Oh.winner p.strain p.leader (p.cards ++ [c]), []⟩ : Oh.Pos) r = 0 := if_neg (Nat.not_lt_zero _)
    rw [hz, hand_without _ _ _ hr, Nat.add_zero]
    unfold hasPlayed at hs h0
    by_cases e : r = p.turn
    · subst e
      rw [if_pos rfl]
      rw [h0] at hs
      omega
    · rw [if_neg e]
      have : (r + 4 - p.leader) % 4 < p.cards.length := by
        unfold Oh.Pos.turn at e
        omega
      rw [if_pos this] at hs
      omega
theorem worth_mm : ∀ (n top : Nat) (p : Oh.Pos), Fit top p → Oh.sitWorth n top (sitOf p) = mm n p ∧ mm n p ≤ top
  | 0, top, p, _ => ⟨rfl, Nat.zero_le _⟩
  | n + 1, top, p, F => by
    unfold Oh.sitWorth mm
    rw [sit_plays]
    have key : ∀ x ∈ p.plays, ((sitOf p).step x).1 + Oh.sitWorth n (if ((sitOf p).step x).2.cards.isEmpty = true then top - 1 else top) ((sitOf p).step x).2 = (p.step x).1 + mm n (p.step x).2 ∧ (p.step x).1 + mm n (p.step x).2 ≤ top := fun x hx => by
      obtain ⟨_, h2⟩ := plays_sub hx
      rw [sit_step p x h2]
      obtain ⟨F', hle⟩ := F.step hx
      have ih := worth_mm n _ _ F'
      show (p.step x).1 + Oh.sitWorth n (if (p.step x).2.cards.isEmpty = true then top - 1 else top) (sitOf (p.step x).2) = _ ∧ _
      rw [ih.1]
      exact ⟨rfl, by have := ih.2; omega⟩
    cases hpl : p.plays with
    | nil => exact ⟨rfl, Nat.zero_le _⟩
    | cons c r =>
      rw [hpl] at key
      simp only
      have kc := key c (by simp)
      have e1 : (sitOf p).turn = p.turn := rfl
      rw [e1]
      refine ⟨?_, ?_⟩
      · rw [kc.1]
        exact pick_fold r _ (fun x hx => (key x (by simp [hx])).1) (fun x hx => (key x (by simp [hx])).2) kc.2
      · exact foldBy_le r _ (fun x hx => (key x (by simp [hx])).2) kc.2
end Mt

end
section
set_option Elab.async false
set_option linter.all false
namespace Mt
theorem filt4 : ∀ n < 4, ∀ l < 4, ∀ q < 4, (List.range n).filter (fun i => (l + i) % 4 == q) = if (q + 4 - l) % 4 < n then [(q + 4 - l) % 4] else [] := by decide
/-- a position whose cards stand apart -/
structure Good (p : Oh.Pos) : Prop where
  leader : p.leader < 4
  cards : p.cards.length ≤ 3
  low : ∀ c ∈ p.cards, c < 52
  nd : p.cards.Nodup
  out : ∀ c ∈ p.cards, ∀ q < 4, (Oh.hand p.hands q).testBit c = false
  hlow : ∀ q < 4, Oh.hand p.hands q < 2 ^ 52
  dis : ∀ q < 4, ∀ r < 4, q ≠ r → ∀ i, (Oh.hand p.hands q).testBit i = true → (Oh.hand p.hands r).testBit i = false
theorem whole_at {p : Oh.Pos} (hl : p.leader < 4) (hc : p.cards.length ≤ 3) {q : Nat} (hq : q < 4) :
    Oh.hand p.whole q = Oh.hand p.hands q + (if (q + 4 - p.leader) % 4 < p.cards.length then 2 ^ p.cards.getD ((q + 4 - p.leader) % 4) 0 else 0) := by
  unfold Oh.Pos.whole
  rw [hand_players _ hq, filt4 _ (by omega) _ hl _ hq]
  congr 1
  split
  · show Oh.sumOf [_] = _
    rw [sumOf_cons, sumOf_nil, Nat.add_zero]
  · rfl
theorem getD_mem' {l : List Nat} {j : Nat} (h : j < l.length) : l.getD j 0 ∈ l := by
  rw [List.getD_eq_getElem?_getD, List.getElem?_eq_getElem h]
  exact List.getElem_mem h
theorem Good.many {p : Oh.Pos} (G : Good p) {q : Nat} (hq : q < 4) : Oh.many (Oh.hand p.whole q) = Oh.many (Oh.hand p.hands q) + hasPlayed p q := by
  rw [whole_at G.leader G.cards hq]
  unfold hasPlayed
  split
  · rename_i h
    have hm := getD_mem' h
    have h1 := G.out _ hm q hq
    rw [add_bit h1, many_or h1 (G.low _ hm)]
  · rfl
theorem Good.worth {p : Oh.Pos} (G : Good p) {top : Nat} (F : Fit top p) : p.worth = mm 52 p := by
  have e : Oh.many (Oh.hand p.whole 0) = top := by rw [G.many (by decide)]; exact F.size 0 (by decide)
  unfold Oh.Pos.worth
  rw [e]
  exact (worth_mm 52 top p F).1
theorem sub_low {h c : Nat} (a : h < 2 ^ 52) : h - 2 ^ c < 2 ^ 52 := Nat.lt_of_le_of_lt (Nat.sub_le _ _) a
theorem Good.step {p : Oh.Pos} (G : Good p) {c : Nat} (h : c ∈ p.plays) : Good (p.step c).2 := by
  obtain ⟨h1, h2⟩ := plays_sub h
  have ht := turn_lt p
  have hlow : ∀ q < 4, Oh.hand (Oh.without p.hands p.turn c) q < 2 ^ 52 := fun q hq => by
    rw [hand_without _ _ _ hq]
    split
    · exact sub_low (G.hlow q hq)
    · exact G.hlow q hq
  have hbit : ∀ q < 4, ∀ i, (Oh.hand (Oh.without p.hands p.turn c) q).testBit i = true → (Oh.hand p.hands q).testBit i = true ∧ i ≠ c := fun q hq i hi => by
    rw [hand_without _ _ _ hq] at hi
    by_cases e : q = p.turn
    · rw [if_pos e, e, sub_testBit h2] at hi
      rw [Bool.and_eq_true] at hi
      rw [e]
      exact ⟨hi.1, of_decide_eq_true hi.2⟩
    · rw [if_neg e] at hi
      refine ⟨hi, fun z => ?_⟩
      rw [z] at hi
      have := G.dis p.turn ht q hq (fun y => e y.symm) c h2
      rw [this] at hi
      cases hi
  have hdis : ∀ q < 4, ∀ r < 4, q ≠ r → ∀ i, (Oh.hand (Oh.without p.hands p.turn c) q).testBit i = true → (Oh.hand (Oh.without p.hands p.turn c) r).testBit i = false := fun q hq r hr hqr i hi => by
    have a := (hbit q hq i hi).1
    have b := G.dis q hq r hr hqr i a
    cases z : (Oh.hand (Oh.without p.hands p.turn c) r).testBit i with
    | false => rfl
    | true =>
      have := (hbit r hr i z).1
      rw [this] at b
      cases b
  have hgone : ∀ q < 4, (Oh.hand (Oh.without p.hands p.turn c) q).testBit c = false := fun q hq => by
    cases z : (Oh.hand (Oh.without p.hands p.turn c) q).testBit c with
    | false => rfl
    | true => exact absurd rfl (hbit q hq c z).2
  have hold : ∀ x ∈ p.cards, ∀ q < 4, (Oh.hand (Oh.without p.hands p.turn c) q).testBit x = false := fun x hx q hq => by
    cases z : (Oh.hand (Oh.without p.hands p.turn c) q).testBit x with
    | false => rfl
    | true =>
      have := (hbit q hq x z).1
      rw [G.out x hx q hq] at this
      cases this
  have hcc := G.cards
  by_cases q : p.cards.length < 3
  · rw [step_lt c q]
    exact {
      leader := G.leader
      cards := by show (p.cards ++ [c]).length ≤ 3; rw [List.length_append]; show p.cards.length + 1 ≤ 3; omega
      low := fun x hx => by
        rcases List.mem_append.mp hx with y | y
        · exact G.low x y
        · rw [List.mem_singleton.mp y]; exact h1
      nd := by
        show (p.cards ++ [c]).Nodup
        rw [List.nodup_append]
        refine ⟨G.nd, by simp, fun a ha b hb => ?_⟩
        rw [List.mem_singleton.mp hb]
        intro z
        rw [z] at ha
        have := G.out c ha p.turn ht
        rw [h2] at this
        cases this
      out := fun x hx r hr => by
        rcases List.mem_append.mp hx with y | y
        · exact hold x y r hr
        · rw [List.mem_singleton.mp y]; exact hgone r hr
      hlow := hlow
      dis := hdis }
  · rw [step_eq c (by omega)]
    exact {
      leader := winner_lt _ _ _
      cards := Nat.zero_le _
      low := fun x hx => by cases hx
      nd := List.nodup_nil
      out := fun x hx => by cases hx
      hlow := hlow
      dis := hdis }
/-! ### a position that is one -/
theorem distinct_nodup : ∀ l : List Nat, Oh.distinct l = true ↔ l.Nodup
  | [] => by simp [Oh.distinct]
  | c :: r => by
    unfold Oh.distinct
    rw [Bool.and_eq_true, distinct_nodup r, List.nodup_cons]
    simp
theorem ok_parts {p : Oh.Pos} : p.ok = true ↔ (p.hands.length = 4 ∧ p.strain ≤ 4 ∧ p.leader ≤ 3 ∧ p.cards.length ≤ 3 ∧ (∀ c ∈ p.cards, c < 52) ∧ p.cards.Nodup ∧ (∀ c ∈ p.cards, ∀ q < 4, (Oh.hand p.hands q).testBit c = false) ∧ Oh.isDeal p.whole = true ∧ p.followed = true) := by
  unfold Oh.Pos.ok
  simp only [Bool.and_eq_true, decide_eq_true_eq, List.all_eq_true, distinct_nodup, Oh.PLAYERS, List.mem_range, Oh.inHand, Bool.not_eq_true']
theorem isDeal_parts {l : List Nat} (h : Oh.isDeal l = true) : (∀ q < 4, Oh.hand l q < 2 ^ 52) ∧ (∀ q < 4, ∀ r < 4, q ≠ r → Oh.hand l q &&& Oh.hand l r = 0) ∧ ∀ q < 4, Oh.many (Oh.hand l q) = Oh.many (Oh.hand l 0) := by
  have hl : l.length = 4 := by
    unfold Oh.isDeal at h
    rw [Bool.and_eq_true] at h
    simpa using h.1
  have hf : Oh.fault l = 0 := by rw [isDeal_eq l hl] at h; exact of_decide_eq_true h
  unfold Oh.fault at hf
  by_cases q1 : Oh.high l = true
  · rw [if_pos q1] at hf; cases hf
  rw [if_neg q1] at hf
  by_cases q2 : Oh.common l = true
  · rw [if_pos q2] at hf; cases hf
  rw [if_neg q2] at hf
  by_cases q3 : Oh.uneven l = true
  · rw [if_pos q3] at hf; cases hf
  refine ⟨fun q hq => ?_, ?_, fun q hq => ?_⟩
  · unfold Oh.high at q1
    rw [List.any_eq_true] at q1
    have : ¬ 2 ^ 52 ≤ Oh.hand l q := fun z => q1 ⟨q, by simpa [Oh.PLAYERS] using hq, decide_eq_true z⟩
    exact Nat.lt_of_not_le this
  · have key : ∀ q < 4, ∀ r < 4, q < r → Oh.hand l q &&& Oh.hand l r = 0 := fun q hq r hr hlt => by
      unfold Oh.common at q2
      rw [List.any_eq_true] at q2
      by_cases z : Oh.hand l q &&& Oh.hand l r = 0
      · exact z
      · exact absurd ⟨q, by simpa [Oh.PLAYERS] using hq, List.any_eq_true.mpr ⟨r, by simpa [Oh.PLAYERS] using hr, by simp [hlt, z]⟩⟩ q2
    intro q hq r hr hne
    by_cases hlt : q < r
    · exact key q hq r hr hlt
    · rw [Nat.and_comm]
      exact key r hr q hq (by omega)
  · unfold Oh.uneven at q3
    rw [List.any_eq_true] at q3
    by_cases z : Oh.many (Oh.hand l q) = Oh.many (Oh.hand l 0)
    · exact z
    · exact absurd ⟨q, by simpa [Oh.PLAYERS] using hq, by simp [z]⟩ q3
theorem le_add_bit {h c i : Nat} (e : h.testBit c = false) (hi : h.testBit i = true) : (h + 2 ^ c).testBit i = true := by
  rw [add_bit e, bit_or, hi]; rfl
theorem ok_good {p : Oh.Pos} (h : p.ok = true) : Good p ∧ Fit (Oh.many (Oh.hand p.whole 0)) p := by
  obtain ⟨h1, h2, h3, h4, h5, h6, h7, h8, h9⟩ := ok_parts.mp h
  obtain ⟨d1, d2, d3⟩ := isDeal_parts h8
  have hl : p.leader < 4 := by omega
  have up : ∀ q < 4, ∀ i, (Oh.hand p.hands q).testBit i = true → (Oh.hand p.whole q).testBit i = true := fun q hq i hi => by
    rw [whole_at hl h4 hq]
    split
    · rename_i z
      exact le_add_bit (h7 _ (getD_mem' z) q hq) hi
    · exact hi
  have G : Good p := {
    leader := hl
    cards := h4
    low := h5
    nd := h6
    out := h7
    hlow := fun q hq => by
      have := d1 q hq
      rw [whole_at hl h4 hq] at this
      exact Nat.lt_of_le_of_lt (Nat.le_add_right _ _) this
    dis := fun q hq r hr hne i hi => by
      have a := up q hq i hi
      have b := d2 q hq r hr hne
      cases z : (Oh.hand p.hands r).testBit i with
      | false => rfl
      | true =>
        have c := up r hr i z
        have : (Oh.hand p.whole q &&& Oh.hand p.whole r).testBit i = true := by rw [Nat.testBit_and, a, c]; rfl
        rw [b, Nat.zero_testBit] at this
        cases this }
  refine ⟨G, hl, h4, fun q hq => ?_⟩
  rw [← G.many hq]
  exact d3 q hq
/-! ### enough turns -/
def left (p : Oh.Pos) : Nat := Oh.many (Oh.hand p.hands 0) + Oh.many (Oh.hand p.hands 1) + Oh.many (Oh.hand p.hands 2) + Oh.many (Oh.hand p.hands 3)
theorem left_step {p : Oh.Pos} {c : Nat} (h : c ∈ p.plays) : left (p.step c).2 + 1 = left p := by
  obtain ⟨h1, h2⟩ := plays_sub h
  have hm := many_sub h1 h2
  have e : (p.step c).2.hands = Oh.without p.hands p.turn c := by
    unfold Oh.Pos.step
    simp only
    split <;> rfl
  have ht := turn_lt p
  unfold left
  rw [e, hand_without _ _ _ (by decide), hand_without _ _ _ (by decide), hand_without _ _ _ (by decide), hand_without _ _ _ (by decide)]
  generalize p.turn = t at ht hm
  match t, ht with
  | 0, _ => simp; omega
  | 1, _ => simp; omega
  | 2, _ => simp; omega
  | 3, _ => simp; omega
theorem plays_nil {p : Oh.Pos} (h : left p = 0) : p.plays = [] := by
  cases q : p.plays with
  | nil => rfl
  | cons c r =>
    have := left_step (p := p) (c := c) (by rw [q]; simp)
    omega
theorem foldBy_congr {side : Nat} {f g : Nat → Nat} : ∀ (l : List Nat) (b : Nat), (∀ x ∈ l, f x = g x) → foldBy side f l b = foldBy side g l b
  | [], _, _ => rfl
  | c :: r, b, h => by
    show foldBy side f r _ = foldBy side g r _
    rw [h c (by simp)]
    exact foldBy_congr r _ fun x hx => h x (by simp [hx])
theorem mm_fuel : ∀ (n m : Nat) (p : Oh.Pos), left p ≤ n → left p ≤ m → mm n p = mm m p
  | 0, 0, _, _, _ => rfl
  | 0, m + 1, p, h, _ => by
    have : p.plays = [] := plays_nil (by omega)
    unfold mm
    rw [this]
  | n + 1, 0, p, _, h => by
    have : p.plays = [] := plays_nil (by omega)
    unfold mm
    rw [this]
  | n + 1, m + 1, p, h1, h2 => by
    unfold mm
    have key : ∀ x ∈ p.plays, (p.step x).1 + mm n (p.step x).2 = (p.step x).1 + mm m (p.step x).2 := fun x hx => by
      have := left_step hx
      rw [mm_fuel n m _ (by omega) (by omega)]
    cases q : p.plays with
    | nil => rfl
    | cons c r =>
      rw [q] at key
      simp only
      rw [key c (by simp)]
      exact foldBy_congr r _ fun x hx => key x (by simp [hx])
theorem mm_succ (n : Nat) (p : Oh.Pos) : mm (n + 1) p = match p.plays with
    | [] => 0
    | c :: r => foldBy (p.turn % 2) (fun x => (p.step x).1 + mm n (p.step x).2) r ((p.step c).1 + mm n (p.step c).2) := rfl
/-- the worth, plainly -/
def wth (p : Oh.Pos) : Nat := mm (left p) p
theorem wth_eq (p : Oh.Pos) : wth p = match p.plays with
    | [] => 0
    | c :: r => foldBy (p.turn % 2) (fun x => (p.step x).1 + wth (p.step x).2) r ((p.step c).1 + wth (p.step c).2) := by
  cases q : p.plays with
  | nil =>
    unfold wth
    cases h : left p with
    | zero => rfl
    | succ n =>
      unfold mm
      rw [q]
  | cons c r =>
    have hs := fun x (hx : x ∈ p.plays) => left_step hx
    rw [q] at hs
    have hc := hs c (by simp)
    unfold wth
    obtain ⟨n, hn⟩ : ∃ n, left p = n + 1 := ⟨left p - 1, by omega⟩
    rw [hn, mm_succ, q]
    simp only
    have e : ∀ x ∈ c :: r, (p.step x).1 + mm n (p.step x).2 = (p.step x).1 + mm (left (p.step x).2) (p.step x).2 := fun x hx => by
      have := hs x hx
      rw [mm_fuel n (left (p.step x).2) _ (by omega) (Nat.le_refl _)]
    rw [e c (by simp)]
    exact foldBy_congr r _ fun x hx => e x (by simp [hx])
theorem many_le (h : Nat) : Oh.many h ≤ 52 := by
  rw [many_cntb]
  unfold cntb
  exact Nat.le_trans (List.length_filter_le _ _) (by simp)
theorem Good.wth {p : Oh.Pos} (G : Good p) {top : Nat} (F : Fit top p) (hl : left p ≤ 52) : p.worth = wth p := by
  rw [G.worth F]
  unfold Mt.wth
  exact mm_fuel _ _ _ hl (Nat.le_refl _)
theorem Fit.left {top : Nat} {p : Oh.Pos} (F : Fit top p) : left p ≤ 4 * top := by
  have h0 := F.size 0 (by decide)
  have h1 := F.size 1 (by decide)
  have h2 := F.size 2 (by decide)
  have h3 := F.size 3 (by decide)
  unfold Mt.left
  omega
end Mt

end
section
set_option Elab.async false
set_option linter.all false
namespace Mt
/-! ### who wins a trick -/
theorem beats_asym {s led x y : Nat} (h : Oh.beats s led x y = true) : Oh.beats s led y x = false := by
  unfold Oh.beats at *
  by_cases e : Oh.suitOf x = Oh.suitOf y
  · rw [if_pos e] at h
    rw [if_pos e.symm]
    have := of_decide_eq_true h
    exact decide_eq_false (by omega)
  · rw [if_neg e] at h
    rw [if_neg (fun z => e z.symm)]
    by_cases hx : Oh.suitOf x = s
    · have hy : ¬ Oh.suitOf y = s := fun z => e (by rw [hx, z])
      rw [if_neg hy, if_pos hx]
    · rw [if_neg hx] at h
      by_cases hy : Oh.suitOf y = s
      · rw [if_pos hy] at h; cases h
      · rw [if_neg hy] at h
        rw [if_neg hy, if_neg hx]
        have h1 : Oh.suitOf x = led := eq_of_beq h
        cases q : (Oh.suitOf y == led) with
        | false => rfl
        | true => exact absurd (h1.trans (eq_of_beq q).symm) e
theorem winning_of {s : Nat} {l : List Nat} {i : Nat} (hi : i < l.length) (h : ∀ j < l.length, j ≠ i → Oh.beats s (Oh.suitOf (l.headD 0)) (l.getD i 0) (l.getD j 0) = true) : Oh.winning s l = i := by
  unfold Oh.winning
  have hyes : ((List.range l.length).all fun j => j == i || Oh.beats s (Oh.suitOf (l.headD 0)) (l.getD i 0) (l.getD j 0)) = true := by
    rw [List.all_eq_true]
    intro j hj
    have hj' : j < l.length := by simpa using hj
    by_cases e : j = i
    · simp [e]
    · rw [h j hj' e]; simp
  have hno : ∀ k < i, ((List.range l.length).all fun j => j == k || Oh.beats s (Oh.suitOf (l.headD 0)) (l.getD k 0) (l.getD j 0)) = false := fun k hk => by
    rw [← Bool.not_eq_true, List.all_eq_true]
    intro z
    have z1 := z i (by simpa using hi)
    have h1 := beats_asym (h k (by omega) (by omega))
    rw [h1, Bool.or_false] at z1
    have := eq_of_beq z1
    omega
  have e : (List.range l.length).find? (fun i => (List.range l.length).all fun j => j == i || Oh.beats s (Oh.suitOf (l.headD 0)) (l.getD i 0) (l.getD j 0)) = some i := by
    rw [List.find?_eq_some_iff_getElem]
    refine ⟨hyes, i, by simpa using hi, by simp, fun j hj => ?_⟩
    have := hno j hj
    simpa using this
  rw [e]; rfl
/-- relevant: trump or of the suit led -/
theorem beats_or {s led x y : Nat} (hx : Oh.suitOf x = s ∨ Oh.suitOf x = led) (hne : x ≠ y) (h : Oh.beats s led y x = false) : Oh.beats s led x y = true := by
  unfold Oh.beats at *
  by_cases e : Oh.suitOf x = Oh.suitOf y
  · rw [if_pos e.symm] at h
    rw [if_pos e]
    have := of_decide_eq_false h
    exact decide_eq_true (by omega)
  · rw [if_neg (fun z => e z.symm)] at h
    rw [if_neg e]
    by_cases h1 : Oh.suitOf x = s
    · rw [if_pos h1]
    · rw [if_neg h1]
      by_cases h2 : Oh.suitOf y = s
      · rw [if_pos h2] at h; cases h
      · rw [if_neg h2]
        have h3 : Oh.suitOf x = led := hx.resolve_left h1
        rw [h3]; simp
end Mt

end
section
set_option Elab.async false
set_option linter.all false
namespace Mt
/-! ### best cards, lines -/
/-- a good position with so many tricks to come -/
structure Pl (top : Nat) (p : Oh.Pos) : Prop where
  good : Good p
  fit : Fit top p
theorem Pl.step {top : Nat} {p : Oh.Pos} (h : Pl top p) {c : Nat} (hc : c ∈ p.plays) : Pl (if (p.step c).2.cards.isEmpty = true then top - 1 else top) (p.step c).2 := ⟨h.good.step hc, (h.fit.step hc).1⟩
theorem Pl.step' {top : Nat} {p : Oh.Pos} (h : Pl top p) {c : Nat} (hc : c ∈ p.plays) : ∃ t, t ≤ top ∧ Pl t (p.step c).2 := by
  refine ⟨_, ?_, h.step hc⟩
  split <;> omega
theorem Pl.worth {top : Nat} {p : Oh.Pos} (h : Pl top p) (ht : top ≤ 13) : p.worth = wth p := by
  have := h.fit.left
  exact h.good.wth h.fit (by omega)
theorem Pl.best {top : Nat} {p : Oh.Pos} (h : Pl top p) (ht : top ≤ 13) : p.best = p.plays.filter fun c => (p.step c).1 + wth (p.step c).2 == wth p := by
  unfold Oh.Pos.best
  rw [h.worth ht]
  apply List.filter_congr
  intro c hc
  obtain ⟨t, h1, h2⟩ := h.step' hc
  rw [h2.worth (by omega)]
theorem foldBy_mem {f : Nat → Nat} {side : Nat} : ∀ (l : List Nat) (b : Nat), foldBy side f l b = b ∨ ∃ x ∈ l, foldBy side f l b = f x
  | [], b => .inl rfl
  | c :: r, b => by
    show foldBy side f r (if side = 0 then Nat.max b (f c) else Nat.min b (f c)) = b ∨ _
    have hb : (if side = 0 then Nat.max b (f c) else Nat.min b (f c)) = b ∨ (if side = 0 then Nat.max b (f c) else Nat.min b (f c)) = f c := by
      split
      · rcases Nat.le_total b (f c) with h | h
        · exact .inr (Nat.max_eq_right h)
        · exact .inl (Nat.max_eq_left h)
      · rcases Nat.le_total b (f c) with h | h
        · exact .inl (Nat.min_eq_left h)
        · exact .inr (Nat.min_eq_right h)
    have e : foldBy side f (c :: r) b = foldBy side f r (if side = 0 then Nat.max b (f c) else Nat.min b (f c)) := rfl
    rcases foldBy_mem r (if side = 0 then Nat.max b (f c) else Nat.min b (f c)) with h | ⟨x, hx, h⟩
    · rcases hb with hb | hb
      · exact .inl (h.trans hb)
      · exact .inr ⟨c, by simp, e.trans (h.trans hb)⟩
    · exact .inr ⟨x, by simp [hx], e.trans h⟩
def bestW (p : Oh.Pos) : List Nat := p.plays.filter fun c => (p.step c).1 + wth (p.step c).2 == wth p
end Mt

end
section
set_option Elab.async false
set_option linter.all false
namespace Mt
/-! ### what the later calls are due, plainly -/
def posOf (s l : Int) (ns ts : List Int) : Oh.Pos := ⟨OhNeutral.nats ns, s.toNat, l.toNat, OhNeutral.nats ts⟩
theorem at_due (s l : Int) (ns ts : List Int) (f : Oh.Pos → Oh.Answer) : OhNeutral.shown (Oh.atPos s.toNat l.toNat (OhNeutral.nats ns) (OhNeutral.nats ts) f) = if ns.length = 4 then (if (posOf s l ns ts).ok = true then OhNeutral.shown (f (posOf s l ns ts)) else [-3]) else [-1] := by
  unfold Oh.atPos Oh.four
  rw [nats_len]
  by_cases h : ns.length = 4
  · rw [if_pos h, if_pos h]
    show OhNeutral.shown (if (posOf s l ns ts).ok = true then f (posOf s l ns ts) else Oh.no 3) = _
    by_cases q : (posOf s l ns ts).ok = true
    · rw [if_pos q, if_pos q]
    · rw [if_neg q, if_neg q]; rfl
  · rw [if_neg h, if_neg h]; rfl
theorem small_due (p : Oh.Pos) (a : List Nat) : OhNeutral.shown (Oh.small p fun _ => Oh.tell a) = if Oh.many (Oh.hand p.whole 0) ≤ 3 then 0 :: a.map fun (n : Nat) => (n : Int) else [-9] := by
  unfold Oh.small Oh.MOST
  by_cases h : Oh.many (Oh.hand p.whole 0) ≤ 3
  · rw [if_pos h, if_neg (by omega)]; rfl
  · rw [if_neg h, if_pos (by omega)]; rfl
theorem best_due (s l : Int) (ns ts : List Int) : PyWqamay.best s l ns ts = if ns.length = 4 then (if (posOf s l ns ts).ok = true then (if Oh.many (Oh.hand (posOf s l ns ts).whole 0) ≤ 3 then 0 :: ((posOf s l ns ts).best.map fun (n : Nat) => (n : Int)) else [-9]) else [-3]) else [-1] := by
  have h := at_due s l ns ts fun p => Oh.small p fun _ => Oh.tell p.best
  rw [small_due] at h
  exact h
end Mt

end
section
set_option Elab.async false
set_option linter.all false
namespace Mt
/-! ### the program's own ways with positions -/
theorem low_bit : ∀ (n r : Nat), r ≤ n → 0 < r → ∃ c, (r &&& (r - 1)) + 2 ^ c = r ∧ r.testBit c = true ∧ ∀ i < c, r.testBit i = false
  | 0, r, h, h0 => by omega
  | n + 1, r, h, h0 => by
    rcases Nat.mod_two_eq_zero_or_one r with e | e
    · obtain ⟨m, rfl⟩ : ∃ m, r = 2 * m := ⟨r / 2, by omega⟩
      obtain ⟨c, h1, h2, h3⟩ := low_bit n m (by omega) (by omega)
      refine ⟨c + 1, ?_, ?_, ?_⟩
      · obtain ⟨k, rfl⟩ : ∃ k, m = k + 1 := ⟨m - 1, by omega⟩
        have e1 : 2 * (k + 1) - 1 = 2 * k + 1 := by omega
        rw [e1, and_two, Nat.pow_succ]
        have e2 : k + 1 - 1 = k := by omega
        rw [e2] at h1
        omega
      · rw [Nat.testBit_succ, show 2 * m / 2 = m by omega]; exact h2
      · intro i hi
        cases i with
        | zero => rw [Nat.testBit_zero]; simp
        | succ i => rw [Nat.testBit_succ, show 2 * m / 2 = m by omega]; exact h3 i (by omega)
    · obtain ⟨m, rfl⟩ : ∃ m, r = 2 * m + 1 := ⟨r / 2, by omega⟩
      refine ⟨0, ?_, ?_, fun i hi => by omega⟩
      · have e1 : 2 * m + 1 - 1 = 2 * m := by omega
        rw [e1, and_two1]
      · rw [Nat.testBit_zero]; simp
theorem range_first (p : Nat → Bool) (n c : Nat) (hc : c < n) (h1 : p c = true) (h2 : ∀ i < c, p i = false) : (List.range n).filter p = c :: ((List.range n).filter p).filter fun x => x != c := by
  obtain ⟨m, rfl⟩ : ∃ m, n = c + (m + 1) := ⟨n - c - 1, by omega⟩
  have e0 : (List.range c).filter p = [] := by
    rw [List.filter_eq_nil_iff]
    intro i hi
    rw [h2 i (List.mem_range.mp hi)]; simp
  rw [List.range_add, List.filter_append, e0, List.nil_append, List.range_succ_eq_map, List.map_cons, List.filter_cons, if_pos (show p (c + 0) = true from h1), List.filter_cons, if_neg (by simp)]
  congr 1
  rw [eq_comm, List.filter_eq_self]
  intro x hx
  obtain ⟨y, hy, rfl⟩ := List.mem_map.mp (List.mem_filter.mp hx).1
  obtain ⟨z, _, rfl⟩ := List.mem_map.mp hy
  simp
theorem low52 {r : Nat} (h : r < 2 ^ 52) {c : Nat} (hc : r.testBit c = true) : c < 52 := by
  by_cases q : c < 52
  · exact q
  · have : r < 2 ^ c := Nat.lt_of_lt_of_le h (Nat.pow_le_pow_right (by decide) (by omega))
    rw [Nat.testBit_lt_two_pow this] at hc
    cases hc
theorem cardsIn_low {r : Nat} (h : r < 2 ^ 52) (h0 : 0 < r) : ∃ c, c < 52 ∧ (r &&& (r - 1)) + 2 ^ c = r ∧ Oh.cardsIn r = c :: Oh.cardsIn (r &&& (r - 1)) := by
  obtain ⟨c, h1, h2, h3⟩ := low_bit r r (Nat.le_refl _) h0
  have hc := low52 h h2
  refine ⟨c, hc, h1, ?_⟩
  have e : r &&& (r - 1) = r - 2 ^ c := by omega
  rw [e, cardsIn_sub h2]
  exact range_first (fun c => Oh.inHand c r) 52 c hc h2 h3
theorem cardsIn_zero : Oh.cardsIn 0 = [] := by decide +kernel
theorem cardsIn_nil {r : Nat} (h : r < 2 ^ 52) : Oh.cardsIn r = [] ↔ r = 0 := by
  constructor
  · intro z
    by_cases q : r = 0
    · exact q
    · obtain ⟨c, _, _, e⟩ := cardsIn_low h (by omega)
      rw [z] at e
      cases e
  · intro z
    rw [z, cardsIn_zero]
/-- the cards of a suit, as a number -/
def suitN (h s : Nat) : Nat := h &&& (8191 * 2 ^ (13 * s))
theorem bit_8191 (s i : Nat) : (8191 * 2 ^ (13 * s)).testBit i = decide (13 * s ≤ i ∧ i < 13 * s + 13) := by
  rw [Nat.mul_comm, Nat.testBit_two_pow_mul, show 8191 = 2 ^ 13 - 1 from rfl, Nat.testBit_two_pow_sub_one, Bool.eq_iff_iff, Bool.and_eq_true, decide_eq_true_eq, decide_eq_true_eq, decide_eq_true_eq]
  constructor <;> intro h <;> omega
theorem suitN_bit (h s i : Nat) : (suitN h s).testBit i = (h.testBit i && decide (i / 13 = s)) := by
  unfold suitN
  rw [Nat.testBit_and, bit_8191]
  congr 1
  apply decide_eq_decide.mpr
  omega
theorem suitN_cards (h s : Nat) : Oh.cardsIn (suitN h s) = Oh.ofSuit s h := by
  unfold Oh.ofSuit Oh.cardsIn
  rw [List.filter_filter]
  apply List.filter_congr
  intro x _
  show (suitN h s).testBit x = _
  rw [suitN_bit, Bool.and_comm]
  congr 1
theorem suitN_low (h : Nat) {s : Nat} (hs : s < 4) : suitN h s < 2 ^ 52 := by
  apply Nat.lt_pow_two_of_testBit
  intro i hi
  rw [suitN_bit]
  have : ¬ i / 13 = s := by omega
  simp [this]
theorem suitN_zero (h : Nat) {s : Nat} (hs : s < 4) : suitN h s = 0 ↔ Oh.ofSuit s h = [] := by
  rw [← suitN_cards]
  exact (cardsIn_nil (suitN_low h hs)).symm
/-- the trick's cards back in the hands, the first i of them -/
def backU (l : List Nat) (ld : Nat) (t : List Nat) (i : Nat) : List Nat := Oh.PLAYERS.map fun q => Oh.hand l q ||| (if (q + 4 - ld) % 4 < i then 2 ^ t.getD ((q + 4 - ld) % 4) 0 else 0)
theorem backU_zero {l : List Nat} (h : l.length = 4) (ld : Nat) (t : List Nat) : backU l ld t 0 = l := by
  obtain ⟨a, b, c, d, rfl⟩ := four_of h
  show [a ||| 0, b ||| 0, c ||| 0, d ||| 0] = _
  simp
theorem backU_len (l : List Nat) (ld : Nat) (t : List Nat) (i : Nat) : (backU l ld t i).length = 4 := by
  unfold backU
  rw [List.length_map]; rfl
theorem backU_at (l : List Nat) (ld : Nat) (t : List Nat) (i : Nat) {q : Nat} (hq : q < 4) : (backU l ld t i).getD q 0 = Oh.hand l q ||| (if (q + 4 - ld) % 4 < i then 2 ^ t.getD ((q + 4 - ld) % 4) 0 else 0) := hand_players _ hq
theorem backU_succ (l : List Nat) {ld : Nat} (hld : ld < 4) (t : List Nat) {i : Nat} (hi : i < 4) : backU l ld t (i + 1) = (backU l ld t i).set ((ld + i) % 4) ((backU l ld t i).getD ((ld + i) % 4) 0 ||| 2 ^ t.getD i 0) := by
  have hm : (ld + i) % 4 < 4 := by omega
  rw [backU_at _ _ _ _ hm]
  unfold backU
  rw [set_map4 _ _ hm]
  apply List.map_congr_left
  intro q hq
  have hq4 : q < 4 := by simpa [Oh.PLAYERS] using hq
  by_cases e : q = (ld + i) % 4
  · rw [if_pos e, e]
    have e1 : ((ld + i) % 4 + 4 - ld) % 4 = i := by omega
    rw [e1, if_pos (by omega), if_neg (by omega), Nat.or_zero]
  · rw [if_neg e]
    have e1 : ((q + 4 - ld) % 4 < i + 1) ↔ ((q + 4 - ld) % 4 < i) := by omega
    simp only [e1]
theorem backU_whole {p : Oh.Pos} (hl : p.leader < 4) (hc : p.cards.length ≤ 3) (ho : ∀ c ∈ p.cards, ∀ q < 4, (Oh.hand p.hands q).testBit c = false) : backU p.hands p.leader p.cards p.cards.length = p.whole := by
  have e : ∀ q < 4, Oh.hand p.whole q = Oh.hand p.hands q ||| (if (q + 4 - p.leader) % 4 < p.cards.length then 2 ^ p.cards.getD ((q + 4 - p.leader) % 4) 0 else 0) := fun q hq => by
    rw [whole_at hl hc hq]
    split
    · rename_i z
      rw [add_bit (ho _ (getD_mem' z) q hq)]
    · simp
  have w4 : p.whole.length = 4 := by
    unfold Oh.Pos.whole
    rw [List.length_map]; rfl
  obtain ⟨a, b, c, d, hw⟩ := four_of w4
  rw [hw] at e ⊢
  unfold backU
  have e0 := e 0 (by decide)
  have e1 := e 1 (by decide)
  have e2 := e 2 (by decide)
  have e3 := e 3 (by decide)
  show [Oh.hand p.hands 0 ||| _, Oh.hand p.hands 1 ||| _, Oh.hand p.hands 2 ||| _, Oh.hand p.hands 3 ||| _] = _
  rw [← e0, ← e1, ← e2, ← e3]
  rfl
theorem whole_len (p : Oh.Pos) : p.whole.length = 4 := by
  unfold Oh.Pos.whole
  rw [List.length_map]; rfl
/-- what makes a position, as the program asks for it -/
def diffN (t : List Nat) : Bool := decide ((∀ c ∈ t, c < 52) ∧ t.Nodup)
def apartN (l t : List Nat) : Bool := t.all fun c => Oh.PLAYERS.all fun q => !(Oh.hand l q).testBit c
theorem apart_iff {l t : List Nat} : apartN l t = true ↔ ∀ c ∈ t, ∀ q < 4, (Oh.hand l q).testBit c = false := by
  unfold apartN
  simp only [List.all_eq_true, Oh.PLAYERS, List.mem_range, Bool.not_eq_true']
theorem pos_ok (p : Oh.Pos) (h : p.hands.length = 4) : p.ok = (decide (p.strain ≤ 4 ∧ p.leader ≤ 3 ∧ p.cards.length ≤ 3) && (diffN p.cards && (apartN p.hands p.cards && (decide (Oh.fault (backU p.hands p.leader p.cards p.cards.length) = 0) && p.followed)))) := by
  rw [Bool.eq_iff_iff, ok_parts]
  simp only [Bool.and_eq_true, decide_eq_true_eq, diffN, apart_iff]
  constructor
  · rintro ⟨h1, h2, h3, h4, h5, h6, h7, h8, h9⟩
    refine ⟨⟨h2, h3, h4⟩, ⟨h5, h6⟩, h7, ?_, h9⟩
    rw [backU_whole (by omega) h4 h7]
    rw [isDeal_eq _ (whole_len p)] at h8
    exact of_decide_eq_true h8
  · rintro ⟨⟨h2, h3, h4⟩, ⟨h5, h6⟩, h7, h8, h9⟩
    refine ⟨h, h2, h3, h4, h5, h6, h7, ?_, h9⟩
    rw [backU_whole (by omega) h4 h7] at h8
    rw [isDeal_eq _ (whole_len p)]
    exact decide_eq_true h8
/-- held by somebody -/
theorem held_bit (a b c d i : Nat) : (((a ||| b) ||| c) ||| d).testBit i = false ↔ ∀ q < 4, (Oh.hand [a, b, c, d] q).testBit i = false := by
  simp only [Nat.testBit_or, Bool.or_eq_false_iff]
  constructor
  · rintro ⟨⟨⟨h1, h2⟩, h3⟩, h4⟩ q hq
    match q, hq with
    | 0, _ => exact h1
    | 1, _ => exact h2
    | 2, _ => exact h3
    | 3, _ => exact h4
  · intro h
    exact ⟨⟨⟨h 0 (by decide), h 1 (by decide)⟩, h 2 (by decide)⟩, h 3 (by decide)⟩
theorem apart_eq (a b c d : Nat) (t : List Nat) : apartN [a, b, c, d] t = !(t.any fun x => (((a ||| b) ||| c) ||| d).testBit x) := by
  rw [Bool.eq_iff_iff, apart_iff, Bool.not_eq_true', List.any_eq_false]
  constructor
  · intro h x hx
    rw [(held_bit a b c d x).mpr (h x hx)]; simp
  · intro h x hx
    exact (held_bit a b c d x).mp (by simpa using h x hx)
/-- one place of the trick: followed, or none left -/
def folAt (p : Oh.Pos) (i : Nat) : Bool := Oh.suitOf (p.cards.getD i 0) == p.led || (Oh.ofSuit p.led (Oh.hand p.hands ((p.leader + i) % 4))).isEmpty
theorem followed_eq (p : Oh.Pos) : p.followed = (List.range p.cards.length).all (folAt p) := rfl
theorem folAt_zero (p : Oh.Pos) : folAt p 0 = true := by
  unfold folAt Oh.Pos.led
  have : p.cards.getD 0 0 = p.cards.headD 0 := by cases p.cards <;> rfl
  rw [this]; simp
theorem followed_of {p : Oh.Pos} (h : ∀ i, 1 ≤ i → i < p.cards.length → folAt p i = true) : p.followed = true := by
  rw [followed_eq, List.all_eq_true]
  intro i hi
  have hi' := List.mem_range.mp hi
  cases i with
  | zero => exact folAt_zero p
  | succ i => exact h (i + 1) (by omega) hi'
theorem followed_not {p : Oh.Pos} {i : Nat} (hi : i < p.cards.length) (h : folAt p i = false) : p.followed = false := by
  rw [followed_eq, ← Bool.not_eq_true, List.all_eq_true]
  intro z
  rw [z i (List.mem_range.mpr hi)] at h
  cases h
theorem folAt_eq (p : Oh.Pos) (i : Nat) (hl : p.led < 4) : folAt p i = (decide (Oh.suitOf (p.cards.getD i 0) = p.led) || decide (suitN (Oh.hand p.hands ((p.leader + i) % 4)) p.led = 0)) := by
  unfold folAt
  rw [Bool.eq_iff_iff]
  simp only [Bool.or_eq_true, beq_iff_eq, decide_eq_true_eq, List.isEmpty_iff, suitN_zero _ hl]
/-- the cards that may be played -/
theorem plays_eq (p : Oh.Pos) : p.plays = if p.cards = [] then Oh.cardsIn (Oh.hand p.hands p.turn) else if Oh.ofSuit p.led (Oh.hand p.hands p.turn) = [] then Oh.cardsIn (Oh.hand p.hands p.turn) else Oh.ofSuit p.led (Oh.hand p.hands p.turn) := by
  unfold Oh.Pos.plays
  simp only [List.isEmpty_iff]
theorem plays_len (p : Oh.Pos) : p.plays.length ≤ 52 := by
  have h1 : ∀ h, (Oh.cardsIn h).length ≤ 52 := fun h => many_le h
  have h2 : ∀ s h, (Oh.ofSuit s h).length ≤ 52 := fun s h => Nat.le_trans (List.length_filter_le _ _) (h1 h)
  rw [plays_eq]
  split
  · exact h1 _
  · split
    · exact h1 _
    · exact h2 _ _
/-! ### heights -/
def heightN (s led c : Nat) : Int := if c / 13 = s then 13 + (c % 13 : Nat) else if c / 13 = led then ((c % 13 : Nat) : Int) else -1
theorem height_beats {s led x y : Nat} (hx : Oh.suitOf x = s ∨ Oh.suitOf x = led) (h : heightN s led y ≤ heightN s led x) : Oh.beats s led y x = false := by
  unfold Oh.beats heightN Oh.suitOf at *
  by_cases e : y / 13 = x / 13
  · rw [if_pos e]
    apply decide_eq_false
    rw [e] at h
    by_cases xs : x / 13 = s
    · rw [if_pos xs, if_pos xs] at h
      omega
    · rw [if_neg xs, if_neg xs, if_pos (hx.resolve_left xs), if_pos (hx.resolve_left xs)] at h
      omega
  · rw [if_neg e]
    by_cases ys : y / 13 = s
    · have xs : ¬ x / 13 = s := fun z => e (ys.trans z.symm)
      rw [if_pos ys, if_neg xs, if_pos (hx.resolve_left xs)] at h
      exfalso
      have : x % 13 < 13 := Nat.mod_lt _ (by decide)
      omega
    · rw [if_neg ys]
      by_cases xs : x / 13 = s
      · rw [if_pos xs]
      · rw [if_neg xs]
        have xl := hx.resolve_left xs
        have : ¬ y / 13 = led := fun z => e (z.trans xl.symm)
        simp [this]
theorem height_rel {s led x : Nat} (h : 0 ≤ heightN s led x) : Oh.suitOf x = s ∨ Oh.suitOf x = led := by
  unfold heightN at h
  unfold Oh.suitOf
  by_cases xs : x / 13 = s
  · exact .inl xs
  · by_cases xl : x / 13 = led
    · exact .inr xl
    · rw [if_neg xs, if_neg xl] at h
      omega
theorem height_led {s led x : Nat} (h : x / 13 = led) : 0 ≤ heightN s led x := by
  unfold heightN
  split
  · omega
  · omega
theorem winning_height {s : Nat} {l : List Nat} {j : Nat} (hj : j < l.length) (nd : l.Nodup) (h : ∀ i < l.length, heightN s (l.headD 0 / 13) (l.getD i 0) ≤ heightN s (l.headD 0 / 13) (l.getD j 0)) : Oh.winning s l = j := by
  have h0 : l.getD 0 0 = l.headD 0 := by cases l <;> rfl
  have h1 : 0 ≤ heightN s (l.headD 0 / 13) (l.getD j 0) := by
    have := h 0 (by omega)
    rw [h0] at this
    exact Int.le_trans (height_led rfl) this
  refine winning_of hj fun i hi hij => ?_
  have hr := height_rel h1
  refine beats_or hr ?_ (height_beats hr (h i hi))
  intro z
  have e1 : l[j]? = some (l.getD j 0) := by rw [List.getD_eq_getElem?_getD, List.getElem?_eq_getElem hj]; rfl
  have e2 : l[i]? = some (l.getD i 0) := by rw [List.getD_eq_getElem?_getD, List.getElem?_eq_getElem hi]; rfl
  rw [z, ← e2] at e1
  exact hij ((List.getElem?_inj hj nd).mp e1).symm
/-! ### the best of some numbers -/
def pickN (side : Nat) : List Nat → Nat
  | [] => 0
  | c :: r => foldBy side id r c
theorem foldBy_map {side : Nat} {f : Nat → Nat} : ∀ (l : List Nat) (b : Nat), foldBy side f l b = foldBy side id (l.map f) b
  | [], _ => rfl
  | c :: r, b => by
    show foldBy side f r _ = foldBy side id (r.map f) _
    exact foldBy_map r _
theorem wth_pick (p : Oh.Pos) : wth p = pickN (p.turn % 2) (p.plays.map fun x => (p.step x).1 + wth (p.step x).2) := by
  rw [wth_eq p]
  cases p.plays with
  | nil => rfl
  | cons c r => exact foldBy_map r _
theorem fold_max : ∀ (l : List Nat) (b : Nat), b ≤ foldBy 0 id l b ∧ ∀ x ∈ l, x ≤ foldBy 0 id l b
  | [], b => ⟨Nat.le_refl _, fun x h => by cases h⟩
  | c :: r, b => by
    have ih := fold_max r (Nat.max b c)
    have e : foldBy 0 id (c :: r) b = foldBy 0 id r (Nat.max b c) := rfl
    rw [e]
    have h1 : b ≤ Nat.max b c := Nat.le_max_left _ _
    have h2 : c ≤ Nat.max b c := Nat.le_max_right _ _
    refine ⟨Nat.le_trans h1 ih.1, fun x hx => ?_⟩
    rcases List.mem_cons.mp hx with rfl | hx
    · exact Nat.le_trans h2 ih.1
    · exact ih.2 x hx
theorem fold_min {side : Nat} (hs : ¬ side = 0) : ∀ (l : List Nat) (b : Nat), foldBy side id l b ≤ b ∧ ∀ x ∈ l, foldBy side id l b ≤ x
  | [], b => ⟨Nat.le_refl _, fun x h => by cases h⟩
  | c :: r, b => by
    have ih := fold_min hs r (Nat.min b c)
    have e : foldBy side id (c :: r) b = foldBy side id r (Nat.min b c) := by
      show foldBy side id r (if side = 0 then _ else Nat.min b (id c)) = _
      rw [if_neg hs]; rfl
    rw [e]
    have h1 : Nat.min b c ≤ b := Nat.min_le_left _ _
    have h2 : Nat.min b c ≤ c := Nat.min_le_right _ _
    refine ⟨Nat.le_trans ih.1 h1, fun x hx => ?_⟩
    rcases List.mem_cons.mp hx with rfl | hx
    · exact Nat.le_trans ih.1 h2
    · exact ih.2 x hx
theorem fold_mem {side : Nat} (l : List Nat) (b : Nat) : foldBy side id l b ∈ b :: l := by
  rcases foldBy_mem (f := id) (side := side) l b with h | ⟨x, hx, h⟩
  · rw [h]; simp
  · rw [h]; exact List.mem_cons_of_mem _ hx
theorem pick_max {l : List Nat} {m : Nat} (h1 : m ∈ l) (h2 : ∀ y ∈ l, y ≤ m) : pickN 0 l = m := by
  cases l with
  | nil => cases h1
  | cons c r =>
    have a := fold_max r c
    have b := h2 _ (fold_mem (side := 0) r c)
    have d : m ≤ foldBy 0 id r c := by
      rcases List.mem_cons.mp h1 with rfl | h
      · exact a.1
      · exact a.2 m h
    exact Nat.le_antisymm b d
theorem pick_min {side : Nat} (hs : ¬ side = 0) {l : List Nat} {m : Nat} (h1 : m ∈ l) (h2 : ∀ y ∈ l, m ≤ y) : pickN side l = m := by
  cases l with
  | nil => cases h1
  | cons c r =>
    have a := fold_min hs r c
    have b := h2 _ (fold_mem (side := side) r c)
    have d : foldBy side id r c ≤ m := by
      rcases List.mem_cons.mp h1 with rfl | h
      · exact a.1
      · exact a.2 m h
    exact Nat.le_antisymm d b
/-! ### how many different numbers -/
def firstsOf (l : List Int) : List Int := l.foldl (fun s k => if s.any (· == k) then s else s ++ [k]) []
theorem firsts_le : ∀ (l s : List Int), (l.foldl (fun s k => if s.any (· == k) then s else s ++ [k]) s).length ≤ s.length + l.length
  | [], s => by simp
  | c :: r, s => by
    rw [List.foldl_cons]
    have ih := firsts_le r (if s.any (· == c) then s else s ++ [c])
    have : (if s.any (· == c) then s else s ++ [c]).length ≤ s.length + 1 := by split <;> simp
    rw [List.length_cons]
    omega
theorem firsts_nodup : ∀ (l s : List Int), (l.foldl (fun s k => if s.any (· == k) then s else s ++ [k]) s).length = s.length + l.length ↔ (l.Nodup ∧ ∀ x ∈ l, x ∉ s)
  | [], s => by simp
  | c :: r, s => by
    rw [List.foldl_cons]
    by_cases q : s.any (· == c) = true
    · rw [if_pos q]
      have h1 := firsts_le r s
      constructor
      · intro z
        rw [List.length_cons] at z
        omega
      · rintro ⟨_, z⟩
        obtain ⟨x, hx, e⟩ := List.any_eq_true.mp q
        rw [eq_of_beq e] at hx
        exact absurd hx (z c (by simp))
    · rw [if_neg q]
      have ih := firsts_nodup r (s ++ [c])
      have e : (s ++ [c]).length + r.length = s.length + (c :: r).length := by simp; omega
      rw [e] at ih
      rw [ih, List.nodup_cons]
      have hc : c ∉ s := fun z => q (List.any_eq_true.mpr ⟨c, z, by simp⟩)
      constructor
      · rintro ⟨h1, h2⟩
        refine ⟨⟨fun z => h2 c z (by simp), h1⟩, fun x hx => ?_⟩
        rcases List.mem_cons.mp hx with rfl | hx
        · exact hc
        · exact fun z => h2 x hx (by simp [z])
      · rintro ⟨⟨h1, h2⟩, h3⟩
        refine ⟨h2, fun x hx z => ?_⟩
        rcases List.mem_append.mp z with z | z
        · exact h3 x (by simp [hx]) z
        · rw [List.mem_singleton.mp z] at hx
          exact h1 hx
theorem nodup_nats (t : List Nat) : (t.map Int.ofNat).Nodup ↔ t.Nodup := by
  unfold List.Nodup
  rw [List.pairwise_map]
  constructor
  · intro h
    exact h.imp fun {a b} e z => e (by rw [z])
  · intro h
    exact h.imp fun {a b} e z => e (Int.ofNat.inj z)
theorem firsts_len (t : List Nat) : (firstsOf (t.map Int.ofNat)).length = t.length ↔ t.Nodup := by
  have h := firsts_nodup (t.map Int.ofNat) []
  rw [List.length_map, List.length_nil, Nat.zero_add, nodup_nats] at h
  unfold firstsOf
  rw [h]
  simp
end Mt
namespace Mt
theorem nats_map (l : List Nat) : OhNeutral.nats (l.map Int.ofNat) = l := by
  unfold OhNeutral.nats
  rw [List.map_map]
  conv => rhs; rw [← List.map_id l]
  apply List.map_congr_left
  intro n _
  show (Int.ofNat n).toNat = n
  rfl
theorem posOf_nat (st ld : Nat) (l t : List Nat) : posOf (st : Int) (ld : Int) (l.map Int.ofNat) (t.map Int.ofNat) = ⟨l, st, ld, t⟩ := by
  unfold posOf
  rw [nats_map, nats_map, Int.toNat_natCast, Int.toNat_natCast]
theorem without_set {l : List Nat} (h : l.length = 4) {p : Nat} (hp : p < 4) (c : Nat) : Oh.without l p c = l.set p (l.getD p 0 - 2 ^ c) := by
  obtain ⟨a, b, d, e, rfl⟩ := four_of h
  match p, hp with
  | 0, _ => rfl
  | 1, _ => rfl
  | 2, _ => rfl
  | 3, _ => rfl
theorem without_len (l : List Nat) (p c : Nat) : (Oh.without l p c).length = 4 := by
  unfold Oh.without
  rw [List.length_map]; rfl
theorem bit_le {h c : Nat} (e : h.testBit c = true) : 2 ^ c ≤ h := by
  by_cases q : 2 ^ c ≤ h
  · exact q
  · rw [Nat.testBit_lt_two_pow (by omega)] at e
    cases e
theorem Good.snoc {p : Oh.Pos} (G : Good p) {c : Nat} (h : c ∈ p.plays) : (p.cards ++ [c]).Nodup := by
  rw [List.nodup_append]
  refine ⟨G.nd, by simp, fun a ha b hb => ?_⟩
  rw [List.mem_singleton.mp hb]
  intro z
  rw [z] at ha
  have := G.out c ha p.turn (turn_lt p)
  rw [(plays_sub h).2] at this
  cases this
theorem first_of : ∀ (l : List Int) (M : Int), M ∈ l → ∃ j, j < l.length ∧ l[j]? = some M ∧ ∀ m < j, l[m]? ≠ some M
  | [], M, h => by cases h
  | x :: r, M, h => by
    by_cases e : x = M
    · exact ⟨0, by simp, by simp [e], fun m hm => by omega⟩
    · obtain ⟨j, h1, h2, h3⟩ := first_of r M (by
        rcases List.mem_cons.mp h with z | z
        · exact absurd z.symm e
        · exact z)
      refine ⟨j + 1, by simp; omega, by simpa using h2, fun m hm => ?_⟩
      cases m with
      | zero =>
        intro z
        exact e (by simpa using z)
      | succ m =>
        intro z
        exact h3 m (by omega) (by simpa using z)
theorem zip_keep (f : Nat → Nat) (w : Nat) : ∀ l : List Nat, (((l.map Int.ofNat).zip ((l.map f).map Int.ofNat)).filter fun p => decide (p.2 = (w : Int))).map (fun p => p.1) = (l.filter fun c => f c == w).map Int.ofNat
  | [] => rfl
  | c :: r => by
    have ih := zip_keep f w r
    rw [List.map_cons, List.map_cons, List.map_cons, List.zip_cons_cons, List.filter_cons, List.filter_cons]
    by_cases e : f c = w
    · have e1 : decide ((Int.ofNat (f c)) = (w : Int)) = true := decide_eq_true (by rw [e]; rfl)
      have e2 : (f c == w) = true := by simp [e]
      simp only [e1, e2, if_true, List.map_cons, ih]
    · have e1 : decide ((Int.ofNat (f c)) = (w : Int)) = false := decide_eq_false (fun z => e (by have : ((f c : Nat) : Int) = (w : Int) := z
                                                                                                  omega))
      have e2 : (f c == w) = false := by simp [e]
      simp only [e1, e2, Bool.false_eq_true, if_false, ih]
end Mt

end
set_option Elab.async false
set_option linter.all false
set_option maxRecDepth 100000
set_option maxHeartbeats 4000000
namespace W
open PySem PySem.Spec PyProof.Rows L2
open PySem.W (Codec)
def top (i : Nat) : Stmt := PySem.Challenge.pw_cardsseen_s12_best.main.body.getD i (.Pass ⟨0, 0, 0, 0⟩)
abbrev s_holds : Stmt := top 5
theorem sc_holds : FnScope ["hand", "card"] ["hand", "card"] (defScope s_holds) := ⟨rfl, rfl, rfl, by decide +kernel, rfl, by decide +kernel, by decide +kernel⟩
abbrev s_card_count : Stmt := top 6
theorem sc_card_count : FnScope ["hand", "count", "rest"] ["hand"] (defScope s_card_count) := ⟨rfl, rfl, rfl, by decide +kernel, rfl, by decide +kernel, by decide +kernel⟩
abbrev s_has_bit_above : Stmt := top 7
theorem sc_has_bit_above : FnScope ["hands", "hand"] ["hands"] (defScope s_has_bit_above) := ⟨rfl, rfl, rfl, by decide +kernel, rfl, by decide +kernel, by decide +kernel⟩
abbrev s_has_card_twice : Stmt := top 8
theorem sc_has_card_twice : FnScope ["hands", "seen", "hand"] ["hands"] (defScope s_has_card_twice) := ⟨rfl, rfl, rfl, by decide +kernel, rfl, by decide +kernel, by decide +kernel⟩
abbrev s_has_unequal_hands : Stmt := top 9
theorem sc_has_unequal_hands : FnScope ["hands", "sizes", "hand"] ["hands"] (defScope s_has_unequal_hands) := ⟨rfl, rfl, rfl, by decide +kernel, rfl, by decide +kernel, by decide +kernel⟩
abbrev s_deal_fault : Stmt := top 10
theorem sc_deal_fault : FnScope ["hands"] ["hands"] (defScope s_deal_fault) := ⟨rfl, rfl, rfl, by decide +kernel, rfl, by decide +kernel, by decide +kernel⟩
abbrev s_is_deal : Stmt := top 11
theorem sc_is_deal : FnScope ["hands"] ["hands"] (defScope s_is_deal) := ⟨rfl, rfl, rfl, by decide +kernel, rfl, by decide +kernel, by decide +kernel⟩
abbrev s_side_of : Stmt := top 15
theorem sc_side_of : FnScope ["player"] ["player"] (defScope s_side_of) := ⟨rfl, rfl, rfl, by decide +kernel, rfl, by decide +kernel, by decide +kernel⟩
abbrev s_suit_of : Stmt := top 16
theorem sc_suit_of : FnScope ["card"] ["card"] (defScope s_suit_of) := ⟨rfl, rfl, rfl, by decide +kernel, rfl, by decide +kernel, by decide +kernel⟩
abbrev s_cards_of_suit : Stmt := top 17
theorem sc_cards_of_suit : FnScope ["hand", "suit"] ["hand", "suit"] (defScope s_cards_of_suit) := ⟨rfl, rfl, rfl, by decide +kernel, rfl, by decide +kernel, by decide +kernel⟩
abbrev s_cards_in : Stmt := top 18
theorem sc_cards_in : FnScope ["hand", "cards", "rest", "lowest"] ["hand"] (defScope s_cards_in) := ⟨rfl, rfl, rfl, by decide +kernel, rfl, by decide +kernel, by decide +kernel⟩
abbrev s_player_at : Stmt := top 19
theorem sc_player_at : FnScope ["leader", "place"] ["leader", "place"] (defScope s_player_at) := ⟨rfl, rfl, rfl, by decide +kernel, rfl, by decide +kernel, by decide +kernel⟩
abbrev s_player_to_play : Stmt := top 20
theorem sc_player_to_play : FnScope ["leader", "trick"] ["leader", "trick"] (defScope s_player_to_play) := ⟨rfl, rfl, rfl, by decide +kernel, rfl, by decide +kernel, by decide +kernel⟩
abbrev s_are_different_cards : Stmt := top 21
theorem sc_are_different_cards : FnScope ["cards", "card"] ["cards"] (defScope s_are_different_cards) := ⟨rfl, rfl, rfl, by decide +kernel, rfl, by decide +kernel, by decide +kernel⟩
abbrev s_are_in_no_hand : Stmt := top 22
theorem sc_are_in_no_hand : FnScope ["cards", "hands", "held", "card"] ["cards", "hands"] (defScope s_are_in_no_hand) := ⟨rfl, rfl, rfl, by decide +kernel, rfl, by decide +kernel, by decide +kernel⟩
abbrev s_hands_with_trick_back : Stmt := top 23
theorem sc_hands_with_trick_back : FnScope ["leader", "hands", "trick", "before", "place", "card"] ["leader", "hands", "trick"] (defScope s_hands_with_trick_back) := ⟨rfl, rfl, rfl, by decide +kernel, rfl, by decide +kernel, by decide +kernel⟩
abbrev s_all_followed : Stmt := top 24
theorem sc_all_followed : FnScope ["leader", "hands", "trick", "place", "led"] ["leader", "hands", "trick"] (defScope s_all_followed) := ⟨rfl, rfl, rfl, by decide +kernel, rfl, by decide +kernel, by decide +kernel⟩
abbrev s_is_position : Stmt := top 25
theorem sc_is_position : FnScope ["strain", "leader", "hands", "trick"] ["strain", "leader", "hands", "trick"] (defScope s_is_position) := ⟨rfl, rfl, rfl, by decide +kernel, rfl, by decide +kernel, by decide +kernel⟩
abbrev s_playable_cards : Stmt := top 26
theorem sc_playable_cards : FnScope ["leader", "hands", "trick", "hand", "following"] ["leader", "hands", "trick"] (defScope s_playable_cards) := ⟨rfl, rfl, rfl, by decide +kernel, rfl, by decide +kernel, by decide +kernel⟩
abbrev s_height : Stmt := top 27
theorem sc_height : FnScope ["strain", "led", "card", "suit"] ["strain", "led", "card"] (defScope s_height) := ⟨rfl, rfl, rfl, by decide +kernel, rfl, by decide +kernel, by decide +kernel⟩
abbrev s_trick_winner : Stmt := top 28
theorem sc_trick_winner : FnScope ["strain", "leader", "cards", "led", "heights", "card"] ["strain", "leader", "cards"] (defScope s_trick_winner) := ⟨rfl, rfl, rfl, by decide +kernel, rfl, by decide +kernel, by decide +kernel⟩
abbrev s_is_of_side_0 : Stmt := top 30
theorem sc_is_of_side_0 : FnScope ["player"] ["player"] (defScope s_is_of_side_0) := ⟨rfl, rfl, rfl, by decide +kernel, rfl, by decide +kernel, by decide +kernel⟩
abbrev s_hands_after : Stmt := top 31
theorem sc_hands_after : FnScope ["leader", "hands", "trick", "card", "left"] ["leader", "hands", "trick", "card"] (defScope s_hands_after) := ⟨rfl, rfl, rfl, by decide +kernel, rfl, by decide +kernel, by decide +kernel⟩
abbrev s_worth_after : Stmt := top 32
theorem sc_worth_after : FnScope ["strain", "leader", "hands", "trick", "card", "left", "played", "taker", "won"] ["strain", "leader", "hands", "trick", "card"] (defScope s_worth_after) := ⟨rfl, rfl, rfl, by decide +kernel, rfl, by decide +kernel, by decide +kernel⟩
abbrev s_worths_after : Stmt := top 33
theorem sc_worths_after : FnScope ["strain", "leader", "hands", "trick", "cards", "card"] ["strain", "leader", "hands", "trick", "cards"] (defScope s_worths_after) := ⟨rfl, rfl, rfl, by decide +kernel, rfl, by decide +kernel, by decide +kernel⟩
abbrev s_best_of : Stmt := top 34
theorem sc_best_of : FnScope ["player", "worths"] ["player", "worths"] (defScope s_best_of) := ⟨rfl, rfl, rfl, by decide +kernel, rfl, by decide +kernel, by decide +kernel⟩
abbrev s_worth : Stmt := top 35
theorem sc_worth : FnScope ["strain", "leader", "hands", "trick", "cards"] ["strain", "leader", "hands", "trick"] (defScope s_worth) := ⟨rfl, rfl, rfl, by decide +kernel, rfl, by decide +kernel, by decide +kernel⟩
abbrev s_best_cards : Stmt := top 36
theorem sc_best_cards : FnScope ["strain", "leader", "hands", "trick", "cards", "worths", "kept", "card", "after"] ["strain", "leader", "hands", "trick"] (defScope s_best_cards) := ⟨rfl, rfl, rfl, by decide +kernel, rfl, by decide +kernel, by decide +kernel⟩
abbrev s_position_refusal : Stmt := top 39
theorem sc_position_refusal : FnScope ["strain", "leader", "hands", "trick"] ["strain", "leader", "hands", "trick"] (defScope s_position_refusal) := ⟨rfl, rfl, rfl, by decide +kernel, rfl, by decide +kernel, by decide +kernel⟩
abbrev s_best_play_refusal : Stmt := top 40
theorem sc_best_play_refusal : FnScope ["strain", "leader", "hands", "trick", "refusal"] ["strain", "leader", "hands", "trick"] (defScope s_best_play_refusal) := ⟨rfl, rfl, rfl, by decide +kernel, rfl, by decide +kernel, by decide +kernel⟩
abbrev s_best : Stmt := top 41
theorem sc_best : FnScope ["strain", "leader", "hands", "trick", "refusal"] ["strain", "leader", "hands", "trick"] (defScope s_best) := ⟨rfl, rfl, rfl, by decide +kernel, rfl, by decide +kernel, by decide +kernel⟩
/-- what the top has written -/
structure Txt (K : PySem.W.Frag) (mg : Str → Option Value) : Prop where
  c_RANKS : ∃ t, mg "RANKS" = some (.int 13 t)
  c_CARDS : ∃ t, mg "CARDS" = some (.int 52 t)
  c_PLAYERS : ∃ t, mg "PLAYERS" = some (.int 4 t)
  c_WHOLE_SUIT : ∃ t, mg "WHOLE_SUIT" = some (.int 8191 t)
  c_SIDES : ∃ t, mg "SIDES" = some (.int 2 t)
  c_NO_TRUMPS : ∃ t, mg "NO_TRUMPS" = some (.int 4 t)
  c_MOST_CARDS : ∃ t, mg "MOST_CARDS" = some (.int 3 t)
  n_all : mg "all" = none
  n_any : mg "any" = none
  n_enumerate : mg "enumerate" = none
  n_len : mg "len" = none
  n_list : mg "list" = none
  n_max : mg "max" = none
  n_min : mg "min" = none
  n_range : mg "range" = none
  n_set : mg "set" = none
  n_zip : mg "zip" = none
/-! ### promises -/
theorem ne_of_nd {a b : V} (h : (!decide (a = b)) = true) : ¬ a = b := by simpa using h
theorem small_line {n : Nat} (h : n ≤ 900) : n < sizeLine := Nat.lt_of_le_of_lt h (by decide)
abbrev LN (K : PySem.W.Frag) (H : Hp) (a : Addr) (l : List Nat) : Prop := SqL K H a ((l.map Int.ofNat).map V.int)
abbrev newN (H : Hp) (Q : VK) (l : List Nat) : Prop := ∀ (b : Addr) (H' : Hp), H b = none → H' b = some (.lst ((l.map Int.ofNat).map V.int)) → Same H H' → Q (.ref b) H'
def spCC : Sp := fun vs H Q _ => ∃ n : Nat, vs = [.int n] ∧ Q (.int (Mt.pop n)) H
def spHolds : Sp := fun vs H Q _ => ∃ n c : Nat, vs = [.int n, .int c] ∧ Q (.bl (n.testBit c)) H
def spHands (K : PySem.W.Frag) (pre : List Nat → Prop) (g : List Nat → V) : Sp := fun vs H Q _ => ∃ (a : Addr) (l : List Nat), vs = [.ref a] ∧ SqL K H a ((l.map Int.ofNat).map V.int) ∧ l.length = 4 ∧ pre l ∧ ∀ H', Same H H' → Q (g l) H'
def sp1 (g : Nat → V) : Sp := fun vs H Q _ => ∃ n : Nat, vs = [.int n] ∧ Q (g n) H
def sp2 (pre : Nat → Nat → Prop) (g : Nat → Nat → V) : Sp := fun vs H Q _ => ∃ m n : Nat, vs = [.int m, .int n] ∧ pre m n ∧ Q (g m n) H
def spCI : Sp := fun vs H Q _ => ∃ n : Nat, vs = [.int n] ∧ n < 2 ^ 52 ∧ newN H Q (Oh.cardsIn n)
def spPP (K : PySem.W.Frag) : Sp := fun vs H Q _ => ∃ (b : Addr) (t : List Nat) (ld : Nat), vs = [.int ld, .ref b] ∧ LN K H b t ∧ Q (.int ((ld + t.length) % 4 : Nat)) H
def spDC (K : PySem.W.Frag) : Sp := fun vs H Q _ => ∃ (b : Addr) (t : List Nat), vs = [.ref b] ∧ LN K H b t ∧ t.length ≤ 6 ∧ ∀ H', Same H H' → Q (.bl (Mt.diffN t)) H'
def spNH (K : PySem.W.Frag) : Sp := fun vs H Q _ => ∃ (b a : Addr) (t l : List Nat), vs = [.ref b, .ref a] ∧ LN K H b t ∧ t.length ≤ 6 ∧ LN K H a l ∧ l.length = 4 ∧ ∀ H', Same H H' → Q (.bl (Mt.apartN l t)) H'
def spTB (K : PySem.W.Frag) : Sp := fun vs H Q _ => ∃ (a b : Addr) (l t : List Nat) (ld : Nat), vs = [.int ld, .ref a, .ref b] ∧ LN K H a l ∧ l.length = 4 ∧ LN K H b t ∧ t.length ≤ 3 ∧ (∀ c ∈ t, c < 52) ∧ ld < 4 ∧ newN H Q (Mt.backU l ld t t.length)
def spAF (K : PySem.W.Frag) : Sp := fun vs H Q _ => ∃ (a b : Addr) (l t : List Nat) (ld : Nat), vs = [.int ld, .ref a, .ref b] ∧ LN K H a l ∧ l.length = 4 ∧ LN K H b t ∧ t.length ≤ 3 ∧ (∀ c ∈ t, c < 52) ∧ ∀ H', Same H H' → Q (.bl (Oh.Pos.followed ⟨l, 0, ld, t⟩)) H'
def spIP (K : PySem.W.Frag) : Sp := fun vs H Q _ => ∃ (a b : Addr) (l t : List Nat) (st ld : Nat), vs = [.int st, .int ld, .ref a, .ref b] ∧ LN K H a l ∧ l.length = 4 ∧ LN K H b t ∧ t.length ≤ 6 ∧ ∀ H', Same H H' → Q (.bl (Oh.Pos.ok ⟨l, st, ld, t⟩)) H'
def spPC (K : PySem.W.Frag) : Sp := fun vs H Q _ => ∃ (a b : Addr) (l t : List Nat) (ld : Nat), vs = [.int ld, .ref a, .ref b] ∧ LN K H a l ∧ l.length = 4 ∧ LN K H b t ∧ (∀ c ∈ t, c < 52) ∧ (∀ q < 4, Oh.hand l q < 2 ^ 52) ∧ newN H Q (Oh.Pos.plays ⟨l, 0, ld, t⟩)
def spHt : Sp := fun vs H Q _ => ∃ st led c : Nat, vs = [.int st, .int led, .int c] ∧ Q (.int (Mt.heightN st led c)) H
def spTW (K : PySem.W.Frag) : Sp := fun vs H Q _ => ∃ (b : Addr) (t : List Nat) (st ld : Nat), vs = [.int st, .int ld, .ref b] ∧ LN K H b t ∧ t.length = 4 ∧ t.Nodup ∧ ∀ H', Same H H' → Q (.int (Oh.winner st ld t)) H'
def spBO (K : PySem.W.Frag) : Sp := fun vs H Q _ => ∃ (b : Addr) (ws : List Nat) (p : Nat), vs = [.int p, .ref b] ∧ LN K H b ws ∧ ws ≠ [] ∧ Q (.int (Mt.pickN (p % 2) ws)) H
def spHA (K : PySem.W.Frag) : Sp := fun vs H Q _ => ∃ (a b : Addr) (l t : List Nat) (ld c : Nat), vs = [.int ld, .ref a, .ref b, .int c] ∧ LN K H a l ∧ l.length = 4 ∧ LN K H b t ∧ c < 52 ∧ (l.getD ((ld + t.length) % 4) 0).testBit c = true ∧ newN H Q (Oh.without l ((ld + t.length) % 4) c)
/-- what comes of a card -/
abbrev aft (p : Oh.Pos) (c : Nat) : Nat := (p.step c).1 + Mt.wth (p.step c).2
def spW (K : PySem.W.Frag) (n : Nat) : Sp := fun vs H Q _ => ∃ (a b : Addr) (l t : List Nat) (st ld top : Nat), vs = [.int st, .int ld, .ref a, .ref b] ∧ LN K H a l ∧ l.length = 4 ∧ LN K H b t ∧ Mt.Pl top ⟨l, st, ld, t⟩ ∧ Mt.left ⟨l, st, ld, t⟩ ≤ n ∧ ∀ H', Same H H' → Q (.int (Mt.wth ⟨l, st, ld, t⟩)) H'
def spWA (K : PySem.W.Frag) (n : Nat) : Sp := fun vs H Q _ => ∃ (a b : Addr) (l t : List Nat) (st ld top c : Nat), vs = [.int st, .int ld, .ref a, .ref b, .int c] ∧ LN K H a l ∧ l.length = 4 ∧ LN K H b t ∧ Mt.Pl top ⟨l, st, ld, t⟩ ∧ Mt.left ⟨l, st, ld, t⟩ ≤ n ∧ c ∈ Oh.Pos.plays ⟨l, st, ld, t⟩ ∧
  ∀ H', Same H H' → Q (.int (aft ⟨l, st, ld, t⟩ c)) H'
def spWs (K : PySem.W.Frag) (n : Nat) : Sp := fun vs H Q _ => ∃ (a b d : Addr) (l t : List Nat) (st ld top : Nat), vs = [.int st, .int ld, .ref a, .ref b, .ref d] ∧ LN K H a l ∧ l.length = 4 ∧ LN K H b t ∧ Mt.Pl top ⟨l, st, ld, t⟩ ∧ Mt.left ⟨l, st, ld, t⟩ ≤ n ∧ Oh.Pos.plays ⟨l, st, ld, t⟩ ≠ [] ∧
  LN K H d (Oh.Pos.plays ⟨l, st, ld, t⟩) ∧ newN H Q ((Oh.Pos.plays ⟨l, st, ld, t⟩).map (aft ⟨l, st, ld, t⟩))
def spBC (K : PySem.W.Frag) (n : Nat) : Sp := fun vs H Q _ => ∃ (a b : Addr) (l t : List Nat) (st ld top : Nat), vs = [.int st, .int ld, .ref a, .ref b] ∧ LN K H a l ∧ l.length = 4 ∧ LN K H b t ∧ Mt.Pl top ⟨l, st, ld, t⟩ ∧ Mt.left ⟨l, st, ld, t⟩ ≤ n ∧ newN H Q (Mt.bestW ⟨l, st, ld, t⟩)
def spRef (K : PySem.W.Frag) (g : List Nat → Nat → Nat → List Nat → Int) : Sp := fun vs H Q _ => ∃ (a b : Addr) (l t : List Nat) (st ld : Nat), vs = [.int st, .int ld, .ref a, .ref b] ∧ LN K H a l ∧ LN K H b t ∧ t.length ≤ 6 ∧ ∀ H', Same H H' → Q (.int (g l st ld t)) H'
def refP (l : List Nat) (st ld : Nat) (t : List Nat) : Int := if l.length = 4 then (if Oh.Pos.ok ⟨l, st, ld, t⟩ = true then 0 else -3) else -1
def refB (l : List Nat) (st ld : Nat) (t : List Nat) : Int := if l.length = 4 then (if Oh.Pos.ok ⟨l, st, ld, t⟩ = true then (if Oh.many (Oh.hand (Oh.Pos.whole ⟨l, st, ld, t⟩) 0) ≤ 3 then 0 else -9) else -3) else -1
def spPos (K : PySem.W.Frag) (g : Int → Int → List Int → List Int → List Int) : Sp := fun vs H Q _ => ∃ (a b : Addr) (l t : List Nat) (st ld : Nat), vs = [.int st, .int ld, .ref a, .ref b] ∧ LN K H a l ∧ LN K H b t ∧ l.length ≤ 6 ∧ t.length ≤ 6 ∧
  ∀ (H' : Hp) (p : Addr), H' p = some (.lst ((g st ld (l.map Int.ofNat) (t.map Int.ofNat)).map V.int)) → Q (.ref p) H'
def spCards (K : PySem.W.Frag) (g : Int → Int → List Int → List Int) : Sp := fun vs H Q _ => ∃ (b : Addr) (t : List Nat) (st ld : Nat), vs = [.int st, .int ld, .ref b] ∧ LN K H b t ∧ t.length ≤ 6 ∧
  ∀ (H' : Hp) (p : Addr), H' p = some (.lst ((g st ld (t.map Int.ofNat)).map V.int)) → Q (.ref p) H'
theorem eqV_int {a : Int} : eqV (V.int a) (V.int a) = true := beq_self_eq_true a
theorem eqV_int_ne {a b : Int} (h : ¬ a = b) : eqV (V.int a) (V.int b) = false := by
  show (a == b) = false
  simpa using h
theorem refP_good {l t : List Nat} {st ld : Nat} (h : refP l st ld t = 0) : l.length = 4 ∧ Oh.Pos.ok ⟨l, st, ld, t⟩ = true := by
  unfold refP at h
  by_cases h4 : l.length = 4
  · rw [if_pos h4] at h
    by_cases ho : Oh.Pos.ok ⟨l, st, ld, t⟩ = true
    · exact ⟨h4, ho⟩
    · rw [if_neg ho] at h
      cases h
  · rw [if_neg h4] at h
    cases h
theorem refP_bad {l t : List Nat} {st ld : Nat} {X : List Int} (h : ¬ refP l st ld t = 0) : (if l.length = 4 then (if Oh.Pos.ok ⟨l, st, ld, t⟩ = true then X else [-3]) else [-1]) = [refP l st ld t] := by
  unfold refP at h ⊢
  by_cases h4 : l.length = 4
  · rw [if_pos h4] at h
    rw [if_pos h4, if_pos h4]
    by_cases ho : Oh.Pos.ok ⟨l, st, ld, t⟩ = true
    · rw [if_pos ho] at h
      exact absurd rfl h
    · rw [if_neg ho, if_neg ho]
  · rw [if_neg h4, if_neg h4]
theorem refB_bad {l t : List Nat} {st ld : Nat} (h : ¬ refP l st ld t = 0) : refB l st ld t = refP l st ld t := by
  unfold refP at h ⊢
  unfold refB
  by_cases h4 : l.length = 4
  · rw [if_pos h4] at h
    rw [if_pos h4, if_pos h4]
    by_cases ho : Oh.Pos.ok ⟨l, st, ld, t⟩ = true
    · rw [if_pos ho] at h
      exact absurd rfl h
    · rw [if_neg ho, if_neg ho]
  · rw [if_neg h4, if_neg h4]
theorem refB_good {l t : List Nat} {st ld : Nat} (h : refB l st ld t = 0) : l.length = 4 ∧ Oh.Pos.ok ⟨l, st, ld, t⟩ = true ∧ Oh.many (Oh.hand (Oh.Pos.whole ⟨l, st, ld, t⟩) 0) ≤ 3 := by
  unfold refB at h
  by_cases h4 : l.length = 4
  · rw [if_pos h4] at h
    by_cases ho : Oh.Pos.ok ⟨l, st, ld, t⟩ = true
    · rw [if_pos ho] at h
      by_cases hm : Oh.many (Oh.hand (Oh.Pos.whole ⟨l, st, ld, t⟩) 0) ≤ 3
      · exact ⟨h4, ho, hm⟩
      · rw [if_neg hm] at h
        cases h
    · rw [if_neg ho] at h
      cases h
  · rw [if_neg h4] at h
    cases h
theorem refB_due {l t : List Nat} {st ld : Nat} {X : List Int} (h : ¬ refB l st ld t = 0) : (if l.length = 4 then (if Oh.Pos.ok ⟨l, st, ld, t⟩ = true then (if Oh.many (Oh.hand (Oh.Pos.whole ⟨l, st, ld, t⟩) 0) ≤ 3 then X else [-9]) else [-3]) else [-1]) = [refB l st ld t] := by
  unfold refB at h ⊢
  by_cases h4 : l.length = 4
  · rw [if_pos h4] at h
    rw [if_pos h4, if_pos h4]
    by_cases ho : Oh.Pos.ok ⟨l, st, ld, t⟩ = true
    · rw [if_pos ho] at h
      rw [if_pos ho, if_pos ho]
      by_cases hm : Oh.many (Oh.hand (Oh.Pos.whole ⟨l, st, ld, t⟩) 0) ≤ 3
      · rw [if_pos hm] at h
        exact absurd rfl h
      · rw [if_neg hm, if_neg hm]
    · rw [if_neg ho, if_neg ho]
  · rw [if_neg h4, if_neg h4]

section
variable {P : Program} {w : World} {K : PySem.W.Frag} {mg : Str → Option Value} {base : Heap}
theorem ok_card_count (D : HasDef K mg "card_count" s_card_count ["hand"]) : Ok P w K mg base 1 "card_count" ["hand"] spCC := by
  refine D.ok sc_card_count (fun vs H Q E h => ?_) (fun f cdv A outer s H vs Q E hr h => ?_)
  · obtain ⟨n, rfl, _⟩ := h
    rfl
  · obtain ⟨n, rfl, k⟩ := h
    refine ⟨_, (pss_cons (ps_set (i := 1) sc_card_count.nd rfl (Or.inl rfl) pe_int)
      (pss_cons (ps_set (i := 2) sc_card_count.nd rfl (Or.inl rfl) (pv 0))
      (pss_cons (ps_while PassesOwn.never (pt_cmpR op_gt (pv 2) pe_int (nomark _))
      (pss_cons (ps_set (i := 2) sc_card_count.nd rfl (Or.inl rfl) (pe_op op_and (pv 2) (pe_op op_sub (pv 2) pe_int)))
      (pss_one (ps_aug (i := 1) sc_card_count.nd rfl (Or.inl rfl) pe_int (pip_of iop_add)))))
      (pss_one (ps_ret (pv 1)))))), ?_⟩
    refine ⟨_, rfl, ?_⟩
    refine while_by (fun σ' H' => ∃ c r : Nat, σ' = [some (.int n), some (.int c), some (.int r)] ∧ H' = H ∧ c + Mt.pop r = Mt.pop n) (fun σ' _ => match σ' with | [_, _, some (.int r)] => r.toNat | _ => 0) ⟨0, n, rfl, rfl, by omega⟩ ?_
      (fun σ H Q Q' h ⟨v, e, i, j, a, b, k, c, q⟩ => ⟨v, e, i, j, a, b, k, c, h _ _ q⟩)
    rintro σ' H' ⟨c, r, rfl, rfl, e⟩
    refine ⟨_, rfl, _, _, rfl, rfl, _, rfl, ite2 (fun hc => ?_) (fun hc => ?_)⟩
    · have hr : 0 < r := by
        have := of_decide_eq_true hc
        omega
      refine ⟨_, rfl, _, rfl, _, _, rfl, rfl, _, _, rfl, rfl, ?_⟩
      refine ⟨_, rfl, _, _, rfl, rfl, ?_⟩
      have e1 : Builtin.bitAnd (r : Int) ((r : Int) - 1) = ((r &&& (r - 1) : Nat) : Int) := by
        rw [← andN]
        congr 1
        omega
      have e2 := Mt.pop_step r hr
      have e3 := Mt.and_pred_lt r hr
      refine ⟨⟨c + 1, r &&& (r - 1), ?_, rfl, by omega⟩, ?_⟩
      · show [some (V.int n), some (V.int (c + 1)), some (V.int (Builtin.bitAnd (r : Int) ((r : Int) - 1)))] = _
        rw [e1]
        rfl
      · show (Builtin.bitAnd (r : Int) ((r : Int) - 1)).toNat < (r : Int).toNat
        rw [e1]
        omega
    · have hr : r = 0 := by
        have : ¬ (0 : Int) < r := fun z => hc (decide_eq_true z)
        omega
      subst hr
      refine ⟨_, rfl, ?_⟩
      rw [Mt.pop_zero] at e
      have e' : c = Mt.pop n := by omega
      rw [e']
      exact k
theorem ok_has_bit_above (T : Txt K mg) (D : HasDef K mg "has_bit_above" s_has_bit_above ["hands"]) : Ok P w K mg base 1 "has_bit_above" ["hands"] (spHands K (fun _ => True) fun l => .bl (l.any fun n => decide (0 < n / 2 ^ 52))) := by
  refine D.ok sc_has_bit_above (fun vs H Q E h => ?_) (fun f cdv A outer s H vs Q E hr h => ?_)
  · obtain ⟨a, l, rfl, _⟩ := h
    rfl
  · obtain ⟨a, l, rfl, hS, hl, hp, k⟩ := h
    dsimp only at k
    refine ⟨_, (pss_one (ps_ret (pe_callB (cr_any rfl) (by rfl) T.n_any boot_any5 (pa_cons (pe_lc rfl sc_has_bit_above.nd (pi_list (pv 0)) (blkOk_by (own := [("hand", 1)]) (show blkC ["hands", "hand"] (defScope s_has_bit_above) _ [("hand", 1)] = true by decide +kernel)) (fun _ _ _ _ _ => (pg_name (i := 1) sc_has_bit_above.nd rfl (Or.inl rfl))) (fun _ _ _ _ _ => pts_nil) (fun _ _ _ _ _ => (pe_cmpR op_gt (pe_op op_shr (pv 1) (pe_globI T.c_CARDS)) pe_int (nomark _)))) pa_nil)))), ?_⟩
    refine ⟨_, rfl, a, rfl, ⟨_, hS⟩, ?_⟩
    refine comp_list (fun z => .bl (decide (0 < z / 2 ^ 52))) hS (by rw [List.length_map, hl]; decide) (fun z => by rfl) (fun z hz H' Q' _ q => ?_) (fun p H' hp h1 h2 => ?_)
    · exact ⟨_, rfl, _, _, rfl, rfl, (by show (0 : Int) ≤ 52; decide), _, _, rfl, rfl, q H' Same.rfl'⟩
    · refine ⟨p, (l.map Int.ofNat).map fun z => decide (0 < z / 2 ^ 52), rfl, SqL.of (by rw [h1]; simp only [List.map_map]; rfl), ?_⟩
      have e : (((l.map Int.ofNat).map fun z => decide (0 < z / 2 ^ 52)).any id) = l.any fun n => decide (0 < n / 2 ^ 52) := by
        rw [List.map_map, List.any_map]
        congr 1
        funext n
        show decide (0 < (n : Int) / 2 ^ 52) = decide (0 < n / 2 ^ 52)
        apply decide_eq_decide.mpr
        omega
      rw [e]
      exact k H' h2
theorem ok_has_card_twice (T : Txt K mg) (D : HasDef K mg "has_card_twice" s_has_card_twice ["hands"]) : Ok P w K mg base 1 "has_card_twice" ["hands"] (spHands K (fun _ => True) fun l => .bl (Mt.twice 0 l)) := by
  refine D.ok sc_has_card_twice (fun vs H Q E h => ?_) (fun f cdv A outer s H vs Q E hr h => ?_)
  · obtain ⟨a, l, rfl, _⟩ := h
    rfl
  · obtain ⟨a, l, rfl, hS, hl, hp, k⟩ := h
    dsimp only at k
    refine ⟨_, (pss_cons (ps_set (i := 1) sc_has_card_twice.nd rfl (Or.inl rfl) pe_int)
      (pss_cons (ps_for PassesOwn.never rfl (pi_list (pv 0)) (pg_name (i := 2) sc_has_card_twice.nd rfl (Or.inl rfl))
      (pss_cons (ps_if (pt_cmpR op_ne (pe_op op_and (pv 1) (pv 2)) pe_int (nomark _))
      (pss_one (ps_ret pe_bl)) pss_nil)
      (pss_one (ps_set (i := 1) sc_has_card_twice.nd rfl (Or.inl rfl) (pe_op op_or (pv 1) (pv 2))))))
      (pss_one (ps_ret pe_bl)))), ?_⟩
    refine ⟨_, rfl, a, rfl, ⟨_, hS⟩, for_list (K := K) (a := a) (xs := (l.map Int.ofNat).map V.int) (fun i σ H' => H' = H ∧ ∃ (v : Option V) (m : Nat), σ = [some (.ref a), some (.int m), v] ∧ Mt.twice 0 l = Mt.twice m (l.drop i)) ⟨rfl, none, 0, rfl, rfl⟩
      (fun i σ H' _ ⟨e, _⟩ => by rw [e]; exact hS) ?_ ?_⟩
    · rintro i y σ H' hi ⟨rfl, v, m, rfl, e⟩
      obtain ⟨z, hz, rfl⟩ := map_int_at hi
      rw [List.getElem?_map] at hz
      obtain ⟨n, hn, rfl⟩ : ∃ n, l[i]? = some n ∧ z = Int.ofNat n := by
        cases q : l[i]? with
        | none => rw [q] at hz; cases hz
        | some n => rw [q] at hz; exact ⟨n, rfl, (Option.some.inj hz).symm⟩
      have hd : l.drop i = n :: l.drop (i + 1) := by
        obtain ⟨h1, h2⟩ := List.getElem?_eq_some_iff.mp hn
        rw [List.drop_eq_getElem_cons h1, h2]
      rw [hd] at e
      refine ⟨_, rfl, _, rfl, _, _, rfl, rfl, rfl, _, rfl, ite2 (fun hc => ?_) (fun hc => ?_)⟩
      · have h1 : (m &&& n != 0) = true := by
          have : ¬ V.int (Builtin.bitAnd (m : Int) (n : Int)) = V.int 0 := by simpa using hc
          rw [andN] at this
          rw [bne_iff_ne]
          intro z
          exact this (by rw [z]; rfl)
        have e1 : Mt.twice m (n :: l.drop (i + 1)) = true := by
          show (if (m &&& n != 0) = true then true else _) = true
          rw [if_pos h1]
        rw [e1] at e
        have := k H' Same.rfl'
        rw [e] at this
        exact this
      · have h1 : ¬ (m &&& n != 0) = true := by
          have : V.int (Builtin.bitAnd (m : Int) (n : Int)) = V.int 0 := by simpa using hc
          rw [andN] at this
          have h2 := V.int.inj this
          simp only [bne_iff_ne, ne_eq, Decidable.not_not]
          omega
        have e1 : Mt.twice m (n :: l.drop (i + 1)) = Mt.twice (m ||| n) (l.drop (i + 1)) := by
          show (if (m &&& n != 0) = true then true else _) = _
          rw [if_neg h1]
        refine ⟨_, rfl, _, rfl, _, _, rfl, rfl, rfl, some (.int (n : Int)), m ||| n, ?_, e.trans e1⟩
        show [some (V.ref a), some (V.int (Builtin.bitOr (m : Int) (n : Int))), some (V.int (n : Int))] = _
        rw [orN]
    · rintro σ H' ⟨rfl, v, m, rfl, e⟩
      have hz : l.drop ((l.map Int.ofNat).map V.int).length = [] := by simp
      rw [hz] at e
      have := k H' Same.rfl'
      rw [e] at this
      exact this
theorem ok_has_unequal_hands (T : Txt K mg) (D : HasDef K mg "has_unequal_hands" s_has_unequal_hands ["hands"]) (O_card_count : Ok P w K mg base 1 "card_count" ["hand"] spCC) :
    Ok P w K mg base 2 "has_unequal_hands" ["hands"] (spHands K (fun l => ∀ n ∈ l, n < 2 ^ 52) fun l => .bl (Oh.uneven l)) := by
  refine D.ok sc_has_unequal_hands (fun vs H Q E h => ?_) (fun f cdv A outer s H vs Q E hr h => ?_)
  · obtain ⟨a, l, rfl, _⟩ := h
    rfl
  · obtain ⟨a, l, rfl, hS, hl, hp, k⟩ := h
    dsimp only at k
    refine ⟨_, (pss_cons (ps_setLc (i := 1) rfl sc_has_unequal_hands.nd rfl rfl rfl (pi_list (pv 0)) (blkOk_by (own := [("hand", 2)]) (show blkC ["hands", "sizes", "hand"] (defScope s_has_unequal_hands) _ [("hand", 2)] = true by decide +kernel)) (fun _ _ _ _ _ => (pg_name (i := 2) sc_has_unequal_hands.nd rfl (Or.inl rfl))) (fun _ _ _ _ _ => pts_nil) (fun _ _ _ _ _ => (pe_co O_card_count (hr.mono (by first | decide | omega)) (pa_cons (pv 2) pa_nil))))
      (pss_one (ps_ret (pe_cmpR op_ne (pe_callB (cr_min rfl) (by rfl) T.n_min boot_min5 (pa_cons (pv 1) pa_nil)) (pe_callB (cr_max rfl) (by rfl) T.n_max boot_max5 (pa_cons (pv 1) pa_nil)) (nomark _))))), ?_⟩
    refine ⟨_, rfl, a, rfl, ⟨_, hS⟩, ?_⟩
    refine comp_list (fun z => .int (Mt.pop z.toNat)) hS (by rw [List.length_map, hl]; decide) (fun z => by rfl) (fun z hz H' Q' _ q => ?_) (fun p H' hp' h1 h2 => ?_)
    · obtain ⟨n, _, rfl⟩ := List.mem_map.mp hz
      exact ⟨_, rfl, n, rfl, q H' Same.rfl'⟩
    · have e : (l.map Int.ofNat).map (fun z => V.int (Mt.pop z.toNat)) = (l.map fun n => (Mt.pop n : Int)).map V.int := by
        rw [List.map_map, List.map_map]
        rfl
      rw [e] at h1
      have hpos : 0 < (l.map fun n => (Mt.pop n : Int)).length := by rw [List.length_map, hl]; decide
      refine ⟨_, rfl, p, _, rfl, SqL.of h1, hpos, fun m m1 m2 => ⟨_, rfl, p, _, rfl, SqL.of h1, hpos, fun M M1 M2 => ⟨rfl, ?_⟩⟩⟩
      have e2 := Mt.uneven_eq l hl hp m1 m2 M1 M2
      have e3 : (!decide (V.int m = V.int M)) = Oh.uneven l := by
        rw [e2]
        congr 1
        apply decide_eq_decide.mpr
        exact ⟨fun z => V.int.inj z, fun z => by rw [z]⟩
      rw [e3]
      exact k H' h2
theorem ok_deal_fault (T : Txt K mg) (D : HasDef K mg "deal_fault" s_deal_fault ["hands"]) (O_has_bit_above : Ok P w K mg base 1 "has_bit_above" ["hands"] (spHands K (fun _ => True) fun l => .bl (l.any fun n => decide (0 < n / 2 ^ 52))))
    (O_has_card_twice : Ok P w K mg base 1 "has_card_twice" ["hands"] (spHands K (fun _ => True) fun l => .bl (Mt.twice 0 l)))
    (O_has_unequal_hands : Ok P w K mg base 2 "has_unequal_hands" ["hands"] (spHands K (fun l => ∀ n ∈ l, n < 2 ^ 52) fun l => .bl (Oh.uneven l))) :
    Ok P w K mg base 3 "deal_fault" ["hands"] (spHands K (fun _ => True) fun l => .int (Oh.fault l)) := by
  refine D.ok sc_deal_fault (fun vs H Q E h => ?_) (fun f cdv A outer s H vs Q E hr h => ?_)
  · obtain ⟨a, l, rfl, _⟩ := h
    rfl
  · obtain ⟨a, l, rfl, hS, hl, _, k⟩ := h
    dsimp only at k
    rw [Mt.fault_eq l hl] at k
    unfold Mt.faultN at k
    refine ⟨_, (pss_cons (ps_if (pt_val (pe_co O_has_bit_above (hr.mono (by first | decide | omega)) (pa_cons (pv 0) pa_nil)))
      (pss_one (ps_ret pe_int)) pss_nil)
      (pss_cons (ps_if (pt_val (pe_co O_has_card_twice (hr.mono (by first | decide | omega)) (pa_cons (pv 0) pa_nil)))
      (pss_one (ps_ret pe_int)) pss_nil)
      (pss_cons (ps_if (pt_val (pe_co O_has_unequal_hands (hr.mono (by first | decide | omega)) (pa_cons (pv 0) pa_nil)))
      (pss_one (ps_ret pe_int)) pss_nil)
      (pss_one (ps_ret pe_int))))), ?_⟩
    refine ⟨_, rfl, a, l, rfl, hS, hl, trivial, fun H1 s1 => ⟨_, rfl, ite2 (fun c1 => ?_) (fun c1 => ?_)⟩⟩
    · rw [if_pos c1] at k
      exact k H1 s1
    rw [if_neg c1] at k
    refine ⟨_, rfl, a, l, rfl, s1.seq hS, hl, trivial, fun H2 s2 => ⟨_, rfl, ite2 (fun c2 => ?_) (fun c2 => ?_)⟩⟩
    · rw [if_pos c2] at k
      exact k H2 (s1.trans s2)
    rw [if_neg c2] at k
    have hlow : ∀ n ∈ l, n < 2 ^ 52 := fun n hn => by
      have : ¬ 0 < n / 2 ^ 52 := fun y => c1 (List.any_eq_true.mpr ⟨n, hn, decide_eq_true y⟩)
      omega
    refine ⟨_, rfl, a, l, rfl, (s1.trans s2).seq hS, hl, hlow, fun H3 s3 => ⟨_, rfl, ite2 (fun c3 => ?_) (fun c3 => ?_)⟩⟩
    · rw [if_pos c3] at k
      exact k H3 ((s1.trans s2).trans s3)
    · rw [if_neg c3] at k
      exact k H3 ((s1.trans s2).trans s3)
theorem ok_is_deal (T : Txt K mg) (D : HasDef K mg "is_deal" s_is_deal ["hands"]) (O_deal_fault : Ok P w K mg base 3 "deal_fault" ["hands"] (spHands K (fun _ => True) fun l => .int (Oh.fault l))) :
    Ok P w K mg base 4 "is_deal" ["hands"] (spHands K (fun _ => True) fun l => .bl (decide (Oh.fault l = 0))) := by
  refine D.ok sc_is_deal (fun vs H Q E h => ?_) (fun f cdv A outer s H vs Q E hr h => ?_)
  · obtain ⟨a, l, rfl, _⟩ := h
    rfl
  · obtain ⟨a, l, rfl, hS, hl, _, k⟩ := h
    dsimp only at k
    refine ⟨_, (pss_one (ps_ret (pe_cmpR op_eq (pe_co O_deal_fault (hr.mono (by first | decide | omega)) (pa_cons (pv 0) pa_nil)) pe_int (nomark _)))), ?_⟩
    refine ⟨_, rfl, a, l, rfl, hS, hl, trivial, fun H1 s1 => ⟨rfl, ?_⟩⟩
    have e : decide (V.int (Oh.fault l : Int) = V.int 0) = decide (Oh.fault l = 0) := by
      apply decide_eq_decide.mpr
      constructor
      · intro z
        have := V.int.inj z
        omega
      · intro z
        rw [z]
        rfl
    rw [e]
    exact k H1 s1
theorem ok_holds (D : HasDef K mg "holds" s_holds ["hand", "card"]) : Ok P w K mg base 1 "holds" ["hand", "card"] spHolds := by
  refine D.ok sc_holds (fun vs H Q E h => ?_) (fun f cdv A outer s H vs Q E hr h => ?_)
  · obtain ⟨n, c, rfl, _⟩ := h
    rfl
  · obtain ⟨n, c, rfl, k⟩ := h
    refine ⟨_, (pss_one (ps_ret (pe_cmpR op_eq (pe_op op_and (pe_op op_shr (pv 0) (pv 1)) pe_int) pe_int (nomark _)))), ?_⟩
    refine ⟨_, rfl, _, rfl, _, _, rfl, rfl, Int.natCast_nonneg c, _, _, rfl, rfl, rfl, ?_⟩
    rw [bit_test]
    exact k
theorem ok_suit_of (T : Txt K mg) (D : HasDef K mg "suit_of" s_suit_of ["card"]) : Ok P w K mg base 1 "suit_of" ["card"] (sp1 fun c => .int (c / 13 : Nat)) := by
  refine D.ok sc_suit_of (fun vs H Q E h => ?_) (fun f cdv A outer s H vs Q E hr h => ?_)
  · obtain ⟨n, rfl, _⟩ := h
    rfl
  · obtain ⟨n, rfl, k⟩ := h
    refine ⟨_, (pss_one (ps_ret (pe_op op_fdiv (pv 0) (pe_globI T.c_RANKS)))), ?_⟩
    refine ⟨_, rfl, _, _, rfl, rfl, ⟨by decide, by decide⟩, ?_⟩
    have e : ((n : Int) / 13) = ((n / 13 : Nat) : Int) := by omega
    show Q (V.int ((n : Int) / 13)) H
    rw [e]
    exact k
theorem ok_cards_of_suit (T : Txt K mg) (D : HasDef K mg "cards_of_suit" s_cards_of_suit ["hand", "suit"]) : Ok P w K mg base 1 "cards_of_suit" ["hand", "suit"] (sp2 (fun _ t => t ≤ 1000) fun h t => .int (Mt.suitN h t : Nat)) := by
  refine D.ok sc_cards_of_suit (fun vs H Q E h => ?_) (fun f cdv A outer s H vs Q E hr h => ?_)
  · obtain ⟨m, n, rfl, _⟩ := h
    rfl
  · obtain ⟨m, n, rfl, hn, k⟩ := h
    refine ⟨_, (pss_one (ps_ret (pe_op op_and (pv 0) (pe_op op_shl (pe_globI T.c_WHOLE_SUIT) (pe_op op_mul (pe_globI T.c_RANKS) (pv 1)))))), ?_⟩
    refine ⟨_, rfl, _, rfl, _, _, rfl, rfl, .inl ⟨by decide, by decide⟩, _, _, rfl, rfl, ⟨by omega, by omega, by decide⟩, _, _, rfl, rfl, ?_⟩
    show Q (V.int (Builtin.bitAnd (m : Int) (8191 * 2 ^ (13 * (n : Int)).toNat))) H
    have e1 : (13 * (n : Int)).toNat = 13 * n := by omega
    have e2 : (8191 : Int) * 2 ^ (13 * n) = ((8191 * 2 ^ (13 * n) : Nat) : Int) := by
      rw [two_pow_cast]
      exact (Int.natCast_mul _ _).symm
    rw [e1, e2, andN]
    exact k
theorem ok_player_at (T : Txt K mg) (D : HasDef K mg "player_at" s_player_at ["leader", "place"]) : Ok P w K mg base 1 "player_at" ["leader", "place"] (sp2 (fun _ _ => True) fun l i => .int ((l + i) % 4 : Nat)) := by
  refine D.ok sc_player_at (fun vs H Q E h => ?_) (fun f cdv A outer s H vs Q E hr h => ?_)
  · obtain ⟨m, n, rfl, _⟩ := h
    rfl
  · obtain ⟨m, n, rfl, _, k⟩ := h
    refine ⟨_, (pss_one (ps_ret (pe_op op_mod (pe_op op_add (pv 0) (pv 1)) (pe_globI T.c_PLAYERS)))), ?_⟩
    refine ⟨_, rfl, _, rfl, _, _, rfl, rfl, _, _, rfl, rfl, (by show (0 : Int) < 4; decide), ?_⟩
    show Q (V.int (((m : Int) + (n : Int)) % 4)) H
    have e : (((m : Int) + (n : Int)) % 4) = (((m + n) % 4 : Nat) : Int) := by omega
    rw [e]
    exact k
theorem ok_are_different_cards (T : Txt K mg) (D : HasDef K mg "are_different_cards" s_are_different_cards ["cards"]) : Ok P w K mg base 1 "are_different_cards" ["cards"] (spDC K) := by
  refine D.ok sc_are_different_cards (fun vs H Q E h => ?_) (fun f cdv A outer s H vs Q E hr h => ?_)
  · obtain ⟨b, t, rfl, _⟩ := h
    rfl
  · obtain ⟨b, t, rfl, hT, hl, k⟩ := h
    refine ⟨_, (pss_one (ps_ret (pe_and (pe_callB (cr_all rfl) (by rfl) T.n_all boot_all5 (pa_cons (pe_lc rfl sc_are_different_cards.nd (pi_list (pv 0)) (blkOk_by (own := [("card", 1)]) (show blkC ["cards", "card"] (defScope s_are_different_cards) _ [("card", 1)] = true by decide +kernel)) (fun _ _ _ _ _ => (pg_name (i := 1) sc_are_different_cards.nd rfl (Or.inl rfl))) (fun _ _ _ _ _ => pts_nil) (fun _ _ _ _ _ => (pe_cmpR op_lt (pv 1) (pe_globI T.c_CARDS) (nomark _)))) pa_nil)) (pe_one (pe_cmpR op_eq (pe_callB call_len_set5 (by rfl) T.n_len PySem.boot_len (pa_cons (pe_callTy (call_set_of rfl) (by rfl) T.n_set boot_set5 (pa_cons (pv 0) pa_nil)) pa_nil)) (pe_callB call_len_seq (by rfl) T.n_len PySem.boot_len (pa_cons (pv 0) pa_nil)) (nomark _)))))), ?_⟩
    refine ⟨_, rfl, b, rfl, ⟨_, hT⟩, ?_⟩
    refine comp_list (fun z => .bl (decide (z < 52))) hT (by rw [List.length_map]; exact small_line (by omega)) (fun z => by rfl) (fun z hz H' Q' _ q => ?_) (fun p H' hp h1 h2 => ?_)
    · exact ⟨_, rfl, _, _, rfl, rfl, q H' Same.rfl'⟩
    · refine ⟨p, (t.map Int.ofNat).map fun z => decide (z < 52), rfl, SqL.of (by rw [h1]; simp only [List.map_map]; rfl), _, rfl, ite2 (fun c1 => ?_) (fun c1 => ?_)⟩
      · have a1 : ∀ c ∈ t, c < 52 := fun c hc => by
          rw [List.map_map, List.all_map, List.all_eq_true] at c1
          have := of_decide_eq_true (c1 c hc)
          show c < 52
          have e : (Int.ofNat c) = (c : Int) := rfl
          omega
        refine ⟨_, rfl, b, t.map Int.ofNat, rfl, h2.seq hT, by rw [List.length_map]; omega, fun r S hr => ⟨r, S, _, rfl, upd_same, _, rfl, b, _, rfl, .inl ((h2.nw hr).seq hT), rfl, ?_⟩⟩
        have e : decide (V.int (((t.map Int.ofNat).foldl step_dedup []).length : Nat) = V.int (((t.map Int.ofNat).map V.int).length : Nat)) = Mt.diffN t := by
          unfold Mt.diffN
          apply decide_eq_decide.mpr
          rw [len_nats]
          constructor
          · intro z
            have z1 := V.int.inj z
            have z2 : (Mt.firstsOf (t.map Int.ofNat)).length = t.length := by
              show ((t.map Int.ofNat).foldl step_dedup []).length = t.length
              omega
            exact ⟨a1, (Mt.firsts_len t).mp z2⟩
          · rintro ⟨_, z⟩
            have z2 := (Mt.firsts_len t).mpr z
            have z3 : ((t.map Int.ofNat).foldl step_dedup []).length = t.length := z2
            rw [z3]
        rw [e]
        exact k _ (h2.nw hr)
      · have e : Mt.diffN t = false := by
          unfold Mt.diffN
          apply decide_eq_false
          rintro ⟨z, _⟩
          apply c1
          rw [List.map_map, List.all_map, List.all_eq_true]
          intro c hc
          have := z c hc
          show decide ((Int.ofNat c) < 52) = true
          apply decide_eq_true
          have e : (Int.ofNat c) = (c : Int) := rfl
          omega
        rw [← e]
        exact k _ h2
theorem ok_are_in_no_hand (T : Txt K mg) (D : HasDef K mg "are_in_no_hand" s_are_in_no_hand ["cards", "hands"]) (O_holds : Ok P w K mg base 1 "holds" ["hand", "card"] spHolds) : Ok P w K mg base 2 "are_in_no_hand" ["cards", "hands"] (spNH K) := by
  refine D.ok sc_are_in_no_hand (fun vs H Q E h => ?_) (fun f cdv A outer s H vs Q E hr h => ?_)
  · obtain ⟨b, a, t, l, rfl, _⟩ := h
    rfl
  · obtain ⟨b, a, t, l, rfl, hT, hl, hS, h4, k⟩ := h
    obtain ⟨x, y, z, u, rfl⟩ := Mt.four_of h4
    refine ⟨_, (pss_cons (ps_set (i := 2) sc_are_in_no_hand.nd rfl (Or.inr rfl) (pe_op op_or (pe_op op_or (pe_op op_or (pe_ix ix_list (pv 1) pe_int (fun _ _ => rfl)) (pe_ix ix_list (pv 1) pe_int (fun _ _ => rfl))) (pe_ix ix_list (pv 1) pe_int (fun _ _ => rfl))) (pe_ix ix_list (pv 1) pe_int (fun _ _ => rfl))))
      (pss_one (ps_ret (pe_not (pe_callB (cr_any rfl) (by rfl) T.n_any boot_any5 (pa_cons (pe_lc rfl sc_are_in_no_hand.nd (pi_list (pv 0)) (blkOk_by (own := [("card", 3)]) (show blkC ["cards", "hands", "held", "card"] (defScope s_are_in_no_hand) _ [("card", 3)] = true by decide +kernel)) (fun _ _ _ _ _ => (pg_name (i := 3) sc_are_in_no_hand.nd rfl (Or.inl rfl))) (fun _ _ _ _ _ => pts_nil) (fun _ _ _ _ _ => (pe_co O_holds (hr.mono (by first | decide | omega)) (pa_cons (pv 2) (pa_cons (pv 3) pa_nil))))) pa_nil)))))), ?_⟩
    refine ⟨_, rfl, a, _, _, _, rfl, rfl, hS, atI_nats (j := 0) rfl (by show 0 < 4; decide), _, rfl, a, _, _, _, rfl, rfl, hS, atI_nats (j := 1) rfl (by show 1 < 4; decide), _, _, rfl, rfl,
      _, rfl, a, _, _, _, rfl, rfl, hS, atI_nats (j := 2) rfl (by show 2 < 4; decide), _, _, rfl, rfl, _, rfl, a, _, _, _, rfl, rfl, hS, atI_nats (j := 3) rfl (by show 3 < 4; decide), _, _, rfl, rfl, ?_⟩
    refine ⟨_, rfl, b, rfl, ⟨_, hT⟩, ?_⟩
    refine comp_list (fun c => .bl ((((x ||| y) ||| z) ||| u).testBit c.toNat)) hT (by rw [List.length_map]; exact small_line (by omega)) (fun z => by rfl) (fun c hc H' Q' _ q => ?_) (fun p H' hp h1 h2 => ?_)
    · obtain ⟨n, _, rfl⟩ := List.mem_map.mp hc
      refine ⟨_, rfl, _, rfl, (((x ||| y) ||| z) ||| u), n, ?_, q H' Same.rfl'⟩
      show [V.int (Builtin.bitOr (Builtin.bitOr (Builtin.bitOr (x : Int) (y : Int)) (z : Int)) (u : Int)), V.int n] = _
      rw [orN, orN, orN]
    · refine ⟨p, (t.map Int.ofNat).map fun c => (((x ||| y) ||| z) ||| u).testBit c.toNat, rfl, SqL.of (by rw [h1]; simp only [List.map_map]; rfl), _, rfl, ?_⟩
      have e : (!(((t.map Int.ofNat).map fun c => (((x ||| y) ||| z) ||| u).testBit c.toNat).any id)) = Mt.apartN [x, y, z, u] t := by
        rw [Mt.apart_eq, List.map_map, List.any_map]
        rfl
      rw [e]
      exact k _ h2
theorem ok_hands_with_trick_back (T : Txt K mg) (D : HasDef K mg "hands_with_trick_back" s_hands_with_trick_back ["leader", "hands", "trick"]) (O_player_at : Ok P w K mg base 1 "player_at" ["leader", "place"] (sp2 (fun _ _ => True) fun l i => .int ((l + i) % 4 : Nat))) : Ok P w K mg base 2 "hands_with_trick_back" ["leader", "hands", "trick"] (spTB K) := by
  refine D.ok sc_hands_with_trick_back (fun vs H Q E h => ?_) (fun f cdv A outer s H vs Q E hr h => ?_)
  · obtain ⟨a, b, l, t, ld, rfl, _⟩ := h
    rfl
  · obtain ⟨a, b, l, t, ld, rfl, hS, h4, hT, h3, h52, hld, k⟩ := h
    refine ⟨_, (pss_cons (ps_set (i := 3) sc_hands_with_trick_back.nd rfl (Or.inl rfl) (pe_callTy call_list_of (by rfl) T.n_list boot_list5 (pa_cons (pv 1) pa_nil)))
      (pss_cons (ps_for PassesOwn.never rfl (pi_enum rfl T.n_enumerate (pa_cons (pv 2) pa_nil)) (pg_two K (i := 4) (j := 5) rfl rfl sc_hands_with_trick_back.nd rfl (Or.inl rfl) rfl (Or.inl rfl))
      (pss_one (ps_augS (pv 3) (pe_co O_player_at (hr.mono (by first | decide | omega)) (pa_cons (pv 0) (pa_cons (pv 4) pa_nil))) get_list (pe_op op_shl pe_int (pv 5)) (pip_of iop_or) set_list)))
      (pss_one (ps_ret (pv 3))))), ?_⟩
    refine ⟨_, rfl, a, _, rfl, .inl hS, fun q hq => ?_⟩
    have s1 : Same H (upd H q (.lst ((l.map Int.ofNat).map V.int))) := Same.new hq
    refine ⟨_, rfl, b, _, rfl, s1.seq hT, ?_⟩
    refine for_enum (K := K) (a := b) (xs := (t.map Int.ofNat).map V.int) (fun i σ H' => Same H H' ∧ H' q = some (.lst (((Mt.backU l ld t i).map Int.ofNat).map V.int)) ∧ ∃ u1 u2 : Option V, σ = [some (.int ld), some (.ref a), some (.ref b), some (.ref q), u1, u2])
      ⟨s1, by rw [Mt.backU_zero h4]; exact upd_same, none, none, rfl⟩ (fun i σ H' _ z => z.1.seq hT) ?_ ?_
    · rintro i y σ H' T' hi ⟨s2, h1, u1, u2, rfl⟩ hT'
      obtain ⟨c, hc, rfl⟩ := nats_at hi
      have hil : i < t.length := (List.getElem?_eq_some_iff.mp hc).1
      have hcm : c < 52 := h52 c (List.mem_of_getElem? hc)
      have hcd : t.getD i 0 = c := by rw [List.getD_eq_getElem?_getD, hc]; rfl
      have hm : (ld + i) % 4 < 4 := by omega
      have h1' : upd H' T' (.tup [V.int (i : Nat), V.int (c : Int)]) q = some (.lst (((Mt.backU l ld t i).map Int.ofNat).map V.int)) := (Same.new hT') _ _ h1
      have s2' : Same H (upd H' T' (.tup [V.int (i : Nat), V.int (c : Int)])) := s2.nw hT'
      have hbl := Mt.backU_len l ld t i
      refine ⟨_, rfl, _, rfl, _, rfl, ld, i, rfl, trivial, q, _, _, _, rfl, rfl, SqL.of h1', atI_nats (j := (ld + i) % 4) rfl (by rw [hbl]; exact hm), _, rfl, _, _, rfl, rfl, ⟨by omega, by omega, by decide⟩, _, _, rfl, rfl, q, _, _, (ld + i) % 4, rfl, rfl, h1', ixN_nat (by rw [len_nats, hbl]; exact hm), s2'.grow hq, ?_, _, _, rfl⟩
      rw [upd_same, Mt.backU_succ l hld t (by omega), hcd, List.map_set, List.map_set]
      congr 3
      show V.int (Builtin.bitOr (((Mt.backU l ld t i).getD ((ld + i) % 4) 0 : Nat) : Int) (1 * 2 ^ (c : Int).toNat)) = V.int (((Mt.backU l ld t i).getD ((ld + i) % 4) 0 ||| 2 ^ c : Nat) : Int)
      rw [Int.one_mul, Int.toNat_natCast, two_pow_cast, orN]
    · rintro σ H' ⟨s2, h1, u1, u2, rfl⟩
      rw [len_nats] at h1
      exact ⟨_, rfl, k q H' hq h1 s2⟩
theorem ok_all_followed (T : Txt K mg) (D : HasDef K mg "all_followed" s_all_followed ["leader", "hands", "trick"]) (O_suit_of : Ok P w K mg base 1 "suit_of" ["card"] (sp1 fun c => .int (c / 13 : Nat))) (O_cards_of_suit : Ok P w K mg base 1 "cards_of_suit" ["hand", "suit"] (sp2 (fun _ t => t ≤ 1000) fun h t => .int (Mt.suitN h t : Nat)))
    (O_player_at : Ok P w K mg base 1 "player_at" ["leader", "place"] (sp2 (fun _ _ => True) fun l i => .int ((l + i) % 4 : Nat))) : Ok P w K mg base 2 "all_followed" ["leader", "hands", "trick"] (spAF K) := by
  refine D.ok sc_all_followed (fun vs H Q E h => ?_) (fun f cdv A outer s H vs Q E hr h => ?_)
  · obtain ⟨a, b, l, t, ld, rfl, _⟩ := h
    rfl
  · obtain ⟨a, b, l, t, ld, rfl, hS, h4, hT, h3, h52, k⟩ := h
    refine ⟨_, (pss_cons (ps_for PassesOwn.never rfl (pi_range2 rfl T.n_range (pa_cons pe_int (pa_cons (pe_callB call_len_seq (by rfl) T.n_len PySem.boot_len (pa_cons (pv 2) pa_nil)) pa_nil))) (pg_name (i := 3) sc_all_followed.nd rfl (Or.inl rfl))
      (pss_cons (ps_set (i := 4) sc_all_followed.nd rfl (Or.inl rfl) (pe_co O_suit_of (hr.mono (by first | decide | omega)) (pa_cons (pe_ix ix_list (pv 2) pe_int (fun _ _ => rfl)) pa_nil)))
      (pss_one (ps_if (pw_and (pt_cmpR op_ne (pe_co O_suit_of (hr.mono (by first | decide | omega)) (pa_cons (pe_ix ix_list (pv 2) (pv 3) (fun _ _ => rfl)) pa_nil)) (pv 4) (nomark _)) (pw_and1 (pt_cmpR op_ne (pe_co O_cards_of_suit (hr.mono (by first | decide | omega)) (pa_cons (pe_ix ix_list (pv 1) (pe_co O_player_at (hr.mono (by first | decide | omega)) (pa_cons (pv 0) (pa_cons (pv 3) pa_nil))) (fun _ _ => rfl)) (pa_cons (pv 4) pa_nil))) pe_int (nomark _)))).pt
      (pss_one (ps_ret pe_bl)) pss_nil))))
      (pss_one (ps_ret pe_bl))), ?_⟩
    refine ⟨_, rfl, b, _, rfl, .inl hT, 1, (((t.map Int.ofNat).map V.int).length : Nat), rfl, ⟨by decide, by decide, by rw [len_nats]; omega, by rw [len_nats]; omega⟩, ?_⟩
    have en : ((((t.map Int.ofNat).map V.int).length : Nat) - (1 : Int)).toNat = t.length - 1 := by rw [len_nats]; omega
    rw [en]
    refine for_range (lo := 1) (n := t.length - 1) (fun i σ H' => H' = H ∧ (∀ j, 1 ≤ j → j < i + 1 → Mt.folAt ⟨l, 0, ld, t⟩ j = true) ∧ ∃ u1 u2 : Option V, σ = [some (.int ld), some (.ref a), some (.ref b), u1, u2]) ⟨rfl, fun j h1 h2 => by omega, none, none, rfl⟩ ?_ ?_
    · rintro i σ H' hi ⟨rfl, hf, u1, u2, rfl⟩
      have hcd : ∀ j, j < t.length → t.getD j 0 < 52 := fun j hj => h52 _ (Mt.getD_mem' hj)
      have e0 : t.getD 0 0 = t.headD 0 := by cases t <;> rfl
      have hled : t.getD 0 0 / 13 < 4 := by
        have := hcd 0 (by omega)
        omega
      have hfe := Mt.folAt_eq ⟨l, 0, ld, t⟩ (i + 1) (by show t.headD 0 / 13 < 4; rw [← e0]; exact hled)
      have hfe' : Mt.folAt ⟨l, 0, ld, t⟩ (i + 1) = (decide (t.getD (i + 1) 0 / 13 = t.getD 0 0 / 13) || decide (Mt.suitN (l.getD ((ld + (i + 1)) % 4) 0) (t.getD 0 0 / 13) = 0)) := by
        rw [hfe]
        show (decide (t.getD (i + 1) 0 / 13 = t.headD 0 / 13) || decide (Mt.suitN (l.getD ((ld + (i + 1)) % 4) 0) (t.headD 0 / 13) = 0)) = _
        rw [e0]
      have ei : (1 : Int) + (i : Int) = ((i + 1 : Nat) : Int) := by omega
      rw [ei]
      have nxt : Mt.folAt ⟨l, 0, ld, t⟩ (i + 1) = true → ∀ j, 1 ≤ j → j < i + 1 + 1 → Mt.folAt ⟨l, 0, ld, t⟩ j = true := fun z j h1 h2 => by
        by_cases q : j = i + 1
        · rw [q]; exact z
        · exact hf j h1 (by omega)
      refine ⟨_, rfl, b, _, _, _, rfl, rfl, hT, atI_nats (j := 0) rfl (by omega), t.getD 0 0, rfl, ?_⟩
      refine ⟨_, rfl, _, rfl, b, _, _, _, rfl, rfl, hT, atI_nats (j := i + 1) rfl (by omega), t.getD (i + 1) 0, rfl, _, rfl, rfl, _, rfl, ite2 (fun c1 => ?_) (fun c1 => ?_)⟩
      · have d1 : ¬ t.getD (i + 1) 0 / 13 = t.getD 0 0 / 13 := fun z => ne_of_nd c1 (by
          show V.int (t.getD (i + 1) 0 / 13 : Nat) = V.int (t.getD 0 0 / 13 : Nat)
          rw [z])
        refine ⟨_, rfl, _, rfl, _, rfl, ld, i + 1, rfl, trivial, a, _, _, _, rfl, rfl, hS, atI_nats (j := (ld + (i + 1)) % 4) rfl (by omega), _, rfl, l.getD ((ld + (i + 1)) % 4) 0, t.getD 0 0 / 13, rfl, by omega, rfl, _, rfl, ite2 (fun c2 => ?_) (fun c2 => ?_)⟩
        · have d2 : ¬ Mt.suitN (l.getD ((ld + (i + 1)) % 4) 0) (t.getD 0 0 / 13) = 0 := fun z => ne_of_nd c2 (by
            show V.int (Mt.suitN (l.getD ((ld + (i + 1)) % 4) 0) (t.getD 0 0 / 13) : Nat) = V.int 0
            rw [z]
            rfl)
          have hb : Mt.folAt ⟨l, 0, ld, t⟩ (i + 1) = false := by
            rw [hfe', decide_eq_false d1, decide_eq_false d2]
            rfl
          have := k H' Same.rfl'
          rw [Mt.followed_not (p := ⟨l, 0, ld, t⟩) (i := i + 1) (by show i + 1 < t.length; omega) hb] at this
          exact this
        · have d2 : Mt.suitN (l.getD ((ld + (i + 1)) % 4) 0) (t.getD 0 0 / 13) = 0 := by
            have z : V.int (Mt.suitN (l.getD ((ld + (i + 1)) % 4) 0) (t.getD 0 0 / 13) : Nat) = V.int 0 := by simpa using c2
            have := V.int.inj z
            omega
          exact ⟨rfl, nxt (by rw [hfe', decide_eq_true d2, Bool.or_true]), _, _, rfl⟩
      · have d1 : t.getD (i + 1) 0 / 13 = t.getD 0 0 / 13 := by
          have z : V.int (t.getD (i + 1) 0 / 13 : Nat) = V.int (t.getD 0 0 / 13 : Nat) := by simpa using c1
          have := V.int.inj z
          omega
        exact iteF ⟨rfl, nxt (by rw [hfe', decide_eq_true d1, Bool.true_or]), _, _, rfl⟩
    · rintro σ H' ⟨rfl, hf, u1, u2, rfl⟩
      have := k H' Same.rfl'
      rw [Mt.followed_of (p := ⟨l, 0, ld, t⟩) (fun j h1 h2 => hf j h1 (by have : j < t.length := h2
                                                                          omega))] at this
      exact this
theorem ok_is_position (T : Txt K mg) (D : HasDef K mg "is_position" s_is_position ["strain", "leader", "hands", "trick"]) (O_are_different_cards : Ok P w K mg base 1 "are_different_cards" ["cards"] (spDC K)) (O_are_in_no_hand : Ok P w K mg base 2 "are_in_no_hand" ["cards", "hands"] (spNH K))
    (O_is_deal : Ok P w K mg base 4 "is_deal" ["hands"] (spHands K (fun _ => True) fun l => .bl (decide (Oh.fault l = 0)))) (O_hands_with_trick_back : Ok P w K mg base 2 "hands_with_trick_back" ["leader", "hands", "trick"] (spTB K)) (O_all_followed : Ok P w K mg base 2 "all_followed" ["leader", "hands", "trick"] (spAF K)) :
    Ok P w K mg base 5 "is_position" ["strain", "leader", "hands", "trick"] (spIP K) := by
  refine D.ok sc_is_position (fun vs H Q E h => ?_) (fun f cdv A outer s H vs Q E hr h => ?_)
  · obtain ⟨a, b, l, t, st, ld, rfl, _⟩ := h
    rfl
  · obtain ⟨a, b, l, t, st, ld, rfl, hS, h4, hT, h6, k⟩ := h
    rw [Mt.pos_ok ⟨l, st, ld, t⟩ h4] at k
    dsimp only at k
    have bad1 : ¬ (st ≤ 4 ∧ ld ≤ 3 ∧ t.length ≤ 3) → ∀ H', Same H H' → Q (.bl false) H' := fun z H' s' => by
      have := k H' s'
      rw [decide_eq_false z, Bool.false_and] at this
      exact this
    refine ⟨_, (pss_cons (ps_if (pw_or (pt_cmpR op_gt (pv 0) (pe_globI T.c_NO_TRUMPS) (nomark _)) (pw_or (pt_cmpR op_ge (pv 1) (pe_globI T.c_PLAYERS) (nomark _)) (pw_or1 (pt_cmpR op_ge (pe_callB call_len_seq (by rfl) T.n_len PySem.boot_len (pa_cons (pv 3) pa_nil)) (pe_globI T.c_PLAYERS) (nomark _))))).pt
      (pss_one (ps_ret pe_bl)) pss_nil)
      (pss_cons (ps_if (pw_or (pt_not (pt_val (pe_co O_are_different_cards (hr.mono (by first | decide | omega)) (pa_cons (pv 3) pa_nil)))) (pw_or1 (pt_not (pt_val (pe_co O_are_in_no_hand (hr.mono (by first | decide | omega)) (pa_cons (pv 3) (pa_cons (pv 2) pa_nil))))))).pt
      (pss_one (ps_ret pe_bl)) pss_nil)
      (pss_one (ps_ret (pe_and (pe_co O_is_deal (hr.mono (by first | decide | omega)) (pa_cons (pe_co O_hands_with_trick_back (hr.mono (by first | decide | omega)) (pa_cons (pv 1) (pa_cons (pv 2) (pa_cons (pv 3) pa_nil)))) pa_nil)) (pe_one (pe_co O_all_followed (hr.mono (by first | decide | omega)) (pa_cons (pv 1) (pa_cons (pv 2) (pa_cons (pv 3) pa_nil)))))))))), ?_⟩
    refine ⟨_, rfl, _, _, rfl, rfl, _, rfl, ite2 (fun c1 => ?_) (fun c1 => ?_)⟩
    · have := of_decide_eq_true c1
      exact iteT (bad1 (fun z => by omega) H Same.rfl')
    have d1 : st ≤ 4 := by
      have : ¬ (4 : Int) < st := fun z => c1 (decide_eq_true z)
      omega
    refine ⟨_, rfl, _, _, rfl, rfl, _, rfl, ite2 (fun c2 => ?_) (fun c2 => ?_)⟩
    · have := of_decide_eq_true c2
      exact iteT (bad1 (fun z => by omega) H Same.rfl')
    have d2 : ld ≤ 3 := by
      have : ¬ (4 : Int) ≤ ld := fun z => c2 (decide_eq_true z)
      omega
    refine ⟨_, rfl, b, _, rfl, .inl hT, _, _, rfl, rfl, _, rfl, ite2 (fun c3 => ?_) (fun c3 => ?_)⟩
    · have z3 := of_decide_eq_true c3
      rw [len_nats] at z3
      exact bad1 (fun z => by omega) H Same.rfl'
    have d3 : t.length ≤ 3 := by
      have z3 : ¬ (4 : Int) ≤ ((((t.map Int.ofNat).map V.int).length : Nat) : Int) := fun z => c3 (decide_eq_true z)
      rw [len_nats] at z3
      omega
    rw [decide_eq_true (show st ≤ 4 ∧ ld ≤ 3 ∧ t.length ≤ 3 from ⟨d1, d2, d3⟩), Bool.true_and] at k
    refine ⟨_, rfl, b, t, rfl, hT, h6, fun H1 s1 => ⟨_, rfl, ite2 (fun c4 => ?_) (fun c4 => ?_)⟩⟩
    · have e4 : Mt.diffN t = false := by simpa using c4
      rw [e4, Bool.false_and] at k
      exact iteT (k H1 s1)
    have e4 : Mt.diffN t = true := by simpa using c4
    rw [e4, Bool.true_and] at k
    refine ⟨_, rfl, _, rfl, b, a, t, l, rfl, s1.seq hT, h6, s1.seq hS, h4, fun H2 s2 => ⟨_, rfl, ite2 (fun c5 => ?_) (fun c5 => ?_)⟩⟩
    · have e5 : Mt.apartN l t = false := by simpa using c5
      rw [e5, Bool.false_and] at k
      exact k H2 (s1.trans s2)
    have e5 : Mt.apartN l t = true := by simpa using c5
    rw [e5, Bool.true_and] at k
    have h52 : ∀ c ∈ t, c < 52 := (of_decide_eq_true e4).1
    have s12 := s1.trans s2
    refine ⟨_, rfl, _, rfl, _, rfl, a, b, l, t, ld, rfl, s12.seq hS, h4, s12.seq hT, d3, h52, by omega, fun q H3 hq h3 s3 => ?_⟩
    refine ⟨q, Mt.backU l ld t t.length, rfl, SqL.of h3, Mt.backU_len _ _ _ _, trivial, fun H4 s4 => ⟨_, rfl, ite2 (fun c6 => ?_) (fun c6 => ?_)⟩⟩
    · rw [c6, Bool.true_and] at k
      have s14 := (s12.trans s3).trans s4
      exact ⟨_, rfl, _, rfl, _, rfl, a, b, l, t, ld, rfl, s14.seq hS, h4, s14.seq hT, d3, h52, fun H5 s5 => k H5 (s14.trans s5)⟩
    · have e6 : decide (Oh.fault (Mt.backU l ld t t.length) = 0) = false := by simpa using c6
      rw [e6, Bool.false_and] at k
      exact k H4 ((s12.trans s3).trans s4)
theorem ok_position_refusal (T : Txt K mg) (D : HasDef K mg "position_refusal" s_position_refusal ["strain", "leader", "hands", "trick"]) (O_is_position : Ok P w K mg base 5 "is_position" ["strain", "leader", "hands", "trick"] (spIP K)) :
    Ok P w K mg base 6 "position_refusal" ["strain", "leader", "hands", "trick"] (spRef K refP) := by
  refine D.ok sc_position_refusal (fun vs H Q E h => ?_) (fun f cdv A outer s H vs Q E hr h => ?_)
  · obtain ⟨a, b, l, t, st, ld, rfl, _⟩ := h
    rfl
  · obtain ⟨a, b, l, t, st, ld, rfl, hS, hT, h6, k⟩ := h
    unfold refP at k
    refine ⟨_, (pss_cons (ps_if (pt_cmpR op_ne (pe_callB call_len_seq (by rfl) T.n_len PySem.boot_len (pa_cons (pv 2) pa_nil)) (pe_globI T.c_PLAYERS) (nomark _))
      (pss_one (ps_ret (pe_un un_neg pe_int))) pss_nil)
      (pss_cons (ps_if (pt_not (pt_val (pe_co O_is_position (hr.mono (by first | decide | omega)) (pa_cons (pv 0) (pa_cons (pv 1) (pa_cons (pv 2) (pa_cons (pv 3) pa_nil)))))))
      (pss_one (ps_ret (pe_un un_neg pe_int))) pss_nil)
      (pss_one (ps_ret pe_int)))), ?_⟩
    refine ⟨_, rfl, a, _, rfl, .inl hS, rfl, _, rfl, ite2 (fun c1 => ?_) (fun c1 => ?_)⟩
    · have h4 : ¬ l.length = 4 := fun z => by
        rw [len_nats, z] at c1
        exact absurd c1 (by decide)
      rw [if_neg h4] at k
      exact ⟨_, rfl, k H Same.rfl'⟩
    have h4 : l.length = 4 := by
      rw [len_nats] at c1
      have : V.int (l.length : Int) = V.int 4 := by simpa using c1
      have := V.int.inj this
      omega
    rw [if_pos h4] at k
    refine ⟨_, rfl, _, rfl, _, rfl, _, rfl, a, b, l, t, st, ld, rfl, hS, h4, hT, h6, fun H1 s1 => ⟨_, rfl, ite2 (fun c2 => ?_) (fun c2 => ?_)⟩⟩
    · have e2 : Oh.Pos.ok ⟨l, st, ld, t⟩ = false := by simpa using c2
      rw [if_neg (by rw [e2]; decide)] at k
      exact ⟨_, rfl, k H1 s1⟩
    · have e2 : Oh.Pos.ok ⟨l, st, ld, t⟩ = true := by simpa using c2
      rw [if_pos e2] at k
      exact k H1 s1
theorem ok_cards_in (T : Txt K mg) (D : HasDef K mg "cards_in" s_cards_in ["hand"]) : Ok P w K mg base 1 "cards_in" ["hand"] spCI := by
  refine D.ok sc_cards_in (fun vs H Q E h => ?_) (fun f cdv A outer s H vs Q E hr h => ?_)
  · obtain ⟨n, rfl, _⟩ := h
    rfl
  · obtain ⟨n, rfl, hn, k⟩ := h
    refine ⟨_, (pss_cons (ps_set (i := 1) sc_cards_in.nd rfl (Or.inl rfl) (pe_lst pa_nil))
      (pss_cons (ps_set (i := 2) sc_cards_in.nd rfl (Or.inl rfl) (pv 0))
      (pss_cons (ps_while PassesOwn.never (pt_cmpR op_gt (pv 2) pe_int (nomark _))
      (pss_cons (ps_set (i := 3) sc_cards_in.nd rfl (Or.inl rfl) (pe_op op_and (pv 2) (pe_un un_neg (pv 2))))
      (pss_cons (ps_expr (pe_bm PySem.F.plainAttrs_list PySem.F.slot_list_append PySem.F.type_list_append mt_append (pv 1) (pa_cons (pe_op op_sub (pe_bm0 PySem.F.plainAttrs_int PySem.F.slot_int_bit_length PySem.F.type_int_bit_length mt_bitlen (pv 3)) pe_int) pa_nil)))
      (pss_one (ps_aug (i := 2) sc_cards_in.nd rfl (Or.inl rfl) (pv 3) (pip_of iop_sub))))))
      (pss_one (ps_ret (pv 1)))))), ?_⟩
    refine ⟨(by show 0 ≤ sizeLine; decide), fun q hq => ?_⟩
    refine ⟨_, rfl, ?_⟩
    refine while_by (fun σ' H' => ∃ (acc : List Nat) (r : Nat) (u : Option V), σ' = [some (.int n), some (.ref q), some (.int r), u] ∧ Same H H' ∧ H' q = some (.lst ((acc.map Int.ofNat).map V.int)) ∧ acc ++ Oh.cardsIn r = Oh.cardsIn n ∧ r < 2 ^ 52)
      (fun σ' _ => match σ' with | [_, _, some (.int r), _] => r.toNat | _ => 0) ⟨[], n, none, rfl, Same.new hq, upd_same, rfl, hn⟩ ?_
      (fun σ H Q Q' h ⟨v, e, i, j, a, b, k, c, q⟩ => ⟨v, e, i, j, a, b, k, c, h _ _ q⟩)
    rintro σ' H' ⟨acc, r, u, rfl, s1, h1, e, hr'⟩
    refine ⟨_, rfl, _, _, rfl, rfl, _, rfl, ite2 (fun hc => ?_) (fun hc => ?_)⟩
    · have h0 : 0 < r := by
        have := of_decide_eq_true hc
        omega
      obtain ⟨c, hc52, hc1, hc2⟩ := Mt.cardsIn_low hr' h0
      have hlen : acc.length ≤ 52 := by
        have h3 := congrArg List.length e
        rw [List.length_append] at h3
        have h4 := Mt.many_le n
        unfold Oh.many at h4
        omega
      refine ⟨_, rfl, _, rfl, _, rfl, _, _, rfl, rfl, ?_⟩
      refine ⟨_, rfl, .inl ⟨rfl, _, SqL.of h1⟩, _, rfl, rfl, _, rfl, rfl, _, _, rfl, rfl, q, _, _, rfl, rfl, h1, ?_, ?_⟩
      · rw [len_nats]
        have : (1000 : Nat) < sizeLine := by decide
        omega
      have el : Builtin.bitAnd (r : Int) (-(r : Int)) = ((2 ^ c : Nat) : Int) := low_and h0 hc1
      have hv : (V.int ((Builtin.Int.intBits (Builtin.bitAnd (r : Int) (-(r : Int))) : Nat) - 1)) = V.int (Int.ofNat c) := by
        rw [el, bits_pow]
        congr 1
        show ((c + 1 : Nat) : Int) - 1 = (c : Int)
        omega
      refine ⟨_, rfl, _, rfl, _, _, rfl, rfl, ⟨acc ++ [c], r &&& (r - 1), some (.int (2 ^ c : Nat)), ?_, s1.grow hq, ?_, ?_, ?_⟩, ?_⟩
      · show [some (V.int n), some (V.ref q), some (V.int ((r : Int) - Builtin.bitAnd (r : Int) (-(r : Int)))), some (V.int (Builtin.bitAnd (r : Int) (-(r : Int))))] = _
        rw [el]
        have e3 : (r : Int) - ((2 ^ c : Nat) : Int) = ((r &&& (r - 1) : Nat) : Int) := by omega
        rw [e3]
      · rw [upd_same]
        show some (HO.lst (((acc.map Int.ofNat).map V.int) ++ [V.int (((Builtin.Int.intBits (Builtin.bitAnd (r : Int) (-(r : Int))) : Nat) : Int) - 1)])) = _
        rw [hv]
        simp only [List.map_append, List.map_cons, List.map_nil]
      · rw [← e, hc2, List.append_assoc]
        rfl
      · have := Mt.and_pred_lt r h0
        omega
      · show ((r : Int) - Builtin.bitAnd (r : Int) (-(r : Int))).toNat < (r : Int).toNat
        have := Mt.and_pred_lt r h0
        rw [el]
        omega
    · have h0 : r = 0 := by
        have : ¬ (0 : Int) < r := fun z => hc (decide_eq_true z)
        omega
      subst h0
      rw [Mt.cardsIn_zero, List.append_nil] at e
      subst e
      exact ⟨_, rfl, k q H' hq h1 s1⟩
theorem ok_player_to_play (T : Txt K mg) (D : HasDef K mg "player_to_play" s_player_to_play ["leader", "trick"]) (O_player_at : Ok P w K mg base 1 "player_at" ["leader", "place"] (sp2 (fun _ _ => True) fun l i => .int ((l + i) % 4 : Nat))) : Ok P w K mg base 2 "player_to_play" ["leader", "trick"] (spPP K) := by
  refine D.ok sc_player_to_play (fun vs H Q E h => ?_) (fun f cdv A outer s H vs Q E hr h => ?_)
  · obtain ⟨b, t, ld, rfl, _⟩ := h
    rfl
  · obtain ⟨b, t, ld, rfl, hT, k⟩ := h
    refine ⟨_, (pss_one (ps_ret (pe_co O_player_at (hr.mono (by first | decide | omega)) (pa_cons (pv 0) (pa_cons (pe_callB call_len_seq (by rfl) T.n_len PySem.boot_len (pa_cons (pv 1) pa_nil)) pa_nil))))), ?_⟩
    exact ⟨_, rfl, _, rfl, b, _, rfl, .inl hT, ld, t.length, by rw [len_nats]; rfl, trivial, k⟩
theorem ok_playable_cards (T : Txt K mg) (D : HasDef K mg "playable_cards" s_playable_cards ["leader", "hands", "trick"]) (O_player_to_play : Ok P w K mg base 2 "player_to_play" ["leader", "trick"] (spPP K)) (O_cards_of_suit : Ok P w K mg base 1 "cards_of_suit" ["hand", "suit"] (sp2 (fun _ t => t ≤ 1000) fun h t => .int (Mt.suitN h t : Nat)))
    (O_suit_of : Ok P w K mg base 1 "suit_of" ["card"] (sp1 fun c => .int (c / 13 : Nat))) (O_cards_in : Ok P w K mg base 1 "cards_in" ["hand"] spCI) : Ok P w K mg base 3 "playable_cards" ["leader", "hands", "trick"] (spPC K) := by
  refine D.ok sc_playable_cards (fun vs H Q E h => ?_) (fun f cdv A outer s H vs Q E hr h => ?_)
  · obtain ⟨a, b, l, t, ld, rfl, _⟩ := h
    rfl
  · obtain ⟨a, b, l, t, ld, rfl, hS, h4, hT, h52, hlow, k⟩ := h
    rw [Mt.plays_eq] at k
    dsimp only at k
    have hm : (ld + t.length) % 4 < 4 := by omega
    refine ⟨_, (pss_cons (ps_set (i := 3) sc_playable_cards.nd rfl (Or.inl rfl) (pe_ix ix_list (pv 1) (pe_co O_player_to_play (hr.mono (by first | decide | omega)) (pa_cons (pv 0) (pa_cons (pv 2) pa_nil))) (fun _ _ => rfl)))
      (pss_cons (ps_if (pt_cmpR op_gt (pe_callB call_len_seq (by rfl) T.n_len PySem.boot_len (pa_cons (pv 2) pa_nil)) pe_int (nomark _))
      (pss_cons (ps_set (i := 4) sc_playable_cards.nd rfl (Or.inl rfl) (pe_co O_cards_of_suit (hr.mono (by first | decide | omega)) (pa_cons (pv 3) (pa_cons (pe_co O_suit_of (hr.mono (by first | decide | omega)) (pa_cons (pe_ix ix_list (pv 2) pe_int (fun _ _ => rfl)) pa_nil)) pa_nil))))
      (pss_one (ps_if (pt_cmpR op_ne (pv 4) pe_int (nomark _))
      (pss_one (ps_ret (pe_co O_cards_in (hr.mono (by first | decide | omega)) (pa_cons (pv 4) pa_nil)))) pss_nil))) pss_nil)
      (pss_one (ps_ret (pe_co O_cards_in (hr.mono (by first | decide | omega)) (pa_cons (pv 3) pa_nil)))))), ?_⟩
    refine ⟨_, rfl, _, rfl, _, rfl, b, t, ld, rfl, hT, a, _, _, _, rfl, rfl, hS, atI_nats (j := (ld + t.length) % 4) rfl (by omega), ?_⟩
    refine ⟨_, rfl, b, _, rfl, .inl hT, _, _, rfl, rfl, _, rfl, ite2 (fun c1 => ?_) (fun c1 => ?_)⟩
    · have z1 := of_decide_eq_true c1
      rw [len_nats] at z1
      have hpos : 0 < t.length := by omega
      have hne : ¬ t = [] := fun z => by rw [z] at hpos; cases hpos
      rw [if_neg hne] at k
      have e0 : t.getD 0 0 = t.headD 0 := by cases t <;> rfl
      have hc0 : t.getD 0 0 < 52 := h52 _ (Mt.getD_mem' hpos)
      have hled : t.getD 0 0 / 13 < 4 := by omega
      have k' : newN H Q (if Oh.ofSuit (t.getD 0 0 / 13) (l.getD ((ld + t.length) % 4) 0) = [] then Oh.cardsIn (l.getD ((ld + t.length) % 4) 0) else Oh.ofSuit (t.getD 0 0 / 13) (l.getD ((ld + t.length) % 4) 0)) := by
        rw [e0]
        exact k
      refine ⟨_, rfl, _, rfl, b, _, _, _, rfl, rfl, hT, atI_nats (j := 0) rfl hpos, t.getD 0 0, rfl, l.getD ((ld + t.length) % 4) 0, t.getD 0 0 / 13, rfl, by omega, ?_⟩
      refine ⟨_, rfl, rfl, _, rfl, ite2 (fun c2 => ?_) (fun c2 => ?_)⟩
      · have d2 : ¬ Mt.suitN (l.getD ((ld + t.length) % 4) 0) (t.getD 0 0 / 13) = 0 := fun z => ne_of_nd c2 (by
          show V.int (Mt.suitN (l.getD ((ld + t.length) % 4) 0) (t.getD 0 0 / 13) : Nat) = V.int 0
          rw [z]
          rfl)
        rw [if_neg (fun z => d2 ((Mt.suitN_zero _ hled).mpr z)), ← Mt.suitN_cards] at k'
        exact ⟨_, rfl, _, rfl, Mt.suitN_low _ hled, k'⟩
      · have d2 : Mt.suitN (l.getD ((ld + t.length) % 4) 0) (t.getD 0 0 / 13) = 0 := by
          have z : V.int (Mt.suitN (l.getD ((ld + t.length) % 4) 0) (t.getD 0 0 / 13) : Nat) = V.int 0 := by simpa using c2
          have := V.int.inj z
          omega
        rw [if_pos ((Mt.suitN_zero _ hled).mp d2)] at k'
        exact ⟨_, rfl, _, rfl, hlow _ hm, k'⟩
    · have z1 : ¬ (0 : Int) < ((((t.map Int.ofNat).map V.int).length : Nat) : Int) := fun z => c1 (decide_eq_true z)
      rw [len_nats] at z1
      have hnil : t = [] := List.eq_nil_of_length_eq_zero (by omega)
      rw [if_pos hnil] at k
      exact ⟨_, rfl, _, rfl, hlow _ hm, k⟩
theorem ok_height (T : Txt K mg) (D : HasDef K mg "height" s_height ["strain", "led", "card"]) (O_suit_of : Ok P w K mg base 1 "suit_of" ["card"] (sp1 fun c => .int (c / 13 : Nat))) : Ok P w K mg base 2 "height" ["strain", "led", "card"] spHt := by
  refine D.ok sc_height (fun vs H Q E h => ?_) (fun f cdv A outer s H vs Q E hr h => ?_)
  · obtain ⟨st, led, c, rfl, _⟩ := h
    rfl
  · obtain ⟨st, led, c, rfl, k⟩ := h
    unfold Mt.heightN at k
    have hm : ((c : Int) % 13) = ((c % 13 : Nat) : Int) := by omega
    refine ⟨_, (pss_cons (ps_set (i := 3) sc_height.nd rfl (Or.inl rfl) (pe_co O_suit_of (hr.mono (by first | decide | omega)) (pa_cons (pv 2) pa_nil)))
      (pss_cons (ps_if (pt_cmpR op_eq (pv 3) (pv 0) (nomark _))
      (pss_one (ps_ret (pe_op op_add (pe_globI T.c_RANKS) (pe_op op_mod (pv 2) (pe_globI T.c_RANKS))))) pss_nil)
      (pss_cons (ps_if (pt_cmpR op_eq (pv 3) (pv 1) (nomark _))
      (pss_one (ps_ret (pe_op op_mod (pv 2) (pe_globI T.c_RANKS)))) pss_nil)
      (pss_one (ps_ret (pe_un un_neg pe_int)))))), ?_⟩
    refine ⟨_, rfl, c, rfl, ?_⟩
    refine ⟨_, rfl, _, rfl, rfl, _, rfl, ite2 (fun c1 => ?_) (fun c1 => ?_)⟩
    · have d1 : c / 13 = st := by
        have z := V.int.inj (of_decide_eq_true c1)
        omega
      rw [if_pos d1] at k
      refine ⟨_, rfl, _, _, rfl, rfl, (by show (0 : Int) < 13; decide), _, _, rfl, rfl, ?_⟩
      show Q (V.int (13 + (c : Int) % 13)) H
      rw [hm]
      exact k
    dsimp only at c1
    have d1 : ¬ c / 13 = st := fun z => c1 (decide_eq_true (by rw [z]))
    rw [if_neg d1] at k
    refine ⟨_, rfl, _, rfl, rfl, _, rfl, ite2 (fun c2 => ?_) (fun c2 => ?_)⟩
    · have d2 : c / 13 = led := by
        have z := V.int.inj (of_decide_eq_true c2)
        omega
      rw [if_pos d2] at k
      refine ⟨_, rfl, _, _, rfl, rfl, (by show (0 : Int) < 13; decide), ?_⟩
      show Q (V.int ((c : Int) % 13)) H
      rw [hm]
      exact k
    · dsimp only at c2
      have d2 : ¬ c / 13 = led := fun z => c2 (decide_eq_true (by rw [z]))
      rw [if_neg d2] at k
      exact ⟨_, rfl, k⟩
theorem ok_trick_winner (T : Txt K mg) (D : HasDef K mg "trick_winner" s_trick_winner ["strain", "leader", "cards"]) (O_suit_of : Ok P w K mg base 1 "suit_of" ["card"] (sp1 fun c => .int (c / 13 : Nat))) (O_height : Ok P w K mg base 2 "height" ["strain", "led", "card"] spHt)
    (O_player_at : Ok P w K mg base 1 "player_at" ["leader", "place"] (sp2 (fun _ _ => True) fun l i => .int ((l + i) % 4 : Nat))) : Ok P w K mg base 3 "trick_winner" ["strain", "leader", "cards"] (spTW K) := by
  refine D.ok sc_trick_winner (fun vs H Q E h => ?_) (fun f cdv A outer s H vs Q E hr h => ?_)
  · obtain ⟨b, t, st, ld, rfl, _⟩ := h
    rfl
  · obtain ⟨b, t, st, ld, rfl, hT, h4, hnd, k⟩ := h
    have e0 : t.getD 0 0 = t.headD 0 := by cases t <;> rfl
    refine ⟨_, (pss_cons (ps_set (i := 3) sc_trick_winner.nd rfl (Or.inr rfl) (pe_co O_suit_of (hr.mono (by first | decide | omega)) (pa_cons (pe_ix ix_list (pv 2) pe_int (fun _ _ => rfl)) pa_nil)))
      (pss_cons (ps_setLc (i := 4) rfl sc_trick_winner.nd rfl rfl rfl (pi_list (pv 2)) (blkOk_by (own := [("card", 5)]) (show blkC ["strain", "leader", "cards", "led", "heights", "card"] (defScope s_trick_winner) _ [("card", 5)] = true by decide +kernel)) (fun _ _ _ _ _ => (pg_name (i := 5) sc_trick_winner.nd rfl (Or.inl rfl))) (fun _ _ _ _ _ => pts_nil) (fun _ _ _ _ _ => (pe_co O_height (hr.mono (by first | decide | omega)) (pa_cons (pv 0) (pa_cons (pv 3) (pa_cons (pv 5) pa_nil))))))
      (pss_one (ps_ret (pe_co O_player_at (hr.mono (by first | decide | omega)) (pa_cons (pv 1) (pa_cons (pe_bm PySem.F.plainAttrs_list PySem.F.slot_list_index PySem.F.type_list_index mt_index (pv 4) (pa_cons (pe_callB (cr_max rfl) (by rfl) T.n_max boot_max5 (pa_cons (pv 4) pa_nil)) pa_nil)) pa_nil))))))), ?_⟩
    refine ⟨_, rfl, b, _, _, _, rfl, rfl, hT, atI_nats (j := 0) rfl (by omega), t.getD 0 0, rfl, ?_⟩
    refine ⟨_, rfl, b, rfl, ⟨_, hT⟩, ?_⟩
    refine comp_list (fun z => .int (Mt.heightN st (t.getD 0 0 / 13) z.toNat)) hT (by rw [List.length_map, h4]; decide) (fun z => by rfl) (fun z hz H' Q' _ q => ?_) (fun p H' hp h1 h2 => ?_)
    · obtain ⟨n, _, rfl⟩ := List.mem_map.mp hz
      exact ⟨_, rfl, _, rfl, _, rfl, st, t.getD 0 0 / 13, n, rfl, q H' Same.rfl'⟩
    · have e : (t.map Int.ofNat).map (fun z => V.int (Mt.heightN st (t.getD 0 0 / 13) z.toNat)) = (t.map fun n => Mt.heightN st (t.getD 0 0 / 13) n).map V.int := by
        rw [List.map_map, List.map_map]
        rfl
      rw [e] at h1
      have hpos : 0 < (t.map fun n => Mt.heightN st (t.getD 0 0 / 13) n).length := by rw [List.length_map, h4]; decide
      refine ⟨_, rfl, _, rfl, .inl ⟨rfl, _, SqL.of h1⟩, _, rfl, p, _, rfl, SqL.of h1, hpos, fun M M1 M2 => ?_⟩
      obtain ⟨j, j1, j2, j3⟩ := Mt.first_of _ M M1
      have jl : j < t.length := by rw [List.length_map] at j1; exact j1
      have hat : ∀ i, i < t.length → (t.map fun n => Mt.heightN st (t.getD 0 0 / 13) n)[i]? = some (Mt.heightN st (t.getD 0 0 / 13) (t.getD i 0)) := fun i hi => by
        rw [List.getElem?_map, List.getElem?_eq_getElem hi]
        simp [List.getD, List.getElem?_eq_getElem hi]
      have hj : Mt.heightN st (t.getD 0 0 / 13) (t.getD j 0) = M := by
        rw [hat j jl] at j2
        exact Option.some.inj j2
      have hw : Oh.winning st t = j := Mt.winning_height jl hnd fun i hi => by
        rw [← e0, hj]
        exact M2 _ (List.mem_of_getElem? (hat i hi))
      refine ⟨p, _, .int M, j, .int M, rfl, rfl, SqL.of h1, rfl, ?_, ?_, ?_, fun m z' hm hz' => ?_, ld, j, rfl, trivial, ?_⟩
      · rw [List.all_map]
        exact List.all_eq_true.mpr fun _ _ => rfl
      · rw [List.getElem?_map, j2]
        rfl
      · exact eqV_int
      · rw [List.getElem?_map] at hz'
        cases q : (t.map fun n => Mt.heightN st (t.getD 0 0 / 13) n)[m]? with
        | none => rw [q] at hz'; cases hz'
        | some y =>
          rw [q] at hz'
          have hz2 : V.int y = z' := Option.some.inj hz'
          subst hz2
          exact eqV_int_ne fun z => j3 m hm (by rw [q, z])
      · have := k H' h2
        unfold Oh.winner at this
        rw [hw] at this
        exact this
theorem ok_side_of (T : Txt K mg) (D : HasDef K mg "side_of" s_side_of ["player"]) : Ok P w K mg base 1 "side_of" ["player"] (sp1 fun p => .int (p % 2 : Nat)) := by
  refine D.ok sc_side_of (fun vs H Q E h => ?_) (fun f cdv A outer s H vs Q E hr h => ?_)
  · obtain ⟨n, rfl, _⟩ := h
    rfl
  · obtain ⟨n, rfl, k⟩ := h
    refine ⟨_, (pss_one (ps_ret (pe_op op_mod (pv 0) (pe_globI T.c_SIDES)))), ?_⟩
    refine ⟨_, rfl, _, _, rfl, rfl, (by show (0 : Int) < 2; decide), ?_⟩
    have e : ((n : Int) % 2) = ((n % 2 : Nat) : Int) := by omega
    show Q (V.int ((n : Int) % 2)) H
    rw [e]
    exact k
theorem ok_is_of_side_0 (T : Txt K mg) (D : HasDef K mg "is_of_side_0" s_is_of_side_0 ["player"]) (O_side_of : Ok P w K mg base 1 "side_of" ["player"] (sp1 fun p => .int (p % 2 : Nat))) : Ok P w K mg base 2 "is_of_side_0" ["player"] (sp1 fun p => .bl (decide (p % 2 = 0))) := by
  refine D.ok sc_is_of_side_0 (fun vs H Q E h => ?_) (fun f cdv A outer s H vs Q E hr h => ?_)
  · obtain ⟨n, rfl, _⟩ := h
    rfl
  · obtain ⟨n, rfl, k⟩ := h
    refine ⟨_, (pss_one (ps_ret (pe_cmpR op_eq (pe_co O_side_of (hr.mono (by first | decide | omega)) (pa_cons (pv 0) pa_nil)) pe_int (nomark _)))), ?_⟩
    refine ⟨_, rfl, n, rfl, rfl, ?_⟩
    have e : decide (V.int ((n % 2 : Nat) : Int) = V.int 0) = decide (n % 2 = 0) := by
      apply decide_eq_decide.mpr
      constructor
      · intro z
        have := V.int.inj z
        omega
      · intro z
        congr 1
        omega
    rw [e]
    exact k
theorem ok_best_of (T : Txt K mg) (D : HasDef K mg "best_of" s_best_of ["player", "worths"]) (O_is_of_side_0 : Ok P w K mg base 2 "is_of_side_0" ["player"] (sp1 fun p => .bl (decide (p % 2 = 0)))) : Ok P w K mg base 3 "best_of" ["player", "worths"] (spBO K) := by
  refine D.ok sc_best_of (fun vs H Q E h => ?_) (fun f cdv A outer s H vs Q E hr h => ?_)
  · obtain ⟨b, ws, p, rfl, _⟩ := h
    rfl
  · obtain ⟨b, ws, p, rfl, hW, hne, k⟩ := h
    have hpos : 0 < (ws.map Int.ofNat).length := by
      rw [List.length_map]
      exact List.length_pos_iff.mpr hne
    refine ⟨_, (pss_one (ps_ret (pe_ifExp (pt_val (pe_co O_is_of_side_0 (hr.mono (by first | decide | omega)) (pa_cons (pv 0) pa_nil))) (pe_callB (cr_max rfl) (by rfl) T.n_max boot_max5 (pa_cons (pv 1) pa_nil)) (pe_callB (cr_min rfl) (by rfl) T.n_min boot_min5 (pa_cons (pv 1) pa_nil))))), ?_⟩
    refine ⟨_, rfl, p, rfl, _, rfl, ite2 (fun c1 => ?_) (fun c1 => ?_)⟩
    · have d1 : p % 2 = 0 := of_decide_eq_true c1
      refine ⟨_, rfl, b, _, rfl, hW, hpos, fun M M1 M2 => ?_⟩
      obtain ⟨m, hm, rfl⟩ := List.mem_map.mp M1
      rw [d1, Mt.pick_max hm fun y hy => by
        have := M2 _ (List.mem_map.mpr ⟨y, hy, rfl⟩)
        exact Int.ofNat_le.mp this] at k
      exact k
    · have d1 : ¬ p % 2 = 0 := fun z => c1 (decide_eq_true z)
      refine ⟨_, rfl, b, _, rfl, hW, hpos, fun M M1 M2 => ?_⟩
      obtain ⟨m, hm, rfl⟩ := List.mem_map.mp M1
      rw [Mt.pick_min d1 hm fun y hy => by
        have := M2 _ (List.mem_map.mpr ⟨y, hy, rfl⟩)
        exact Int.ofNat_le.mp this] at k
      exact k
theorem ok_hands_after (T : Txt K mg) (D : HasDef K mg "hands_after" s_hands_after ["leader", "hands", "trick", "card"]) (O_player_to_play : Ok P w K mg base 2 "player_to_play" ["leader", "trick"] (spPP K)) :
    Ok P w K mg base 3 "hands_after" ["leader", "hands", "trick", "card"] (spHA K) := by
  refine D.ok sc_hands_after (fun vs H Q E h => ?_) (fun f cdv A outer s H vs Q E hr h => ?_)
  · obtain ⟨a, b, l, t, ld, c, rfl, _⟩ := h
    rfl
  · obtain ⟨a, b, l, t, ld, c, rfl, hS, h4, hT, hc52, hbit, k⟩ := h
    have hm : (ld + t.length) % 4 < 4 := by omega
    have hle := Mt.bit_le hbit
    have ev : ((l.map Int.ofNat).map V.int).set ((ld + t.length) % 4) (V.int (((l.getD ((ld + t.length) % 4) 0 : Nat) : Int) - 1 * 2 ^ ((c : Nat) : Int).toNat)) = ((Oh.without l ((ld + t.length) % 4) c).map Int.ofNat).map V.int := by
      rw [Mt.without_set h4 hm, List.map_set, List.map_set]
      congr 2
      rw [Int.one_mul, Int.toNat_natCast, two_pow_cast]
      show ((l.getD ((ld + t.length) % 4) 0 : Nat) : Int) - ((2 ^ c : Nat) : Int) = ((l.getD ((ld + t.length) % 4) 0 - 2 ^ c : Nat) : Int)
      omega
    refine ⟨_, (pss_cons (ps_set (i := 4) sc_hands_after.nd rfl (Or.inl rfl) (pe_callTy call_list_of (by rfl) T.n_list boot_list5 (pa_cons (pv 1) pa_nil)))
      (pss_cons (ps_augS (pv 4) (pe_co O_player_to_play (hr.mono (by first | decide | omega)) (pa_cons (pv 0) (pa_cons (pv 2) pa_nil))) get_list (pe_op op_shl pe_int (pv 3)) (pip_of iop_sub) set_list)
      (pss_one (ps_ret (pv 4))))), ?_⟩
    refine ⟨_, rfl, a, _, rfl, .inl hS, fun q hq => ?_⟩
    have s1 : Same H (upd H q (.lst ((l.map Int.ofNat).map V.int))) := Same.new hq
    refine ⟨_, rfl, _, rfl, _, rfl, b, t, ld, rfl, s1.seq hT, q, _, _, _, rfl, rfl, SqL.of upd_same, atI_nats (j := (ld + t.length) % 4) rfl (by omega), _, rfl, _, _, rfl, rfl, ⟨by omega, by omega, by decide⟩, _, _, rfl, rfl, q, _, _, (ld + t.length) % 4, rfl, rfl, upd_same, ixN_nat (by rw [len_nats]; omega), ?_⟩
    refine ⟨_, rfl, k q _ hq ?_ (s1.grow hq)⟩
    rw [upd_same, ← ev]
theorem ok_best_play_refusal (T : Txt K mg) (D : HasDef K mg "best_play_refusal" s_best_play_refusal ["strain", "leader", "hands", "trick"]) (O_position_refusal : Ok P w K mg base 6 "position_refusal" ["strain", "leader", "hands", "trick"] (spRef K refP)) (O_card_count : Ok P w K mg base 1 "card_count" ["hand"] spCC)
    (O_hands_with_trick_back : Ok P w K mg base 2 "hands_with_trick_back" ["leader", "hands", "trick"] (spTB K)) : Ok P w K mg base 7 "best_play_refusal" ["strain", "leader", "hands", "trick"] (spRef K refB) := by
  refine D.ok sc_best_play_refusal (fun vs H Q E h => ?_) (fun f cdv A outer s H vs Q E hr h => ?_)
  · obtain ⟨a, b, l, t, st, ld, rfl, _⟩ := h
    rfl
  · obtain ⟨a, b, l, t, st, ld, rfl, hS, hT, h6, k⟩ := h
    refine ⟨_, (pss_cons (ps_set (i := 4) sc_best_play_refusal.nd rfl (Or.inl rfl) (pe_co O_position_refusal (hr.mono (by first | decide | omega)) (pa_cons (pv 0) (pa_cons (pv 1) (pa_cons (pv 2) (pa_cons (pv 3) pa_nil))))))
      (pss_cons (ps_if (pt_cmpR op_ne (pv 4) pe_int (nomark _))
      (pss_one (ps_ret (pv 4))) pss_nil)
      (pss_cons (ps_if (pt_cmpR op_gt (pe_co O_card_count (hr.mono (by first | decide | omega)) (pa_cons (pe_ix ix_list (pe_co O_hands_with_trick_back (hr.mono (by first | decide | omega)) (pa_cons (pv 1) (pa_cons (pv 2) (pa_cons (pv 3) pa_nil)))) pe_int (fun _ _ => rfl)) pa_nil)) (pe_globI T.c_MOST_CARDS) (nomark _))
      (pss_one (ps_ret (pe_un un_neg pe_int))) pss_nil)
      (pss_one (ps_ret pe_int))))), ?_⟩
    refine ⟨_, rfl, _, rfl, _, rfl, _, rfl, a, b, l, t, st, ld, rfl, hS, hT, h6, fun H1 s1 => ?_⟩
    refine ⟨_, rfl, rfl, _, rfl, ite2 (fun c1 => ?_) (fun c1 => ?_)⟩
    · have hne : ¬ refP l st ld t = 0 := fun z => by rw [z] at c1; simp at c1
      rw [refB_bad hne] at k
      exact ⟨_, rfl, k H1 s1⟩
    · have h0 : refP l st ld t = 0 := by
        have z : V.int (refP l st ld t) = V.int 0 := by simpa using c1
        exact V.int.inj z
      obtain ⟨h4, hok⟩ := refP_good h0
      obtain ⟨_, o2, o3, o4, o5, o6, o7, o8, o9⟩ := Mt.ok_parts.mp hok
      obtain ⟨d1, _, _⟩ := Mt.isDeal_parts o8
      have hlow := d1 0 (by decide)
      have hwh : Mt.backU l ld t t.length = Oh.Pos.whole ⟨l, st, ld, t⟩ := Mt.backU_whole (p := ⟨l, st, ld, t⟩) (Nat.lt_succ_of_le o3) o4 o7
      have hmp := Mt.many_pop hlow
      refine ⟨_, rfl, _, rfl, _, rfl, a, b, l, t, ld, rfl, s1.seq hS, h4, s1.seq hT, o4, o5, Nat.lt_succ_of_le o3, fun q H2 hq h2 s2 => ?_⟩
      rw [hwh] at h2
      refine ⟨q, _, _, _, rfl, rfl, SqL.of h2, atI_nats (j := 0) rfl (by rw [Mt.whole_len]; decide), (Oh.Pos.whole ⟨l, st, ld, t⟩).getD 0 0, rfl, _, _, rfl, rfl, _, rfl, ite2 (fun c2 => ?_) (fun c2 => ?_)⟩
      · have z := of_decide_eq_true c2
        have hgt : ¬ Oh.many (Oh.hand (Oh.Pos.whole ⟨l, st, ld, t⟩) 0) ≤ 3 := by
          rw [hmp]
          unfold Oh.hand
          omega
        unfold refB at k
        rw [if_pos h4, if_pos hok, if_neg hgt] at k
        exact ⟨_, rfl, k H2 (s1.trans s2)⟩
      · have z : ¬ (3 : Int) < ((Mt.pop ((Oh.Pos.whole ⟨l, st, ld, t⟩).getD 0 0) : Nat) : Int) := fun y => c2 (decide_eq_true y)
        have hle : Oh.many (Oh.hand (Oh.Pos.whole ⟨l, st, ld, t⟩) 0) ≤ 3 := by
          rw [hmp]
          unfold Oh.hand
          omega
        unfold refB at k
        rw [if_pos h4, if_pos hok, if_pos hle] at k
        exact k H2 (s1.trans s2)

theorem ok_worth_after (n : Nat) (T : Txt K mg) (D : HasDef K mg "worth_after" s_worth_after ["strain", "leader", "hands", "trick", "card"]) (O_hands_after : Ok P w K mg base 3 "hands_after" ["leader", "hands", "trick", "card"] (spHA K)) (O_worth : Ok P w K mg base (3 * n + 4) "worth" ["strain", "leader", "hands", "trick"] (spW K n))
    (O_trick_winner : Ok P w K mg base 3 "trick_winner" ["strain", "leader", "cards"] (spTW K)) (O_is_of_side_0 : Ok P w K mg base 2 "is_of_side_0" ["player"] (sp1 fun p => .bl (decide (p % 2 = 0)))) : Ok P w K mg base (3 * n + 5) "worth_after" ["strain", "leader", "hands", "trick", "card"] (spWA K (n + 1)) := by
  refine D.ok sc_worth_after (fun vs H Q E h => ?_) (fun f cdv A outer s H vs Q E hr h => ?_)
  · obtain ⟨a, b, l, t, st, ld, top, c, rfl, _⟩ := h
    rfl
  · obtain ⟨a, b, l, t, st, ld, top, c, rfl, hS, h4, hT, hP, hleft, hc, k⟩ := h
    obtain ⟨hc52, hbit'⟩ := Mt.plays_sub hc
    have hbit : (l.getD ((ld + t.length) % 4) 0).testBit c = true := hbit'
    have h3 : t.length ≤ 3 := hP.good.cards
    have hm : (ld + t.length) % 4 < 4 := by omega
    have hle := Mt.bit_le hbit
    have hls := Mt.left_step hc
    obtain ⟨top', _, hP'⟩ := hP.step' hc
    have hnd : (t ++ [c]).Nodup := hP.good.snoc hc
    have et : ((t.map Int.ofNat).map V.int) ++ [V.int (c : Int)] = ((t ++ [c]).map Int.ofNat).map V.int := by
      simp only [List.map_append, List.map_cons, List.map_nil]
      rfl
    refine ⟨_, (pss_cons (ps_set (i := 5) sc_worth_after.nd rfl (Or.inl rfl) (pe_co O_hands_after (hr.mono (by first | decide | omega)) (pa_cons (pv 1) (pa_cons (pv 2) (pa_cons (pv 3) (pa_cons (pv 4) pa_nil))))))
      (pss_cons (ps_set (i := 6) sc_worth_after.nd rfl (Or.inl rfl) (pe_op op_catS (pv 3) (pe_lst (pa_cons (pv 4) pa_nil))))
      (pss_cons (ps_if (pt_cmpR op_lt (pe_callB call_len_seq (by rfl) T.n_len PySem.boot_len (pa_cons (pv 6) pa_nil)) (pe_globI T.c_PLAYERS) (nomark _))
      (pss_one (ps_ret (pe_co O_worth (hr.mono (by first | decide | omega)) (pa_cons (pv 0) (pa_cons (pv 1) (pa_cons (pv 5) (pa_cons (pv 6) pa_nil))))))) pss_nil)
      (pss_cons (ps_set (i := 7) sc_worth_after.nd rfl (Or.inl rfl) (pe_co O_trick_winner (hr.mono (by first | decide | omega)) (pa_cons (pv 0) (pa_cons (pv 1) (pa_cons (pv 6) pa_nil)))))
      (pss_cons (ps_set (i := 8) sc_worth_after.nd rfl (Or.inl rfl) (pe_ifExp (pt_val (pe_co O_is_of_side_0 (hr.mono (by first | decide | omega)) (pa_cons (pv 7) pa_nil))) pe_int pe_int))
      (pss_one (ps_ret (pe_op op_add (pv 8) (pe_co O_worth (hr.mono (by first | decide | omega)) (pa_cons (pv 0) (pa_cons (pv 7) (pa_cons (pv 5) (pa_cons (pe_lst pa_nil) pa_nil))))))))))))), ?_⟩
    refine ⟨_, rfl, _, rfl, _, rfl, _, rfl, a, b, l, t, ld, c, rfl, hS, h4, hT, hc52, hbit, fun q H1 hq hq1 s1 => ?_⟩
    refine ⟨_, rfl, _, rfl, (by show 1 ≤ sizeLine; decide), fun r hr1 => ?_⟩
    have s2 := s1.nw (o := HO.lst [V.int (c : Int)]) hr1
    have f1 := (Same.new (o := HO.lst [V.int (c : Int)]) hr1) q _ hq1
    refine ⟨b, r, _, _, rfl, rfl, s2.seq hT, SqL.of upd_same, ?_, fun z hz => ?_⟩
    · rw [len_nats]
      have : (1000 : Nat) < sizeLine := by decide
      show t.length + 1 ≤ sizeLine
      omega
    have s3 := s2.nw (o := HO.lst (((t.map Int.ofNat).map V.int) ++ [V.int (c : Int)])) hz
    have f2 := (Same.new (o := HO.lst (((t.map Int.ofNat).map V.int) ++ [V.int (c : Int)])) hz) q _ f1
    have el : (((t.map Int.ofNat).map V.int) ++ [V.int (c : Int)]).length = t.length + 1 := by simp
    refine ⟨_, rfl, z, _, rfl, .inl (SqL.of upd_same), _, _, rfl, rfl, _, rfl, ite2 (fun c1 => ?_) (fun c1 => ?_)⟩
    · have z1 := of_decide_eq_true c1
      rw [el] at z1
      have hlt : t.length < 3 := by omega
      have hst := Mt.step_lt (p := ⟨l, st, ld, t⟩) c hlt
      unfold aft at k
      rw [hst] at k hP' hls
      dsimp only at k hP' hls
      rw [Nat.zero_add] at k
      exact ⟨_, rfl, _, rfl, _, rfl, _, rfl, q, z, Oh.without l ((ld + t.length) % 4) c, t ++ [c], st, ld, top', rfl, SqL.of f2, Mt.without_len _ _ _, by rw [LN, ← et]; exact SqL.of upd_same, hP', by
        have : Mt.left ⟨Oh.without l ((ld + t.length) % 4) c, st, ld, t ++ [c]⟩ + 1 = Mt.left ⟨l, st, ld, t⟩ := hls
        omega, fun H' s' => k H' (s3.trans s')⟩
    · have hge : t.length = 3 := by
        have z1 : ¬ ((((((t.map Int.ofNat).map V.int) ++ [V.int (c : Int)]).length : Nat) : Int) < 4) := fun y => c1 (decide_eq_true y)
        rw [el] at z1
        omega
      have hst := Mt.step_eq (p := ⟨l, st, ld, t⟩) c hge
      unfold aft at k
      rw [hst] at k hP' hls
      dsimp only at k hP' hls
      have hls' : Mt.left ⟨Oh.without l ((ld + t.length) % 4) c, st, Oh.winner st ld (t ++ [c]), []⟩ + 1 = Mt.left ⟨l, st, ld, t⟩ := hls
      refine ⟨_, rfl, _, rfl, _, rfl, z, t ++ [c], st, ld, rfl, by rw [LN, ← et]; exact SqL.of upd_same, by rw [List.length_append, hge]; rfl, hnd, fun H4 s4 => ?_⟩
      have f4 := s4 _ _ f2
      refine ⟨_, rfl, Oh.winner st ld (t ++ [c]), rfl, _, rfl, ite2 (fun c2 => ?_) (fun c2 => ?_)⟩
      · have d2 : Oh.winner st ld (t ++ [c]) % 2 = 0 := of_decide_eq_true c2
        rw [if_pos d2] at k
        refine ⟨_, rfl, _, rfl, _, rfl, _, rfl, (by show 0 ≤ sizeLine; decide), fun e he => ⟨q, e, Oh.without l ((ld + t.length) % 4) c, [], st, Oh.winner st ld (t ++ [c]), top', rfl, SqL.of ((Same.new he) _ _ f4), Mt.without_len _ _ _, SqL.of upd_same, hP', by omega, fun H5 s5 => ⟨_, _, rfl, rfl, ?_⟩⟩⟩
        exact k H5 (((s3.trans s4).nw he).trans s5)
      · have d2 : ¬ Oh.winner st ld (t ++ [c]) % 2 = 0 := fun y => c2 (decide_eq_true y)
        rw [if_neg d2] at k
        refine ⟨_, rfl, _, rfl, _, rfl, _, rfl, (by show 0 ≤ sizeLine; decide), fun e he => ⟨q, e, Oh.without l ((ld + t.length) % 4) c, [], st, Oh.winner st ld (t ++ [c]), top', rfl, SqL.of ((Same.new he) _ _ f4), Mt.without_len _ _ _, SqL.of upd_same, hP', by omega, fun H5 s5 => ⟨_, _, rfl, rfl, ?_⟩⟩⟩
        exact k H5 (((s3.trans s4).nw he).trans s5)
theorem ok_worths_zero (D : HasDef K mg "worths_after" s_worths_after ["strain", "leader", "hands", "trick", "cards"]) : Ok P w K mg base 3 "worths_after" ["strain", "leader", "hands", "trick", "cards"] (spWs K 0) := by
  have no : ∀ vs H Q E, ¬ spWs K 0 vs H Q E := fun vs H Q E h => by
    obtain ⟨a, b, d, l, t, st, ld, top, _, _, _, _, _, hl, hne, _⟩ := h
    exact hne (Mt.plays_nil (by omega))
  exact D.ok sc_worths_after (fun vs H Q E h => (no vs H Q E h).elim) (fun f cdv A outer s H vs Q E hr h => (no vs H Q E h).elim)
theorem ok_worths_after (n : Nat) (T : Txt K mg) (D : HasDef K mg "worths_after" s_worths_after ["strain", "leader", "hands", "trick", "cards"]) (O_worth_after : Ok P w K mg base (3 * n + 5) "worth_after" ["strain", "leader", "hands", "trick", "card"] (spWA K (n + 1))) :
    Ok P w K mg base (3 * n + 6) "worths_after" ["strain", "leader", "hands", "trick", "cards"] (spWs K (n + 1)) := by
  refine D.ok sc_worths_after (fun vs H Q E h => ?_) (fun f cdv A outer s H vs Q E hr h => ?_)
  · obtain ⟨a, b, d, l, t, st, ld, top, rfl, _⟩ := h
    rfl
  · obtain ⟨a, b, d, l, t, st, ld, top, rfl, hS, h4, hT, hP, hleft, hne, hC, k⟩ := h
    have hpl := Mt.plays_len ⟨l, st, ld, t⟩
    refine ⟨_, (pss_one (ps_ret (pe_lc rfl sc_worths_after.nd (pi_list (pv 4)) (blkOk_by (own := [("card", 5)]) (show blkC ["strain", "leader", "hands", "trick", "cards", "card"] (defScope s_worths_after) _ [("card", 5)] = true by decide +kernel)) (fun _ _ _ _ _ => (pg_name (i := 5) sc_worths_after.nd rfl (Or.inl rfl))) (fun _ _ _ _ _ => pts_nil) (fun _ _ _ _ _ => (pe_co O_worth_after (hr.mono (by first | decide | omega)) (pa_cons (pv 0) (pa_cons (pv 1) (pa_cons (pv 2) (pa_cons (pv 3) (pa_cons (pv 5) pa_nil)))))))))), ?_⟩
    refine ⟨_, rfl, d, rfl, ⟨_, hC⟩, ?_⟩
    refine comp_list (fun z => .int (aft ⟨l, st, ld, t⟩ z.toNat)) hC (by rw [List.length_map]; exact small_line (by omega)) (fun z => by rfl) (fun z hz H' Q' s' q => ?_) (fun p H' hp h1 h2 => ?_)
    · obtain ⟨m, hm, rfl⟩ := List.mem_map.mp hz
      exact ⟨_, rfl, _, rfl, _, rfl, _, rfl, _, rfl, a, b, l, t, st, ld, top, m, rfl, s'.seq hS, h4, s'.seq hT, hP, hleft, hm, q⟩
    · refine k p H' hp ?_ h2
      rw [h1, List.map_map, List.map_map, List.map_map]
      rfl
theorem ok_worth (n : Nat) (T : Txt K mg) (D : HasDef K mg "worth" s_worth ["strain", "leader", "hands", "trick"]) (O_playable_cards : Ok P w K mg base 3 "playable_cards" ["leader", "hands", "trick"] (spPC K)) (O_player_to_play : Ok P w K mg base 2 "player_to_play" ["leader", "trick"] (spPP K))
    (O_worths_after : Ok P w K mg base (3 * n + 3) "worths_after" ["strain", "leader", "hands", "trick", "cards"] (spWs K n)) (O_best_of : Ok P w K mg base 3 "best_of" ["player", "worths"] (spBO K)) : Ok P w K mg base (3 * n + 4) "worth" ["strain", "leader", "hands", "trick"] (spW K n) := by
  refine D.ok sc_worth (fun vs H Q E h => ?_) (fun f cdv A outer s H vs Q E hr h => ?_)
  · obtain ⟨a, b, l, t, st, ld, top, rfl, _⟩ := h
    rfl
  · obtain ⟨a, b, l, t, st, ld, top, rfl, hS, h4, hT, hP, hleft, k⟩ := h
    rw [Mt.wth_pick] at k
    refine ⟨_, (pss_cons (ps_set (i := 4) sc_worth.nd rfl (Or.inl rfl) (pe_co O_playable_cards (hr.mono (by first | decide | omega)) (pa_cons (pv 1) (pa_cons (pv 2) (pa_cons (pv 3) pa_nil)))))
      (pss_cons (ps_if (pt_cmpR op_eq (pe_callB call_len_seq (by rfl) T.n_len PySem.boot_len (pa_cons (pv 4) pa_nil)) pe_int (nomark _))
      (pss_one (ps_ret pe_int)) pss_nil)
      (pss_one (ps_ret (pe_co O_best_of (hr.mono (by first | decide | omega)) (pa_cons (pe_co O_player_to_play (hr.mono (by first | decide | omega)) (pa_cons (pv 1) (pa_cons (pv 3) pa_nil))) (pa_cons (pe_co O_worths_after (hr.mono (by first | decide | omega)) (pa_cons (pv 0) (pa_cons (pv 1) (pa_cons (pv 2) (pa_cons (pv 3) (pa_cons (pv 4) pa_nil)))))) pa_nil))))))), ?_⟩
    refine ⟨_, rfl, _, rfl, _, rfl, a, b, l, t, ld, rfl, hS, h4, hT, hP.good.low, hP.good.hlow, fun d H1 hd h1 s1 => ?_⟩
    have h1' : H1 d = some (.lst (((Oh.Pos.plays ⟨l, st, ld, t⟩).map Int.ofNat).map V.int)) := h1
    refine ⟨_, rfl, d, _, rfl, .inl (SqL.of h1'), rfl, _, rfl, ite2 (fun c1 => ?_) (fun c1 => ?_)⟩
    · have z : V.int (((((Oh.Pos.plays ⟨l, st, ld, t⟩).map Int.ofNat).map V.int).length : Nat) : Int) = V.int 0 := of_decide_eq_true c1
      have z2 := V.int.inj z
      rw [len_nats] at z2
      have hnil : Oh.Pos.plays ⟨l, st, ld, t⟩ = [] := List.eq_nil_of_length_eq_zero (by omega)
      rw [hnil] at k
      exact k H1 s1
    · have hne : Oh.Pos.plays ⟨l, st, ld, t⟩ ≠ [] := fun z => c1 (by rw [z]; rfl)
      refine ⟨_, rfl, _, rfl, b, t, ld, rfl, s1.seq hT, _, rfl, _, rfl, _, rfl, _, rfl, _, rfl, a, b, d, l, t, st, ld, top, rfl, s1.seq hS, h4, s1.seq hT, hP, hleft, hne, SqL.of h1', fun e H2 he h2 s2 => ?_⟩
      exact ⟨e, _, (ld + t.length) % 4, rfl, SqL.of h2, fun z => hne (List.map_eq_nil_iff.mp z), k H2 (s1.trans s2)⟩
theorem ok_best_cards (n : Nat) (T : Txt K mg) (D : HasDef K mg "best_cards" s_best_cards ["strain", "leader", "hands", "trick"]) (O_playable_cards : Ok P w K mg base 3 "playable_cards" ["leader", "hands", "trick"] (spPC K)) (O_player_to_play : Ok P w K mg base 2 "player_to_play" ["leader", "trick"] (spPP K))
    (O_worths_after : Ok P w K mg base (3 * n + 3) "worths_after" ["strain", "leader", "hands", "trick", "cards"] (spWs K n)) (O_best_of : Ok P w K mg base 3 "best_of" ["player", "worths"] (spBO K)) : Ok P w K mg base (3 * n + 4) "best_cards" ["strain", "leader", "hands", "trick"] (spBC K n) := by
  refine D.ok sc_best_cards (fun vs H Q E h => ?_) (fun f cdv A outer s H vs Q E hr h => ?_)
  · obtain ⟨a, b, l, t, st, ld, top, rfl, _⟩ := h
    rfl
  · obtain ⟨a, b, l, t, st, ld, top, rfl, hS, h4, hT, hP, hleft, k⟩ := h
    have hpl := Mt.plays_len ⟨l, st, ld, t⟩
    refine ⟨_, (pss_cons (ps_set (i := 4) sc_best_cards.nd rfl (Or.inl rfl) (pe_co O_playable_cards (hr.mono (by first | decide | omega)) (pa_cons (pv 1) (pa_cons (pv 2) (pa_cons (pv 3) pa_nil)))))
      (pss_cons (ps_if (pt_cmpR op_eq (pe_callB call_len_seq (by rfl) T.n_len PySem.boot_len (pa_cons (pv 4) pa_nil)) pe_int (nomark _))
      (pss_one (ps_ret (pe_lst pa_nil))) pss_nil)
      (pss_cons (ps_set (i := 5) sc_best_cards.nd rfl (Or.inl rfl) (pe_co O_worths_after (hr.mono (by first | decide | omega)) (pa_cons (pv 0) (pa_cons (pv 1) (pa_cons (pv 2) (pa_cons (pv 3) (pa_cons (pv 4) pa_nil)))))))
      (pss_cons (ps_set (i := 6) sc_best_cards.nd rfl (Or.inr rfl) (pe_co O_best_of (hr.mono (by first | decide | omega)) (pa_cons (pe_co O_player_to_play (hr.mono (by first | decide | omega)) (pa_cons (pv 1) (pa_cons (pv 3) pa_nil))) (pa_cons (pv 5) pa_nil))))
      (pss_one (ps_ret (pe_lc rfl sc_best_cards.nd (pi_zip rfl T.n_zip (pa_cons (pv 4) (pa_cons (pv 5) pa_nil))) (blkOk_by (own := [("card", 7), ("after", 8)]) (show blkC ["strain", "leader", "hands", "trick", "cards", "worths", "kept", "card", "after"] (defScope s_best_cards) _ [("card", 7), ("after", 8)] = true by decide +kernel)) (fun _ _ _ _ _ => (pg_two K (i := 7) (j := 8) rfl rfl sc_best_cards.nd rfl (Or.inl rfl) rfl (Or.inl rfl))) (fun _ _ _ _ _ => (pts_one (pt_cmpR op_eq (pv 8) (pv 6) (nomark _)))) (fun _ _ _ _ _ => (pv 7))))))))), ?_⟩
    refine ⟨_, rfl, _, rfl, _, rfl, a, b, l, t, ld, rfl, hS, h4, hT, hP.good.low, hP.good.hlow, fun d H1 hd h1 s1 => ?_⟩
    have h1' : H1 d = some (.lst (((Oh.Pos.plays ⟨l, st, ld, t⟩).map Int.ofNat).map V.int)) := h1
    refine ⟨_, rfl, d, _, rfl, .inl (SqL.of h1'), rfl, _, rfl, ite2 (fun c1 => ?_) (fun c1 => ?_)⟩
    · have z : V.int (((((Oh.Pos.plays ⟨l, st, ld, t⟩).map Int.ofNat).map V.int).length : Nat) : Int) = V.int 0 := of_decide_eq_true c1
      have z2 := V.int.inj z
      rw [len_nats] at z2
      have hnil : Oh.Pos.plays ⟨l, st, ld, t⟩ = [] := List.eq_nil_of_length_eq_zero (by omega)
      have hb : Mt.bestW ⟨l, st, ld, t⟩ = [] := by
        unfold Mt.bestW
        rw [hnil]
        rfl
      rw [hb] at k
      exact ⟨(by show 0 ≤ sizeLine; decide), fun p hp => k p _ (s1.free hp) upd_same (s1.nw hp)⟩
    · have hne : Oh.Pos.plays ⟨l, st, ld, t⟩ ≠ [] := fun z => c1 (by rw [z]; rfl)
      refine ⟨_, rfl, _, rfl, _, rfl, _, rfl, _, rfl, a, b, d, l, t, st, ld, top, rfl, s1.seq hS, h4, s1.seq hT, hP, hleft, hne, SqL.of h1', fun e H2 he h2 s2 => ?_⟩
      have s12 := s1.trans s2
      refine ⟨_, rfl, _, rfl, b, t, ld, rfl, s12.seq hT, _, rfl, e, _, (ld + t.length) % 4, rfl, SqL.of h2, fun z => hne (List.map_eq_nil_iff.mp z), ?_⟩
      have hk : Mt.pickN ((ld + t.length) % 4 % 2) ((Oh.Pos.plays ⟨l, st, ld, t⟩).map (aft ⟨l, st, ld, t⟩)) = Mt.wth ⟨l, st, ld, t⟩ := (Mt.wth_pick ⟨l, st, ld, t⟩).symm
      refine ⟨_, rfl, _, rfl, d, e, _, _, rfl, s2.seq (SqL.of h1'), SqL.of h2, ?_⟩
      refine comp_zip (fun _ y => decide (y = ((Mt.wth ⟨l, st, ld, t⟩ : Nat) : Int))) (fun x _ => V.int x) (s2.seq (SqL.of h1')) (SqL.of h2) (by simp) (by rw [List.length_map]; exact small_line (by omega)) (fun x y => by rfl) (fun x y H' Q' _ q => ?_) (fun x y H' Q' _ q => ?_) (fun r H' hr' h3 s3 => ?_)
      · refine ⟨_, rfl, _, rfl, rfl, _, rfl, ?_⟩
        have e2 : decide (V.int y = V.int ((Mt.pickN ((ld + t.length) % 4 % 2) ((Oh.Pos.plays ⟨l, st, ld, t⟩).map (aft ⟨l, st, ld, t⟩)) : Nat) : Int)) = decide (y = ((Mt.wth ⟨l, st, ld, t⟩ : Nat) : Int)) := by
          rw [hk]
          apply decide_eq_decide.mpr
          exact ⟨fun z => V.int.inj z, fun z => by rw [z]⟩
        rw [e2]
        exact q
      · exact ⟨_, rfl, q⟩
      · refine k r H' (s12.free hr') ?_ (s12.trans s3)
        rw [h3]
        congr 2
        have z := Mt.zip_keep (aft ⟨l, st, ld, t⟩) (Mt.wth ⟨l, st, ld, t⟩) (Oh.Pos.plays ⟨l, st, ld, t⟩)
        have z2 := congrArg (List.map V.int) z
        rw [List.map_map] at z2
        exact z2
theorem ok_best (T : Txt K mg) (D : HasDef K mg "best" s_best ["strain", "leader", "hands", "trick"]) (O_best_play_refusal : Ok P w K mg base 7 "best_play_refusal" ["strain", "leader", "hands", "trick"] (spRef K refB)) (O_best_cards : Ok P w K mg base 40 "best_cards" ["strain", "leader", "hands", "trick"] (spBC K 12)) :
    Ok P w K mg base 41 "best" ["strain", "leader", "hands", "trick"] (spPos K PyWqamay.best) := by
  refine D.ok sc_best (fun vs H Q E h => ?_) (fun f cdv A outer s H vs Q E hr h => ?_)
  · obtain ⟨a, b, l, t, st, ld, rfl, _⟩ := h
    rfl
  · obtain ⟨a, b, l, t, st, ld, rfl, hS, hT, _, h6, k⟩ := h
    rw [Mt.best_due, Mt.posOf_nat, List.length_map] at k
    refine ⟨_, (pss_cons (ps_set (i := 4) sc_best.nd rfl (Or.inl rfl) (pe_co O_best_play_refusal (hr.mono (by first | decide | omega)) (pa_cons (pv 0) (pa_cons (pv 1) (pa_cons (pv 2) (pa_cons (pv 3) pa_nil))))))
      (pss_cons (ps_if (pt_cmpR op_ne (pv 4) pe_int (nomark _))
      (pss_one (ps_ret (pe_lst (pa_cons (pv 4) pa_nil)))) pss_nil)
      (pss_one (ps_ret (pe_op op_cat (pe_lst (pa_cons pe_int pa_nil)) (pe_co O_best_cards (hr.mono (by first | decide | omega)) (pa_cons (pv 0) (pa_cons (pv 1) (pa_cons (pv 2) (pa_cons (pv 3) pa_nil)))))))))), ?_⟩
    refine ⟨_, rfl, _, rfl, _, rfl, _, rfl, a, b, l, t, st, ld, rfl, hS, hT, h6, fun H1 s1 => ?_⟩
    refine ⟨_, rfl, rfl, _, rfl, ite2 (fun c1 => ?_) (fun c1 => ?_)⟩
    · have hne : ¬ refB l st ld t = 0 := fun z => by rw [z] at c1; simp at c1
      rw [refB_due hne] at k
      exact ⟨_, rfl, (by show 1 ≤ sizeLine; decide), fun p hp => k _ p upd_same⟩
    · have h0 : refB l st ld t = 0 := by
        have z : V.int (refB l st ld t) = V.int 0 := by simpa using c1
        exact V.int.inj z
      obtain ⟨h4, hok, hm⟩ := refB_good h0
      have hP : Mt.Pl (Oh.many (Oh.hand (Oh.Pos.whole ⟨l, st, ld, t⟩) 0)) ⟨l, st, ld, t⟩ := ⟨(Mt.ok_good hok).1, (Mt.ok_good hok).2⟩
      rw [if_pos h4, if_pos hok, if_pos hm, hP.best (by omega)] at k
      have hl := hP.fit.left
      have hpl := Mt.plays_len ⟨l, st, ld, t⟩
      have hbl : (Mt.bestW ⟨l, st, ld, t⟩).length ≤ 52 := Nat.le_trans (List.length_filter_le _ _) hpl
      refine ⟨(by show 1 ≤ sizeLine; decide), fun p hp => ?_⟩
      have s2 := s1.nw (o := HO.lst [V.int 0]) hp
      refine ⟨_, rfl, _, rfl, _, rfl, _, rfl, a, b, l, t, st, ld, _, rfl, s2.seq hS, h4, s2.seq hT, hP, by omega, fun c H2 hc h2 s3 => ?_⟩
      refine ⟨p, c, _, _, rfl, rfl, s3 _ _ upd_same, h2, ?_, fun r hr' => k _ r ?_⟩
      · rw [len_nats]
        have : (1000 : Nat) < sizeLine := by decide
        show 1 + _ ≤ sizeLine
        omega
      · rw [upd_same, List.map_cons]
        rfl
end
theorem all_mk {P : Program} {w : World} {K : PySem.W.Frag} {h : Heap} {mg : Str → Option Value} {fa : Addr} (X : K.In h) (G : h.Ns mainGlobals mg) (hfa : mg "best" = some (.ref fa))
    {t_RANKS : Tok} (a_RANKS : PySem.W.nsIn K mainGlobals "RANKS" = some (some (.int 13 t_RANKS)))
    {t_CARDS : Tok} (a_CARDS : PySem.W.nsIn K mainGlobals "CARDS" = some (some (.int 52 t_CARDS)))
    {t_PLAYERS : Tok} (a_PLAYERS : PySem.W.nsIn K mainGlobals "PLAYERS" = some (some (.int 4 t_PLAYERS)))
    {t_WHOLE_SUIT : Tok} (a_WHOLE_SUIT : PySem.W.nsIn K mainGlobals "WHOLE_SUIT" = some (some (.int 8191 t_WHOLE_SUIT)))
    {t_SIDES : Tok} (a_SIDES : PySem.W.nsIn K mainGlobals "SIDES" = some (some (.int 2 t_SIDES)))
    {t_NO_TRUMPS : Tok} (a_NO_TRUMPS : PySem.W.nsIn K mainGlobals "NO_TRUMPS" = some (some (.int 4 t_NO_TRUMPS)))
    {t_MOST_CARDS : Tok} (a_MOST_CARDS : PySem.W.nsIn K mainGlobals "MOST_CARDS" = some (some (.int 3 t_MOST_CARDS)))
    (z_all : PySem.W.nsIn K mainGlobals "all" = some none)
    (z_any : PySem.W.nsIn K mainGlobals "any" = some none)
    (z_enumerate : PySem.W.nsIn K mainGlobals "enumerate" = some none)
    (z_len : PySem.W.nsIn K mainGlobals "len" = some none)
    (z_list : PySem.W.nsIn K mainGlobals "list" = some none)
    (z_max : PySem.W.nsIn K mainGlobals "max" = some none)
    (z_min : PySem.W.nsIn K mainGlobals "min" = some none)
    (z_range : PySem.W.nsIn K mainGlobals "range" = some none)
    (z_set : PySem.W.nsIn K mainGlobals "set" = some none)
    (z_zip : PySem.W.nsIn K mainGlobals "zip" = some none)
    {f_holds : Addr} {od_holds an_holds : Option Addr} {sl_holds : Array (Option Value)} {oc_holds kV_holds dc_holds pm_holds cd_holds ct_holds : Value}
    (a_holds : PySem.W.nsIn K mainGlobals "holds" = some (some (.ref f_holds)))
    (l_holds : K.lookup f_holds = some ⟨oc_holds, od_holds, .func (PySem.W.fnOf "holds" "holds" (defArgs s_holds) (defBody s_holds) (defScope s_holds) .none kV_holds dc_holds pm_holds an_holds cd_holds ct_holds), sl_holds⟩)
    (c_holds : PySem.W.codeIn K cd_holds "holds" = true) (k_holds : PySem.W.keepIn K (.ref f_holds) = true)
    {f_card_count : Addr} {od_card_count an_card_count : Option Addr} {sl_card_count : Array (Option Value)} {oc_card_count kV_card_count dc_card_count pm_card_count cd_card_count ct_card_count : Value}
    (a_card_count : PySem.W.nsIn K mainGlobals "card_count" = some (some (.ref f_card_count)))
    (l_card_count : K.lookup f_card_count = some ⟨oc_card_count, od_card_count, .func (PySem.W.fnOf "card_count" "card_count" (defArgs s_card_count) (defBody s_card_count) (defScope s_card_count) .none kV_card_count dc_card_count pm_card_count an_card_count cd_card_count ct_card_count), sl_card_count⟩)
    (c_card_count : PySem.W.codeIn K cd_card_count "card_count" = true) (k_card_count : PySem.W.keepIn K (.ref f_card_count) = true)
    {f_has_bit_above : Addr} {od_has_bit_above an_has_bit_above : Option Addr} {sl_has_bit_above : Array (Option Value)} {oc_has_bit_above kV_has_bit_above dc_has_bit_above pm_has_bit_above cd_has_bit_above ct_has_bit_above : Value}
    (a_has_bit_above : PySem.W.nsIn K mainGlobals "has_bit_above" = some (some (.ref f_has_bit_above)))
    (l_has_bit_above : K.lookup f_has_bit_above = some ⟨oc_has_bit_above, od_has_bit_above, .func (PySem.W.fnOf "has_bit_above" "has_bit_above" (defArgs s_has_bit_above) (defBody s_has_bit_above) (defScope s_has_bit_above) .none kV_has_bit_above dc_has_bit_above pm_has_bit_above an_has_bit_above cd_has_bit_above ct_has_bit_above), sl_has_bit_above⟩)
    (c_has_bit_above : PySem.W.codeIn K cd_has_bit_above "has_bit_above" = true) (k_has_bit_above : PySem.W.keepIn K (.ref f_has_bit_above) = true)
    {f_has_card_twice : Addr} {od_has_card_twice an_has_card_twice : Option Addr} {sl_has_card_twice : Array (Option Value)} {oc_has_card_twice kV_has_card_twice dc_has_card_twice pm_has_card_twice cd_has_card_twice ct_has_card_twice : Value}
    (a_has_card_twice : PySem.W.nsIn K mainGlobals "has_card_twice" = some (some (.ref f_has_card_twice)))
    (l_has_card_twice : K.lookup f_has_card_twice = some ⟨oc_has_card_twice, od_has_card_twice, .func (PySem.W.fnOf "has_card_twice" "has_card_twice" (defArgs s_has_card_twice) (defBody s_has_card_twice) (defScope s_has_card_twice) .none kV_has_card_twice dc_has_card_twice pm_has_card_twice an_has_card_twice cd_has_card_twice ct_has_card_twice), sl_has_card_twice⟩)
    (c_has_card_twice : PySem.W.codeIn K cd_has_card_twice "has_card_twice" = true) (k_has_card_twice : PySem.W.keepIn K (.ref f_has_card_twice) = true)
    {f_has_unequal_hands : Addr} {od_has_unequal_hands an_has_unequal_hands : Option Addr} {sl_has_unequal_hands : Array (Option Value)} {oc_has_unequal_hands kV_has_unequal_hands dc_has_unequal_hands pm_has_unequal_hands cd_has_unequal_hands ct_has_unequal_hands : Value}
    (a_has_unequal_hands : PySem.W.nsIn K mainGlobals "has_unequal_hands" = some (some (.ref f_has_unequal_hands)))
    (l_has_unequal_hands : K.lookup f_has_unequal_hands = some ⟨oc_has_unequal_hands, od_has_unequal_hands, .func (PySem.W.fnOf "has_unequal_hands" "has_unequal_hands" (defArgs s_has_unequal_hands) (defBody s_has_unequal_hands) (defScope s_has_unequal_hands) .none kV_has_unequal_hands dc_has_unequal_hands pm_has_unequal_hands an_has_unequal_hands cd_has_unequal_hands ct_has_unequal_hands), sl_has_unequal_hands⟩)
    (c_has_unequal_hands : PySem.W.codeIn K cd_has_unequal_hands "has_unequal_hands" = true) (k_has_unequal_hands : PySem.W.keepIn K (.ref f_has_unequal_hands) = true)
    {f_deal_fault : Addr} {od_deal_fault an_deal_fault : Option Addr} {sl_deal_fault : Array (Option Value)} {oc_deal_fault kV_deal_fault dc_deal_fault pm_deal_fault cd_deal_fault ct_deal_fault : Value}
    (a_deal_fault : PySem.W.nsIn K mainGlobals "deal_fault" = some (some (.ref f_deal_fault)))
    (l_deal_fault : K.lookup f_deal_fault = some ⟨oc_deal_fault, od_deal_fault, .func (PySem.W.fnOf "deal_fault" "deal_fault" (defArgs s_deal_fault) (defBody s_deal_fault) (defScope s_deal_fault) .none kV_deal_fault dc_deal_fault pm_deal_fault an_deal_fault cd_deal_fault ct_deal_fault), sl_deal_fault⟩)
    (c_deal_fault : PySem.W.codeIn K cd_deal_fault "deal_fault" = true) (k_deal_fault : PySem.W.keepIn K (.ref f_deal_fault) = true)
    {f_is_deal : Addr} {od_is_deal an_is_deal : Option Addr} {sl_is_deal : Array (Option Value)} {oc_is_deal kV_is_deal dc_is_deal pm_is_deal cd_is_deal ct_is_deal : Value}
    (a_is_deal : PySem.W.nsIn K mainGlobals "is_deal" = some (some (.ref f_is_deal)))
    (l_is_deal : K.lookup f_is_deal = some ⟨oc_is_deal, od_is_deal, .func (PySem.W.fnOf "is_deal" "is_deal" (defArgs s_is_deal) (defBody s_is_deal) (defScope s_is_deal) .none kV_is_deal dc_is_deal pm_is_deal an_is_deal cd_is_deal ct_is_deal), sl_is_deal⟩)
    (c_is_deal : PySem.W.codeIn K cd_is_deal "is_deal" = true) (k_is_deal : PySem.W.keepIn K (.ref f_is_deal) = true)
    {f_side_of : Addr} {od_side_of an_side_of : Option Addr} {sl_side_of : Array (Option Value)} {oc_side_of kV_side_of dc_side_of pm_side_of cd_side_of ct_side_of : Value}
    (a_side_of : PySem.W.nsIn K mainGlobals "side_of" = some (some (.ref f_side_of)))
    (l_side_of : K.lookup f_side_of = some ⟨oc_side_of, od_side_of, .func (PySem.W.fnOf "side_of" "side_of" (defArgs s_side_of) (defBody s_side_of) (defScope s_side_of) .none kV_side_of dc_side_of pm_side_of an_side_of cd_side_of ct_side_of), sl_side_of⟩)
    (c_side_of : PySem.W.codeIn K cd_side_of "side_of" = true) (k_side_of : PySem.W.keepIn K (.ref f_side_of) = true)
    {f_suit_of : Addr} {od_suit_of an_suit_of : Option Addr} {sl_suit_of : Array (Option Value)} {oc_suit_of kV_suit_of dc_suit_of pm_suit_of cd_suit_of ct_suit_of : Value}
    (a_suit_of : PySem.W.nsIn K mainGlobals "suit_of" = some (some (.ref f_suit_of)))
    (l_suit_of : K.lookup f_suit_of = some ⟨oc_suit_of, od_suit_of, .func (PySem.W.fnOf "suit_of" "suit_of" (defArgs s_suit_of) (defBody s_suit_of) (defScope s_suit_of) .none kV_suit_of dc_suit_of pm_suit_of an_suit_of cd_suit_of ct_suit_of), sl_suit_of⟩)
    (c_suit_of : PySem.W.codeIn K cd_suit_of "suit_of" = true) (k_suit_of : PySem.W.keepIn K (.ref f_suit_of) = true)
    {f_cards_of_suit : Addr} {od_cards_of_suit an_cards_of_suit : Option Addr} {sl_cards_of_suit : Array (Option Value)} {oc_cards_of_suit kV_cards_of_suit dc_cards_of_suit pm_cards_of_suit cd_cards_of_suit ct_cards_of_suit : Value}
    (a_cards_of_suit : PySem.W.nsIn K mainGlobals "cards_of_suit" = some (some (.ref f_cards_of_suit)))
    (l_cards_of_suit : K.lookup f_cards_of_suit = some ⟨oc_cards_of_suit, od_cards_of_suit, .func (PySem.W.fnOf "cards_of_suit" "cards_of_suit" (defArgs s_cards_of_suit) (defBody s_cards_of_suit) (defScope s_cards_of_suit) .none kV_cards_of_suit dc_cards_of_suit pm_cards_of_suit an_cards_of_suit cd_cards_of_suit ct_cards_of_suit), sl_cards_of_suit⟩)
    (c_cards_of_suit : PySem.W.codeIn K cd_cards_of_suit "cards_of_suit" = true) (k_cards_of_suit : PySem.W.keepIn K (.ref f_cards_of_suit) = true)
    {f_cards_in : Addr} {od_cards_in an_cards_in : Option Addr} {sl_cards_in : Array (Option Value)} {oc_cards_in kV_cards_in dc_cards_in pm_cards_in cd_cards_in ct_cards_in : Value}
    (a_cards_in : PySem.W.nsIn K mainGlobals "cards_in" = some (some (.ref f_cards_in)))
    (l_cards_in : K.lookup f_cards_in = some ⟨oc_cards_in, od_cards_in, .func (PySem.W.fnOf "cards_in" "cards_in" (defArgs s_cards_in) (defBody s_cards_in) (defScope s_cards_in) .none kV_cards_in dc_cards_in pm_cards_in an_cards_in cd_cards_in ct_cards_in), sl_cards_in⟩)
    (c_cards_in : PySem.W.codeIn K cd_cards_in "cards_in" = true) (k_cards_in : PySem.W.keepIn K (.ref f_cards_in) = true)
    {f_player_at : Addr} {od_player_at an_player_at : Option Addr} {sl_player_at : Array (Option Value)} {oc_player_at kV_player_at dc_player_at pm_player_at cd_player_at ct_player_at : Value}
    (a_player_at : PySem.W.nsIn K mainGlobals "player_at" = some (some (.ref f_player_at)))
    (l_player_at : K.lookup f_player_at = some ⟨oc_player_at, od_player_at, .func (PySem.W.fnOf "player_at" "player_at" (defArgs s_player_at) (defBody s_player_at) (defScope s_player_at) .none kV_player_at dc_player_at pm_player_at an_player_at cd_player_at ct_player_at), sl_player_at⟩)
    (c_player_at : PySem.W.codeIn K cd_player_at "player_at" = true) (k_player_at : PySem.W.keepIn K (.ref f_player_at) = true)
    {f_player_to_play : Addr} {od_player_to_play an_player_to_play : Option Addr} {sl_player_to_play : Array (Option Value)} {oc_player_to_play kV_player_to_play dc_player_to_play pm_player_to_play cd_player_to_play ct_player_to_play : Value}
    (a_player_to_play : PySem.W.nsIn K mainGlobals "player_to_play" = some (some (.ref f_player_to_play)))
    (l_player_to_play : K.lookup f_player_to_play = some ⟨oc_player_to_play, od_player_to_play, .func (PySem.W.fnOf "player_to_play" "player_to_play" (defArgs s_player_to_play) (defBody s_player_to_play) (defScope s_player_to_play) .none kV_player_to_play dc_player_to_play pm_player_to_play an_player_to_play cd_player_to_play ct_player_to_play), sl_player_to_play⟩)
    (c_player_to_play : PySem.W.codeIn K cd_player_to_play "player_to_play" = true) (k_player_to_play : PySem.W.keepIn K (.ref f_player_to_play) = true)
    {f_are_different_cards : Addr} {od_are_different_cards an_are_different_cards : Option Addr} {sl_are_different_cards : Array (Option Value)} {oc_are_different_cards kV_are_different_cards dc_are_different_cards pm_are_different_cards cd_are_different_cards ct_are_different_cards : Value}
    (a_are_different_cards : PySem.W.nsIn K mainGlobals "are_different_cards" = some (some (.ref f_are_different_cards)))
    (l_are_different_cards : K.lookup f_are_different_cards = some ⟨oc_are_different_cards, od_are_different_cards, .func (PySem.W.fnOf "are_different_cards" "are_different_cards" (defArgs s_are_different_cards) (defBody s_are_different_cards) (defScope s_are_different_cards) .none kV_are_different_cards dc_are_different_cards pm_are_different_cards an_are_different_cards cd_are_different_cards ct_are_different_cards), sl_are_different_cards⟩)
    (c_are_different_cards : PySem.W.codeIn K cd_are_different_cards "are_different_cards" = true) (k_are_different_cards : PySem.W.keepIn K (.ref f_are_different_cards) = true)
    {f_are_in_no_hand : Addr} {od_are_in_no_hand an_are_in_no_hand : Option Addr} {sl_are_in_no_hand : Array (Option Value)} {oc_are_in_no_hand kV_are_in_no_hand dc_are_in_no_hand pm_are_in_no_hand cd_are_in_no_hand ct_are_in_no_hand : Value}
    (a_are_in_no_hand : PySem.W.nsIn K mainGlobals "are_in_no_hand" = some (some (.ref f_are_in_no_hand)))
    (l_are_in_no_hand : K.lookup f_are_in_no_hand = some ⟨oc_are_in_no_hand, od_are_in_no_hand, .func (PySem.W.fnOf "are_in_no_hand" "are_in_no_hand" (defArgs s_are_in_no_hand) (defBody s_are_in_no_hand) (defScope s_are_in_no_hand) .none kV_are_in_no_hand dc_are_in_no_hand pm_are_in_no_hand an_are_in_no_hand cd_are_in_no_hand ct_are_in_no_hand), sl_are_in_no_hand⟩)
    (c_are_in_no_hand : PySem.W.codeIn K cd_are_in_no_hand "are_in_no_hand" = true) (k_are_in_no_hand : PySem.W.keepIn K (.ref f_are_in_no_hand) = true)
    {f_hands_with_trick_back : Addr} {od_hands_with_trick_back an_hands_with_trick_back : Option Addr} {sl_hands_with_trick_back : Array (Option Value)} {oc_hands_with_trick_back kV_hands_with_trick_back dc_hands_with_trick_back pm_hands_with_trick_back cd_hands_with_trick_back ct_hands_with_trick_back : Value}
    (a_hands_with_trick_back : PySem.W.nsIn K mainGlobals "hands_with_trick_back" = some (some (.ref f_hands_with_trick_back)))
    (l_hands_with_trick_back : K.lookup f_hands_with_trick_back = some ⟨oc_hands_with_trick_back, od_hands_with_trick_back, .func (PySem.W.fnOf "hands_with_trick_back" "hands_with_trick_back" (defArgs s_hands_with_trick_back) (defBody s_hands_with_trick_back) (defScope s_hands_with_trick_back) .none kV_hands_with_trick_back dc_hands_with_trick_back pm_hands_with_trick_back an_hands_with_trick_back cd_hands_with_trick_back ct_hands_with_trick_back), sl_hands_with_trick_back⟩)
    (c_hands_with_trick_back : PySem.W.codeIn K cd_hands_with_trick_back "hands_with_trick_back" = true) (k_hands_with_trick_back : PySem.W.keepIn K (.ref f_hands_with_trick_back) = true)
    {f_all_followed : Addr} {od_all_followed an_all_followed : Option Addr} {sl_all_followed : Array (Option Value)} {oc_all_followed kV_all_followed dc_all_followed pm_all_followed cd_all_followed ct_all_followed : Value}
    (a_all_followed : PySem.W.nsIn K mainGlobals "all_followed" = some (some (.ref f_all_followed)))
    (l_all_followed : K.lookup f_all_followed = some ⟨oc_all_followed, od_all_followed, .func (PySem.W.fnOf "all_followed" "all_followed" (defArgs s_all_followed) (defBody s_all_followed) (defScope s_all_followed) .none kV_all_followed dc_all_followed pm_all_followed an_all_followed cd_all_followed ct_all_followed), sl_all_followed⟩)
    (c_all_followed : PySem.W.codeIn K cd_all_followed "all_followed" = true) (k_all_followed : PySem.W.keepIn K (.ref f_all_followed) = true)
    {f_is_position : Addr} {od_is_position an_is_position : Option Addr} {sl_is_position : Array (Option Value)} {oc_is_position kV_is_position dc_is_position pm_is_position cd_is_position ct_is_position : Value}
    (a_is_position : PySem.W.nsIn K mainGlobals "is_position" = some (some (.ref f_is_position)))
    (l_is_position : K.lookup f_is_position = some ⟨oc_is_position, od_is_position, .func (PySem.W.fnOf "is_position" "is_position" (defArgs s_is_position) (defBody s_is_position) (defScope s_is_position) .none kV_is_position dc_is_position pm_is_position an_is_position cd_is_position ct_is_position), sl_is_position⟩)
    (c_is_position : PySem.W.codeIn K cd_is_position "is_position" = true) (k_is_position : PySem.W.keepIn K (.ref f_is_position) = true)
    {f_playable_cards : Addr} {od_playable_cards an_playable_cards : Option Addr} {sl_playable_cards : Array (Option Value)} {oc_playable_cards kV_playable_cards dc_playable_cards pm_playable_cards cd_playable_cards ct_playable_cards : Value}
    (a_playable_cards : PySem.W.nsIn K mainGlobals "playable_cards" = some (some (.ref f_playable_cards)))
    (l_playable_cards : K.lookup f_playable_cards = some ⟨oc_playable_cards, od_playable_cards, .func (PySem.W.fnOf "playable_cards" "playable_cards" (defArgs s_playable_cards) (defBody s_playable_cards) (defScope s_playable_cards) .none kV_playable_cards dc_playable_cards pm_playable_cards an_playable_cards cd_playable_cards ct_playable_cards), sl_playable_cards⟩)
    (c_playable_cards : PySem.W.codeIn K cd_playable_cards "playable_cards" = true) (k_playable_cards : PySem.W.keepIn K (.ref f_playable_cards) = true)
    {f_height : Addr} {od_height an_height : Option Addr} {sl_height : Array (Option Value)} {oc_height kV_height dc_height pm_height cd_height ct_height : Value}
    (a_height : PySem.W.nsIn K mainGlobals "height" = some (some (.ref f_height)))
    (l_height : K.lookup f_height = some ⟨oc_height, od_height, .func (PySem.W.fnOf "height" "height" (defArgs s_height) (defBody s_height) (defScope s_height) .none kV_height dc_height pm_height an_height cd_height ct_height), sl_height⟩)
    (c_height : PySem.W.codeIn K cd_height "height" = true) (k_height : PySem.W.keepIn K (.ref f_height) = true)
    {f_trick_winner : Addr} {od_trick_winner an_trick_winner : Option Addr} {sl_trick_winner : Array (Option Value)} {oc_trick_winner kV_trick_winner dc_trick_winner pm_trick_winner cd_trick_winner ct_trick_winner : Value}
    (a_trick_winner : PySem.W.nsIn K mainGlobals "trick_winner" = some (some (.ref f_trick_winner)))
    (l_trick_winner : K.lookup f_trick_winner = some ⟨oc_trick_winner, od_trick_winner, .func (PySem.W.fnOf "trick_winner" "trick_winner" (defArgs s_trick_winner) (defBody s_trick_winner) (defScope s_trick_winner) .none kV_trick_winner dc_trick_winner pm_trick_winner an_trick_winner cd_trick_winner ct_trick_winner), sl_trick_winner⟩)
    (c_trick_winner : PySem.W.codeIn K cd_trick_winner "trick_winner" = true) (k_trick_winner : PySem.W.keepIn K (.ref f_trick_winner) = true)
    {f_is_of_side_0 : Addr} {od_is_of_side_0 an_is_of_side_0 : Option Addr} {sl_is_of_side_0 : Array (Option Value)} {oc_is_of_side_0 kV_is_of_side_0 dc_is_of_side_0 pm_is_of_side_0 cd_is_of_side_0 ct_is_of_side_0 : Value}
    (a_is_of_side_0 : PySem.W.nsIn K mainGlobals "is_of_side_0" = some (some (.ref f_is_of_side_0)))
    (l_is_of_side_0 : K.lookup f_is_of_side_0 = some ⟨oc_is_of_side_0, od_is_of_side_0, .func (PySem.W.fnOf "is_of_side_0" "is_of_side_0" (defArgs s_is_of_side_0) (defBody s_is_of_side_0) (defScope s_is_of_side_0) .none kV_is_of_side_0 dc_is_of_side_0 pm_is_of_side_0 an_is_of_side_0 cd_is_of_side_0 ct_is_of_side_0), sl_is_of_side_0⟩)
    (c_is_of_side_0 : PySem.W.codeIn K cd_is_of_side_0 "is_of_side_0" = true) (k_is_of_side_0 : PySem.W.keepIn K (.ref f_is_of_side_0) = true)
    {f_hands_after : Addr} {od_hands_after an_hands_after : Option Addr} {sl_hands_after : Array (Option Value)} {oc_hands_after kV_hands_after dc_hands_after pm_hands_after cd_hands_after ct_hands_after : Value}
    (a_hands_after : PySem.W.nsIn K mainGlobals "hands_after" = some (some (.ref f_hands_after)))
    (l_hands_after : K.lookup f_hands_after = some ⟨oc_hands_after, od_hands_after, .func (PySem.W.fnOf "hands_after" "hands_after" (defArgs s_hands_after) (defBody s_hands_after) (defScope s_hands_after) .none kV_hands_after dc_hands_after pm_hands_after an_hands_after cd_hands_after ct_hands_after), sl_hands_after⟩)
    (c_hands_after : PySem.W.codeIn K cd_hands_after "hands_after" = true) (k_hands_after : PySem.W.keepIn K (.ref f_hands_after) = true)
    {f_worth_after : Addr} {od_worth_after an_worth_after : Option Addr} {sl_worth_after : Array (Option Value)} {oc_worth_after kV_worth_after dc_worth_after pm_worth_after cd_worth_after ct_worth_after : Value}
    (a_worth_after : PySem.W.nsIn K mainGlobals "worth_after" = some (some (.ref f_worth_after)))
    (l_worth_after : K.lookup f_worth_after = some ⟨oc_worth_after, od_worth_after, .func (PySem.W.fnOf "worth_after" "worth_after" (defArgs s_worth_after) (defBody s_worth_after) (defScope s_worth_after) .none kV_worth_after dc_worth_after pm_worth_after an_worth_after cd_worth_after ct_worth_after), sl_worth_after⟩)
    (c_worth_after : PySem.W.codeIn K cd_worth_after "worth_after" = true) (k_worth_after : PySem.W.keepIn K (.ref f_worth_after) = true)
    {f_worths_after : Addr} {od_worths_after an_worths_after : Option Addr} {sl_worths_after : Array (Option Value)} {oc_worths_after kV_worths_after dc_worths_after pm_worths_after cd_worths_after ct_worths_after : Value}
    (a_worths_after : PySem.W.nsIn K mainGlobals "worths_after" = some (some (.ref f_worths_after)))
    (l_worths_after : K.lookup f_worths_after = some ⟨oc_worths_after, od_worths_after, .func (PySem.W.fnOf "worths_after" "worths_after" (defArgs s_worths_after) (defBody s_worths_after) (defScope s_worths_after) .none kV_worths_after dc_worths_after pm_worths_after an_worths_after cd_worths_after ct_worths_after), sl_worths_after⟩)
    (c_worths_after : PySem.W.codeIn K cd_worths_after "worths_after" = true) (k_worths_after : PySem.W.keepIn K (.ref f_worths_after) = true)
    {f_best_of : Addr} {od_best_of an_best_of : Option Addr} {sl_best_of : Array (Option Value)} {oc_best_of kV_best_of dc_best_of pm_best_of cd_best_of ct_best_of : Value}
    (a_best_of : PySem.W.nsIn K mainGlobals "best_of" = some (some (.ref f_best_of)))
    (l_best_of : K.lookup f_best_of = some ⟨oc_best_of, od_best_of, .func (PySem.W.fnOf "best_of" "best_of" (defArgs s_best_of) (defBody s_best_of) (defScope s_best_of) .none kV_best_of dc_best_of pm_best_of an_best_of cd_best_of ct_best_of), sl_best_of⟩)
    (c_best_of : PySem.W.codeIn K cd_best_of "best_of" = true) (k_best_of : PySem.W.keepIn K (.ref f_best_of) = true)
    {f_worth : Addr} {od_worth an_worth : Option Addr} {sl_worth : Array (Option Value)} {oc_worth kV_worth dc_worth pm_worth cd_worth ct_worth : Value}
    (a_worth : PySem.W.nsIn K mainGlobals "worth" = some (some (.ref f_worth)))
    (l_worth : K.lookup f_worth = some ⟨oc_worth, od_worth, .func (PySem.W.fnOf "worth" "worth" (defArgs s_worth) (defBody s_worth) (defScope s_worth) .none kV_worth dc_worth pm_worth an_worth cd_worth ct_worth), sl_worth⟩)
    (c_worth : PySem.W.codeIn K cd_worth "worth" = true) (k_worth : PySem.W.keepIn K (.ref f_worth) = true)
    {f_best_cards : Addr} {od_best_cards an_best_cards : Option Addr} {sl_best_cards : Array (Option Value)} {oc_best_cards kV_best_cards dc_best_cards pm_best_cards cd_best_cards ct_best_cards : Value}
    (a_best_cards : PySem.W.nsIn K mainGlobals "best_cards" = some (some (.ref f_best_cards)))
    (l_best_cards : K.lookup f_best_cards = some ⟨oc_best_cards, od_best_cards, .func (PySem.W.fnOf "best_cards" "best_cards" (defArgs s_best_cards) (defBody s_best_cards) (defScope s_best_cards) .none kV_best_cards dc_best_cards pm_best_cards an_best_cards cd_best_cards ct_best_cards), sl_best_cards⟩)
    (c_best_cards : PySem.W.codeIn K cd_best_cards "best_cards" = true) (k_best_cards : PySem.W.keepIn K (.ref f_best_cards) = true)
    {f_position_refusal : Addr} {od_position_refusal an_position_refusal : Option Addr} {sl_position_refusal : Array (Option Value)} {oc_position_refusal kV_position_refusal dc_position_refusal pm_position_refusal cd_position_refusal ct_position_refusal : Value}
    (a_position_refusal : PySem.W.nsIn K mainGlobals "position_refusal" = some (some (.ref f_position_refusal)))
    (l_position_refusal : K.lookup f_position_refusal = some ⟨oc_position_refusal, od_position_refusal, .func (PySem.W.fnOf "position_refusal" "position_refusal" (defArgs s_position_refusal) (defBody s_position_refusal) (defScope s_position_refusal) .none kV_position_refusal dc_position_refusal pm_position_refusal an_position_refusal cd_position_refusal ct_position_refusal), sl_position_refusal⟩)
    (c_position_refusal : PySem.W.codeIn K cd_position_refusal "position_refusal" = true) (k_position_refusal : PySem.W.keepIn K (.ref f_position_refusal) = true)
    {f_best_play_refusal : Addr} {od_best_play_refusal an_best_play_refusal : Option Addr} {sl_best_play_refusal : Array (Option Value)} {oc_best_play_refusal kV_best_play_refusal dc_best_play_refusal pm_best_play_refusal cd_best_play_refusal ct_best_play_refusal : Value}
    (a_best_play_refusal : PySem.W.nsIn K mainGlobals "best_play_refusal" = some (some (.ref f_best_play_refusal)))
    (l_best_play_refusal : K.lookup f_best_play_refusal = some ⟨oc_best_play_refusal, od_best_play_refusal, .func (PySem.W.fnOf "best_play_refusal" "best_play_refusal" (defArgs s_best_play_refusal) (defBody s_best_play_refusal) (defScope s_best_play_refusal) .none kV_best_play_refusal dc_best_play_refusal pm_best_play_refusal an_best_play_refusal cd_best_play_refusal ct_best_play_refusal), sl_best_play_refusal⟩)
    (c_best_play_refusal : PySem.W.codeIn K cd_best_play_refusal "best_play_refusal" = true) (k_best_play_refusal : PySem.W.keepIn K (.ref f_best_play_refusal) = true)
    {f_best : Addr} {od_best an_best : Option Addr} {sl_best : Array (Option Value)} {oc_best kV_best dc_best pm_best cd_best ct_best : Value}
    (a_best : PySem.W.nsIn K mainGlobals "best" = some (some (.ref f_best)))
    (l_best : K.lookup f_best = some ⟨oc_best, od_best, .func (PySem.W.fnOf "best" "best" (defArgs s_best) (defBody s_best) (defScope s_best) .none kV_best dc_best pm_best an_best cd_best ct_best), sl_best⟩)
    (c_best : PySem.W.codeIn K cd_best "best" = true) (k_best : PySem.W.keepIn K (.ref f_best) = true)
    : ∃ fd : FuncData, (∀ (s : Shared) (us : List Value), us.length = (["strain", "leader", "hands", "trick"] : List Str).length → BindsTo s fd ⟨us, []⟩ ((["strain", "leader", "hands", "trick"] : List Str).zip us)) ∧ ∀ base : Heap, K.In base → base.Ns mainGlobals mg → FnOk P w K mg base CX0 41 fa fd ["strain", "leader", "hands", "trick"] (spPos K PyWqamay.best) := by
  have T : Txt K mg := ⟨⟨_, PySem.W.mg_of X G a_RANKS⟩, ⟨_, PySem.W.mg_of X G a_CARDS⟩, ⟨_, PySem.W.mg_of X G a_PLAYERS⟩, ⟨_, PySem.W.mg_of X G a_WHOLE_SUIT⟩, ⟨_, PySem.W.mg_of X G a_SIDES⟩, ⟨_, PySem.W.mg_of X G a_NO_TRUMPS⟩, ⟨_, PySem.W.mg_of X G a_MOST_CARDS⟩, PySem.W.mg_none_of X G z_all, PySem.W.mg_none_of X G z_any, PySem.W.mg_none_of X G z_enumerate, PySem.W.mg_none_of X G z_len, PySem.W.mg_none_of X G z_list, PySem.W.mg_none_of X G z_max, PySem.W.mg_none_of X G z_min, PySem.W.mg_none_of X G z_range, PySem.W.mg_none_of X G z_set, PySem.W.mg_none_of X G z_zip⟩
  have D_holds : HasDef K mg "holds" s_holds ["hand", "card"] := ⟨_, _, fun_mk (st := s_holds) l_holds c_holds k_holds, PySem.W.mg_of X G a_holds, (fun_mk (st := s_holds) l_holds c_holds k_holds).binds (ps := ["hand", "card"]) fun _ _ _ _ _ _ us hl => match us, hl with | [_, _], _ => rfl⟩
  have D_card_count : HasDef K mg "card_count" s_card_count ["hand"] := ⟨_, _, fun_mk (st := s_card_count) l_card_count c_card_count k_card_count, PySem.W.mg_of X G a_card_count, (fun_mk (st := s_card_count) l_card_count c_card_count k_card_count).binds (ps := ["hand"]) fun _ _ _ _ _ _ us hl => match us, hl with | [_], _ => rfl⟩
  have D_has_bit_above : HasDef K mg "has_bit_above" s_has_bit_above ["hands"] := ⟨_, _, fun_mk (st := s_has_bit_above) l_has_bit_above c_has_bit_above k_has_bit_above, PySem.W.mg_of X G a_has_bit_above, (fun_mk (st := s_has_bit_above) l_has_bit_above c_has_bit_above k_has_bit_above).binds (ps := ["hands"]) fun _ _ _ _ _ _ us hl => match us, hl with | [_], _ => rfl⟩
  have D_has_card_twice : HasDef K mg "has_card_twice" s_has_card_twice ["hands"] := ⟨_, _, fun_mk (st := s_has_card_twice) l_has_card_twice c_has_card_twice k_has_card_twice, PySem.W.mg_of X G a_has_card_twice, (fun_mk (st := s_has_card_twice) l_has_card_twice c_has_card_twice k_has_card_twice).binds (ps := ["hands"]) fun _ _ _ _ _ _ us hl => match us, hl with | [_], _ => rfl⟩
  have D_has_unequal_hands : HasDef K mg "has_unequal_hands" s_has_unequal_hands ["hands"] := ⟨_, _, fun_mk (st := s_has_unequal_hands) l_has_unequal_hands c_has_unequal_hands k_has_unequal_hands, PySem.W.mg_of X G a_has_unequal_hands, (fun_mk (st := s_has_unequal_hands) l_has_unequal_hands c_has_unequal_hands k_has_unequal_hands).binds (ps := ["hands"]) fun _ _ _ _ _ _ us hl => match us, hl with | [_], _ => rfl⟩
  have D_deal_fault : HasDef K mg "deal_fault" s_deal_fault ["hands"] := ⟨_, _, fun_mk (st := s_deal_fault) l_deal_fault c_deal_fault k_deal_fault, PySem.W.mg_of X G a_deal_fault, (fun_mk (st := s_deal_fault) l_deal_fault c_deal_fault k_deal_fault).binds (ps := ["hands"]) fun _ _ _ _ _ _ us hl => match us, hl with | [_], _ => rfl⟩
  have D_is_deal : HasDef K mg "is_deal" s_is_deal ["hands"] := ⟨_, _, fun_mk (st := s_is_deal) l_is_deal c_is_deal k_is_deal, PySem.W.mg_of X G a_is_deal, (fun_mk (st := s_is_deal) l_is_deal c_is_deal k_is_deal).binds (ps := ["hands"]) fun _ _ _ _ _ _ us hl => match us, hl with | [_], _ => rfl⟩
  have D_side_of : HasDef K mg "side_of" s_side_of ["player"] := ⟨_, _, fun_mk (st := s_side_of) l_side_of c_side_of k_side_of, PySem.W.mg_of X G a_side_of, (fun_mk (st := s_side_of) l_side_of c_side_of k_side_of).binds (ps := ["player"]) fun _ _ _ _ _ _ us hl => match us, hl with | [_], _ => rfl⟩
  have D_suit_of : HasDef K mg "suit_of" s_suit_of ["card"] := ⟨_, _, fun_mk (st := s_suit_of) l_suit_of c_suit_of k_suit_of, PySem.W.mg_of X G a_suit_of, (fun_mk (st := s_suit_of) l_suit_of c_suit_of k_suit_of).binds (ps := ["card"]) fun _ _ _ _ _ _ us hl => match us, hl with | [_], _ => rfl⟩
  have D_cards_of_suit : HasDef K mg "cards_of_suit" s_cards_of_suit ["hand", "suit"] := ⟨_, _, fun_mk (st := s_cards_of_suit) l_cards_of_suit c_cards_of_suit k_cards_of_suit, PySem.W.mg_of X G a_cards_of_suit, (fun_mk (st := s_cards_of_suit) l_cards_of_suit c_cards_of_suit k_cards_of_suit).binds (ps := ["hand", "suit"]) fun _ _ _ _ _ _ us hl => match us, hl with | [_, _], _ => rfl⟩
  have D_cards_in : HasDef K mg "cards_in" s_cards_in ["hand"] := ⟨_, _, fun_mk (st := s_cards_in) l_cards_in c_cards_in k_cards_in, PySem.W.mg_of X G a_cards_in, (fun_mk (st := s_cards_in) l_cards_in c_cards_in k_cards_in).binds (ps := ["hand"]) fun _ _ _ _ _ _ us hl => match us, hl with | [_], _ => rfl⟩
  have D_player_at : HasDef K mg "player_at" s_player_at ["leader", "place"] := ⟨_, _, fun_mk (st := s_player_at) l_player_at c_player_at k_player_at, PySem.W.mg_of X G a_player_at, (fun_mk (st := s_player_at) l_player_at c_player_at k_player_at).binds (ps := ["leader", "place"]) fun _ _ _ _ _ _ us hl => match us, hl with | [_, _], _ => rfl⟩
  have D_player_to_play : HasDef K mg "player_to_play" s_player_to_play ["leader", "trick"] := ⟨_, _, fun_mk (st := s_player_to_play) l_player_to_play c_player_to_play k_player_to_play, PySem.W.mg_of X G a_player_to_play, (fun_mk (st := s_player_to_play) l_player_to_play c_player_to_play k_player_to_play).binds (ps := ["leader", "trick"]) fun _ _ _ _ _ _ us hl => match us, hl with | [_, _], _ => rfl⟩
  have D_are_different_cards : HasDef K mg "are_different_cards" s_are_different_cards ["cards"] := ⟨_, _, fun_mk (st := s_are_different_cards) l_are_different_cards c_are_different_cards k_are_different_cards, PySem.W.mg_of X G a_are_different_cards, (fun_mk (st := s_are_different_cards) l_are_different_cards c_are_different_cards k_are_different_cards).binds (ps := ["cards"]) fun _ _ _ _ _ _ us hl => match us, hl with | [_], _ => rfl⟩
  have D_are_in_no_hand : HasDef K mg "are_in_no_hand" s_are_in_no_hand ["cards", "hands"] := ⟨_, _, fun_mk (st := s_are_in_no_hand) l_are_in_no_hand c_are_in_no_hand k_are_in_no_hand, PySem.W.mg_of X G a_are_in_no_hand, (fun_mk (st := s_are_in_no_hand) l_are_in_no_hand c_are_in_no_hand k_are_in_no_hand).binds (ps := ["cards", "hands"]) fun _ _ _ _ _ _ us hl => match us, hl with | [_, _], _ => rfl⟩
  have D_hands_with_trick_back : HasDef K mg "hands_with_trick_back" s_hands_with_trick_back ["leader", "hands", "trick"] := ⟨_, _, fun_mk (st := s_hands_with_trick_back) l_hands_with_trick_back c_hands_with_trick_back k_hands_with_trick_back, PySem.W.mg_of X G a_hands_with_trick_back, (fun_mk (st := s_hands_with_trick_back) l_hands_with_trick_back c_hands_with_trick_back k_hands_with_trick_back).binds (ps := ["leader", "hands", "trick"]) fun _ _ _ _ _ _ us hl => match us, hl with | [_, _, _], _ => rfl⟩
  have D_all_followed : HasDef K mg "all_followed" s_all_followed ["leader", "hands", "trick"] := ⟨_, _, fun_mk (st := s_all_followed) l_all_followed c_all_followed k_all_followed, PySem.W.mg_of X G a_all_followed, (fun_mk (st := s_all_followed) l_all_followed c_all_followed k_all_followed).binds (ps := ["leader", "hands", "trick"]) fun _ _ _ _ _ _ us hl => match us, hl with | [_, _, _], _ => rfl⟩
  have D_is_position : HasDef K mg "is_position" s_is_position ["strain", "leader", "hands", "trick"] := ⟨_, _, fun_mk (st := s_is_position) l_is_position c_is_position k_is_position, PySem.W.mg_of X G a_is_position, (fun_mk (st := s_is_position) l_is_position c_is_position k_is_position).binds (ps := ["strain", "leader", "hands", "trick"]) fun _ _ _ _ _ _ us hl => match us, hl with | [_, _, _, _], _ => rfl⟩
  have D_playable_cards : HasDef K mg "playable_cards" s_playable_cards ["leader", "hands", "trick"] := ⟨_, _, fun_mk (st := s_playable_cards) l_playable_cards c_playable_cards k_playable_cards, PySem.W.mg_of X G a_playable_cards, (fun_mk (st := s_playable_cards) l_playable_cards c_playable_cards k_playable_cards).binds (ps := ["leader", "hands", "trick"]) fun _ _ _ _ _ _ us hl => match us, hl with | [_, _, _], _ => rfl⟩
  have D_height : HasDef K mg "height" s_height ["strain", "led", "card"] := ⟨_, _, fun_mk (st := s_height) l_height c_height k_height, PySem.W.mg_of X G a_height, (fun_mk (st := s_height) l_height c_height k_height).binds (ps := ["strain", "led", "card"]) fun _ _ _ _ _ _ us hl => match us, hl with | [_, _, _], _ => rfl⟩
  have D_trick_winner : HasDef K mg "trick_winner" s_trick_winner ["strain", "leader", "cards"] := ⟨_, _, fun_mk (st := s_trick_winner) l_trick_winner c_trick_winner k_trick_winner, PySem.W.mg_of X G a_trick_winner, (fun_mk (st := s_trick_winner) l_trick_winner c_trick_winner k_trick_winner).binds (ps := ["strain", "leader", "cards"]) fun _ _ _ _ _ _ us hl => match us, hl with | [_, _, _], _ => rfl⟩
  have D_is_of_side_0 : HasDef K mg "is_of_side_0" s_is_of_side_0 ["player"] := ⟨_, _, fun_mk (st := s_is_of_side_0) l_is_of_side_0 c_is_of_side_0 k_is_of_side_0, PySem.W.mg_of X G a_is_of_side_0, (fun_mk (st := s_is_of_side_0) l_is_of_side_0 c_is_of_side_0 k_is_of_side_0).binds (ps := ["player"]) fun _ _ _ _ _ _ us hl => match us, hl with | [_], _ => rfl⟩
  have D_hands_after : HasDef K mg "hands_after" s_hands_after ["leader", "hands", "trick", "card"] := ⟨_, _, fun_mk (st := s_hands_after) l_hands_after c_hands_after k_hands_after, PySem.W.mg_of X G a_hands_after, (fun_mk (st := s_hands_after) l_hands_after c_hands_after k_hands_after).binds (ps := ["leader", "hands", "trick", "card"]) fun _ _ _ _ _ _ us hl => match us, hl with | [_, _, _, _], _ => rfl⟩
  have D_worth_after : HasDef K mg "worth_after" s_worth_after ["strain", "leader", "hands", "trick", "card"] := ⟨_, _, fun_mk (st := s_worth_after) l_worth_after c_worth_after k_worth_after, PySem.W.mg_of X G a_worth_after, (fun_mk (st := s_worth_after) l_worth_after c_worth_after k_worth_after).binds (ps := ["strain", "leader", "hands", "trick", "card"]) fun _ _ _ _ _ _ us hl => match us, hl with | [_, _, _, _, _], _ => rfl⟩
  have D_worths_after : HasDef K mg "worths_after" s_worths_after ["strain", "leader", "hands", "trick", "cards"] := ⟨_, _, fun_mk (st := s_worths_after) l_worths_after c_worths_after k_worths_after, PySem.W.mg_of X G a_worths_after, (fun_mk (st := s_worths_after) l_worths_after c_worths_after k_worths_after).binds (ps := ["strain", "leader", "hands", "trick", "cards"]) fun _ _ _ _ _ _ us hl => match us, hl with | [_, _, _, _, _], _ => rfl⟩
  have D_best_of : HasDef K mg "best_of" s_best_of ["player", "worths"] := ⟨_, _, fun_mk (st := s_best_of) l_best_of c_best_of k_best_of, PySem.W.mg_of X G a_best_of, (fun_mk (st := s_best_of) l_best_of c_best_of k_best_of).binds (ps := ["player", "worths"]) fun _ _ _ _ _ _ us hl => match us, hl with | [_, _], _ => rfl⟩
  have D_worth : HasDef K mg "worth" s_worth ["strain", "leader", "hands", "trick"] := ⟨_, _, fun_mk (st := s_worth) l_worth c_worth k_worth, PySem.W.mg_of X G a_worth, (fun_mk (st := s_worth) l_worth c_worth k_worth).binds (ps := ["strain", "leader", "hands", "trick"]) fun _ _ _ _ _ _ us hl => match us, hl with | [_, _, _, _], _ => rfl⟩
  have D_best_cards : HasDef K mg "best_cards" s_best_cards ["strain", "leader", "hands", "trick"] := ⟨_, _, fun_mk (st := s_best_cards) l_best_cards c_best_cards k_best_cards, PySem.W.mg_of X G a_best_cards, (fun_mk (st := s_best_cards) l_best_cards c_best_cards k_best_cards).binds (ps := ["strain", "leader", "hands", "trick"]) fun _ _ _ _ _ _ us hl => match us, hl with | [_, _, _, _], _ => rfl⟩
  have D_position_refusal : HasDef K mg "position_refusal" s_position_refusal ["strain", "leader", "hands", "trick"] := ⟨_, _, fun_mk (st := s_position_refusal) l_position_refusal c_position_refusal k_position_refusal, PySem.W.mg_of X G a_position_refusal, (fun_mk (st := s_position_refusal) l_position_refusal c_position_refusal k_position_refusal).binds (ps := ["strain", "leader", "hands", "trick"]) fun _ _ _ _ _ _ us hl => match us, hl with | [_, _, _, _], _ => rfl⟩
  have D_best_play_refusal : HasDef K mg "best_play_refusal" s_best_play_refusal ["strain", "leader", "hands", "trick"] := ⟨_, _, fun_mk (st := s_best_play_refusal) l_best_play_refusal c_best_play_refusal k_best_play_refusal, PySem.W.mg_of X G a_best_play_refusal, (fun_mk (st := s_best_play_refusal) l_best_play_refusal c_best_play_refusal k_best_play_refusal).binds (ps := ["strain", "leader", "hands", "trick"]) fun _ _ _ _ _ _ us hl => match us, hl with | [_, _, _, _], _ => rfl⟩
  have D_best : HasDef K mg "best" s_best ["strain", "leader", "hands", "trick"] := ⟨_, _, fun_mk (st := s_best) l_best c_best k_best, PySem.W.mg_of X G a_best, (fun_mk (st := s_best) l_best c_best k_best).binds (ps := ["strain", "leader", "hands", "trick"]) fun _ _ _ _ _ _ us hl => match us, hl with | [_, _, _, _], _ => rfl⟩
  refine ⟨PySem.W.fnOf "best" "best" (defArgs s_best) (defBody s_best) (defScope s_best) .none kV_best dc_best pm_best an_best cd_best ct_best, fun s us hu => match us, hu with | [_, _, _, _], _ => .of_eq rfl, fun base _ _ => ?_⟩
  have e := hfa.symm.trans (PySem.W.mg_of X G a_best)
  cases e
  have K_card_count := ok_card_count (P := P) (w := w) (base := base) D_card_count
  have K_has_bit_above := ok_has_bit_above (P := P) (w := w) (base := base) T D_has_bit_above
  have K_has_card_twice := ok_has_card_twice (P := P) (w := w) (base := base) T D_has_card_twice
  have K_has_unequal_hands := ok_has_unequal_hands (P := P) (w := w) (base := base) T D_has_unequal_hands K_card_count
  have K_deal_fault := ok_deal_fault (P := P) (w := w) (base := base) T D_deal_fault K_has_bit_above K_has_card_twice K_has_unequal_hands
  have K_is_deal := ok_is_deal (P := P) (w := w) (base := base) T D_is_deal K_deal_fault
  have K_holds := ok_holds (P := P) (w := w) (base := base) D_holds
  have K_suit_of := ok_suit_of (P := P) (w := w) (base := base) T D_suit_of
  have K_cards_of_suit := ok_cards_of_suit (P := P) (w := w) (base := base) T D_cards_of_suit
  have K_player_at := ok_player_at (P := P) (w := w) (base := base) T D_player_at
  have K_are_different_cards := ok_are_different_cards (P := P) (w := w) (base := base) T D_are_different_cards
  have K_are_in_no_hand := ok_are_in_no_hand (P := P) (w := w) (base := base) T D_are_in_no_hand K_holds
  have K_hands_with_trick_back := ok_hands_with_trick_back (P := P) (w := w) (base := base) T D_hands_with_trick_back K_player_at
  have K_all_followed := ok_all_followed (P := P) (w := w) (base := base) T D_all_followed K_suit_of K_cards_of_suit K_player_at
  have K_is_position := ok_is_position (P := P) (w := w) (base := base) T D_is_position K_are_different_cards K_are_in_no_hand K_is_deal K_hands_with_trick_back K_all_followed
  have K_position_refusal := ok_position_refusal (P := P) (w := w) (base := base) T D_position_refusal K_is_position
  have K_cards_in := ok_cards_in (P := P) (w := w) (base := base) T D_cards_in
  have K_player_to_play := ok_player_to_play (P := P) (w := w) (base := base) T D_player_to_play K_player_at
  have K_playable_cards := ok_playable_cards (P := P) (w := w) (base := base) T D_playable_cards K_player_to_play K_cards_of_suit K_suit_of K_cards_in
  have K_height := ok_height (P := P) (w := w) (base := base) T D_height K_suit_of
  have K_trick_winner := ok_trick_winner (P := P) (w := w) (base := base) T D_trick_winner K_suit_of K_height K_player_at
  have K_side_of := ok_side_of (P := P) (w := w) (base := base) T D_side_of
  have K_is_of_side_0 := ok_is_of_side_0 (P := P) (w := w) (base := base) T D_is_of_side_0 K_side_of
  have K_best_of := ok_best_of (P := P) (w := w) (base := base) T D_best_of K_is_of_side_0
  have K_hands_after := ok_hands_after (P := P) (w := w) (base := base) T D_hands_after K_player_to_play
  have K_best_play_refusal := ok_best_play_refusal (P := P) (w := w) (base := base) T D_best_play_refusal K_position_refusal K_card_count K_hands_with_trick_back
  have K_step : ∀ n, Ok P w K mg base (3 * n + 3) "worths_after" ["strain", "leader", "hands", "trick", "cards"] (spWs K n) ∧ Ok P w K mg base (3 * n + 4) "worth" ["strain", "leader", "hands", "trick"] (spW K n) := by
    intro n
    induction n with
    | zero => exact ⟨ok_worths_zero D_worths_after, ok_worth 0 T D_worth K_playable_cards K_player_to_play (ok_worths_zero D_worths_after) K_best_of⟩
    | succ n ih =>
      have a1 := ok_worth_after n T D_worth_after K_hands_after ih.2 K_trick_winner K_is_of_side_0
      have a2 : Ok P w K mg base (3 * (n + 1) + 3) "worths_after" ["strain", "leader", "hands", "trick", "cards"] (spWs K (n + 1)) := ok_worths_after n T D_worths_after a1
      exact ⟨a2, ok_worth (n + 1) T D_worth K_playable_cards K_player_to_play a2 K_best_of⟩
  have K_worth := fun n => (K_step n).2
  have K_worths_after := fun n => (K_step n).1
  have K_best_cards := ok_best_cards (n := 12) (P := P) (w := w) (base := base) T D_best_cards K_playable_cards K_player_to_play (K_worths_after 12) K_best_of
  have K_best := ok_best (P := P) (w := w) (base := base) T D_best K_best_play_refusal K_best_cards
  exact K_best.fn (PySem.W.mg_of X G a_best) l_best
end W
open PySem PySem.W PyProof.Rows
set_option maxRecDepth 100000 in
set_option maxHeartbeats 0 in
theorem PySem.Challenge.cw_cardsseen_s12_best_holds : PySem.Challenge.rw_cardsseen_s12_best.Holds := by
  w_on; k_headS; (case hw => exact ⟨[.int 0, .int 0, .list [], .list []], by decide +kernel, by decide +kernel⟩)
  k_fillS
  refine L2.walk_specK (r := PySem.Challenge.rw_cardsseen_s12_best) (k := 41) (CX := L2.CX0) (ps := ["strain", "leader", "hands", "trick"]) (sp := fun K => (W.spPos K PyWqamay.best)) (by decide +kernel) rfl rfl ⟨rfl, by decide, by decide⟩ (fun w h Y => PySem.W.kIn_of Y) ?F ?S (fun _ _ _ _ z => z)
  case F =>
    intro w mg fa h Y KX G hmg
    refine' W.all_mk KX G hmg ?a_RANKS ?a_CARDS ?a_PLAYERS ?a_WHOLE_SUIT ?a_SIDES ?a_NO_TRUMPS ?a_MOST_CARDS ?z_all ?z_any ?z_enumerate ?z_len ?z_list ?z_max ?z_min ?z_range ?z_set ?z_zip ?a_holds ?l_holds ?c_holds ?k_holds ?a_card_count ?l_card_count ?c_card_count ?k_card_count ?a_has_bit_above ?l_has_bit_above ?c_has_bit_above ?k_has_bit_above ?a_has_card_twice ?l_has_card_twice ?c_has_card_twice ?k_has_card_twice ?a_has_unequal_hands ?l_has_unequal_hands ?c_has_unequal_hands ?k_has_unequal_hands ?a_deal_fault ?l_deal_fault ?c_deal_fault ?k_deal_fault ?a_is_deal ?l_is_deal ?c_is_deal ?k_is_deal ?a_side_of ?l_side_of ?c_side_of ?k_side_of ?a_suit_of ?l_suit_of ?c_suit_of ?k_suit_of ?a_cards_of_suit ?l_cards_of_suit ?c_cards_of_suit ?k_cards_of_suit ?a_cards_in ?l_cards_in ?c_cards_in ?k_cards_in ?a_player_at ?l_player_at ?c_player_at ?k_player_at ?a_player_to_play ?l_player_to_play ?c_player_to_play ?k_player_to_play ?a_are_different_cards ?l_are_different_cards ?c_are_different_cards ?k_are_different_cards ?a_are_in_no_hand ?l_are_in_no_hand ?c_are_in_no_hand ?k_are_in_no_hand ?a_hands_with_trick_back ?l_hands_with_trick_back ?c_hands_with_trick_back ?k_hands_with_trick_back ?a_all_followed ?l_all_followed ?c_all_followed ?k_all_followed ?a_is_position ?l_is_position ?c_is_position ?k_is_position ?a_playable_cards ?l_playable_cards ?c_playable_cards ?k_playable_cards ?a_height ?l_height ?c_height ?k_height ?a_trick_winner ?l_trick_winner ?c_trick_winner ?k_trick_winner ?a_is_of_side_0 ?l_is_of_side_0 ?c_is_of_side_0 ?k_is_of_side_0 ?a_hands_after ?l_hands_after ?c_hands_after ?k_hands_after ?a_worth_after ?l_worth_after ?c_worth_after ?k_worth_after ?a_worths_after ?l_worths_after ?c_worths_after ?k_worths_after ?a_best_of ?l_best_of ?c_best_of ?k_best_of ?a_worth ?l_worth ?c_worth ?k_worth ?a_best_cards ?l_best_cards ?c_best_cards ?k_best_cards ?a_position_refusal ?l_position_refusal ?c_position_refusal ?k_position_refusal ?a_best_play_refusal ?l_best_play_refusal ?c_best_play_refusal ?k_best_play_refusal ?a_best ?l_best ?c_best ?k_best
    (case a_RANKS => k_is)
    (case a_CARDS => k_is)
    (case a_PLAYERS => k_is)
    (case a_WHOLE_SUIT => k_is)
    (case a_SIDES => k_is)
    (case a_NO_TRUMPS => k_is)
    (case a_MOST_CARDS => k_is)
    (case z_all => k_is)
    (case z_any => k_is)
    (case z_enumerate => k_is)
    (case z_len => k_is)
    (case z_list => k_is)
    (case z_max => k_is)
    (case z_min => k_is)
    (case z_range => k_is)
    (case z_set => k_is)
    (case z_zip => k_is)
    (case a_holds => k_is)
    (case l_holds => k_is)
    (case c_holds => k_is)
    (case k_holds => k_is)
    (case a_card_count => k_is)
    (case l_card_count => k_is)
    (case c_card_count => k_is)
    (case k_card_count => k_is)
    (case a_has_bit_above => k_is)
    (case l_has_bit_above => k_is)
    (case c_has_bit_above => k_is)
    (case k_has_bit_above => k_is)
    (case a_has_card_twice => k_is)
    (case l_has_card_twice => k_is)
    (case c_has_card_twice => k_is)
    (case k_has_card_twice => k_is)
    (case a_has_unequal_hands => k_is)
    (case l_has_unequal_hands => k_is)
    (case c_has_unequal_hands => k_is)
    (case k_has_unequal_hands => k_is)
    (case a_deal_fault => k_is)
    (case l_deal_fault => k_is)
    (case c_deal_fault => k_is)
    (case k_deal_fault => k_is)
    (case a_is_deal => k_is)
    (case l_is_deal => k_is)
    (case c_is_deal => k_is)
    (case k_is_deal => k_is)
    (case a_side_of => k_is)
    (case l_side_of => k_is)
    (case c_side_of => k_is)
    (case k_side_of => k_is)
    (case a_suit_of => k_is)
    (case l_suit_of => k_is)
    (case c_suit_of => k_is)
    (case k_suit_of => k_is)
    (case a_cards_of_suit => k_is)
    (case l_cards_of_suit => k_is)
    (case c_cards_of_suit => k_is)
    (case k_cards_of_suit => k_is)
    (case a_cards_in => k_is)
    (case l_cards_in => k_is)
    (case c_cards_in => k_is)
    (case k_cards_in => k_is)
    (case a_player_at => k_is)
    (case l_player_at => k_is)
    (case c_player_at => k_is)
    (case k_player_at => k_is)
    (case a_player_to_play => k_is)
    (case l_player_to_play => k_is)
    (case c_player_to_play => k_is)
    (case k_player_to_play => k_is)
    (case a_are_different_cards => k_is)
    (case l_are_different_cards => k_is)
    (case c_are_different_cards => k_is)
    (case k_are_different_cards => k_is)
    (case a_are_in_no_hand => k_is)
    (case l_are_in_no_hand => k_is)
    (case c_are_in_no_hand => k_is)
    (case k_are_in_no_hand => k_is)
    (case a_hands_with_trick_back => k_is)
    (case l_hands_with_trick_back => k_is)
    (case c_hands_with_trick_back => k_is)
    (case k_hands_with_trick_back => k_is)
    (case a_all_followed => k_is)
    (case l_all_followed => k_is)
    (case c_all_followed => k_is)
    (case k_all_followed => k_is)
    (case a_is_position => k_is)
    (case l_is_position => k_is)
    (case c_is_position => k_is)
    (case k_is_position => k_is)
    (case a_playable_cards => k_is)
    (case l_playable_cards => k_is)
    (case c_playable_cards => k_is)
    (case k_playable_cards => k_is)
    (case a_height => k_is)
    (case l_height => k_is)
    (case c_height => k_is)
    (case k_height => k_is)
    (case a_trick_winner => k_is)
    (case l_trick_winner => k_is)
    (case c_trick_winner => k_is)
    (case k_trick_winner => k_is)
    (case a_is_of_side_0 => k_is)
    (case l_is_of_side_0 => k_is)
    (case c_is_of_side_0 => k_is)
    (case k_is_of_side_0 => k_is)
    (case a_hands_after => k_is)
    (case l_hands_after => k_is)
    (case c_hands_after => k_is)
    (case k_hands_after => k_is)
    (case a_worth_after => k_is)
    (case l_worth_after => k_is)
    (case c_worth_after => k_is)
    (case k_worth_after => k_is)
    (case a_worths_after => k_is)
    (case l_worths_after => k_is)
    (case c_worths_after => k_is)
    (case k_worths_after => k_is)
    (case a_best_of => k_is)
    (case l_best_of => k_is)
    (case c_best_of => k_is)
    (case k_best_of => k_is)
    (case a_worth => k_is)
    (case l_worth => k_is)
    (case c_worth => k_is)
    (case k_worth => k_is)
    (case a_best_cards => k_is)
    (case l_best_cards => k_is)
    (case c_best_cards => k_is)
    (case k_best_cards => k_is)
    (case a_position_refusal => k_is)
    (case l_position_refusal => k_is)
    (case c_position_refusal => k_is)
    (case k_position_refusal => k_is)
    (case a_best_play_refusal => k_is)
    (case l_best_play_refusal => k_is)
    (case c_best_play_refusal => k_is)
    (case k_best_play_refusal => k_is)
    (case a_best => k_is)
    (case l_best => k_is)
    (case c_best => k_is)
    (case k_best => k_is)
  case S =>
    intro K H xs a hO hwi hask hx
    cases hx with
    | cons h1 h2 =>
      cases h1
      cases h2 with
      | cons h3 h4 =>
        cases h3
        cases h4 with
        | cons h5 h6 =>
          cases h6 with
          | cons h7 h8 =>
            cases h8
            cases h5 with
            | lst hs ha =>
              cases h7 with
              | lst ht hb =>
                have e := L2.ints_dw a.2.2.1 _ ha
                subst e
                have e' := L2.ints_dw a.2.2.2.1 _ hb
                subst e'
                have q : (Codec.inInt 0 4294967295 a.1 && (Codec.inInt 0 4294967295 a.2.1 && ((Codec.inLen 0 6 a.2.2.1 && a.2.2.1.all (Codec.inInt 0 18446744073709551615)) && ((Codec.inLen 0 6 a.2.2.2.1 && a.2.2.2.1.all (Codec.inInt 0 4294967295)) && true)))) = true := hwi
                simp only [Bool.and_eq_true] at q
                obtain ⟨q1, q2, ⟨q3, q4⟩, ⟨q5, q6⟩, _⟩ := q
                have e1 : ((a.1.toNat : Nat) : Int) = a.1 := Int.toNat_of_nonneg (Codec.inInt_iff.mp q1).1
                have e2 : ((a.2.1.toNat : Nat) : Int) = a.2.1 := Int.toNat_of_nonneg (Codec.inInt_iff.mp q2).1
                have e3 : (a.2.2.1.map Int.toNat).map Int.ofNat = a.2.2.1 := (L2.nats_back fun n hn => (Codec.inInt_iff.mp (List.all_eq_true.mp q4 n hn)).1).symm
                have e4 : (a.2.2.2.1.map Int.toNat).map Int.ofNat = a.2.2.2.1 := (L2.nats_back fun n hn => (Codec.inInt_iff.mp (List.all_eq_true.mp q6 n hn)).1).symm
                refine ⟨L2.adr hs, L2.adr ht, a.2.2.1.map Int.toNat, a.2.2.2.1.map Int.toNat, a.1.toNat, a.2.1.toNat, ?_, ?_, ?_, ?_, ?_, fun H' p hp => ?_⟩
                · rw [e1, e2]
                · rw [W.LN, e3]
                  exact hs
                · rw [W.LN, e4]
                  exact ht
                · rw [List.length_map]
                  exact (Codec.inNat_iff.mp q3).2
                · rw [List.length_map]
                  exact (Codec.inNat_iff.mp q5).2
                · rw [e1, e2, e3, e4] at hp
                  exact .lst (L2.SqL.of hp) (L2.dw_ints _)
#print axioms PySem.Challenge.cw_cardsseen_s12_best_holds
