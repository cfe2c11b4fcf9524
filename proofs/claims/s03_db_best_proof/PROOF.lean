import PyProof.Rows.All
import Wide.All
import OpenK.AllK
import Wide.FinOn
import PyProof.EqAt
import PyProof.EqKinds
import PyProof.TupleCall
import Open.SpecLaws
import KE.OsHead
import KE.OsGo
import PySem.Challenge.RW_plancost_s03_db_best
set_option Elab.async false
set_option linter.all false
set_option maxRecDepth 100000
/-! THE HAND LAYER, for ints, bools, texts, own classes, LISTS and tuples (index, slices, in, append, pop ..), calls, loops. Paste it whole ahead of your own text; what your proof does not reach may be deleted. -/
namespace L2
open PySem PySem.Spec PyProof.Rows

/-- a key: an int or a str -/
abbrev Key := Sum Int Str
def keyIs : Key → Value → Bool
  | .inl k, v => Value.isInt k v
  | .inr x, v => Value.isStrOf x v
def keyH (w : World) : Key → Int
  | .inl k => hashInt k
  | .inr x => hashStr w x
theorem keyIs_shape : ∀ {k : Key} {v : Value}, keyIs k v = true → (∃ i t, k = Sum.inl i ∧ v = Value.int i t) ∨ (∃ x t, k = Sum.inr x ∧ v = Value.str x t)
  | .inl i, v, h => by
    obtain ⟨t, e⟩ := Value.isInt_shape (k := i) (v := v) h
    exact .inl ⟨i, t, rfl, e⟩
  | .inr x, v, h => by
    obtain ⟨t, e⟩ := Value.isStrOf_shape (x := x) (v := v) h
    exact .inr ⟨x, t, rfl, e⟩
theorem key_ll (a b : Int) : decide ((Sum.inl a : Key) = Sum.inl b) = (a == b) := by
  by_cases e : a = b
  · subst e; simp
  · have h : ¬ (Sum.inl a : Key) = Sum.inl b := fun q => e (Sum.inl.inj q)
    rw [decide_eq_false h]
    exact (beq_eq_false_iff_ne.mpr e).symm
theorem key_rr (a b : Str) : decide ((Sum.inr a : Key) = Sum.inr b) = decide (a = b) := by
  by_cases e : a = b
  · subst e; simp
  · have h : ¬ (Sum.inr a : Key) = Sum.inr b := fun q => e (Sum.inr.inj q)
    rw [decide_eq_false h, decide_eq_false e]
theorem key_lr (a : Int) (b : Str) : decide ((Sum.inl a : Key) = Sum.inr b) = false := decide_eq_false (fun q => nomatch q)
theorem key_rl (a : Str) (b : Int) : decide ((Sum.inr a : Key) = Sum.inl b) = false := decide_eq_false (fun q => nomatch q)

def mixKind (prog : Program) (w : World) : PySem.KeyKind prog w Key where
  is := keyIs
  hash := keyH w
  inj := fun v a b ha hb => by
    rcases keyIs_shape ha with ⟨i, t, rfl, rfl⟩ | ⟨x, t, rfl, rfl⟩
    · rcases keyIs_shape hb with ⟨j, u, rfl, e⟩ | ⟨y, u, rfl, e⟩
      · injection e with e1 _; rw [e1]
      · exact nomatch e
    · rcases keyIs_shape hb with ⟨j, u, rfl, e⟩ | ⟨y, u, rfl, e⟩
      · exact nomatch e
      · injection e with e1 _; rw [e1]
  byValue := fun k v h => by
    rcases keyIs_shape h with ⟨i, t, rfl, rfl⟩ | ⟨x, t, rfl, rfl⟩ <;> rfl
  pyHash := fun hv h => by
    rcases keyIs_shape hv with ⟨i, t, rfl, rfl⟩ | ⟨x, t, rfl, rfl⟩
    · exact wpAny_pyHash_int h
    · exact wpAny_pyHash_str h
  eqBool := fun hu hv h => by
    rcases keyIs_shape hu with ⟨i, t, rfl, rfl⟩ | ⟨x, t, rfl, rfl⟩
    · rcases keyIs_shape hv with ⟨j, u, rfl, rfl⟩ | ⟨y, u, rfl, rfl⟩
      · rw [key_ll] at h; exact wpAny_eqBool_int h
      · rw [key_lr] at h; exact SeqAt.EqAt.int_str i t y u _ _ _ _ h
    · rcases keyIs_shape hv with ⟨j, u, rfl, rfl⟩ | ⟨y, u, rfl, rfl⟩
      · rw [key_rl] at h; exact SeqAt.EqAt.str_int x t j u _ _ _ _ h
      · rw [key_rr] at h; exact wpAny_eqBool_str h
  «strs» := fun k x t v h => by
    rcases keyIs_shape h with ⟨i, u, rfl, e⟩ | ⟨y, u, rfl, e⟩
    · exact nomatch e
    · injection e with e1 _
      subst e1
      cases v <;> rfl

end L2

namespace L2
open PySem PySem.Spec PyProof.Rows

/-- a value, without the heap -/
inductive V where
  | non | bl (b : Bool) | int (i : Int) | str (x : Str) | byt (b : Array UInt8) | flt (b : UInt64) | ref (a : Addr) | ty (n : String)
  deriving DecidableEq

def RelV : V → Value → Prop
  | .non, u => u = Value.none
  | .bl b, u => u = Value.bool b
  | .int i, u => ∃ t, u = Value.int i t
  | .str x, u => ∃ t, u = Value.str x t
  | .byt b, u => ∃ t, u = Value.bytes b t
  | .flt b, u => ∃ t, u = Value.float b t
  | .ref a, u => u = Value.ref a
  | .ty n, u => u = Value.type n

abbrev Vals : List V → List Value → Prop := Paired RelV
theorem Vals.length {xs : List V} {us : List Value} (r : Vals xs us) : xs.length = us.length := Paired.length r
theorem Vals.get : ∀ {xs : List V} {us : List Value} {i : Nat} {x : V}, Vals xs us → xs[i]? = some x → ∃ u, us[i]? = some u ∧ RelV x u
  | _, _, _, _, .nil, e => by simp at e
  | _, _, 0, _, .cons r _, e => by simp at e; subst e; exact ⟨_, rfl, r⟩
  | _, _, i + 1, x, .cons _ t, e => by
    obtain ⟨u, h1, h2⟩ := Vals.get (i := i) (x := x) t (by simpa using e)
    exact ⟨u, by simpa using h1, h2⟩
theorem Vals.append : ∀ {xs ys : List V} {us ws : List Value}, Vals xs us → Vals ys ws → Vals (xs ++ ys) (us ++ ws)
  | _, _, _, _, .nil, s => s
  | _, _, _, _, .cons r t, s => .cons r (Vals.append t s)
theorem Vals.take : ∀ {xs : List V} {us : List Value} (n : Nat), Vals xs us → Vals (xs.take n) (us.take n)
  | _, _, 0, _ => .nil
  | _, _, _ + 1, .nil => .nil
  | _, _, n + 1, .cons r t => .cons r (Vals.take n t)
theorem Vals.drop : ∀ {xs : List V} {us : List Value} (n : Nat), Vals xs us → Vals (xs.drop n) (us.drop n)
  | _, _, 0, r => r
  | _, _, _ + 1, .nil => .nil
  | _, _, n + 1, .cons _ t => Vals.drop n t
def RelO : Option V → Option Value → Prop
  | some v, some u => RelV v u
  | none, none => True
  | _, _ => False
def KV {κ : Type} : List (κ × V) → List (κ × Value) → Prop := Paired fun (p : κ × V) (q : κ × Value) => p.1 = q.1 ∧ RelV p.2 q.2

/-- a key of a dict (00_mix): an int or a text -/
def kV : Key → V
  | .inl i => .int i
  | .inr x => .str x

/-- what stands at a tracked address -/
inductive HO where
  /-- a list -/
  | lst (xs : List V)
  /-- a tuple (never changes) -/
  | tup (xs : List V)
  /-- a dict whose keys are ints and texts; one whose keys are tuples of ints and texts (the empty one is both) -/
  | dK (kvs : List (Key × V)) | dT (kvs : List (List Key × V))
  /-- a set of ints: its members, its size -/
  | set (S : Int → Bool) (n : Nat)
  /-- an instance of the class at C, its dict at dx, its attributes -/
  | ins (C dx : Addr) (fs : List (Str × V))
  /-- the dict of the instance at x -/
  | own (x : Addr)
  /-- the dict of an exception -/
  | xd (fs : List (Str × V))
  /-- a bound method, f of x -/
  | met (f x : Addr)
  /-- a range object lo, lo + 1, .. below hi -/
  | rng (lo hi : Int)
  /-- a thing that is known to the object (the script; a dict while a loop walks it): read, never written while it is so -/
  | frz (o : Obj) (u : HO)
  /-- a code object's table -/
  | tbl (ps : Array Value)
  /-- any other thing, by what is true of its one object (a def of one's own: SetO a S n := HO.ext fun h => ..) -/
  | ext (φ : Heap → Prop)

abbrev Hp := Addr → Option HO
def upd (H : Hp) (a : Addr) (o : HO) : Hp := fun b => if b = a then some o else H b
theorem upd_same {H : Hp} {a : Addr} {o : HO} : upd H a o a = some o := by unfold upd; rw [if_pos rfl]
theorem upd_ne {H : Hp} {a b : Addr} {o : HO} (h : b ≠ a) : upd H a o b = H b := by unfold upd; rw [if_neg h]
theorem ne_of_none {H : Hp} {a b : Addr} {o : HO} (h : H a = some o) (h' : H b = none) : a ≠ b := by
  intro e; subst e; rw [h] at h'; cases h'

section
variable (P : Program) (w : World)
def ObjOk (H : Hp) (h : Heap) (a : Addr) : HO → Prop
  | .lst xs => xs.length ≤ sizeLine ∧ ∃ (its : List Value) (n : Nat), Vals xs its ∧ h.get? a = some { cls := .type "list", data := .seq its.toArray n }
  | .tup xs => xs.length ≤ sizeLine ∧ ∃ its : List Value, Vals xs its ∧ IsTup h a its.toArray
  | .dK kvs => kvs.length ≤ sizeLine ∧ (a == sysModules) = false ∧ ∃ vs, KV kvs vs ∧ h.DictOf (mixKind P w) a vs
  | .dT kvs => kvs.length ≤ sizeLine ∧ (a == sysModules) = false ∧ ∃ xs : List (List Key × Addr × Value),
      Paired (fun (p : List Key × V) (q : List Key × Addr × Value) => p.1 = q.1 ∧ H q.2.1 = some (.tup (p.1.map kV)) ∧ RelV p.2 q.2.2) kvs xs ∧
      ∃ o es ep, h.get? a = some o ∧ o.ExactDict ∧ o.data = .dict es ep ∧ es.toList = xs.map (entryOfKey (tupleKind (mixKind P w))) ∧ (xs.map (·.1)).Nodup
  | .set S n => h.SetOf (intKind P w) a S n
  | .ins C dx fs => H dx = some (.own a) ∧ fs.length ≤ 1000 ∧ dx ≠ a ∧ h.get? a = some (PySem.W.instObj C dx) ∧
      ∃ mA, h.Ns1 dx mA ∧ (∀ f, RelO (fs.lookup f) (mA f)) ∧ PySem.Within mA (fs.map (·.1))
  | .own _ => ∃ o, h.get? a = some o
  | .xd fs => ∃ mA, h.Ns1 a mA ∧ ∀ f, RelO (fs.lookup f) (mA f)
  | .rng lo hi => ∃ t u v, h.get? a = some { cls := .type "range", data := .fields #[.int lo t, .int hi u, .int 1 v] }
  | .frz o u => h.get? a = some o ∧ ObjOk H h a u
  | .tbl ps => h.get? a = some { cls := .none, data := .fields ps }
  | .met f x => h.get? a = some (PySem.W.methodObj (.ref f) (.ref x))
  | .ext φ => φ h ∧ (∃ o, h.get? a = some o) ∧ ∀ h1 h2 : Heap, φ h1 → (∀ o, h1.get? a = some o → h2.get? a = some o) → φ h2
/-- the abstract heap is held -/
def HOk (H : Hp) (h : Heap) : Prop := ∀ a o, H a = some o → ObjOk P w H h a o
end

section
variable {P : Program} {w : World} {H H' : Hp} {h h' : Heap} {a : Addr} {o : HO}
theorem ObjOk.lt (x : ObjOk P w H h a o) : a < h.objs.size := by
  cases o with
  | lst xs => obtain ⟨_, _, _, _, e⟩ := x; exact Heap.lt_size e
  | tup xs => obtain ⟨_, _, _, p⟩ := x; exact p.lt
  | dK kvs => obtain ⟨_, _, _, _, o, _, _, e, _⟩ := x; exact Heap.lt_size e
  | dT kvs => obtain ⟨_, _, _, _, o, _, _, e, _⟩ := x; exact Heap.lt_size e
  | set S n => obtain ⟨o, _, _, _, e, _⟩ := x; exact Heap.lt_size e
  | ins C dx fs => obtain ⟨_, _, _, e, _⟩ := x; exact Heap.lt_size e
  | own y => obtain ⟨_, e⟩ := x; exact Heap.lt_size e
  | xd fs => obtain ⟨_, ⟨_, _, _, e, _⟩, _⟩ := x; exact Heap.lt_size e
  | rng lo hi => obtain ⟨_, _, _, e⟩ := x; exact Heap.lt_size e
  | frz ob u => obtain ⟨e, _⟩ := x; exact Heap.lt_size e
  | tbl ps => exact Heap.lt_size (show h.get? a = some _ from x)
  | met f y => exact Heap.lt_size (show h.get? a = some _ from x)
  | ext φ => obtain ⟨_, ⟨_, e⟩, _⟩ := x; exact Heap.lt_size e
theorem Paired.mapP {α β : Type} {F G : α → β → Prop} : ∀ {l₁ : List α} {l₂ : List β}, Paired F l₁ l₂ → (∀ a b, F a b → G a b) → Paired G l₁ l₂
  | _, _, .nil, _ => .nil
  | _, _, .cons r t, f => .cons (f _ _ r) (Paired.mapP t f)
/-- what an object's description leans on: its own object, its own dict, the tuples -/
theorem ObjOk.stay (x : ObjOk P w H h a o) (k : ∀ b u, (b = a ∨ H b = some (.own a)) → h.get? b = some u → h'.get? b = some u)
    (ho : ∀ b, H b = some (.own a) → H' b = some (.own a)) (ht : ∀ b xs, H b = some (.tup xs) → H' b = some (.tup xs)) : ObjOk P w H' h' a o := by
  induction o with
  | lst xs => obtain ⟨z, its, n, r, e⟩ := x; exact ⟨z, its, n, r, k _ _ (.inl rfl) e⟩
  | tup xs => obtain ⟨z, its, r, ob, e, c⟩ := x; exact ⟨z, its, r, ob, k _ _ (.inl rfl) e, c⟩
  | dK kvs => obtain ⟨z, y, vs, r, ob, es, ep, e, c⟩ := x; exact ⟨z, y, vs, r, ob, es, ep, k _ _ (.inl rfl) e, c⟩
  | dT kvs =>
    obtain ⟨z, y, xs, r, ob, es, ep, e, c⟩ := x
    exact ⟨z, y, xs, Paired.mapP r fun p q z => ⟨z.1, ht _ _ z.2.1, z.2.2⟩, ob, es, ep, k _ _ (.inl rfl) e, c⟩
  | set S n => obtain ⟨ob, es, ep, t, e, c⟩ := x; exact ⟨ob, es, ep, t, k _ _ (.inl rfl) e, c⟩
  | ins C dx fs =>
    obtain ⟨d, z, ne, e, mA, ⟨od, es, ep, e2, c⟩, r⟩ := x
    exact ⟨ho _ d, z, ne, k _ _ (.inl rfl) e, mA, ⟨od, es, ep, k _ _ (.inr d) e2, c⟩, r⟩
  | own y => obtain ⟨ob, e⟩ := x; exact ⟨ob, k _ _ (.inl rfl) e⟩
  | xd fs => obtain ⟨mA, ⟨od, es, ep, e, c⟩, r⟩ := x; exact ⟨mA, ⟨od, es, ep, k _ _ (.inl rfl) e, c⟩, r⟩
  | rng lo hi => obtain ⟨t, u, v, e⟩ := x; exact ⟨t, u, v, k _ _ (.inl rfl) e⟩
  | frz ob u ih => obtain ⟨e, q⟩ := x; exact ⟨k _ _ (.inl rfl) e, ih q⟩
  | tbl ps =>
    have e : h.get? a = some { cls := .none, data := .fields ps } := x
    show h'.get? a = some { cls := .none, data := .fields ps }
    exact k a _ (.inl rfl) e
  | met f y =>
    have e : h.get? a = some (PySem.W.methodObj (.ref f) (.ref y)) := x
    show h'.get? a = some (PySem.W.methodObj (.ref f) (.ref y))
    exact k a _ (.inl rfl) e
  | ext φ => obtain ⟨p, ⟨o, e⟩, st⟩ := x; exact ⟨st _ _ p fun o q => k _ _ (.inl rfl) q, ⟨o, k _ _ (.inl rfl) e⟩, st⟩
theorem HOk.lt (x : HOk P w H h) (e : H a = some o) : a < h.objs.size := (x a o e).lt
theorem HOk.fresh (x : HOk P w H h) (e : h.objs.size ≤ a) : H a = none := by
  cases q : H a with
  | none => rfl
  | some u => exact absurd (Nat.lt_of_lt_of_le (x.lt q) e) (Nat.lt_irrefl _)
/-- every object of the heap is kept -/
theorem HOk.kept (x : HOk P w H h) (k : ∀ b u, h.get? b = some u → h'.get? b = some u) : HOk P w H h' := fun a o e =>
  (x a o e).stay (fun b u _ q => k b u q) (fun _ q => q) fun _ _ q => q
/-- a new object is laid and tracked -/
theorem HOk.laid (x : HOk P w H h) (k : ∀ b u, h.get? b = some u → h'.get? b = some u) (hp : h.objs.size ≤ a) (new : ObjOk P w (upd H a o) h' a o) : HOk P w (upd H a o) h' := fun b u e => by
  have hn := x.fresh hp
  by_cases hb : b = a
  · subst hb; rw [upd_same] at e; cases e; exact new
  · rw [upd_ne hb] at e
    exact (x b u e).stay (fun c v _ q => k c v q) (fun c q => by rw [upd_ne (ne_of_none q hn)]; exact q) fun c xs q => by rw [upd_ne (ne_of_none q hn)]; exact q
end

/-- what may be read as u: it is u, or a known u -/
def Rd (H : Hp) (a : Addr) (u : HO) : Prop := H a = some u ∨ ∃ o, H a = some (.frz o u)
theorem Rd.ok {P : Program} {w : World} {H : Hp} {h : Heap} {a : Addr} {u : HO} (r : Rd H a u) (x : HOk P w H h) : ObjOk P w H h a u := by
  rcases r with r | ⟨o, r⟩
  · exact x a u r
  · obtain ⟨_, q⟩ := x a _ r
    exact q
/-- what may be written -/
def Mut : Option HO → Prop
  | some (.lst _) => True
  | some (.dK _) => True
  | some (.dT _) => True
  | some (.set _ _) => True
  | some (.ins _ _ _) => True
  | some (.ext _) => True
  | _ => False
section
variable {P : Program} {w : World} {H : Hp} {h h' : Heap} {x e : Addr} {o' : HO}
/-- the object at e is changed: x itself, or the dict of the instance x -/
theorem HOk.write (ok : HOk P w H h) (mu : Mut (H x)) (he : e = x ∨ H e = some (.own x)) (k : ∀ b u, b ≠ e → h.get? b = some u → h'.get? b = some u) (heo : ∃ u, h'.get? e = some u)
    (new : ObjOk P w (upd H x o') h' x o') : HOk P w (upd H x o') h' := fun b u q => by
  have nown : ∀ c y, H c = some (.own y) → c ≠ x := fun c y r z => by subst z; rw [r] at mu; exact mu
  have ntup : ∀ c xs, H c = some (.tup xs) → c ≠ x := fun c xs r z => by subst z; rw [r] at mu; exact mu
  by_cases hb : b = x
  · subst hb; rw [upd_same] at q; cases q; exact new
  · rw [upd_ne hb] at q
    by_cases hbe : b = e
    · have q' : H b = some (.own x) := by
        rcases he with z | z
        · exact absurd (hbe.trans z) hb
        · rw [hbe]; exact z
      rw [q] at q'; cases q'
      obtain ⟨v, hv⟩ := heo
      exact ⟨v, by rw [hbe]; exact hv⟩
    · refine (ok b u q).stay (fun c v hc r => k c v ?_ r) (fun c r => by rw [upd_ne (nown c b r)]; exact r) fun c xs r => by rw [upd_ne (ntup c xs r)]; exact r
      rcases hc with rfl | hc
      · exact hbe
      · rintro rfl
        rcases he with z | z
        · exact nown c b hc z
        · rw [hc] at z; cases z; exact hb rfl
end

/-! ### kept unless tracked; of the frames at fs (the callers') the slots may change (an exception that passes writes there); of the records at ex (iterators) nothing is said -/
structure Un (fs ex : List Addr) (H H' : Hp) (h h' : Heap) : Prop where
  keep : ∀ b o, h.get? b = some o → H b = none → b ∉ fs → b ∉ ex → h'.get? b = some o
  slot : ∀ b o, h.get? b = some o → H b = none → b ∈ fs → b ∉ ex → ∃ sl, h'.get? b = some { o with slots := sl }
  free : ∀ b o, h.get? b = some o → H b = none → b ∉ ex → H' b = none
  there : ∀ b o, h.get? b = some o → b ∉ ex → ∃ o', h'.get? b = some o'
  tups : ∀ b xs, H b = some (.tup xs) → H' b = some (.tup xs)
  frzs : ∀ b o u, H b = some (.frz o u) → H' b = some (.frz o u)
  tbls : ∀ b ps, H b = some (.tbl ps) → ∃ more, H' b = some (.tbl (ps ++ more))
section
variable {fs fs' ex ex' : List Addr} {H H1 H2 : Hp} {h h1 h2 h' : Heap} {a x e : Addr} {o : HO}
theorem Un.any (u : Un fs ex H H1 h h1) {b : Addr} {ob : Obj} (q : h.get? b = some ob) (n : H b = none) (hx : b ∉ ex) : ∃ sl, h1.get? b = some { ob with slots := sl } := by
  by_cases hb : b ∈ fs
  · exact u.slot b ob q n hb hx
  · exact ⟨ob.slots, u.keep b ob q n hb hx⟩
theorem Un.kept (k : ∀ b u, h.get? b = some u → h'.get? b = some u) : Un fs ex H H h h' :=
  ⟨fun b ob q _ _ _ => k b ob q, fun b ob q _ _ _ => ⟨ob.slots, k b ob q⟩, fun _ _ _ n _ => n, fun b ob q _ => ⟨ob, k b ob q⟩, fun _ _ q => q, fun _ _ _ q => q, fun _ ps q => ⟨#[], by rw [q]; simp⟩⟩
theorem Un.refl : Un fs ex H H h h := Un.kept fun _ _ q => q
theorem Un.laid (k : ∀ b u, h.get? b = some u → h'.get? b = some u) (hp : h.objs.size ≤ a) (hn : H a = none) : Un fs ex H (upd H a o) h h' where
  keep := fun b u q _ _ _ => k b u q
  slot := fun b u q _ _ _ => ⟨u.slots, k b u q⟩
  free := fun b u q n _ => by rw [upd_ne (Nat.ne_of_lt (Nat.lt_of_lt_of_le (Heap.lt_size q) hp))]; exact n
  there := fun b u q _ => ⟨u, k b u q⟩
  tups := fun b xs q => by rw [upd_ne (ne_of_none q hn)]; exact q
  frzs := fun b u xs q => by rw [upd_ne (ne_of_none q hn)]; exact q
  tbls := fun b ps q => ⟨#[], by rw [upd_ne (ne_of_none q hn), q]; simp⟩
theorem Un.write (mu : Mut (H x)) (he : e = x ∨ H e = some (.own x)) (k : ∀ b u, b ≠ e → h.get? b = some u → h'.get? b = some u) (heo : ∃ u, h'.get? e = some u) : Un fs ex H (upd H x o) h h' := by
  have hx : ∀ b, H b = none → b ≠ x := fun b n z => by subst z; rw [n] at mu; exact mu
  have hb : ∀ b, H b = none → b ≠ e := fun b n z => by
    subst z
    rcases he with r | r
    · exact hx b n r
    · rw [n] at r; cases r
  have hm : ∀ b u, H b = some u → ¬ Mut (some u) → b ≠ x := fun b u q nm z => by subst z; rw [q] at mu; exact nm mu
  refine ⟨fun b u q n _ _ => k b u (hb b n) q, fun b u q n _ _ => ⟨u.slots, k b u (hb b n) q⟩, fun b u q n _ => by rw [upd_ne (hx b n)]; exact n, fun b u q _ => ?_,
    fun b xs q => by rw [upd_ne (hm b _ q fun z => z)]; exact q, fun b u xs q => by rw [upd_ne (hm b _ q fun z => z)]; exact q, fun b ps q => ⟨#[], by rw [upd_ne (hm b _ q fun z => z), q]; simp⟩⟩
  by_cases hbe : b = e
  · subst hbe; exact heo
  · exact ⟨u, k b u hbe q⟩
end

/-! ### the heap without what is tracked -/
def trk (h : Heap) (H : Hp) : List Addr := (List.range h.objs.size).filter fun a => (H a).isSome
def hidT (h : Heap) (H : Hp) : Heap := PySem.W.hideAll h (trk h H)
theorem hidT_size (h : Heap) (H : Hp) : (hidT h H).objs.size = h.objs.size := PySem.W.hideAll_size _ _
theorem hidT_get {h : Heap} {H : Hp} {b : Addr} {o : Obj} (e : h.get? b = some o) (n : H b = none) : (hidT h H).get? b = some o :=
  PySem.W.hideAll_get _ e fun hm => by
    have q : (H b).isSome = true := (List.mem_filter.mp hm).2
    rw [n] at q; simp at q
theorem of_hidT {h : Heap} {H : Hp} {b : Addr} {o : Obj} (e : (hidT h H).get? b = some o) : h.get? b = some o ∧ H b = none := by
  have e' : h.get? b = some o := PySem.W.of_hideAll (trk h H) e
  refine ⟨e', ?_⟩
  cases q : H b with
  | none => rfl
  | some x =>
    have hm : b ∈ trk h H := List.mem_filter.mpr ⟨List.mem_range.mpr (Heap.lt_size e'), by simp [q]⟩
    have z : (hidT h H).get? b = none := PySem.W.hideAll_none (trk h H) hm
    rw [z] at e; cases e

/-! ### OpenK's ledger, filled with every new object but one -/
def allNews (g h : Heap) (L : Addr) : List (Addr × Obj) := (List.range h.objs.size).filterMap fun a => if a = L ∨ (g.get? a).isSome = true then none else (h.get? a).map fun o => (a, o)
def rest (g h : Heap) (L d : Addr) : List (Addr × Obj) := (allNews g h L).filter fun p => decide (p.1 ≠ d)
end L2

namespace L2
open PySem PySem.Spec PyProof.Rows

/-- the module's facts, over the base: the heap at the law's entry without what is tracked there -/
structure Mod (K : PySem.W.Frag) (mg : Str → Option Value) (base : Heap) : Prop where
  kin : K.In base
  glob : base.Ns mainGlobals mg
  blt : ∃ mb, base.Ns builtinsNs mb ∧ ∀ x : Str, x ≠ "__name__" → mb x = bootBuiltins x
  nolimit : base.NoLimit

/-- the context: a def's body (or a comprehension's block) running. base: fixed through the whole law; s₀, H₀: the entry; outer: the frames whose slots others may change (a def's callers); stack: all frames that run;
   ex: iterators that were made ahead of the entry and are walked here (a comprehension's); fn: the names whose cells were made at the entry (a def: all; a comprehension's block: its own); calm: not within an except suite; pn: pins that every state bears; xe: what is wanted of an exception that leaves the code -/
structure Cx where
  prog : Program
  w : World
  K : PySem.W.Frag
  mg : Str → Option Value
  base : Heap
  A : Around
  N : List Str
  s_0 : Shared
  H_0 : Hp
  env : Env
  outer : List Env
  stack : List Env
  ex : List Addr
  fn : Str → Bool
  calm : Bool
  pn : List (Addr × Obj)
  xe : Value → Shared → Prop
/-- the callers' frames -/
def frs (l : List Env) : List Addr := l.filterMap (·.frame)
abbrev Cx.fs (X : Cx) : List Addr := frs X.outer

def Vis (sc : Scope) (x : Str) : Prop := sc.names.lookup x = some .local ∨ sc.names.lookup x = some .cell ∨ sc.names.lookup x = some .free
def Loc (sc : Scope) (x : Str) : Prop := sc.names.lookup x = some .local ∨ sc.names.lookup x = some .cell
def Look (env : Env) (h : Heap) (m : Str → Option Value) (x : Str) (u : Value) : Prop :=
  (env.kindOf x = some .local ∧ m x = some u) ∨ ((env.kindOf x = some .cell ∨ env.kindOf x = some .free) ∧ ∃ c, env.cells.lookup x = some c ∧ h.IsCell c (some u))

structure Cx.Ok (X : Cx) : Prop where
  mod : Mod X.K X.mg X.base
  kind : X.env.scope.kind = .function
  glob : X.env.globals = mainGlobals
  blt : X.env.builtins = builtinsNs
  above : X.s_0.heap.objs.size ≤ X.env.locals
  inj : ∀ x y c, X.env.cells.lookup x = some c → X.env.cells.lookup y = some c → x = y
  has : ∀ x, (X.env.kindOf x = some .cell ∨ X.env.kindOf x = some .free) → ∃ c, X.env.cells.lookup x = some c
  cab : ∀ x c, X.fn x = true → X.env.cells.lookup x = some c → X.s_0.heap.objs.size ≤ c
  hd : X.calm = true → X.A.handled = none
  frames : X.A.frames = some X.stack
  stk : X.stack = X.outer ∨ (X.stack = X.env :: X.outer ∧ X.env.frame = some X.env.locals)
  exf : ∀ b ∈ X.ex, b ≠ X.env.locals ∧ ∀ x c, X.env.cells.lookup x = some c → c ≠ b
  bs : ∀ b o, X.base.get? b = some o → X.s_0.heap.get? b = some o ∧ X.H_0 b = none
  bsz : X.base.objs.size ≤ X.s_0.heap.objs.size
  noex : ∀ b o, X.base.get? b = some o → b ∉ X.ex
  exfs : ∀ b ∈ X.ex, b ∉ X.fs
  funs : X.s_0.heap.FunFrames X.base X.outer
  frf : ∀ b ∈ X.fs, X.H_0 b = none

structure Inv (X : Cx) (pins : List (Addr × Obj)) (σ : List (Option V)) (H : Hp) (s : Shared) : Prop where
  ok : X.Ok
  os : s.os = X.s_0.os
  bare : AllBare s.gens
  base : Un X.fs X.ex X.H_0 H X.s_0.heap s.heap
  loc : ∃ m, s.heap.Ns X.env.locals m ∧ ∀ (i : Nat) (x : Str) (v : V), X.N[i]? = some x → σ[i]? = some (some v) → Vis X.env.scope x → ∃ u, RelV v u ∧ Look X.env s.heap m x u
  cell : ∀ x c, X.env.cells.lookup x = some c → ∃ v, s.heap.IsCell c v
  free : H X.env.locals = none
  freeC : ∀ x c, X.env.cells.lookup x = some c → H c = none
  pin : ∀ p ∈ X.pn ++ pins, s.heap.get? p.1 = some p.2 ∧ H p.1 = none ∧ p.1 ≠ X.env.locals ∧ p.1 ∉ X.fs ∧ ∀ v, p.2.data ≠ .cell v
  hok : HOk X.prog X.w H s.heap
  len : σ.length = X.N.length

section
variable {X : Cx} {pins : List (Addr × Obj)} {σ : List (Option V)} {H H' : Hp} {s : Shared} {h' : Heap}

theorem Cx.Ok.nofr (ok : X.Ok) {b : Addr} {o : Obj} (e : X.base.get? b = some o) : b ∉ X.fs := fun hb => by
  have := (ok.funs.mem hb).1
  rw [e] at this; cases this
theorem Inv.bs (I : Inv X pins σ H s) : ∀ b o, X.base.get? b = some o → s.heap.get? b = some o ∧ H b = none := fun b o e =>
  ⟨I.base.keep b o (I.ok.bs b o e).1 (I.ok.bs b o e).2 (I.ok.nofr e) (I.ok.noex b o e), I.base.free b o (I.ok.bs b o e).1 (I.ok.bs b o e).2 (I.ok.noex b o e)⟩
theorem Inv.bk (I : Inv X pins σ H s) : ∀ b o, X.base.get? b = some o → s.heap.get? b = some o := fun b o e => (I.bs b o e).1
theorem Inv.mod (I : Inv X pins σ H s) : Mod X.K X.mg X.base := I.ok.mod
theorem Inv.kIn (I : Inv X pins σ H s) : X.K.In s.heap := I.ok.mod.kin.keeps I.bk
theorem Inv.lt (I : Inv X pins σ H s) : X.env.locals < s.heap.objs.size := let ⟨_, hn, _⟩ := I.loc; hn.lt
theorem Inv.sz (I : Inv X pins σ H s) : X.s_0.heap.objs.size ≤ s.heap.objs.size := Nat.le_trans I.ok.above (Nat.le_of_lt I.lt)
theorem Inv.nofs (I : Inv X pins σ H s) {a : Addr} (h : s.heap.objs.size ≤ a) : a ∉ X.fs := fun hb => by
  obtain ⟨_, o, ho, _⟩ := I.ok.funs.mem hb
  exact absurd (Nat.lt_of_lt_of_le (Heap.lt_size ho) (Nat.le_trans I.sz h)) (Nat.lt_irrefl _)
theorem Inv.cne (I : Inv X pins σ H s) : ∀ x c, X.env.cells.lookup x = some c → c ≠ X.env.locals := fun x c e z => by
  obtain ⟨v, o, ho, hd⟩ := I.cell x c e
  obtain ⟨m, ⟨o', es, ep, ho', hd', _⟩, _⟩ := I.loc
  rw [z, ho'] at ho; cases ho; rw [hd'] at hd; cases hd
theorem Inv.funs (I : Inv X pins σ H s) : s.heap.FunFrames X.base X.outer := by
  have all : ∀ (l : List Env), (∀ b ∈ frs l, b ∈ X.fs) → X.s_0.heap.FunFrames X.base l → s.heap.FunFrames X.base l := by
    intro l
    induction l with
    | nil => intro _ _; trivial
    | cons env r ih =>
      intro hs hl
      obtain ⟨hk, ⟨L, o, hf, hn, ho, hd⟩, hr⟩ := hl
      have hL : L ∈ X.fs := hs L (by unfold frs; rw [List.filterMap_cons, hf]; exact List.mem_cons_self)
      obtain ⟨sl, e⟩ := I.base.slot L o ho (I.ok.frf L hL) hL fun z => I.ok.exfs L z hL
      exact ⟨hk, ⟨L, _, hf, hn, e, hd⟩, ih (fun b hb => hs b (by unfold frs; rw [List.filterMap_cons, hf]; exact List.mem_cons_of_mem _ hb)) hr⟩
  exact all X.outer (fun _ hb => hb) I.ok.funs

/-- the frames that run, for a call -/
theorem Inv.stack (I : Inv X pins σ H s) : s.heap.FunFrames X.base X.stack := by
  rcases I.ok.stk with e | ⟨e, hf⟩
  · rw [e]; exact I.funs
  · rw [e]
    obtain ⟨m, hn, _⟩ := I.loc
    refine .cons (by rw [I.ok.kind]; decide) hf hn ?_ I.funs
    exact Heap.get?_none_of_le (Nat.le_trans I.ok.bsz I.ok.above)
theorem Inv.stkSub (I : Inv X pins σ H s) : ∀ b ∈ frs X.stack, b ∈ X.env.locals :: X.fs := fun b hb => by
  rcases I.ok.stk with e | ⟨e, hf⟩
  · rw [e] at hb; exact List.mem_cons_of_mem _ hb
  · rw [e] at hb
    unfold frs at hb
    rw [List.filterMap_cons, hf] at hb
    exact hb
theorem Inv.stkFree (I : Inv X pins σ H s) : ∀ b ∈ frs X.stack, H b = none := fun b hb => by
  rcases List.mem_cons.mp (I.stkSub b hb) with e | hb
  · rw [e]; exact I.free
  · obtain ⟨_, o, ho, _⟩ := I.ok.funs.mem hb
    exact I.base.free b o ho (I.ok.frf b hb) fun z => I.ok.exfs b z hb

/-- THE STEP: the untracked objects but the frame and the records at ch are kept (the callers' frames up to slots), the frame's map is kept, the new abstract heap is held -/
theorem Inv.step {g' : Array GenState} {t' : Nat} {d' : Drawn} {ch : List Addr} (I : Inv X pins σ H s)
    (hch : ∀ b ∈ ch, (b ∈ X.ex ∨ X.s_0.heap.objs.size ≤ b) ∧ b ≠ X.env.locals ∧ (∀ x c, X.env.cells.lookup x = some c → c ≠ b) ∧ ∀ p ∈ X.pn ++ pins, p.1 ≠ b)
    (keep : ∀ b o, b ≠ X.env.locals → b ∉ X.fs → b ∉ ch → s.heap.get? b = some o → H b = none → h'.get? b = some o)
    (slot : ∀ b o, b ≠ X.env.locals → b ∈ X.fs → b ∉ ch → s.heap.get? b = some o → H b = none → ∃ sl, h'.get? b = some { o with slots := sl }) (free : ∀ b o, b ∉ ch → s.heap.get? b = some o → H b = none → H' b = none)
    (there : ∀ b o, b ∉ ch → s.heap.get? b = some o → ∃ o', h'.get? b = some o')
    (tups : ∀ b xs, H b = some (.tup xs) → H' b = some (.tup xs)) (frzs : ∀ b o u, H b = some (.frz o u) → H' b = some (.frz o u)) (tbls : ∀ b ps, H b = some (.tbl ps) → ∃ more, H' b = some (.tbl (ps ++ more)))
    (ns : ∀ m, s.heap.Ns X.env.locals m → h'.Ns X.env.locals m) (hok : HOk X.prog X.w H' h') (hg : AllBare g') :
    Inv X pins σ H' { s with heap := h', gens := g', drawn := d', toks := t' } := by
  have neL : ∀ b o, X.s_0.heap.get? b = some o → b ≠ X.env.locals := fun b o e => Nat.ne_of_lt (Nat.lt_of_lt_of_le (Heap.lt_size e) I.ok.above)
  have neC : ∀ b o, X.s_0.heap.get? b = some o → b ∉ X.ex → b ∉ ch := fun b o e hx hb => by
    rcases (hch b hb).1 with z | z
    · exact hx z
    · exact absurd (Nat.lt_of_lt_of_le (Heap.lt_size e) z) (Nat.lt_irrefl _)
  have cellK : ∀ x c, X.env.cells.lookup x = some c → ∀ v, s.heap.IsCell c v → h'.IsCell c v := fun x c e v ⟨o, ho, hd⟩ => by
    have nch : c ∉ ch := fun z => (hch c z).2.2.1 x c e rfl
    by_cases hc : c ∈ X.fs
    · obtain ⟨sl, q⟩ := slot c o (I.cne x c e) hc nch ho (I.freeC x c e)
      exact ⟨_, q, hd⟩
    · exact ⟨o, keep c o (I.cne x c e) hc nch ho (I.freeC x c e), hd⟩
  refine ⟨I.ok, I.os, hg, ⟨fun b o e n hb hx => ?_, fun b o e n hb hx => ?_, fun b o e n hx => ?_, fun b o e hx => ?_, fun b xs e => tups b xs (I.base.tups b xs e), fun b o xs e => frzs b o xs (I.base.frzs b o xs e), fun b ps e => ?_⟩, ?_, fun x c e => ?_, ?_, fun x c e => ?_, fun p hp => ?_, hok, I.len⟩
  · exact keep b o (neL b o e) hb (neC b o e hx) (I.base.keep b o e n hb hx) (I.base.free b o e n hx)
  · obtain ⟨sl, e1⟩ := I.base.slot b o e n hb hx
    obtain ⟨sl', e2⟩ := slot b _ (neL b o e) hb (neC b o e hx) e1 (I.base.free b o e n hx)
    exact ⟨sl', e2⟩
  · obtain ⟨o', e1⟩ := I.base.there b o e hx
    exact free b o' (neC b o e hx) e1 (I.base.free b o e n hx)
  · obtain ⟨o', e1⟩ := I.base.there b o e hx
    exact there b o' (neC b o e hx) e1
  · obtain ⟨m1, e1⟩ := I.base.tbls b ps e
    obtain ⟨m2, e2⟩ := tbls b _ e1
    exact ⟨m1 ++ m2, by rw [e2, Array.append_assoc]⟩
  · obtain ⟨m, hn, hl⟩ := I.loc
    refine ⟨m, ns m hn, fun i x v e1 e2 e3 => ?_⟩
    obtain ⟨u, r, l⟩ := hl i x v e1 e2 e3
    refine ⟨u, r, ?_⟩
    rcases l with l | ⟨k, c, e, z⟩
    · exact .inl l
    · exact .inr ⟨k, c, e, cellK x c e _ z⟩
  · obtain ⟨v, z⟩ := I.cell x c e
    exact ⟨v, cellK x c e v z⟩
  · obtain ⟨m, ⟨o, _, _, ho, _⟩, _⟩ := I.loc
    exact free _ o (fun z => (hch _ z).2.1 rfl) ho I.free
  · obtain ⟨v, o, ho, hd⟩ := I.cell x c e
    exact free c o (fun z => (hch c z).2.2.1 x c e rfl) ho (I.freeC x c e)
  · obtain ⟨e, n, ne, nf, d⟩ := I.pin p hp
    have nch : p.1 ∉ ch := fun z => (hch p.1 z).2.2.2 p hp rfl
    exact ⟨keep p.1 p.2 ne nf nch e n, free p.1 p.2 nch e n, ne, nf, d⟩
/-- .. where the frame's own object is kept too -/
theorem Inv.un {t' : Nat} (I : Inv X pins σ H s) (u : Un X.fs [] H H' s.heap h') (hok : HOk X.prog X.w H' h') : Inv X pins σ H' { s with heap := h', toks := t' } := by
  obtain ⟨m, ⟨o, es, ep, ho, r⟩, _⟩ := id I.loc
  obtain ⟨sl, hL⟩ := u.any ho I.free (by simp)
  exact I.step (g' := s.gens) (d' := s.drawn) (ch := []) (fun _ z => nomatch z) (fun b o _ hb _ e n => u.keep b o e n hb (by simp)) (fun b o _ hb _ e n => u.slot b o e n hb (by simp)) (fun b o _ e n => u.free b o e n (by simp)) (fun b o _ e => u.there b o e (by simp)) u.tups u.frzs u.tbls (fun m' hm => by
    obtain ⟨o', es', ep', ho', r'⟩ := hm
    rw [ho] at ho'; cases ho'
    exact ⟨_, es', ep', hL, r'⟩) hok I.bare
/-- behind a call (or a comprehension's block): the slots of this frame may have changed too, the records at ch may have turned -/
theorem Inv.call {g' : Array GenState} {t' : Nat} {d' : Drawn} {ch : List Addr} (I : Inv X pins σ H s) (u : Un (frs X.stack) ch H H' s.heap h') (hok : HOk X.prog X.w H' h') (hg : AllBare g')
    (hch : ∀ b ∈ ch, (b ∈ X.ex ∨ X.s_0.heap.objs.size ≤ b) ∧ b ≠ X.env.locals ∧ (∀ x c, X.env.cells.lookup x = some c → c ≠ b) ∧ ∀ p ∈ X.pn ++ pins, p.1 ≠ b) :
    Inv X pins σ H' { s with heap := h', gens := g', drawn := d', toks := t' } := by
  obtain ⟨m, ⟨o, es, ep, ho, r⟩, _⟩ := id I.loc
  obtain ⟨sl, hL⟩ := u.any ho I.free fun z => (hch _ z).2.1 rfl
  exact I.step (ch := ch) hch (fun b o hL hb hc e n => u.keep b o e n (fun z => (List.mem_cons.mp (I.stkSub b z)).elim hL hb) hc) (fun b o _ _ hc e n => u.any e n hc) (fun b o hc e n => u.free b o e n hc) (fun b o hc e => u.there b o e hc) u.tups u.frzs u.tbls (fun m' hm => by
    obtain ⟨o', es', ep', ho', r'⟩ := hm
    rw [ho] at ho'; cases ho'
    exact ⟨_, es', ep', hL, r'⟩) hok hg
/-- an untracked record of ours (an iterator) has turned -/
theorem Inv.turned {t' : Nat} {it : Addr} (I : Inv X pins σ H s) (k : ∀ b o, b ≠ it → s.heap.get? b = some o → h'.get? b = some o) (hn : H it = none) (hL : it ≠ X.env.locals)
    (h1 : it ∈ X.ex ∨ X.s_0.heap.objs.size ≤ it) (h2 : ∀ x c, X.env.cells.lookup x = some c → c ≠ it) (h3 : ∀ p ∈ X.pn ++ pins, p.1 ≠ it) : Inv X pins σ H { s with heap := h', toks := t' } := by
  have nit : ∀ b u, H b = some u → b ≠ it := fun b u e z => by rw [z, hn] at e; cases e
  refine I.step (g' := s.gens) (d' := s.drawn) (ch := [it]) (fun b hb => ?_) (fun b o _ _ hc e _ => k b o (fun z => hc (by simp [z])) e) (fun b o _ _ hc e _ => ⟨o.slots, k b o (fun z => hc (by simp [z])) e⟩) (fun _ _ _ _ n => n)
    (fun b o hc e => ⟨o, k b o (fun z => hc (by simp [z])) e⟩) (fun _ _ e => e) (fun _ _ _ e => e) (fun b ps e => ⟨#[], by rw [e]; simp⟩) (fun m hm => ?_) (fun b u e => ?_) I.bare
  · have e : b = it := by simpa using hb
    subst e
    exact ⟨h1, hL, h2, h3⟩
  · obtain ⟨o, es, ep, ho, r⟩ := hm
    exact ⟨o, es, ep, k _ o (Ne.symm hL) ho, r⟩
  · refine (I.hok b u e).stay (fun c v hc q => k c v ?_ q) (fun _ q => q) fun _ _ q => q
    rcases hc with z | z
    · rw [z]; exact nit b u e
    · exact nit c _ z
theorem Inv.tok (I : Inv X pins σ H s) (t : Nat) : Inv X pins σ H { s with toks := t } := I.un (h' := s.heap) (t' := t) Un.refl I.hok
/-- all objects kept -/
theorem Inv.kept {t' : Nat} (I : Inv X pins σ H s) (k : ∀ b u, s.heap.get? b = some u → h'.get? b = some u) : Inv X pins σ H { s with heap := h', toks := t' } := I.un (Un.kept k) (I.hok.kept k)
/-- a new object laid and tracked -/
theorem Inv.laid {a : Addr} {o : HO} {t' : Nat} (I : Inv X pins σ H s) (k : ∀ b u, s.heap.get? b = some u → h'.get? b = some u) (hp : s.heap.objs.size ≤ a) (new : ObjOk X.prog X.w (upd H a o) h' a o) :
    Inv X pins σ (upd H a o) { s with heap := h', toks := t' } := I.un (Un.laid k hp (I.hok.fresh hp)) (I.hok.laid k hp new)
/-- an object written -/
theorem Inv.write {x e : Addr} {o : HO} {t' : Nat} (I : Inv X pins σ H s) (mu : Mut (H x)) (he : e = x ∨ H e = some (.own x)) (k : ∀ b u, b ≠ e → s.heap.get? b = some u → h'.get? b = some u) (heo : ∃ u, h'.get? e = some u)
    (new : ObjOk X.prog X.w (upd H x o) h' x o) : Inv X pins σ (upd H x o) { s with heap := h', toks := t' } := I.un (Un.write mu he k heo) (I.hok.write mu he k heo new)
/-- forgetting slots, pins -/
theorem Inv.weak {σ' : List (Option V)} (I : Inv X pins σ H s) (hl : σ'.length = σ.length) (w : ∀ (i : Nat) v, σ'[i]? = some (some v) → σ[i]? = some (some v)) : Inv X pins σ' H s :=
  ⟨I.ok, I.os, I.bare, I.base, let ⟨m, hn, hl'⟩ := I.loc; ⟨m, hn, fun i x v e1 e2 e3 => hl' i x v e1 (w i v e2) e3⟩, I.cell, I.free, I.freeC, I.pin, I.hok, hl.trans I.len⟩
theorem Inv.pins_of {pins' : List (Addr × Obj)} (I : Inv X pins σ H s) (h : ∀ p ∈ pins', s.heap.get? p.1 = some p.2 ∧ H p.1 = none ∧ p.1 ≠ X.env.locals ∧ p.1 ∉ X.fs ∧ ∀ v, p.2.data ≠ .cell v) : Inv X pins' σ H s :=
  ⟨I.ok, I.os, I.bare, I.base, I.loc, I.cell, I.free, I.freeC, fun p hp => (List.mem_append.mp hp).elim (fun z => I.pin p (List.mem_append_left _ z)) (h p), I.hok, I.len⟩

theorem nodup_ix {N : List Str} (hN : N.Nodup) {i j : Nat} {x : Str} (a : N[i]? = some x) (b : N[j]? = some x) : i = j := by
  obtain ⟨h1, e1⟩ := List.getElem?_eq_some_iff.mp a
  obtain ⟨h2, e2⟩ := List.getElem?_eq_some_iff.mp b
  exact (List.getElem_inj hN).mp (e1.trans e2.symm)

/-- a name is stored; what changed -/
theorem store_ok2 {M : Model} {A : Around} {E : Value → Shared → Prop} {i : Nat} {x : Str} {v : V} {u : Value} {Q : Unit → Shared → Prop} (I : Inv X pins σ H s) (hN : X.N.Nodup) (hi : X.N[i]? = some x) (hx : Loc X.env.scope x) (r : RelV v u)
    (h : ∀ s', Inv X pins (σ.set i (some v)) H s' → (∃ a, Heap.SameBut a s.heap s'.heap ∧ (a = X.env.locals ∨ X.env.cells.lookup x = some a)) → Q () s') (hf : X.fn x = true ∨ X.env.scope.names.lookup x = some .local := by first | exact .inl rfl | exact .inr rfl | assumption) : wpAny M A (storeName X.env x u) Q E s := by
  obtain ⟨m, hn, hl⟩ := id I.loc
  have hcls : (X.env.scope.kind == .class || (X.env.scope.kind == .module && X.env.locals != X.env.globals)) = false := by rw [I.ok.kind]; rfl
  have hiσ : i < σ.length := by rw [I.len]; exact (List.getElem?_eq_some_iff.mp hi).1
  have cne := I.cne
  have tracked : ∀ {a : Addr} {h' : Heap}, (∃ o, s.heap.get? a = some o ∧ H a = none) → Heap.SameBut a s.heap h' → HOk X.prog X.w H h' := fun {a h'} ha hs b ob e => by
    obtain ⟨_, _, hfree⟩ := ha
    refine (I.hok b ob e).stay (fun c w' hc q => (hs.2 c ?_).trans q) (fun _ q => q) fun _ _ q => q
    rintro rfl
    rcases hc with rfl | hc
    · rw [hfree] at e; cases e
    · rw [hfree] at hc; cases hc
  rcases hx with hk | hk
  · refine wpAny_storeName_local hk hn (fun h' hn' hs => ?_) hcls
    obtain ⟨oL, _, _, hoL, _⟩ := id hn
    refine h _ ⟨I.ok, I.os, I.bare, ⟨fun b o e n hb hx => ?_, fun b o e n hb hx => ?_, I.base.free, fun b o e hx => ?_, I.base.tups, I.base.frzs, I.base.tbls⟩, ⟨_, hn', fun j y v' e1 e2 e3 => ?_⟩, fun y c e => ?_, I.free, I.freeC, fun p hp => ?_, tracked ⟨oL, hoL, I.free⟩ hs, by simpa using I.len⟩ ⟨_, hs, .inl rfl⟩
    · exact (hs.2 b (Nat.ne_of_lt (Nat.lt_of_lt_of_le (Heap.lt_size e) I.ok.above))).trans (I.base.keep b o e n hb hx)
    · obtain ⟨sl, e1⟩ := I.base.slot b o e n hb hx
      exact ⟨sl, (hs.2 b (Nat.ne_of_lt (Nat.lt_of_lt_of_le (Heap.lt_size e) I.ok.above))).trans e1⟩
    · obtain ⟨o', e1⟩ := I.base.there b o e hx
      exact ⟨o', (hs.2 b (Nat.ne_of_lt (Nat.lt_of_lt_of_le (Heap.lt_size e) I.ok.above))).trans e1⟩
    · by_cases hj : j = i
      · subst hj
        rw [hi] at e1; cases e1
        rw [List.getElem?_set_self hiσ] at e2
        cases e2
        exact ⟨u, r, .inl ⟨hk, by simp⟩⟩
      · rw [List.getElem?_set_ne (Ne.symm hj)] at e2
        obtain ⟨u', r', q⟩ := hl j y v' e1 e2 e3
        refine ⟨u', r', ?_⟩
        rcases q with ⟨k, e⟩ | ⟨k, c, e, z⟩
        · refine .inl ⟨k, ?_⟩
          have : y ≠ x := fun e => hj (nodup_ix hN e1 (e ▸ hi))
          simp [this, e]
        · exact .inr ⟨k, c, e, z.sameBut hs (cne y c e)⟩
    · obtain ⟨w', z⟩ := I.cell y c e
      exact ⟨w', z.sameBut hs (cne y c e)⟩
    · obtain ⟨e, n, ne, nf, d⟩ := I.pin p hp
      exact ⟨(hs.2 p.1 ne).trans e, n, ne, nf, d⟩
  · have hfn : X.fn x = true := by
      rcases hf with z | z
      · exact z
      · rw [z] at hk; cases hk
    obtain ⟨c, hc⟩ := I.ok.has x (.inl hk)
    obtain ⟨w', z⟩ := I.cell x c hc
    refine wpAny_storeName_cell I.ok.kind hk hc z (fun h' hc' hs => ?_)
    obtain ⟨oc, hoc, hocd⟩ := id z
    refine h { s with heap := h' } ⟨I.ok, I.os, I.bare, ⟨fun b o e n hb hx => ?_, fun b o e n hb hx => ?_, I.base.free, fun b o e hx => ?_, I.base.tups, I.base.frzs, I.base.tbls⟩, ⟨m, hn.sameBut hs (Ne.symm (cne x c hc)), fun j y v' e1 e2 e3 => ?_⟩, fun y c' e => ?_, I.free, I.freeC, fun p hp => ?_, tracked ⟨oc, hoc, I.freeC x c hc⟩ hs, by simpa using I.len⟩ ⟨c, hs, .inr hc⟩
    · exact (hs.2 b (Nat.ne_of_lt (Nat.lt_of_lt_of_le (Heap.lt_size e) (I.ok.cab x c hfn hc)))).trans (I.base.keep b o e n hb hx)
    · obtain ⟨sl, e1⟩ := I.base.slot b o e n hb hx
      exact ⟨sl, (hs.2 b (Nat.ne_of_lt (Nat.lt_of_lt_of_le (Heap.lt_size e) (I.ok.cab x c hfn hc)))).trans e1⟩
    · obtain ⟨o', e1⟩ := I.base.there b o e hx
      exact ⟨o', (hs.2 b (Nat.ne_of_lt (Nat.lt_of_lt_of_le (Heap.lt_size e) (I.ok.cab x c hfn hc)))).trans e1⟩
    · by_cases hj : j = i
      · subst hj
        rw [hi] at e1; cases e1
        rw [List.getElem?_set_self hiσ] at e2
        cases e2
        exact ⟨u, r, .inr ⟨.inl hk, c, hc, hc'⟩⟩
      · rw [List.getElem?_set_ne (Ne.symm hj)] at e2
        obtain ⟨u', r', q⟩ := hl j y v' e1 e2 e3
        refine ⟨u', r', ?_⟩
        rcases q with q | ⟨k, c', e, z'⟩
        · exact .inl q
        · refine .inr ⟨k, c', e, z'.sameBut hs ?_⟩
          rintro rfl
          exact hj (nodup_ix hN e1 (I.ok.inj _ _ _ e hc ▸ hi))
    · by_cases hcc : c' = c
      · subst hcc; exact ⟨_, hc'⟩
      · obtain ⟨w2, z2⟩ := I.cell y c' e
        exact ⟨w2, z2.sameBut hs hcc⟩
    · obtain ⟨e, n, ne, nf, d⟩ := I.pin p hp
      refine ⟨(hs.2 p.1 ?_).trans e, n, ne, nf, d⟩
      intro q
      rw [q, hoc] at e
      have q' : oc = p.2 := Option.some.inj e
      exact d w' (by rw [← q']; exact hocd)
theorem store_ok {M : Model} {A : Around} {E : Value → Shared → Prop} {i : Nat} {x : Str} {v : V} {u : Value} {Q : Unit → Shared → Prop} (I : Inv X pins σ H s) (hN : X.N.Nodup) (hi : X.N[i]? = some x) (hx : Loc X.env.scope x) (r : RelV v u)
    (h : ∀ s', Inv X pins (σ.set i (some v)) H s' → Q () s') (hf : X.fn x = true ∨ X.env.scope.names.lookup x = some .local := by first | exact .inl rfl | exact .inr rfl | assumption) : wpAny M A (storeName X.env x u) Q E s :=
  store_ok2 I hN hi hx r (fun s' I' _ => h s' I') hf
/-- behind a call or a block, the state as it is -/
theorem Inv.call' {s' : Shared} {ch : List Addr} (I : Inv X pins σ H s) (ho : s'.os = s.os) (u : Un (frs X.stack) ch H H' s.heap s'.heap) (hok : HOk X.prog X.w H' s'.heap) (hg : AllBare s'.gens)
    (hch : ∀ b ∈ ch, (b ∈ X.ex ∨ X.s_0.heap.objs.size ≤ b) ∧ b ≠ X.env.locals ∧ (∀ x c, X.env.cells.lookup x = some c → c ≠ b) ∧ ∀ p ∈ X.pn ++ pins, p.1 ≠ b) : Inv X pins σ H' s' := by
  obtain ⟨h', g', d', t', o'⟩ := s'
  have e : o' = s.os := ho
  subst e
  exact I.call (g' := g') (t' := t') (d' := d') u hok hg hch
end

/-! ### the judgements -/
/-- an exception: its class, its own dict's address (where it has one), the abstract heap behind it -/
abbrev XK := Value → Option Addr → Hp → Prop
abbrev St := List (Option V)
abbrev VK := V → Hp → Prop
/-- an expression's reading; a test's; an argument list's -/
abbrev TE := St → Hp → VK → Prop
abbrev TT := St → Hp → (Bool → Hp → Prop) → Prop
abbrev TA := St → Hp → (List V → Hp → Prop) → Prop
/-- what is wanted behind a statement -/
structure Ends where
  nx : St → Hp → Prop
  rt : VK
  bk : St → Hp → Prop := fun _ _ => False
  ct : St → Hp → Prop := fun _ _ => False
abbrev TS := Ends → St → Hp → Prop

def EP (X : Cx) (pins : List (Addr × Obj)) (σ : St) (Q : VK) (u : Value) (s' : Shared) : Prop := ∃ v H', Inv X pins σ H' s' ∧ RelV v u ∧ Q v H'
def TP (X : Cx) (pins : List (Addr × Obj)) (σ : St) (Q : Bool → Hp → Prop) (b : Bool) (s' : Shared) : Prop := ∃ H', Inv X pins σ H' s' ∧ Q b H'
def AP (X : Cx) (pins : List (Addr × Obj)) (σ : St) (Q : List V → Hp → Prop) (us : List Value) (s' : Shared) : Prop := ∃ vs H', Inv X pins σ H' s' ∧ Vals vs us ∧ Q vs H'
def SP (X : Cx) (pins : List (Addr × Obj)) (D : Ends) (f : Flow) (s' : Shared) : Prop :=
  match f with
  | .next => ∃ σ' H', Inv X pins σ' H' s' ∧ D.nx σ' H'
  | .brk => ∃ σ' H', Inv X pins σ' H' s' ∧ D.bk σ' H'
  | .cont => ∃ σ' H', Inv X pins σ' H' s' ∧ D.ct σ' H'
  | .ret u => ∃ v σ' H', Inv X pins σ' H' s' ∧ RelV v u ∧ D.rt v H'

def PE (X : Cx) (e : Expr) (t : TE) : Prop :=
  ∀ (pins : List (Addr × Obj)) (s : Shared) (σ : St) (H : Hp) (Q : VK), Inv X pins σ H s → t σ H Q → wpAny (model X.prog X.w) X.A (eval e X.env) (EP X pins σ Q) X.xe s
def PT (X : Cx) (e : Expr) (t : TT) : Prop :=
  ∀ (pins : List (Addr × Obj)) (s : Shared) (σ : St) (H : Hp) (Q : Bool → Hp → Prop), Inv X pins σ H s → t σ H Q → wpAny (model X.prog X.w) X.A (isTrue e X.env (eval e X.env)) (TP X pins σ Q) X.xe s
/-- a test whatever its 'whole' is (and, or) -/
def PW (X : Cx) (e : Expr) (t : TT) : Prop :=
  ∀ (whole : Sem Value) (pins : List (Addr × Obj)) (s : Shared) (σ : St) (H : Hp) (Q : Bool → Hp → Prop), Inv X pins σ H s → t σ H Q → wpAny (model X.prog X.w) X.A (isTrue e X.env whole) (TP X pins σ Q) X.xe s
theorem PW.pt {X : Cx} {e : Expr} {t : TT} (h : PW X e t) : PT X e t := h _
/-- an argument list (no star), from the left -/
def PA (X : Cx) (es : List Expr) (t : TA) : Prop :=
  ∀ (pos : Pos) (pins : List (Addr × Obj)) (s : Shared) (σ : St) (H : Hp) (Q : List V → Hp → Prop), Inv X pins σ H s → t σ H Q → wpAny (model X.prog X.w) X.A (spliced (backTo pos (starEach es X.env))) (AP X pins σ Q) X.xe s
def PS (X : Cx) (st : Stmt) (t : TS) : Prop :=
  ∀ (pins : List (Addr × Obj)) (s : Shared) (σ : St) (H : Hp) (D : Ends), Inv X pins σ H s → t D σ H → wpAny (model X.prog X.w) X.A (exec st X.env) (SP X pins D) X.xe s
def PSs (X : Cx) (st : List Stmt) (t : TS) : Prop :=
  ∀ (pins : List (Addr × Obj)) (s : Shared) (σ : St) (H : Hp) (D : Ends), Inv X pins σ H s → t D σ H → wpAny (model X.prog X.w) X.A (execs st X.env) (SP X pins D) X.xe s
/-- weaken the end -/
theorem thn {α : Type} {t : Sem α} {Q Q' : α → Shared → Prop} {M : Model} {A : Around} {E : Value → Shared → Prop} {s : Shared} (h : wpAny M A t Q E s) (hQ : ∀ a s, Q a s → Q' a s) : wpAny M A t Q' E s := wpAny_mono h hQ fun _ _ x => x
end L2

namespace L2
open PySem PySem.Spec PyProof.Rows
section
variable {X : Cx}

/-! ### names and constants -/
def tVar (i : Nat) : TE := fun σ H Q => ∃ v, σ[i]? = some (some v) ∧ Q v H
def tC (v : V) : TE := fun _ H Q => Q v H
theorem pe_var {i : Nat} {x : Str} {pos : Pos} (hN : X.N[i]? = some x) (hv : Vis X.env.scope x) (hd : (x == ("__debug__" : Str)) = false := by decide) (hcd : (x == ("__classdict__" : Str)) = false := by decide) : PE X (.Name x pos) (tVar i) := by
  intro pins s σ H Q I h
  obtain ⟨v, e, h⟩ := h
  obtain ⟨m, hn, hl⟩ := I.loc
  obtain ⟨u, r, l⟩ := hl i x v hN e hv
  have fin : EP X pins σ Q u s := ⟨v, H, I, r, h⟩
  rcases l with ⟨hk, hm⟩ | ⟨hk, c, hc, hcell⟩
  · exact wpAny_Name (wpAny_loadName_local I.ok.kind hk hn hm fin) hd
  · rcases hk with hk | hk
    · exact wpAny_Name (wpAny_loadName_cell I.ok.kind hk hc hcell fin) hd
    · exact wpAny_Name (wpAny_loadName_free I.ok.kind hk hc hcell fin hcd) hd
theorem pe_int {i j pos} : PE X (.Constant (.int i) j pos) (tC (.int i)) := fun _ _ _ H _ I h => wpAny_Constant_int ⟨.int i, H, I.tok _, ⟨_, rfl⟩, h⟩
theorem pe_bl {b j pos} : PE X (.Constant (.bool b) j pos) (tC (.bl b)) := fun _ _ _ H _ I h => Constant_bool ⟨.bl b, H, I, rfl, h⟩
/-- a global name of the def -/
def Gl (X : Cx) (x : Str) : Prop := X.env.kindOf x = some .globalImplicit
theorem ld_glob {E : Value → Shared → Prop} {pins : List (Addr × Obj)} {s : Shared} {σ : St} {H : Hp} {x : Str} {u : Value} {pos : Pos} {Q : Value → Shared → Prop} (I : Inv X pins σ H s) (hg : Gl X x) (hm : X.mg x = some u) (h : Q u s)
    (hd : (x == ("__debug__" : Str)) = false := by decide) : wpAny (model X.prog X.w) X.A (eval (.Name x pos) X.env) Q E s :=
  Calls.Name_function_global I.ok.kind hg (Calls.loadGlobal_global (by rw [I.ok.glob]; exact I.mod.glob.keeps I.bk) hm h) hd
theorem ld_blt {E : Value → Shared → Prop} {pins : List (Addr × Obj)} {s : Shared} {σ : St} {H : Hp} {x : Str} {u : Value} {pos : Pos} {Q : Value → Shared → Prop} (I : Inv X pins σ H s) (hg : Gl X x) (hm : X.mg x = none) (hv : bootBuiltins x = some u) (h : Q u s)
    (hn : x ≠ "__name__" := by decide) (hd : (x == ("__debug__" : Str)) = false := by decide) : wpAny (model X.prog X.w) X.A (eval (.Name x pos) X.env) Q E s := by
  obtain ⟨mb, h1, h2⟩ := I.mod.blt
  exact Calls.Name_function_global I.ok.kind hg (Calls.loadGlobal_builtin (by rw [I.ok.glob]; exact I.mod.glob.keeps I.bk) hm (by rw [I.ok.blt]; exact h1.keeps I.bk) ((h2 x hn).trans hv) h) hd
/-- a module's constant, a class, a function, as a value -/
theorem pe_glob {x : Str} {v : V} {u : Value} {pos : Pos} (hg : Gl X x) (hm : X.mg x = some u) (r : RelV v u) (hd : (x == ("__debug__" : Str)) = false := by decide) : PE X (.Name x pos) (tC v) :=
  fun _ _ _ H _ I h => ld_glob I hg hm ⟨v, H, I, r, h⟩ hd
/-! ### arithmetic -/
/-- two ints -/
def t2I (ta tb : TE) (k : Int → Int → Hp → Prop) : St → Hp → Prop := fun σ H => ta σ H fun x H1 => tb σ H1 fun y H2 => ∃ i j, x = .int i ∧ y = .int j ∧ k i j H2
def tAdd (ta tb : TE) : TE := fun σ H Q => t2I ta tb (fun i j H2 => Q (.int (i + j)) H2) σ H
def tSub (ta tb : TE) : TE := fun σ H Q => t2I ta tb (fun i j H2 => Q (.int (i - j)) H2) σ H
/-- the left factor below 2^64 -/
def tMul (ta tb : TE) : TE := fun σ H Q => t2I ta tb (fun i j H2 => (-(2 ^ 64) < i ∧ i < 2 ^ 64) ∧ Q (.int (i * j)) H2) σ H
variable {a b : Expr} {ta tb : TE} {pos : Pos}
/-! ### comparisons -/
def PC (X : Cx) (op : CmpOp) (a b : Expr) (t : TE) : Prop :=
  ∀ (pins : List (Addr × Obj)) (s : Shared) (σ : St) (H : Hp) (Q : VK), Inv X pins σ H s → t σ H Q →
    wpAny (model X.prog X.w) X.A (eval a X.env) (fun v s₁ => wpAny (model X.prog X.w) X.A (eval b X.env) (fun u s₂ => wpAny (model X.prog X.w) X.A (compareOp op v u) (EP X pins σ Q) X.xe s₂) X.xe s₁) X.xe s
def tCmp (p : Int → Int → Bool) (ta tb : TE) : TE := fun σ H Q => t2I ta tb (fun i j H2 => Q (.bl (p i j)) H2) σ H
abbrev tLt : TE → TE → TE := tCmp fun i j => decide (i < j)
abbrev tLe : TE → TE → TE := tCmp fun i j => decide (i ≤ j)
abbrev tGt : TE → TE → TE := tCmp fun i j => decide (j < i)
abbrev tGe : TE → TE → TE := tCmp fun i j => decide (j ≤ i)
abbrev tEqI : TE → TE → TE := tCmp fun i j => decide (i = j)
abbrev tNeI : TE → TE → TE := tCmp fun i j => !decide (i = j)
/-- is None -/
def tIsN (ta : TE) : TE := fun σ H Q => ta σ H fun x H1 => Q (.bl (decide (x = .non))) H1
def tNotN (ta : TE) : TE := fun σ H Q => ta σ H fun x H1 => Q (.bl (!decide (x = .non))) H1
/-- a comparison as a value, as a test -/
def tB (t : TE) : TT := fun σ H Q => t σ H fun x H1 => ∃ c, x = .bl c ∧ Q c H1
/-- an expression whose value is a bool, as a test -/
theorem pt_val {e : Expr} {t : TE} (h : PE X e t) (he : ∀ whole, isTrue e X.env whole = (do let v ← whole; standAt e.pos; holding [v] (truthy v)) := by intro _; rfl) : PT X e (tB t) := by
  intro pins s σ H Q I hw
  refine isTrue_plain (thn (h pins s σ H _ I hw) fun v s1 ⟨x, H1, I1, r1, q1⟩ => ?_) (he _)
  obtain ⟨d, rfl, q⟩ := q1
  cases r1
  exact wpAny_truthy_bool ⟨H1, I1, q⟩

/-! ### and, or, not -/
variable {tA tB' : TT} {rest : List Expr}
def tAnd (t u : TT) : TT := fun σ H Q => t σ H fun c H1 => if c = true then u σ H1 Q else Q false H1
def tOr (t u : TT) : TT := fun σ H Q => t σ H fun c H1 => if c = true then Q true H1 else u σ H1 Q
def tNot (t : TT) : TT := fun σ H Q => t σ H fun c H1 => Q (!c) H1
theorem pw_and1 (ha : PT X a tA) : PW X (.BoolOp .And [a] pos) tA := by
  intro wh pins s σ H Q I h
  refine isTrue_and (thn (ha pins s σ H Q I h) fun c s1 e => ?_)
  cases c with
  | true => exact isTrue_and_nil e
  | false => exact e
theorem pw_or1 (ha : PT X a tA) : PW X (.BoolOp .Or [a] pos) tA := by
  intro wh pins s σ H Q I h
  refine isTrue_or (thn (ha pins s σ H Q I h) fun c s1 e => ?_)
  cases c with
  | false => exact isTrue_or_nil e
  | true => exact e
theorem pw_and (ha : PT X a tA) (hb : PW X (.BoolOp .And (b :: rest) pos) tB') : PW X (.BoolOp .And (a :: b :: rest) pos) (tAnd tA tB') := by
  intro wh pins s σ H Q I h
  refine isTrue_and (thn (ha pins s σ H _ I h) fun c s1 ⟨H1, I1, q1⟩ => ?_)
  cases c with
  | true => exact hb wh pins s1 σ H1 Q I1 q1
  | false => exact ⟨H1, I1, q1⟩
theorem pw_or (ha : PT X a tA) (hb : PW X (.BoolOp .Or (b :: rest) pos) tB') : PW X (.BoolOp .Or (a :: b :: rest) pos) (tOr tA tB') := by
  intro wh pins s σ H Q I h
  refine isTrue_or (thn (ha pins s σ H _ I h) fun c s1 ⟨H1, I1, q1⟩ => ?_)
  cases c with
  | true => exact ⟨H1, I1, q1⟩
  | false => exact hb wh pins s1 σ H1 Q I1 q1
theorem pt_not (ha : PT X a tA) : PT X (.UnaryOp .Not a pos) (tNot tA) := by
  intro pins s σ H Q I h
  exact isTrue_not (ha pins s σ H (fun c H1 => Q (!c) H1) I h)
/-- .. as values (bools) -/
def tAndV (ta tb : TE) : TE := fun σ H Q => ta σ H fun x H1 => ∃ c, x = .bl c ∧ if c = true then tb σ H1 Q else Q (.bl false) H1
def tOrV (ta tb : TE) : TE := fun σ H Q => ta σ H fun x H1 => ∃ c, x = .bl c ∧ if c = true then Q (.bl true) H1 else tb σ H1 Q
def tNotV (ta : TE) : TE := fun σ H Q => ta σ H fun x H1 => ∃ c, x = .bl c ∧ Q (.bl (!c)) H1
/-- a if t else b -/
def tIf (t : TT) (ta tb : TE) : TE := fun σ H Q => t σ H fun c H1 => if c = true then ta σ H1 Q else tb σ H1 Q
end
end L2

namespace L2
open PySem PySem.Spec PyProof.Rows

/-! ### a list, a tuple that is read: tracked, frozen, or an object of the module -/
def SqL (K : PySem.W.Frag) (H : Hp) (a : Addr) (xs : List V) : Prop :=
  Rd H a (.lst xs) ∨
    ∃ (o : Obj) (its : Array Value) (n : Nat), K.lookup a = some o ∧ o.cls = .type "list" ∧ o.dict = none ∧ o.data = .seq its n ∧ its.size ≤ sizeLine ∧ Vals xs its.toList
def SqT (K : PySem.W.Frag) (H : Hp) (a : Addr) (xs : List V) : Prop :=
  Rd H a (.tup xs) ∨
    ∃ (o : Obj) (its : Array Value) (n : Nat), K.lookup a = some o ∧ o.cls = .type "tuple" ∧ o.data = .seq its n ∧ its.size ≤ sizeLine ∧ Vals xs its.toList
def absV : Value → Option V
  | .none => some .non
  | .bool b => some (.bl b)
  | .int i _ => some (.int i)
  | .str x _ => some (.str x)
  | .bytes b _ => some (.byt b)
  | .float b _ => some (.flt b)
  | .ref a => some (.ref a)
  | .type n => some (.ty n)
  | _ => none
theorem RelV.abs {x : V} {u : Value} (r : RelV x u) : absV u = some x := by
  cases x with
  | non => cases r; rfl
  | bl _ => cases r; rfl
  | int _ => obtain ⟨t, rfl⟩ := r; rfl
  | str _ => obtain ⟨t, rfl⟩ := r; rfl
  | byt _ => obtain ⟨t, rfl⟩ := r; rfl
  | flt _ => obtain ⟨t, rfl⟩ := r; rfl
  | ref _ => cases r; rfl
  | ty _ => cases r; rfl
theorem RelV.inj {x y : V} {u : Value} (r : RelV x u) (q : RelV y u) : x = y := Option.some.inj (r.abs.symm.trans q.abs)
theorem Vals.inj : ∀ {xs ys : List V} {us : List Value}, Vals xs us → Vals ys us → xs = ys
  | _, _, _, .nil, .nil => rfl
  | _, _, _, .cons r t, .cons r' t' => by rw [r.inj r', Vals.inj t t']
section
variable {X : Cx} {pins : List (Addr × Obj)} {σ : St} {H : Hp} {s : Shared} {a : Addr} {xs ys : List V}
theorem SqL.of {K : PySem.W.Frag} (h : H a = some (.lst xs)) : SqL K H a xs := .inl (.inl h)
theorem Inv.list (I : Inv X pins σ H s) (h : SqL X.K H a xs) : ∃ its : List Value, Vals xs its ∧ PlainL s.heap a its.toArray ∧ xs.length ≤ sizeLine := by
  rcases h with h | ⟨o, its, n, hk, hc, hd, hs, hz, r⟩
  · obtain ⟨z, its, n, r, e⟩ := h.ok I.hok
    exact ⟨its, r, ⟨_, n, e, rfl, rfl, rfl⟩, z⟩
  · refine ⟨its.toList, r, ⟨o, n, I.kIn a o hk, hc, hd, by simpa using hs⟩, ?_⟩
    have e := r.length
    simp only [Array.length_toList] at e
    omega
theorem Inv.tuple (I : Inv X pins σ H s) (h : SqT X.K H a xs) : ∃ its : List Value, Vals xs its ∧ IsTup s.heap a its.toArray ∧ xs.length ≤ sizeLine := by
  rcases h with h | ⟨o, its, n, hk, hc, hs, hz, r⟩
  · obtain ⟨z, its, r, p⟩ := h.ok I.hok
    exact ⟨its, r, p, z⟩
  · refine ⟨its.toList, r, ⟨o, I.kIn a o hk, hc, n, by simpa using hs⟩, ?_⟩
    have e := r.length
    simp only [Array.length_toList] at e
    omega
theorem Inv.list_inj (I : Inv X pins σ H s) (h : SqL X.K H a xs) (h' : SqL X.K H a ys) : xs = ys := by
  obtain ⟨its, r, ⟨o, n, e, _, _, d⟩, _⟩ := I.list h
  obtain ⟨its', r', ⟨o', n', e', _, _, d'⟩, _⟩ := I.list h'
  rw [e] at e'; cases e'
  rw [d] at d'
  injection d' with d1 _
  have : its = its' := by simpa using congrArg Array.toList d1
  subst this
  exact r.inj r'
end

/-! ### another wish about exceptions -/
abbrev Cx.wish (X : Cx) (E : Value → Shared → Prop) : Cx := { X with xe := E }
/-- no exception leaves -/
abbrev Cx.nox (X : Cx) : Cx := X.wish fun _ _ => False
theorem Cx.Ok.wish {X : Cx} (ok : X.Ok) (E : Value → Shared → Prop) : (X.wish E).Ok :=
  ⟨ok.mod, ok.kind, ok.glob, ok.blt, ok.above, ok.inj, ok.has, ok.cab, ok.hd, ok.frames, ok.stk, ok.exf, ok.bs, ok.bsz, ok.noex, ok.exfs, ok.funs, ok.frf⟩
theorem Cx.Ok.unwish {X : Cx} {E : Value → Shared → Prop} (ok : (X.wish E).Ok) : X.Ok :=
  ⟨ok.mod, ok.kind, ok.glob, ok.blt, ok.above, ok.inj, ok.has, ok.cab, ok.hd, ok.frames, ok.stk, ok.exf, ok.bs, ok.bsz, ok.noex, ok.exfs, ok.funs, ok.frf⟩
section
variable {X : Cx} {pins : List (Addr × Obj)} {σ : St} {H : Hp} {s : Shared} {E : Value → Shared → Prop}
theorem Inv.wish (I : Inv X pins σ H s) (E : Value → Shared → Prop) : Inv (X.wish E) pins σ H s := ⟨I.ok.wish E, I.os, I.bare, I.base, I.loc, I.cell, I.free, I.freeC, I.pin, I.hok, I.len⟩
theorem Inv.unwish (I : Inv (X.wish E) pins σ H s) : Inv X pins σ H s := ⟨I.ok.unwish, I.os, I.bare, I.base, I.loc, I.cell, I.free, I.freeC, I.pin, I.hok, I.len⟩
theorem SP.unwish {D : Ends} {f : Flow} {s' : Shared} (h : SP (X.wish E) pins D f s') : SP X pins D f s' := by
  cases f with
  | next => obtain ⟨σ', H', I, q⟩ := h; exact ⟨σ', H', I.unwish, q⟩
  | brk => obtain ⟨σ', H', I, q⟩ := h; exact ⟨σ', H', I.unwish, q⟩
  | cont => obtain ⟨σ', H', I, q⟩ := h; exact ⟨σ', H', I.unwish, q⟩
  | ret u => obtain ⟨v, σ', H', I, r, q⟩ := h; exact ⟨v, σ', H', I.unwish, r, q⟩
theorem PSs.nox {st : List Stmt} {t : TS} (h : PSs X.nox st t) : PSs X st t := fun pins s σ H D I hw =>
  wpAny_mono (h pins s σ H D (I.wish _) hw) (fun _ _ q => q.unwish) fun _ _ z => False.elim z
end

/-! ### blocks and small statements -/
section
variable {X : Cx} {st : Stmt} {rest : List Stmt} {t u : TS} {e : Expr} {te : TE} {pos : Pos}
def tNext : TS := fun D σ H => D.nx σ H
def tSeq (t u : TS) : TS := fun D σ H => t { D with nx := u D } σ H
theorem pss_nil : PSs X [] tNext := fun _ _ σ H _ I h => wpAny_execs_nil ⟨σ, H, I, h⟩
theorem pss_cons (h1 : PS X st t) (h2 : PSs X rest u) : PSs X (st :: rest) (tSeq t u) := by
  intro pins s σ H D I h
  refine wpAny_execs_cons (thn (h1 pins s σ H { D with nx := u D } I h) fun f s1 q => ?_)
  cases f with
  | next =>
    obtain ⟨σ', H', I', q⟩ := q
    exact h2 pins s1 σ' H' D I' q
  | ret v => exact q
  | brk => exact q
  | cont => exact q
theorem pss_one (h1 : PS X st t) : PSs X [st] t := by
  intro pins s σ H D I h
  refine wpAny_execs_cons (thn (h1 pins s σ H D I h) fun f s1 q => ?_)
  cases f with
  | next => exact wpAny_execs_nil q
  | ret v => exact q
  | brk => exact q
  | cont => exact q
def tBreak : TS := fun D σ H => D.bk σ H
def tCont : TS := fun D σ H => D.ct σ H
/-- in a def's body nothing is shown -/
theorem Inv.quiet {pins : List (Addr × Obj)} {σ : St} {H : Hp} {s : Shared} (I : Inv X pins σ H s) : interactive X.env = false := by simp [interactive, I.ok.kind]
/-- an expression whose value is dropped -/
def tDrop (te : TE) : TS := fun D σ H => te σ H fun _ H1 => D.nx σ H1
theorem ps_expr (he : PE X e te) (hs : swapsWith e none pos.line X.env = pure false := by rfl) : PS X (.Expr e pos) (tDrop te) := by
  intro pins s σ H D I h
  exact wpAny_Expr_any (thn (he pins s σ H _ I h) fun v s1 ⟨x, H1, I1, r1, q1⟩ => ⟨σ, H1, I1, q1⟩) I.quiet hs
def tRet (te : TE) : TS := fun D σ H => te σ H D.rt
theorem ps_ret (he : PE X e te) : PS X (.Return (some e) pos) (tRet te) := by
  intro pins s σ H D I h
  exact wpAny_Return_some (thn (he pins s σ H _ I h) fun v s1 ⟨x, H1, I1, r1, q1⟩ => ⟨x, σ, H1, I1, r1, q1⟩)
def tRetN : TS := fun D _ H => D.rt .non H
def tIfS (c : TT) (t u : TS) : TS := fun D σ H => c σ H fun b H1 => if b = true then t D σ H1 else u D σ H1
theorem ps_if {c : Expr} {a b : List Stmt} {tc : TT} (hc : PT X c tc) (ha : PSs X a t) (hb : PSs X b u) : PS X (.If c a b pos) (tIfS tc t u) := by
  intro pins s σ H D I h
  refine wpAny_If (thn (hc pins s σ H _ I h) fun d s1 ⟨H1, I1, q1⟩ => ?_)
  cases d with
  | true => exact ha pins s1 σ H1 D I1 q1
  | false => exact hb pins s1 σ H1 D I1 q1
/-- code that the proof never comes to -/
def tNever : TS := fun _ _ _ => False
end

/-! ### targets -/
abbrev TG := V → St → Hp → (St → Hp → Prop) → Prop
abbrev TGs := List V → St → Hp → (St → Hp → Prop) → Prop
def PG (X : Cx) (target : Expr) (t : TG) : Prop :=
  ∀ (pins : List (Addr × Obj)) (s : Shared) (σ : St) (H : Hp) (v : V) (u : Value) (Q : St → Hp → Prop), Inv X pins σ H s → RelV v u → t v σ H Q →
    wpAny (model X.prog X.w) X.A (assign target X.env u) (fun _ s' => ∃ σ' H', Inv X pins σ' H' s' ∧ Q σ' H') X.xe s
/-- several targets, one after another -/
def PGs (X : Cx) (ts : List Expr) (t : TGs) : Prop :=
  ∀ (pins : List (Addr × Obj)) (s : Shared) (σ : St) (H : Hp) (vs : List V) (us : List Value) (Q : St → Hp → Prop), Inv X pins σ H s → Vals vs us → t vs σ H Q →
    wpAny (model X.prog X.w) X.A (assignInOrder ((assignEach ts X.env).map (·.2)) us) (fun _ s' => ∃ σ' H', Inv X pins σ' H' s' ∧ Q σ' H') X.xe s
/-- o[i] = v, by values -/
abbrev TSet := V → V → V → Hp → (Hp → Prop) → Prop
def PSet (X : Cx) (t : TSet) : Prop :=
  ∀ (pins : List (Addr × Obj)) (s : Shared) (σ : St) (H : Hp) (o i v : V) (ov iv u : Value) (Q : Hp → Prop), Inv X pins σ H s → RelV o ov → RelV i iv → RelV v u → t o i v H Q →
    wpAny (model X.prog X.w) X.A (setItem ov iv u) (fun _ s' => ∃ H', Inv X pins σ H' s' ∧ Q H') X.xe s
/-- a op= b, by values -/
abbrev TIp := V → V → Hp → VK → Prop
def PIp (X : Cx) (op : Operator) (t : TIp) : Prop :=
  ∀ (pins : List (Addr × Obj)) (s : Shared) (σ : St) (H : Hp) (x y : V) (v u : Value) (Q : VK), Inv X pins σ H s → RelV x v → RelV y u → t x y H Q →
    wpAny (model X.prog X.w) X.A (inplaceOp op v u) (EP X pins σ Q) X.xe s
section
variable {X : Cx} {pos : Pos}
def gName (i : Nat) : TG := fun v σ H Q => Q (σ.set i (some v)) H
theorem pg_name {i : Nat} {x : Str} (hN : X.N.Nodup) (hi : X.N[i]? = some x) (hx : Loc X.env.scope x) (hf : X.fn x = true ∨ X.env.scope.names.lookup x = some .local := by first | exact .inl rfl | exact .inr rfl | assumption) : PG X (.Name x pos) (gName i) := by
  intro pins s σ H v u Q I r h
  exact wpAny_assign_Name (store_ok I hN hi hx r (fun s' I' => ⟨_, H, I', h⟩) hf)
def gNil : TGs := fun vs σ H Q => vs = [] ∧ Q σ H
def gCons (t : TG) (u : TGs) : TGs := fun vs σ H Q => ∃ v r, vs = v :: r ∧ t v σ H fun σ' H' => u r σ' H' Q
/-- (a, b, ..) = a tuple of that length -/
def gTup (K : PySem.W.Frag) (n : Nat) (t : TGs) : TG := fun v σ H Q => ∃ a xs, v = .ref a ∧ SqT K H a xs ∧ xs.length = n ∧ t xs σ H Q
/-- o[i] = .. -/
def gSub (to ti : TE) (t : TSet) : TG := fun v σ H Q => to σ H fun o H1 => ti σ H1 fun i H2 => t o i v H2 fun H3 => Q σ H3
/-- target = value -/
def tAsg (te : TE) (g : TG) : TS := fun D σ H => te σ H fun x H1 => g x σ H1 D.nx
/-- name = value -/
theorem ps_set {i : Nat} {x : Str} {e : Expr} {te : TE} {pos' : Pos} (hN : X.N.Nodup) (hi : X.N[i]? = some x) (hx : Loc X.env.scope x) (he : PE X e te) (hs : swapsWith e (some (.Name x pos')) pos.line X.env = pure false := by rfl) (hf : X.fn x = true ∨ X.env.scope.names.lookup x = some .local := by first | exact .inl rfl | exact .inr rfl | assumption) :
    PS X (.Assign [.Name x pos'] e pos) (tAsg te (gName i)) := by
  intro pins s σ H D I h
  refine wpAny_Assign_Name (thn (he pins s σ H _ I h) fun v s1 ⟨y, H1, I1, r1, q1⟩ => ?_) hs
  exact store_ok I1 hN hi hx r1 (fun s2 I2 => ⟨_, H1, I2, q1⟩) hf
/-- a, b = x, y with plain local names: stored from the right; the pair itself is not tracked (the opening rows as in PyProof/Rows/TupAssign.lean:23) -/
def tPar (i j : Nat) (ta : TA) : TS := fun D σ H => ta σ H fun vs H1 => ∃ v w, vs = [v, w] ∧ D.nx ((σ.set i (some v)).set j (some w)) H1
/-- name op= e -/
def tAug (i : Nat) (te : TE) (ti : TIp) : TS := fun D σ H => ∃ x, σ[i]? = some (some x) ∧ te σ H fun y H1 => ti x y H1 fun z H2 => D.nx (σ.set i (some z)) H2
/-- o[i] op= e -/
def tAugS (to ti te : TE) (tget : V → V → Hp → VK → Prop) (tip : TIp) (tset : TSet) : TS := fun D σ H => to σ H fun o H1 => ti σ H1 fun i H2 => tget o i H2 fun x H3 => te σ H3 fun y H4 => tip x y H4 fun z H5 => tset o i z H5 fun H6 => D.nx σ H6
/-- o[i], by values -/
def PGet (X : Cx) (t : V → V → Hp → VK → Prop) : Prop :=
  ∀ (pins : List (Addr × Obj)) (s : Shared) (σ : St) (H : Hp) (o i : V) (ov iv : Value) (Q : VK), Inv X pins σ H s → RelV o ov → RelV i iv → t o i H Q →
    wpAny (model X.prog X.w) X.A (getItem ov iv) (EP X pins σ Q) X.xe s
/-- ints -/
def ipI (f : Int → Int → Int) : TIp := fun x y H Q => ∃ i j, x = .int i ∧ y = .int j ∧ Q (.int (f i j)) H
end

/-! ### while -/
section
variable {X : Cx} {pos : Pos}
/-- the invariant W with its measure -/
def tWhile (c : TT) (tb : TS) : TS := fun D σ H => ∃ W : Nat → St → Hp → Prop, (∃ m, W m σ H) ∧ ∀ m σ H, W m σ H →
  c σ H fun b H1 => if b = true then ∃ N : St → Hp → Prop, (∀ σ' H', N σ' H' → ∃ m', m' < m ∧ W m' σ' H') ∧ tb { D with nx := N, ct := N, bk := D.nx } σ H1 else D.nx σ H1
end

/-! ### what a loop or a comprehension walks -/
/-- at turn i: it yields x (the heap may grow), or it stops -/
structure It where
  go : Nat → Hp → Prop
  yld : Nat → Hp → V → Hp → Prop
  stop : Nat → Hp → Prop
/-- the iterator's own objects may turn: they are not the frame's, not pinned, younger than the entry (or a comprehension's own) -/
def FpOk (X : Cx) (pins : List (Addr × Obj)) (H : Hp) (b : Addr) : Prop :=
  H b = none ∧ b ≠ X.env.locals ∧ b ∉ X.fs ∧ (b ∈ X.ex ∨ X.s_0.heap.objs.size ≤ b) ∧ (∀ x c, X.env.cells.lookup x = some c → c ≠ b) ∧ ∀ p ∈ X.pn ++ pins, p.1 ≠ b
theorem Inv.fpOk {X : Cx} {pins : List (Addr × Obj)} {σ : St} {H H' : Hp} {s : Shared} {b : Addr} (I : Inv X pins σ H s) (hb : s.heap.objs.size ≤ b) (hn : H' b = none) : FpOk X pins H' b := by
  refine ⟨hn, Nat.ne_of_gt (Nat.lt_of_lt_of_le I.lt hb), I.nofs hb, .inr (Nat.le_trans I.sz hb), fun x c e z => ?_, fun p hp z => ?_⟩
  · obtain ⟨v, q⟩ := I.cell x c e
    exact absurd (Nat.lt_of_lt_of_le q.lt (by rw [z]; exact hb)) (Nat.lt_irrefl _)
  · exact absurd (Nat.lt_of_lt_of_le (Heap.lt_size (I.pin p hp).1) (by rw [z]; exact hb)) (Nat.lt_irrefl _)
structure Turn (P : Program) (w : World) (K : PySem.W.Frag) (tg : Expr) (J : It) (fp : List Addr) (it : Addr) (tn : Nat → Heap → Prop) : Prop where
  mem : it ∈ fp
  obj : ∀ i h, tn i h → ∀ b ∈ fp, ∃ o, h.get? b = some o ∧ ∀ v, o.data ≠ .cell v
  keep : ∀ i h h', tn i h → (∀ b ∈ fp, ∀ o, h.get? b = some o → h'.get? b = some o) → tn i h'
  item : ∀ (X : Cx), X.prog = P → X.w = w → X.K = K → X.calm = true → ∀ (i : Nat) (pins : List (Addr × Obj)) (s : Shared) (σ : St) (H : Hp) (E : Value → Shared → Prop), Inv X pins σ H s → (∀ b ∈ fp, FpOk X pins H b) → tn i s.heap → J.go i H →
    wpAny (model P w) X.A (pyNext (.ref it)) (fun r s1 => ∃ u, r = some u ∧
      wpAny (model P w) X.A (letOwnedTupleGo tg (.ref it) u) (fun _ s2 => ∃ x H', Inv X pins σ H' s2 ∧ RelV x u ∧ J.yld i H x H' ∧ tn (i + 1) s2.heap ∧ ∀ b ∈ fp, H' b = none) E s1) E s
  done : ∀ (X : Cx), X.prog = P → X.w = w → X.K = K → X.calm = true → ∀ (i : Nat) (pins : List (Addr × Obj)) (s : Shared) (σ : St) (H : Hp) (E : Value → Shared → Prop), Inv X pins σ H s → (∀ b ∈ fp, FpOk X pins H b) → tn i s.heap → J.stop i H →
    wpAny (model P w) X.A (pyNext (.ref it)) (fun r s1 => r = none ∧ Inv X pins σ H s1) E s
  self : ∀ (A : Around) (i : Nat) (s : Shared) (Q : Value → Shared → Prop) (E : Value → Shared → Prop), tn i s.heap → Q (.ref it) s → wpAny (model P w) A (pyIter (.ref it)) Q E s
abbrev TI := St → Hp → (It → Hp → Prop) → Prop
/-- an iterator has come -/
def PIE (X : Cx) (pins : List (Addr × Obj)) (σ : St) (tg : Expr) (R : It → Hp → Prop) (itv : Value) (s2 : Shared) : Prop :=
  ∃ (it : Addr) (fp : List Addr) (tn : Nat → Heap → Prop) (J : It) (H' : Hp), itv = .ref it ∧ Inv X pins σ H' s2 ∧ Turn X.prog X.w X.K tg J fp it tn ∧ tn 0 s2.heap ∧ (∀ b ∈ fp, FpOk X pins H' b) ∧ R J H'
def PI (X : Cx) (tg iter : Expr) (wi : TI) : Prop :=
  ∀ (pins : List (Addr × Obj)) (s : Shared) (σ : St) (H : Hp) (R : It → Hp → Prop), Inv X pins σ H s → wi σ H R →
    wpAny (model X.prog X.w) X.A (eval iter X.env) (fun v s1 => wpAny (model X.prog X.w) X.A (pyIter v) (PIE X pins σ tg R) X.xe s1) X.xe s

/-- the step ahead of the store is nothing for an iterator that keeps no tuple -/
theorem go_of {M : Model} {A : Around} {E : Value → Shared → Prop} {s : Shared} {tg : Expr} {it : Addr} {u : Value} {o : Obj} {n : String} {vs : Array Value} {Q : Unit → Shared → Prop} (ho : s.heap.get? it = some o) (hc : o.cls = .type n) (hd : o.data = .fields vs)
    (hn : ["enumerate", "zip", "dict_itemiterator", "dict_reverseitemiterator", "odict_iterator", "itertools.zip_longest", "itertools.pairwise"].contains n = false) (hQ : Q () s) : wpAny M A (letOwnedTupleGo tg (.ref it) u) Q E s := by
  unfold letOwnedTupleGo
  cases tg <;> first
    | exact wpAny_pure hQ
    | (cases u <;> first
        | exact wpAny_pure hQ
        | (refine wpAny_bind (wpAny_load ho ?_)
           rw [hc, hd]
           show wpAny M A (if (["enumerate", "zip", "dict_itemiterator", "dict_reverseitemiterator", "odict_iterator", "itertools.zip_longest", "itertools.pairwise"].contains n && vs[0]? == some (rawInt _)) = true then _ else _) Q E s
           rw [if_neg (by intro h; rw [hn, Bool.false_and] at h; cases h)]
           exact wpAny_pure hQ))

/-- the list at a, as it stands at each turn (a loop may append to it) -/
def Itl (K : PySem.W.Frag) (a : Addr) : It :=
  ⟨fun i H => ∃ xs x, SqL K H a xs ∧ xs[i]? = some x, fun i H x H' => H' = H ∧ ∀ xs, SqL K H a xs → xs[i]? = some x, fun i H => ∃ xs, SqL K H a xs ∧ xs.length ≤ i⟩
def Itt (K : PySem.W.Frag) (a : Addr) : It :=
  ⟨fun i H => ∃ xs x, SqT K H a xs ∧ xs[i]? = some x, fun i H x H' => H' = H ∧ ∀ xs, SqT K H a xs → xs[i]? = some x, fun i H => ∃ xs, SqT K H a xs ∧ xs.length ≤ i⟩
/-- lo, lo + 1, .. (n of them) -/
def Itr (lo : Int) (n : Nat) : It := ⟨fun i _ => i < n, fun i H x H' => H' = H ∧ x = .int (lo + i), fun i _ => n ≤ i⟩
theorem turn_list {P : Program} {w : World} {K : PySem.W.Frag} {tg : Expr} (a it : Addr) : Turn P w K tg (Itl K a) [it] it (fun i h => h.IsListIter it a i) where
  mem := by simp
  obj := fun i h st b hb => by
    have e : b = it := by simpa using hb
    subst e
    obtain ⟨o, e, c, d⟩ := st
    exact ⟨o, e, fun v z => by rw [d] at z; cases z⟩
  keep := fun i h h' st k => st.at fun o e => k it (by simp) o e
  item := by
    intro X hP hw hK hc i pins s σ H E I hf st hg
    subst hP hw hK
    obtain ⟨xs, x, hq, hx⟩ := hg
    obtain ⟨its, rv, p, hz⟩ := I.list hq
    obtain ⟨u, hu, ru⟩ := rv.get hx
    obtain ⟨f0, f1, f2, f3, f4, f5⟩ := hf it (by simp)
    refine wpAny_pyNext_list_item st p.isList (x := u) (by simpa using hu) fun h' st' sb => ?_
    have I1 : Inv X pins σ H { s with heap := h' } := I.turned (t' := s.toks) (fun b o hb e => (sb.2 b hb).trans e) f0 f1 f3 f4 f5
    obtain ⟨o, e, c, d⟩ := id st'
    exact ⟨u, rfl, go_of (s := { s with heap := h' }) e c d (by decide) ⟨x, H, I1, ru, ⟨rfl, fun ys hy => by rw [I.list_inj hy hq]; exact hx⟩, st', fun b hb => (hf b hb).1⟩⟩
  done := by
    intro X hP hw hK hc i pins s σ H E I hf st hg
    subst hP hw hK
    obtain ⟨xs, hq, hx⟩ := hg
    obtain ⟨its, rv, p, hz⟩ := I.list hq
    obtain ⟨f0, f1, f2, f3, f4, f5⟩ := hf it (by simp)
    have hl := rv.length
    exact wpAny_pyNext_list_end (I.ok.hd hc) st p.isList (by simp; omega) fun h' eb => ⟨rfl, I.turned (t' := s.toks) (fun b o hb e => eb b o hb e) f0 f1 f3 f4 f5⟩
  self := fun _ _ _ _ _ st h => wpAny_pyIter_listiter st h
theorem turn_range {P : Program} {w : World} {K : PySem.W.Frag} {tg : Expr} (it : Addr) (lo : Int) (n : Nat) : Turn P w K tg (Itr lo n) [it] it (fun i h => IsRangeIter h it (lo + (i : Nat) * 1) ((n : Int) - (i : Nat)) 1) where
  mem := by simp
  obj := fun i h st b hb => by
    have e : b = it := by simpa using hb
    subst e
    exact ⟨_, st, fun v z => by
      have z' : Data.fields _ = Data.cell v := z
      cases z'⟩
  keep := fun i h h' st k => k it (by simp) _ st
  item := by
    intro X hP hw hK hc i pins s σ H E I hf st hg
    subst hP hw hK
    obtain ⟨f0, f1, f2, f3, f4, f5⟩ := hf it (by simp)
    have W := Walks.range (prog := X.prog) (w := X.w) (I.ok.hd hc) it lo 1 n
    refine W.item i s _ _ hg st fun v h' tk hv st' kk => ?_
    obtain ⟨t, rfl⟩ := hv
    have I1 : Inv X pins σ H { s with heap := h', toks := tk } := I.turned (fun b o hb e => kk b o (by simpa using hb) e) f0 f1 f3 f4 f5
    refine ⟨_, rfl, go_of (s := { s with heap := h', toks := tk }) (n := "range_iterator") st' rfl rfl (by decide) ⟨.int (lo + i), H, I1, ⟨t, ?_⟩, ⟨rfl, rfl⟩, st', fun b hb => (hf b hb).1⟩⟩
    rw [Int.mul_one]
  done := by
    intro X hP hw hK hc i pins s σ H E I hf st hg
    subst hP hw hK
    obtain ⟨f0, f1, f2, f3, f4, f5⟩ := hf it (by simp)
    exact wpAny_pyNext_range_end (I.ok.hd hc) st (by have : n ≤ i := hg; omega) fun h' eb => ⟨rfl, I.turned (t' := s.toks) (fun b o hb e => eb b o hb e) f0 f1 f3 f4 f5⟩
  self := fun _ _ _ _ _ st h => wpAny_pyIter_rangeiter st h
end L2

namespace L2
open PySem PySem.Spec PyProof.Rows
section
variable {X : Cx} {tg : Expr}
def iList (K : PySem.W.Frag) (tl : TE) : TI := fun σ H R => tl σ H fun x H1 => ∃ a, x = .ref a ∧ (∃ xs, SqL K H1 a xs) ∧ R (Itl K a) H1
def iTup (K : PySem.W.Frag) (tl : TE) : TI := fun σ H R => tl σ H fun x H1 => ∃ a, x = .ref a ∧ (∃ xs, SqT K H1 a xs) ∧ R (Itt K a) H1
theorem pi_list {l : Expr} {tl : TE} (hl : PE X l tl) : PI X tg l (iList X.K tl) := by
  intro pins s σ H R I h
  refine thn (hl pins s σ H _ I h) fun v s1 ⟨x, H1, I1, r1, q1⟩ => ?_
  obtain ⟨a, e, ⟨xs, hq⟩, q⟩ := q1
  subst e
  cases r1
  obtain ⟨its, rv, p, hz⟩ := I1.list hq
  refine wpAny_pyIter_list p.isList ?_
  refine ⟨s1.heap.objs.size, [s1.heap.objs.size], _, _, H1, rfl, I1.kept (t' := s1.toks) fun b o e => Heap.get?_push_of_some _ e, turn_list a _, ⟨_, Heap.get?_push_size _ rfl, rfl, rfl⟩, fun b hb => ?_, q⟩
  have e : b = s1.heap.objs.size := by simpa using hb
  subst e
  exact I1.fpOk (Nat.le_refl _) (I1.hok.fresh (Nat.le_refl _))
/-- a range object just made, walked -/
theorem range_it {pins : List (Addr × Obj)} {σ : St} {H : Hp} {s : Shared} {R : It → Hp → Prop} {E : Value → Shared → Prop} {lo hi : Int} {t u v : Tok} {tk : Nat} (I : Inv X pins σ H s) (h1 : -(2 ^ 62) ≤ lo) (h2 : lo < 2 ^ 62) (h3 : -(2 ^ 62) ≤ hi) (h4 : hi < 2 ^ 62)
    (q : R (Itr lo (hi - lo).toNat) H) : wpAny (model X.prog X.w) X.A (pyIter (.ref s.heap.objs.size)) (PIE X pins σ tg R) E { s with heap := s.heap.push { cls := .type "range", data := .fields #[.int lo t, .int hi u, .int 1 v] }, toks := tk } := by
  refine wpAny_pyIter_range (IsRange.new ..) (small_one h1 h2 h3 h4) ?_
  have I1 : Inv X pins σ H { s with heap := s.heap.push { cls := .type "range", data := .fields #[.int lo t, .int hi u, .int 1 v] }, toks := tk } := I.kept fun b o e => Heap.get?_push_of_some _ e
  refine ⟨(s.heap.push { cls := .type "range", data := .fields #[.int lo t, .int hi u, .int 1 v] }).objs.size, [(s.heap.push { cls := .type "range", data := .fields #[.int lo t, .int hi u, .int 1 v] }).objs.size], _, _, H, rfl,
    I1.kept (t' := tk) fun b o e => Heap.get?_push_of_some _ e, turn_range _ lo (hi - lo).toNat, ?_, fun b hb => ?_, q⟩
  · have e1 : lo + ((0 : Nat) : Int) * 1 = lo := by simp
    have e2 : (((hi - lo).toNat : Nat) : Int) - ((0 : Nat) : Int) = Builtin.Range.rangeSize lo hi 1 := by rw [rangeSize_one]; split <;> omega
    show IsRangeIter _ _ (lo + ((0 : Nat) : Int) * 1) ((((hi - lo).toNat : Nat) : Int) - ((0 : Nat) : Int)) 1
    rw [e1, e2]
    exact Heap.get?_push_size _ rfl
  · have e : b = (s.heap.push { cls := .type "range", data := .fields #[.int lo t, .int hi u, .int 1 v] }).objs.size := by simpa using hb
    subst e
    exact I1.fpOk (Nat.le_refl _) (I1.hok.fresh (Nat.le_refl _))
def iRng1 (ta : TA) : TI := fun σ H R => ta σ H fun vs H1 => ∃ j : Int, vs = [.int j] ∧ -(2 ^ 62) ≤ j ∧ j < 2 ^ 62 ∧ R (Itr 0 j.toNat) H1
def iRng2 (ta : TA) : TI := fun σ H R => ta σ H fun vs H1 => ∃ i j : Int, vs = [.int i, .int j] ∧ (-(2 ^ 62) ≤ i ∧ i < 2 ^ 62 ∧ -(2 ^ 62) ≤ j ∧ j < 2 ^ 62) ∧ R (Itr i (j - i).toNat) H1
theorem pi_range1 {a : Expr} {ta : TA} {p pos : Pos} (hg : Gl X "range") (hm : X.mg "range" = none) (ha : PA X [a] ta) (hs : starEach [a] X.env = [(false, eval a X.env)] := by rfl) : PI X tg (.Call (.Name "range" p) [a] [] pos) (iRng1 ta) := by
  intro pins s σ H R I h
  refine Call_ (ld_blt I hg hm boot_range (PyProof.Rows.callWith_type1 (thn (ha pos pins s σ H _ I h) fun us s1 ⟨vs, H1, I1, r1, q1⟩ => ?_) hs rfl))
  obtain ⟨j, e, q1, q2, q⟩ := q1
  subst e
  cases r1 with
  | cons r rr =>
    cases rr
    obtain ⟨t, rfl⟩ := r
    exact call_range_1 (range_it I1 (by omega) (by omega) q1 q2 (by simpa using q))
/-! ### for -/
/-- W: the invariant by the turn and a measure; N: what the body is to reach -/
def tFor (wi : TI) (g : TG) (tb : TS) : TS := fun D σ H => wi σ H fun J H1 => ∃ W : Nat → Nat → St → Hp → Prop, (∃ m, W 0 m σ H1) ∧ ∀ i m σ H, W i m σ H →
  (J.stop i H ∧ D.nx σ H) ∨ (J.go i H ∧ ∃ N : St → Hp → Prop, (∀ σ' H', N σ' H' → ∃ m', m' < m ∧ W (i + 1) m' σ' H') ∧ ∀ x H', J.yld i H x H' → g x σ H' fun σ2 H2 => tb { D with nx := N, ct := N, bk := D.nx } σ2 H2)
/-- the records at fp as they stand -/
def pinsAt (fp : List Addr) (h : Heap) : List (Addr × Obj) := fp.filterMap fun b => (h.get? b).map fun o => (b, o)
theorem mem_pinsAt {fp : List Addr} {h : Heap} {b : Addr} {o : Obj} (hb : b ∈ fp) (e : h.get? b = some o) : (b, o) ∈ pinsAt fp h := List.mem_filterMap.mpr ⟨b, hb, by rw [e]; rfl⟩
theorem of_pinsAt {fp : List Addr} {h : Heap} {p : Addr × Obj} (hp : p ∈ pinsAt fp h) : p.1 ∈ fp ∧ h.get? p.1 = some p.2 := by
  obtain ⟨b, hb, e⟩ := List.mem_filterMap.mp hp
  cases q : h.get? b with
  | none => rw [q] at e; cases e
  | some o =>
    rw [q] at e
    have e' : (b, o) = p := Option.some.inj e
    subst e'
    exact ⟨hb, q⟩
theorem Inv.pinned {pins : List (Addr × Obj)} {σ : St} {H : Hp} {s : Shared} {fp : List Addr} (I : Inv X pins σ H s) (hf : ∀ b ∈ fp, FpOk X pins H b) (ho : ∀ b ∈ fp, ∃ o, s.heap.get? b = some o ∧ ∀ v, o.data ≠ .cell v) : Inv X (pins ++ pinsAt fp s.heap) σ H s :=
  I.pins_of fun p hp => (List.mem_append.mp hp).elim (fun z => I.pin p (List.mem_append_right _ z)) fun z => by
    obtain ⟨hb, e⟩ := of_pinsAt z
    obtain ⟨f0, f1, f2, _⟩ := hf p.1 hb
    obtain ⟨o, e', d⟩ := ho p.1 hb
    rw [e] at e'; cases e'
    exact ⟨e, f0, f1, f2, d⟩
theorem Inv.unpinned {pins pl : List (Addr × Obj)} {σ : St} {H : Hp} {s : Shared} (I : Inv X (pins ++ pl) σ H s) : Inv X pins σ H s := I.pins_of fun p hp => I.pin p (List.mem_append_right _ (List.mem_append_left _ hp))
theorem ps_for {iter : Expr} {body : List Stmt} {wi : TI} {g : TG} {tb : TS} {pos : Pos} (hp : PassesOwn (model X.prog X.w) X.A X.env X.xe) (hc : X.calm = true) (hi : PI X tg iter wi) (hg : PG X tg g) (hb : PSs X body tb)
    (hs : ∀ x, foldedSetIterable iter X.env x = pure x := by intro _; rfl) : PS X (.For tg iter body [] pos) (tFor wi g tb) := by
  intro pins s σ H D I h
  refine wpAny_For (thn (hi pins s σ H _ I h) fun v s1 h1 => thn h1 fun itv s2 h2 => ?_) hs
  obtain ⟨it, fp, tn, J, H2, e, I2, T, st2, f2, W, ⟨m0, w0⟩, turn⟩ := h2
  subst e
  -- what stays true of the iterator's objects through the loop
  have stat : ∀ {H' : Hp}, (∀ b ∈ fp, H' b = none) → ∀ b ∈ fp, FpOk X pins H' b := fun hn b hb => ⟨hn b hb, (f2 b hb).2⟩
  refine codeAny_forLoop_any (fun n s' => ∃ i σ' H', Inv X pins σ' H' s' ∧ tn i s'.heap ∧ (∀ b ∈ fp, H' b = none) ∧ W i n σ' H') ?_ m0 ⟨0, σ, H2, I2, st2, fun b hb => (f2 b hb).1, w0⟩
  rintro n s3 ⟨i, σ3, H3, I3, st3, fr3, w3⟩
  rcases turn i n σ3 H3 w3 with ⟨stop, qn⟩ | ⟨go, N, hN, step⟩
  · refine wpAny_passesOwn hp (thn (T.done X rfl rfl rfl hc i pins s3 σ3 H3 X.xe I3 (stat fr3) st3 stop) fun r s4 ⟨hr, I4⟩ => ?_)
    subst hr
    exact wpAny_execs_nil ⟨σ3, H3, I4, qn⟩
  · refine wpAny_passesOwn hp (thn (T.item X rfl rfl rfl hc i pins s3 σ3 H3 X.xe I3 (stat fr3) st3 go) fun r s4 ⟨u, hr, h4⟩ => ?_)
    subst hr
    refine wpAny_passesOwn hp (thn h4 fun _ s5 ⟨x, H5, I5, r5, y5, st5, fr5⟩ => ?_)
    have I5' := I5.pinned (stat fr5) (T.obj _ _ st5)
    refine wpAny_passesOwn hp (thn (hg _ s5 σ3 H5 x u _ I5' r5 (step x H5 y5)) fun _ s6 ⟨σ6, H6, I6, q6⟩ => ?_)
    refine wpAny_passesOwn hp (thn (hb _ s6 σ6 H6 _ I6 q6) fun f s7 q7 => ?_)
    have again : ∀ {σ7 : St} {H7 : Hp}, Inv X (pins ++ pinsAt fp s5.heap) σ7 H7 s7 → N σ7 H7 → ∃ m, m < n ∧ ∃ i σ' H', Inv X pins σ' H' s7 ∧ tn i s7.heap ∧ (∀ b ∈ fp, H' b = none) ∧ W i m σ' H' := fun {σ7 H7} I7 n7 => by
      obtain ⟨m', hm, w7⟩ := hN σ7 H7 n7
      refine ⟨m', hm, i + 1, σ7, H7, I7.unpinned, T.keep _ _ _ st5 fun b hb o e => (I7.pin (b, o) (List.mem_append_right _ (List.mem_append_right _ (mem_pinsAt hb e)))).1, fun b hb => ?_, w7⟩
      obtain ⟨o, e, d⟩ := T.obj _ _ st5 b hb
      exact (I7.pin (b, o) (List.mem_append_right _ (List.mem_append_right _ (mem_pinsAt hb e)))).2.1
    cases f with
    | next => obtain ⟨σ7, H7, I7, n7⟩ := q7; exact again I7 n7
    | cont => obtain ⟨σ7, H7, I7, n7⟩ := q7; exact again I7 n7
    | brk => obtain ⟨σ7, H7, I7, q7⟩ := q7; exact ⟨σ7, H7, I7.unpinned, q7⟩
    | ret v => obtain ⟨x7, σ7, H7, I7, r7, q7⟩ := q7; exact ⟨x7, σ7, H7, I7.unpinned, r7, q7⟩
end

/-! ### the forms one uses -/
/-- over a list that the body leaves as it is -/
theorem for_list {K : PySem.W.Frag} {a : Addr} {xs : List V} {g : TG} {tb : TS} {D : Ends} {σ : St} {H : Hp} (Pv : Nat → St → Hp → Prop) (h0 : Pv 0 σ H) (hl : ∀ i σ H, i ≤ xs.length → Pv i σ H → SqL K H a xs)
    (hs : ∀ i x σ H, xs[i]? = some x → Pv i σ H → g x σ H fun σ2 H2 => tb { D with nx := Pv (i + 1), ct := Pv (i + 1), bk := D.nx } σ2 H2) (hd : ∀ σ H, Pv xs.length σ H → D.nx σ H) :
    ∃ W : Nat → Nat → St → Hp → Prop, (∃ m, W 0 m σ H) ∧ ∀ i m σ H, W i m σ H →
      ((Itl K a).stop i H ∧ D.nx σ H) ∨ ((Itl K a).go i H ∧ ∃ N : St → Hp → Prop, (∀ σ' H', N σ' H' → ∃ m', m' < m ∧ W (i + 1) m' σ' H') ∧ ∀ x H', (Itl K a).yld i H x H' → g x σ H' fun σ2 H2 => tb { D with nx := N, ct := N, bk := D.nx } σ2 H2) := by
  refine ⟨fun i m σ H => m = xs.length - i ∧ i ≤ xs.length ∧ Pv i σ H, ⟨xs.length, by simp, Nat.zero_le _, h0⟩, ?_⟩
  rintro i m σ H ⟨rfl, hi, p⟩
  have q := hl i σ H hi p
  by_cases hlt : i < xs.length
  · refine .inr ⟨⟨xs, xs[i], q, by simp [hlt]⟩, Pv (i + 1), fun σ' H' p' => ⟨xs.length - (i + 1), by omega, rfl, hlt, p'⟩, fun x H' y => ?_⟩
    obtain ⟨e, y⟩ := y
    subst e
    exact hs i x σ _ (y xs q) p
  · have e : i = xs.length := by omega
    subst e
    exact .inl ⟨⟨xs, q, Nat.le_refl _⟩, hd σ H p⟩
theorem for_range {lo : Int} {n : Nat} {g : TG} {tb : TS} {D : Ends} {σ : St} {H : Hp} (Pv : Nat → St → Hp → Prop) (h0 : Pv 0 σ H)
    (hs : ∀ i σ H, i < n → Pv i σ H → g (.int (lo + i)) σ H fun σ2 H2 => tb { D with nx := Pv (i + 1), ct := Pv (i + 1), bk := D.nx } σ2 H2) (hd : ∀ σ H, Pv n σ H → D.nx σ H) :
    ∃ W : Nat → Nat → St → Hp → Prop, (∃ m, W 0 m σ H) ∧ ∀ i m σ H, W i m σ H →
      ((Itr lo n).stop i H ∧ D.nx σ H) ∨ ((Itr lo n).go i H ∧ ∃ N : St → Hp → Prop, (∀ σ' H', N σ' H' → ∃ m', m' < m ∧ W (i + 1) m' σ' H') ∧ ∀ x H', (Itr lo n).yld i H x H' → g x σ H' fun σ2 H2 => tb { D with nx := N, ct := N, bk := D.nx } σ2 H2) := by
  refine ⟨fun i m σ H => m = n - i ∧ i ≤ n ∧ Pv i σ H, ⟨n, by simp, Nat.zero_le _, h0⟩, ?_⟩
  rintro i m σ H ⟨rfl, hi, p⟩
  by_cases hlt : i < n
  · refine .inr ⟨hlt, Pv (i + 1), fun σ' H' p' => ⟨n - (i + 1), by omega, rfl, hlt, p'⟩, fun x H' y => ?_⟩
    obtain ⟨e, y⟩ := y
    subst e y
    exact hs i σ _ hlt p
  · have e : i = n := by omega
    subst e
    exact .inl ⟨Nat.le_refl _, hd σ H p⟩
end L2

namespace L2
open PySem PySem.Spec PyProof.Rows

abbrev R2 := V → V → Hp → VK → Prop
/-- a two-place operation on values: f is binaryOp op, inplaceOp op or compareOp op -/
def OpR (X : Cx) (f : Value → Value → Sem Value) (r : R2) : Prop :=
  ∀ (pins : List (Addr × Obj)) (s : Shared) (σ : St) (H : Hp) (x y : V) (v u : Value) (Q : VK), Inv X pins σ H s → RelV x v → RelV y u → r x y H Q →
    wpAny (model X.prog X.w) X.A (f v u) (EP X pins σ Q) X.xe s
/-- a one-place operation -/
def UnR (X : Cx) (f : Value → Sem Value) (r : V → Hp → VK → Prop) : Prop :=
  ∀ (pins : List (Addr × Obj)) (s : Shared) (σ : St) (H : Hp) (x : V) (v : Value) (Q : VK), Inv X pins σ H s → RelV x v → r x H Q →
    wpAny (model X.prog X.w) X.A (f v) (EP X pins σ Q) X.xe s
/-- a call of a value that is known (a builtin, a type) with values -/
def CallR (X : Cx) (f : Value) (r : List V → Hp → VK → Prop) : Prop :=
  ∀ (pins : List (Addr × Obj)) (s : Shared) (σ : St) (H : Hp) (xs : List V) (us : List Value) (Q : VK), Inv X pins σ H s → Vals xs us → r xs H Q →
    wpAny (model X.prog X.w) X.A (call f us) (EP X pins σ Q) X.xe s
/-- a value's truth -/
def TruR (X : Cx) (r : V → Hp → (Bool → Hp → Prop) → Prop) : Prop :=
  ∀ (pins : List (Addr × Obj)) (s : Shared) (σ : St) (H : Hp) (x : V) (v : Value) (Q : Bool → Hp → Prop), Inv X pins σ H s → RelV x v → r x H Q →
    wpAny (model X.prog X.w) X.A (truthy v) (TP X pins σ Q) X.xe s

def tOp (r : R2) (ta tb : TE) : TE := fun σ H Q => ta σ H fun x H1 => tb σ H1 fun y H2 => r x y H2 Q
def tUn (r : V → Hp → VK → Prop) (ta : TE) : TE := fun σ H Q => ta σ H fun x H1 => r x H1 Q
/-- ints in, under C, and a value out -/
def rI (C : Int → Int → Prop) (g : Int → Int → V) : R2 := fun x y H Q => ∃ i j, x = .int i ∧ y = .int j ∧ C i j ∧ Q (g i j) H
def rI0 (g : Int → Int → V) : R2 := fun x y H Q => ∃ i j, x = .int i ∧ y = .int j ∧ Q (g i j) H
def rU (g : Int → V) : V → Hp → VK → Prop := fun x H Q => ∃ i, x = .int i ∧ Q (g i) H

section
variable {X : Cx} {a b c : Expr} {ta tb tc : TE} {pos : Pos}

theorem binT (ha : PE X a ta) (hb : PE X b tb) {pins : List (Addr × Obj)} {s : Shared} {σ : St} {H : Hp} {R : V → V → Hp → Prop} (I : Inv X pins σ H s)
    (h : ta σ H fun x H1 => tb σ H1 fun y H2 => R x y H2) {Q : Value → Shared → Prop} {f : Value → Value → Sem Value}
    (hf : ∀ v u s2 x y H2, Inv X pins σ H2 s2 → RelV x v → RelV y u → R x y H2 → wpAny (model X.prog X.w) X.A (f v u) Q X.xe s2) :
    wpAny (model X.prog X.w) X.A (eval a X.env) (fun v s₁ => wpAny (model X.prog X.w) X.A (eval b X.env) (fun u s₂ => wpAny (model X.prog X.w) X.A (f v u) Q X.xe s₂) X.xe s₁) X.xe s := by
  refine thn (ha pins s σ H _ I h) fun v s1 ⟨x, H1, I1, r1, q1⟩ => ?_
  refine thn (hb pins s1 σ H1 _ I1 q1) fun u s2 ⟨y, H2, I2, r2, q2⟩ => ?_
  exact hf v u s2 x y H2 I2 r1 r2 q2

theorem pe_op {op : Operator} {r : R2} (ho : OpR X (binaryOp op) r) (ha : PE X a ta) (hb : PE X b tb) : PE X (.BinOp a op b pos) (tOp r ta tb) := by
  intro pins s σ H Q I h
  exact wpAny_BinOp (binT ha hb I h fun v u s2 x y H2 I2 rx ry q => ho pins s2 σ H2 x y v u Q I2 rx ry q)
/-! ### ints -/
theorem opI {f : Value → Value → Sem Value} {C : Int → Int → Prop} {g : Int → Int → Int}
    (rule : ∀ (i j : Int) (t u : Tok) (s : Shared) (Q : Value → Shared → Prop) (E : Value → Shared → Prop), C i j → Q (.int (g i j) s.toks) { s with toks := s.toks + 1 } → wpAny (model X.prog X.w) X.A (f (.int i t) (.int j u)) Q E s) :
    OpR X f (rI C fun i j => .int (g i j)) := by
  intro pins s σ H x y v u Q I rx ry h
  obtain ⟨i, j, rfl, rfl, hc, q⟩ := h
  obtain ⟨t, rfl⟩ := rx
  obtain ⟨t', rfl⟩ := ry
  exact rule i j t t' s _ _ hc ⟨.int (g i j), H, I.tok _, ⟨_, rfl⟩, q⟩
theorem opI0 {f : Value → Value → Sem Value} {g : Int → Int → Int}
    (rule : ∀ (i j : Int) (t u : Tok) (s : Shared) (Q : Value → Shared → Prop) (E : Value → Shared → Prop), Q (.int (g i j) s.toks) { s with toks := s.toks + 1 } → wpAny (model X.prog X.w) X.A (f (.int i t) (.int j u)) Q E s) :
    OpR X f (rI0 fun i j => .int (g i j)) := by
  intro pins s σ H x y v u Q I rx ry h
  obtain ⟨i, j, rfl, rfl, q⟩ := h
  obtain ⟨t, rfl⟩ := rx
  obtain ⟨t', rfl⟩ := ry
  exact rule i j t t' s _ _ ⟨.int (g i j), H, I.tok _, ⟨_, rfl⟩, q⟩
theorem opB0 {f : Value → Value → Sem Value} {g : Int → Int → Bool}
    (rule : ∀ (i j : Int) (t u : Tok) (s : Shared) (Q : Value → Shared → Prop) (E : Value → Shared → Prop), Q (.bool (g i j)) s → wpAny (model X.prog X.w) X.A (f (.int i t) (.int j u)) Q E s) :
    OpR X f (rI0 fun i j => .bl (g i j)) := by
  intro pins s σ H x y v u Q I rx ry h
  obtain ⟨i, j, rfl, rfl, q⟩ := h
  obtain ⟨t, rfl⟩ := rx
  obtain ⟨t', rfl⟩ := ry
  exact rule i j t t' s _ _ ⟨.bl (g i j), H, I, rfl, q⟩

def CDiv (i j : Int) : Prop := 0 < j ∧ j < 1073741824
def CDivN (i j : Int) : Prop := j ≠ 0 ∧ j.natAbs < 1073741824
def CPow (i j : Int) : Prop := 0 ≤ j ∧ j ≤ 1000000 ∧ i.natAbs < 2 ^ 64
def CMul (i j : Int) : Prop := (-(2 ^ 64) < i ∧ i < 2 ^ 64) ∨ (-(2 ^ 64) < j ∧ j < 2 ^ 64)
theorem CMul.ok {i j : Int} (h : CMul i j) : IntMulOk i j := by
  rcases h with ⟨h1, h2⟩ | ⟨h1, h2⟩
  · exact .of_left (intBits_le_64 h1 h2)
  · exact .of_right (intBits_le_64 h1 h2)
theorem two_pow_nn (k : Nat) : (0 : Int) ≤ 2 ^ k := by
  rw [two_pow_cast]
  exact Int.natCast_nonneg _

theorem op_add : OpR X (binaryOp .Add) (rI0 fun i j => .int (i + j)) := opI0 fun _ _ _ _ _ _ _ q => add_int q
theorem op_sub : OpR X (binaryOp .Sub) (rI0 fun i j => .int (i - j)) := opI0 fun _ _ _ _ _ _ _ q => sub_int q
theorem op_mul : OpR X (binaryOp .Mult) (rI CMul fun i j => .int (i * j)) := opI fun _ _ _ _ _ _ _ hc q => mul_int q hc.ok
/-- // by a positive divisor -/
theorem op_fdiv : OpR X (binaryOp .FloorDiv) (rI CDiv fun i j => .int (i / j)) := opI fun i j _ _ _ _ _ hc q => by
  have h1 : (0 : Int) < j := hc.1
  have h2 : j < 1073741824 := hc.2
  exact floordiv_int (by omega) (by rw [Int.fdiv_eq_ediv_of_nonneg i (by omega)]; exact q) (.inl (PyProof.noPylong_small (by omega)))
/-- % by a positive divisor of any size -/
theorem op_mod : OpR X (binaryOp .Mod) (rI (fun _ j => 0 < j) fun i j => .int (i % j)) := opI fun i j _ _ _ _ _ hc q => by
  have h1 : (0 : Int) < j := hc
  exact mod_int' (by omega) (by rw [Int.fmod_eq_emod_of_nonneg i (by omega)]; exact q)
theorem op_shr : OpR X (binaryOp .RShift) (rI (fun _ j => 0 ≤ j) fun i j => .int (i / 2 ^ j.toNat)) := opI fun i j _ _ _ _ _ hc q =>
  rshift_int hc (by rw [Int.fdiv_eq_ediv_of_nonneg i (two_pow_nn _)]; exact q)
/-! ### bools among ints: n += (a < b) -/
end

/-! ### comparisons -/
/-- the scalars that == tells apart as data does -/
def scal : V → V → Bool
  | .non, .non => true | .non, .int _ => true | .int _, .non => true | .non, .bl _ => true | .bl _, .non => true | .non, .str _ => true | .str _, .non => true
  | .int _, .int _ => true | .bl _, .bl _ => true | .str _, .str _ => true | .byt _, .byt _ => true
  | .int _, .str _ => true | .str _, .int _ => true | .bl _, .str _ => true | .str _, .bl _ => true
  | _, _ => false
def rEq : R2 := fun x y H Q => scal x y = true ∧ Q (.bl (decide (x = y))) H
def rNe : R2 := fun x y H Q => scal x y = true ∧ Q (.bl (!decide (x = y))) H

theorem dec_int {i j : Int} : decide (V.int i = V.int j) = (i == j) := by
  rw [Bool.eq_iff_iff]
  simp
theorem dec_bl {i j : Bool} : decide (V.bl i = V.bl j) = (i == j) := by
  rw [Bool.eq_iff_iff]
  simp
theorem dec_str {i j : Str} : decide (V.str i = V.str j) = (i == j) := by
  rw [Bool.eq_iff_iff]
  simp
theorem dec_byt {i j : Array UInt8} : decide (V.byt i = V.byt j) = (i.toList == j.toList) := by
  rw [Bool.eq_iff_iff]
  cases i
  cases j
  simp

section
variable {X : Cx} {a b c : Expr} {ta tb tc : TE} {pos : Pos}
theorem fin_bl {pins : List (Addr × Obj)} {σ : St} {H : Hp} {s : Shared} {Q : VK} {k k' : Bool} (I : Inv X pins σ H s) (q : Q (.bl k) H) (e : k = k') : EP X pins σ Q (.bool k') s := by
  subst e
  exact ⟨.bl k, H, I, rfl, q⟩
theorem op_eq : OpR X (compareOp .Eq) rEq := by
  intro pins s σ H x y v u Q I rx ry h
  obtain ⟨hs, q⟩ := h
  cases x with
  | non =>
    cases rx
    cases y with
    | non => cases ry; exact PySem.EqNone.eq_none_none (fin_bl I q (by simp))
    | bl j => cases ry; exact PySem.EqNone.eq_none_bool (fin_bl I q (by simp))
    | int j => obtain ⟨t', rfl⟩ := ry; exact PySem.EqNone.eq_none_int (fin_bl I q (by simp))
    | str j => obtain ⟨t', rfl⟩ := ry; exact PySem.EqNone.eq_none_str (fin_bl I q (by simp))
    | _ => exact absurd (show false = true from hs) Bool.false_ne_true
  | bl i =>
    cases rx
    cases y with
    | non => cases ry; exact PySem.EqNone.eq_bool_none (fin_bl I q (by simp))
    | bl j => cases ry; exact eq_bool (fin_bl I q dec_bl)
    | str j => obtain ⟨t', rfl⟩ := ry; exact PySem.EqMixed.eq_bool_str (fin_bl I q (by simp))
    | _ => exact absurd (show false = true from hs) Bool.false_ne_true
  | int i =>
    obtain ⟨t, rfl⟩ := rx
    cases y with
    | non => cases ry; exact PySem.EqNone.eq_int_none (fin_bl I q (by simp))
    | int j => obtain ⟨t', rfl⟩ := ry; exact eq_int (fin_bl I q dec_int)
    | str j => obtain ⟨t', rfl⟩ := ry; exact PySem.EqMixed.eq_int_str (fin_bl I q (by simp))
    | _ => exact absurd (show false = true from hs) Bool.false_ne_true
  | str i =>
    obtain ⟨t, rfl⟩ := rx
    cases y with
    | non => cases ry; exact PySem.EqNone.eq_str_none (fin_bl I q (by simp))
    | bl j => cases ry; exact PySem.EqMixed.eq_str_bool (fin_bl I q (by simp))
    | int j => obtain ⟨t', rfl⟩ := ry; exact PySem.EqMixed.eq_str_int (fin_bl I q (by simp))
    | str j => obtain ⟨t', rfl⟩ := ry; exact eq_str (fin_bl I q dec_str)
    | _ => exact absurd (show false = true from hs) Bool.false_ne_true
  | byt i =>
    obtain ⟨t, rfl⟩ := rx
    cases y with
    | byt j => obtain ⟨t', rfl⟩ := ry; exact PySem.W.eq_bytes (fin_bl I q dec_byt)
    | _ => exact absurd (show false = true from hs) Bool.false_ne_true
  | _ => cases y <;> exact absurd (show false = true from hs) Bool.false_ne_true
theorem op_ne : OpR X (compareOp .NotEq) rNe := by
  intro pins s σ H x y v u Q I rx ry h
  obtain ⟨hs, q⟩ := h
  cases x with
  | non =>
    cases rx
    cases y with
    | non => cases ry; exact PySem.EqNone.ne_none_none (fin_bl I q (by simp))
    | bl j => cases ry; exact PySem.EqNone.ne_none_bool (fin_bl I q (by simp))
    | int j => obtain ⟨t', rfl⟩ := ry; exact PySem.EqNone.ne_none_int (fin_bl I q (by simp))
    | str j => obtain ⟨t', rfl⟩ := ry; exact PySem.EqNone.ne_none_str (fin_bl I q (by simp))
    | _ => exact absurd (show false = true from hs) Bool.false_ne_true
  | bl i =>
    cases rx
    cases y with
    | non => cases ry; exact PySem.EqNone.ne_bool_none (fin_bl I q (by simp))
    | bl j => cases ry; exact ne_bool (fin_bl I q (congrArg not dec_bl))
    | str j => obtain ⟨t', rfl⟩ := ry; exact PySem.EqMixed.ne_bool_str (fin_bl I q (by simp))
    | _ => exact absurd (show false = true from hs) Bool.false_ne_true
  | int i =>
    obtain ⟨t, rfl⟩ := rx
    cases y with
    | non => cases ry; exact PySem.EqNone.ne_int_none (fin_bl I q (by simp))
    | int j => obtain ⟨t', rfl⟩ := ry; exact ne_int (fin_bl I q (congrArg not dec_int))
    | str j => obtain ⟨t', rfl⟩ := ry; exact PySem.EqMixed.ne_int_str (fin_bl I q (by simp))
    | _ => exact absurd (show false = true from hs) Bool.false_ne_true
  | str i =>
    obtain ⟨t, rfl⟩ := rx
    cases y with
    | non => cases ry; exact PySem.EqNone.ne_str_none (fin_bl I q (by simp))
    | bl j => cases ry; exact PySem.EqMixed.ne_str_bool (fin_bl I q (by simp))
    | int j => obtain ⟨t', rfl⟩ := ry; exact PySem.EqMixed.ne_str_int (fin_bl I q (by simp))
    | str j => obtain ⟨t', rfl⟩ := ry; exact ne_str (fin_bl I q (congrArg not dec_str))
    | _ => exact absurd (show false = true from hs) Bool.false_ne_true
  | byt i =>
    obtain ⟨t, rfl⟩ := rx
    cases y with
    | byt j => obtain ⟨t', rfl⟩ := ry; exact PySem.W.ne_bytes (fin_bl I q (congrArg not dec_byt))
    | _ => exact absurd (show false = true from hs) Bool.false_ne_true
  | _ => cases y <;> exact absurd (show false = true from hs) Bool.false_ne_true

theorem op_lt : OpR X (compareOp .Lt) (rI0 fun i j => .bl (decide (i < j))) := opB0 fun _ _ _ _ _ _ _ q => lt_int q
theorem op_le : OpR X (compareOp .LtE) (rI0 fun i j => .bl (decide (i ≤ j))) := opB0 fun _ _ _ _ _ _ _ q => le_int q
/-- is, is not of two objects that are tracked lists or instances -/
def isObj : HO → Bool
  | .lst _ => true
  | .ins _ _ _ => true
  | _ => false
theorem nomark (b : Expr) {op : CmpOp} (h : op ≠ .In := by decide) (h2 : op ≠ .NotIn := by decide) : behindInMarks op b = false := by
  have e1 : (op == CmpOp.In) = false := by cases op <;> first | rfl | exact absurd rfl h
  have e2 : (op == CmpOp.NotIn) = false := by cases op <;> first | rfl | exact absurd rfl h2
  cases b <;> simp [behindInMarks, e1, e2]
/-- a comparison as a value; hm: nomark b, or (for in, not in) by with_unfolding_all rfl -/
theorem pe_cmpR {op : CmpOp} {r : R2} (ho : OpR X (compareOp op) r) (ha : PE X a ta) (hb : PE X b tb) (hm : behindInMarks op b = false) : PE X (.Compare a [op] [b] pos) (tOp r ta tb) := by
  intro pins s σ H Q I h
  exact wpAny_Compare1 (binT ha hb I h fun v u s2 x y H2 I2 rx ry q => ho pins s2 σ H2 x y v u Q I2 rx ry q) hm
/-- a reading of a value as a test -/
def tTest (t : TE) : TT := fun σ H Q => t σ H fun x H' => ∃ k, x = .bl k ∧ Q k H'
theorem pt_cmpR {op : CmpOp} {r : R2} (ho : OpR X (compareOp op) r) (ha : PE X a ta) (hb : PE X b tb) (hm : behindInMarks op b = false) : PT X (.Compare a [op] [b] pos) (tTest (tOp r ta tb)) := by
  intro pins s σ H Q I h
  refine wpAny_isTrue_Compare1 (thn (ha pins s σ H _ I h) fun v s1 ⟨x, H1, I1, r1, q1⟩ => thn (hb pins s1 σ H1 _ I1 q1) fun u s2 ⟨y, H2, I2, r2, q2⟩ =>
    thn (ho pins s2 σ H2 x y v u _ I2 r1 r2 q2) fun c s3 ⟨z, H3, I3, r3, k, e, q3⟩ => ?_) hm
  subst e
  cases r3
  exact wpAny_truthy_bool ⟨H3, I3, q3⟩
/-- a op1 b op2 c -/
def tChain (r r' : R2) (ta tb tc : TE) : TE := fun σ H Q => ta σ H fun x H1 => tb σ H1 fun y H2 => r x y H2 fun z H3 => ∃ k, z = .bl k ∧
  (if k = true then tc σ H3 fun w' H4 => r' y w' H4 Q else Q (.bl false) H3)
theorem pe_chain {op op' : CmpOp} {r r' : R2} (ho : OpR X (compareOp op) r) (ho' : OpR X (compareOp op') r') (ha : PE X a ta) (hb : PE X b tb) (hc : PE X c tc)
    (hm : lastMarks [op, op'] [b, c] = false := by with_unfolding_all rfl) : PE X (.Compare a [op, op'] [b, c] pos) (tChain r r' ta tb tc) := by
  intro pins s σ H Q I h
  refine Compare_chain (thn (ha pins s σ H _ I h) fun v s1 ⟨x, H1, I1, r1, q1⟩ => chain_link (thn (hb pins s1 σ H1 _ I1 q1) fun u s2 ⟨y, H2, I2, r2, q2⟩ =>
    thn (ho pins s2 σ H2 x y v u _ I2 r1 r2 q2) fun d s3 ⟨z, H3, I3, r3, k, e, q3⟩ => ?_)) hm
  subst e
  cases r3
  refine wpAny_truthy_bool ?_
  cases k with
  | false => exact ite_ff ⟨.bl false, H3, I3, rfl, q3⟩
  | true => exact ite_tt (chain_last (thn (hc pins s3 σ H3 _ I3 q3) fun w' s4 ⟨z', H4, I4, r4, q4⟩ => ho' pins s4 σ H4 y z' u w' Q I4 r2 r4 q4))
theorem pt_chain {op op' : CmpOp} {r r' : R2} (ho : OpR X (compareOp op) r) (ho' : OpR X (compareOp op') r') (ha : PE X a ta) (hb : PE X b tb) (hc : PE X c tc)
    (hm : lastMarks [op, op'] [b, c] = false := by with_unfolding_all rfl) : PT X (.Compare a [op, op'] [b, c] pos) (tTest (tChain r r' ta tb tc)) := by
  intro pins s σ H Q I h
  refine isTrue_chain (thn (ha pins s σ H _ I h) fun v s1 ⟨x, H1, I1, r1, q1⟩ => test_link (thn (hb pins s1 σ H1 _ I1 q1) fun u s2 ⟨y, H2, I2, r2, q2⟩ =>
    thn (ho pins s2 σ H2 x y v u _ I2 r1 r2 q2) fun d s3 ⟨z, H3, I3, r3, k, e, q3⟩ => ?_)) hm
  subst e
  cases r3
  refine wpAny_truthy_bool ?_
  cases k with
  | false =>
    obtain ⟨k', e', q'⟩ := q3
    cases e'
    exact ite_ff ⟨H3, I3, q'⟩
  | true =>
    refine ite_tt (test_last (thn (hc pins s3 σ H3 _ I3 q3) fun w' s4 ⟨z', H4, I4, r4, q4⟩ => thn (ho' pins s4 σ H4 y z' u w' _ I4 r2 r4 q4) fun d' s5 ⟨z2, H5, I5, r5, k2, e2, q5⟩ => ?_))
    subst e2
    cases r5
    exact wpAny_truthy_bool ⟨H5, I5, q5⟩

/-! ### truth -/
/-- a value's truth by the abstract heap -/
def TruV (K : PySem.W.Frag) (x : V) (H : Hp) (k : Bool) : Prop :=
  match x with
  | .non => k = false
  | .bl b => k = b
  | .int i => k = (i != 0)
  | .str y => y.length ≤ sizeLine ∧ k = ((y.length : Int) != 0)
  | .byt y => y.size ≤ sizeLine ∧ k = ((y.size : Int) != 0)
  | .ref p => (∃ xs, SqL K H p xs ∧ k = !xs.isEmpty) ∨ (∃ xs, SqT K H p xs ∧ k = !xs.isEmpty) ∨ ∃ kvs, H p = some (.dK kvs) ∧ k = !kvs.isEmpty
  | _ => False
theorem line63 : (sizeLine : Nat) < 2 ^ 63 := by rw [sizeLine_eq]; decide
/-! ### strs and bytes -/
def PlainIxT (b : Expr) : Prop := ∀ o i, subscripted b false o i = operate [o, i] (getItem o i)
/-! ### scalar builtins, by CallR -/
theorem vals1 {x : V} {us : List Value} (r : Vals [x] us) : ∃ u, us = [u] ∧ RelV x u := by
  cases r with
  | cons r1 r2 => cases r2; exact ⟨_, rfl, r1⟩
theorem vals2 {x y : V} {us : List Value} (r : Vals [x, y] us) : ∃ u w', us = [u, w'] ∧ RelV x u ∧ RelV y w' := by
  cases r with
  | cons r1 r2 =>
    cases r2 with
    | cons r3 r4 => cases r4; exact ⟨_, _, rfl, r1, r3⟩
theorem call_min2 (hc : X.calm = true) : CallR X (.builtin "min") (fun xs H Q => ∃ i j, xs = [.int i, .int j] ∧ Q (.int (if j < i then j else i)) H) := by
  intro pins s σ H xs us Q I r h
  obtain ⟨i, j, rfl, q⟩ := h
  obtain ⟨u, w', rfl, ⟨t, rfl⟩, ⟨t', rfl⟩⟩ := vals2 r
  refine min_two_ints (I.ok.hd hc) fun h' tk k => ⟨_, H, I.kept k, ?_, q⟩
  by_cases hj : j < i
  · rw [if_pos hj, if_pos hj]; exact ⟨_, rfl⟩
  · rw [if_neg hj, if_neg hj]; exact ⟨_, rfl⟩
/-- len of a str, a bytes, a list, a tuple -/
def LenV (K : PySem.W.Frag) (x : V) (H : Hp) (n : Nat) : Prop :=
  match x with
  | .str y => y.length ≤ sizeLine ∧ n = y.length
  | .byt y => y.size ≤ sizeLine ∧ n = y.size
  | .ref p => (∃ xs, SqL K H p xs ∧ n = xs.length) ∨ ∃ xs, SqT K H p xs ∧ n = xs.length
  | _ => False
end
end L2

namespace L2
open PySem PySem.Spec PyProof.Rows

/-! ### an instance, its attributes a map -/
structure ObjM (h : Heap) (x dx C : Addr) (mA : Str → Option Value) : Prop where
  obj : h.get? x = some (PySem.W.instObj C dx)
  ns : h.Ns1 dx mA
  ne : dx ≠ x

section
variable {prog : Program} {w : World} {A : Around} {E : Value → Shared → Prop} {s : Shared} {K : PySem.W.Frag} {x dx C f : Addr} {mA : Str → Option Value} {name : Str} {v : Value}

end

/-! ### the attributes as a list of pairs -/
def putF (f : Str) (v : V) : List (Str × V) → List (Str × V)
  | [] => [(f, v)]
  | (g, x) :: r => if g = f then (g, v) :: r else (g, x) :: putF f v r
section
variable {P : Program} {w : World} {H H' : Hp} {h h' : Heap} {a C dx : Addr} {fs fs' : List (Str × V)}
end

/-! ### what of the text a class must have -/
structure Cls (K : PySem.W.Frag) (C : Addr) : Prop where
  pg : PySem.W.plainGet K C Str.empty = true
  hd : PySem.W.hasDictIn K C = true
  po : PySem.W.plainOver K C = true
  sa : PySem.W.findIn K (.ref C) "__setattr__" = some (some (.builtin "object.__setattr__"))
/-- no class of it has the name -/
def NoAttr (K : PySem.W.Frag) (C : Addr) (f : Str) : Prop := PySem.W.findIn K (.ref C) f = some none
/-- a constant of the class -/
structure Con (K : PySem.W.Frag) (C : Addr) (f : Str) (v : V) (u : Value) : Prop where
  at_ : PySem.W.findIn K (.ref C) f = some (some u)
  rel : RelV v u
  get : PySem.W.specialIn K u "__get__" = some none
  cp : PySem.W.copiedNames.contains f = false
/-- a method: a plain def of the class or of one above it -/
structure Meth (K : PySem.W.Frag) (C : Addr) (m : Str) (f : Addr) : Prop where
  at_ : PySem.W.findIn K (.ref C) m = some (some (.ref f))
  fn : PySem.W.isFn K (.ref f) = true
  kp : PySem.W.keepIn K (.ref f) = true

section
variable {X : Cx} {pins : List (Addr × Obj)} {σ : St} {H : Hp} {s : Shared} {a C dx : Addr} {fs : List (Str × V)} {f : Str} {v : V} {A : Around} {E : Value → Shared → Prop}

end

/-! ### readings and rules -/
/-- e.f, an attribute of the instance -/
def tFld (K : PySem.W.Frag) (ta : TE) (f : Str) : TE := fun σ H Q => ta σ H fun x H1 => ∃ a C dx fs v, x = .ref a ∧ H1 a = some (.ins C dx fs) ∧ Cls K C ∧ NoAttr K C f ∧ fs.lookup f = some v ∧ Q v H1
/-- e.f, a constant of the class -/
def tCon (K : PySem.W.Frag) (ta : TE) (f : Str) : TE := fun σ H Q => ta σ H fun x H1 => ∃ a C dx fs v u, x = .ref a ∧ H1 a = some (.ins C dx fs) ∧ Cls K C ∧ Con K C f v u ∧ fs.lookup f = none ∧ Q v H1
/-- e.f = value -/
def sFld (K : PySem.W.Frag) (ta tv : TE) (f : Str) : TS := fun D σ H => tv σ H fun y H1 => ta σ H1 fun x H2 => ∃ a C dx fs, x = .ref a ∧ H2 a = some (.ins C dx fs) ∧ Cls K C ∧ NoAttr K C f ∧ fs.length < 1000 ∧
  D.nx σ (upd H2 a (.ins C dx (putF f y fs)))
/-- an augmented operator on two values -/
def InOp (X : Cx) (op : Operator) (rd : V → V → Hp → VK → Prop) : Prop :=
  ∀ (pins : List (Addr × Obj)) (s : Shared) (σ : St) (H : Hp) (x y : V) (u v : Value) (Q : VK), Inv X pins σ H s → RelV x u → RelV y v → rd x y H Q → wpAny (model X.prog X.w) X.A (inplaceOp op u v) (EP X pins σ Q) X.xe s
/-- e.f op= value -/
def sFldAug (K : PySem.W.Frag) (ta tv : TE) (rd : V → V → Hp → VK → Prop) (f : Str) : TS := fun D σ H => ta σ H fun x H1 => ∃ a C dx fs v, x = .ref a ∧ H1 a = some (.ins C dx fs) ∧ Cls K C ∧ NoAttr K C f ∧ fs.lookup f = some v ∧
  tv σ H1 fun y H2 => rd v y H2 fun z H3 => ∃ dx' fs', H3 a = some (.ins C dx' fs') ∧ fs'.length < 1000 ∧ D.nx σ (upd H3 a (.ins C dx' (putF f z fs')))

section
variable {X : Cx} {o e value : Expr} {f : Str} {pos pos' tpos : Pos} {ta tv : TE}
def rAdd : V → V → Hp → VK → Prop := fun x y H Q => ∃ i j, x = .int i ∧ y = .int j ∧ Q (.int (i + j)) H
def rSub : V → V → Hp → VK → Prop := fun x y H Q => ∃ i j, x = .int i ∧ y = .int j ∧ Q (.int (i - j)) H
end

/-! ### isinstance -/
section
variable {X : Cx} {pins : List (Addr × Obj)} {σ : St} {H : Hp} {s : Shared} {A : Around} {E : Value → Shared → Prop} {Q : Value → Shared → Prop} {c : Value} {b : Bool}
/-- the type of a value, as the fragment's deciders take it; for an instance its class -/
inductive TyOf (K : PySem.W.Frag) (H : Hp) : V → Value → Prop where
  | non : TyOf K H .non (.type "NoneType")
  | bl (x : Bool) : TyOf K H (.bl x) (.type "bool")
  | int (i : Int) : TyOf K H (.int i) (.type "int")
  | str (x : Str) : TyOf K H (.str x) (.type "str")
  | flt (x : UInt64) : TyOf K H (.flt x) (.type "float")
  | lst {a : Addr} {xs : List V} (e : H a = some (.lst xs)) : TyOf K H (.ref a) (.type "list")
  | frz {a : Addr} {o : Obj} {xs : List V} (e : H a = some (.frz o (.lst xs))) : TyOf K H (.ref a) (.type "list")
  | tup {a : Addr} {xs : List V} (e : H a = some (.tup xs)) : TyOf K H (.ref a) (.type "tuple")
  | dK {a : Addr} {kvs : List (Key × V)} (e : H a = some (.dK kvs)) : TyOf K H (.ref a) (.type "dict")
  | dT {a : Addr} {kvs : List (List Key × V)} (e : H a = some (.dT kvs)) : TyOf K H (.ref a) (.type "dict")
  | ins {a C dx : Addr} {fs : List (Str × V)} (e : H a = some (.ins C dx fs)) (cl : Cls K C) (ha : PySem.W.findIn K (.ref C) "__class__" = some (some (.builtin "object.__class__")))
      (hn : PySem.W.specialIn K (.builtin "object.__class__") "__get__" = some (some (.builtin "getset_descriptor.__get__"))) (htk : PySem.W.takesIn K (.builtin "object.__class__") = some true)
      (hm : PySem.W.mroIn K C (.type "object") = some true) : TyOf K H (.ref a) (.ref C)
end
end L2

namespace L2
open PySem PySem.Spec PyProof.Rows

/-! ### room -/
structure Room (k : Nat) (A : Around) : Prop where
  hd : A.handled = none
  dp : A.depth + 3 * k + 5 < recursionLimit
  un : A.units + 16 * k + 200 < cLine
theorem Room.mono {j k : Nat} {A : Around} (r : Room k A) (h : j ≤ k) : Room j A := ⟨r.hd, by have := r.dp; omega, by have := r.un; omega⟩
theorem Room.deeper {k : Nat} {A : Around} (r : Room (k + 1) A) (env : Env) : Room k (A.deeper env) :=
  ⟨r.hd, by have := r.dp; show A.depth + 1 + 3 * k + 5 < _; omega, by have := r.un; show A.units + 3 + 16 * k + 200 < _; omega⟩
theorem Room.depth {k : Nat} {A : Around} (r : Room k A) : A.depth < recursionLimit := by have := r.dp; omega
/-! ### argument lists and displays -/
def tNil : TA := fun _ H Q => Q [] H
def tCons (ta : TE) (tr : TA) : TA := fun σ H Q => ta σ H fun x H1 => tr σ H1 fun xs H2 => Q (x :: xs) H2
section
variable {X : Cx} {e : Expr} {es : List Expr} {te : TE} {t : TA} {pos : Pos}
theorem pa_nil : PA X [] tNil := fun _ _ _ _ H Q I h => Calls.spliced_nil ⟨[], H, I, .nil, h⟩
theorem pa_cons (ha : PE X e te) (hr : PA X es t) (hs : starEach (e :: es) X.env = (false, eval e X.env) :: starEach es X.env := by rfl) : PA X (e :: es) (tCons te t) := by
  intro pos pins s σ H Q I h
  rw [hs]
  show wpAny _ _ (spliced ((false, eval e X.env) :: backTo pos (starEach es X.env))) _ _ s
  refine Calls.spliced_cons (thn (ha pins s σ H _ I h) fun u s1 ⟨x, H1, I1, r1, q1⟩ => ?_)
  exact thn (hr pos pins s1 σ H1 _ I1 q1) fun us s2 ⟨xs, H2, I2, r2, q2⟩ => ⟨x :: xs, H2, I2, .cons r1 r2, q2⟩

/-- a tuple, a list of written items -/
def tTup (t : TA) : TE := fun σ H Q => t σ H fun xs H1 => xs.length ≤ sizeLine ∧ ∀ p, H1 p = none → Q (.ref p) (upd H1 p (.tup xs))
def tLst (t : TA) : TE := fun σ H Q => t σ H fun xs H1 => xs.length ≤ sizeLine ∧ ∀ p, H1 p = none → Q (.ref p) (upd H1 p (.lst xs))
theorem pe_lst (h : PA X es t) : PE X (.List es pos) (tLst t) := by
  intro pins s σ H Q I hq
  refine wpAny_List_spliced (thn (h pos pins s σ H _ I hq) fun us s1 ⟨xs, H1, I1, r, z, q⟩ => ⟨by rw [← r.length]; exact z, ?_⟩)
  have hf : H1 s1.heap.objs.size = none := I1.hok.fresh (Nat.le_refl _)
  refine ⟨.ref s1.heap.objs.size, upd H1 s1.heap.objs.size (.lst xs), I1.laid (t' := s1.toks) (fun b u e => Heap.get?_push_of_some _ e) (Nat.le_refl _) ?_, rfl, q _ hf⟩
  exact ⟨z, us, 0, r, Heap.get?_push_size _ rfl⟩
end

/-! ### what a def promises -/
/-- a def's promise: the bound arguments in the parameters' order, the heap, the wanted end, the wanted exception -/
abbrev Sp := List V → Hp → VK → XK → Prop
/-- how an exception lies behind a call (file 08 gives it): the callers' frames, abstract heap and state ahead of the call, the wish, the exception, the state -/
abbrev CXT := List Env → Hp → Shared → XK → Value → Shared → Prop

/-- the state at a call -/
structure Env0 (P : Program) (w : World) (K : PySem.W.Frag) (mg : Str → Option Value) (base : Heap) (A : Around) (outer : List Env) (s : Shared) (H : Hp) : Prop where
  frames : A.frames = some outer
  mod : Mod K mg base
  bs : ∀ b o, base.get? b = some o → s.heap.get? b = some o ∧ H b = none
  bsz : base.objs.size ≤ s.heap.objs.size
  funs : s.heap.FunFrames base outer
  frf : ∀ b ∈ frs outer, H b = none
  hok : HOk P w H s.heap
  bare : AllBare s.gens
/-- a call's end -/
def CE (outer : List Env) (P : Program) (w : World) (H : Hp) (s : Shared) (Q : VK) (u : Value) (s' : Shared) : Prop :=
  ∃ v H', s'.os = s.os ∧ AllBare s'.gens ∧ Un (frs outer) [] H H' s.heap s'.heap ∧ HOk P w H' s'.heap ∧ RelV v u ∧ Q v H'
def CR (CX : CXT) (outer : List Env) (P : Program) (w : World) (H : Hp) (s : Shared) (Q : VK) (E : XK) (r : Result) (s' : Shared) : Prop :=
  match r with
  | .ok (.ret u) => CE outer P w H s Q u s'
  | .ok _ => False
  | .error e => CX outer H s E e s'
structure FnOk (P : Program) (w : World) (K : PySem.W.Frag) (mg : Str → Option Value) (base : Heap) (CX : CXT) (k : Nat) (f : Addr) (fd : FuncData) (ps : List Str) (sp : Sp) : Prop where
  len : ∀ vs H Q E, sp vs H Q E → vs.length = ps.length
  run : ∀ (A : Around) (outer : List Env) (s : Shared) (H : Hp) (args : Args) (us : List Value) (vs : List V) (Q : VK) (E : XK), Room k A → Env0 P w K mg base A outer s H → BindsTo s fd args (ps.zip us) → Vals vs us → sp vs H Q E →
    codeAny (model P w) A (.call (.ref f) args) (CR CX outer P w H s Q E) s
section
variable {X : Cx} {pins : List (Addr × Obj)} {σ : St} {H : Hp} {s s' : Shared}
/-- from a body: what a callee wants -/
theorem Inv.env0 (I : Inv X pins σ H s) : Env0 X.prog X.w X.K X.mg X.base X.A X.stack s H :=
  ⟨I.ok.frames, I.ok.mod, I.bs, Nat.le_trans I.ok.bsz I.sz, I.stack, I.stkFree, I.hok, I.bare⟩
/-- behind a call -/
theorem Inv.after {Q : VK} {u : Value} (I : Inv X pins σ H s) (h : CE X.stack X.prog X.w H s Q u s') : EP X pins σ Q u s' := by
  obtain ⟨v, H', os, bare, un, hok, r, q⟩ := h
  obtain ⟨hh, g, d, t, os'⟩ := s'
  obtain rfl : os' = s.os := os
  exact ⟨v, H', I.call (h' := hh) (g' := g) (d' := d) (t' := t) (ch := []) un hok bare (fun b z => absurd z (by simp)), r, q⟩
end

/-! ### calls -/
/-- f(..): the written arguments, then the defaults dvs; E: what is wanted of an exception -/
def tCall (sp : Sp) (dvs : List V) (E : XK) (t : TA) : TE := fun σ H Q => t σ H fun vs H1 => sp (vs ++ dvs) H1 Q E
/-- o.m(..) of an instance of the class at C -/
def tMeth (C : Addr) (m : Str) (sp : Sp) (dvs : List V) (E : XK) (ta : TE) (t : TA) : TE := fun σ H Q => ta σ H fun x H1 => ∃ a dx fs, x = .ref a ∧ H1 a = some (.ins C dx fs) ∧ fs.lookup m = none ∧
  t σ H1 fun vs H2 => sp (x :: (vs ++ dvs)) H2 Q E
/-- C(..): a new instance and its dict, then __init__ -/
def tMake (C : Addr) (sp : Sp) (dvs : List V) (E : XK) (t : TA) : TE := fun σ H Q => t σ H fun vs H1 => ∀ x dx, H1 x = none → H1 dx = none → dx ≠ x →
  sp (.ref x :: (vs ++ dvs)) (upd (upd H1 dx (.own x)) x (.ins C dx [])) (fun v H2 => v = .non ∧ Q (.ref x) H2) E

/-- how the parameters are bound: us the positional arguments, kw the keywords' values by name, ds the defaults that fill up -/
def Binds (K : PySem.W.Frag) (fd : FuncData) (ps : List Str) (ds : List Value) : Prop :=
  ∀ (s : Shared) (us : List Value), K.In s.heap → (us ++ ds).length = ps.length → BindsTo s fd ⟨us, []⟩ (ps.zip (us ++ ds))
/-- every parameter is given -/
theorem Binds.all {K : PySem.W.Frag} {fd : FuncData} {ps : List Str} (h : ∀ us : List Value, us.length = ps.length → bindArgs fd ⟨us, []⟩ = pure (ps.zip us)) : Binds K fd ps [] := fun s us _ hl => by
  rw [List.append_nil] at hl ⊢
  exact .of_eq (h us hl)

/-- an exception of a callee reaches what this body wants of exceptions -/
def Passes (CX : CXT) (X : Cx) (E : XK) : Prop := ∀ (pins : List (Addr × Obj)) (σ : St) (H : Hp) (s : Shared) (e : Value) (s' : Shared), Inv X pins σ H s → CX X.stack H s E e s' → X.xe e s'

section
variable {X : Cx} {CX : CXT} {k : Nat} {f C : Addr} {fd : FuncData} {ps : List Str} {sp : Sp} {dvs : List V} {ds : List Value} {E : XK} {x m : Str} {p pos apos : Pos} {e o : Expr} {es : List Expr} {ta : TE} {t : TA}

/-- the callee runs -/
theorem run_fn {pins : List (Addr × Obj)} {σ : St} {H : Hp} {s : Shared} {Q : VK} {us : List Value} {vs : List V} (F : FnOk X.prog X.w X.K X.mg X.base CX k f fd ps sp) (hr : Room k X.A) (hb : Binds X.K fd ps ds) (hd : Vals dvs ds) (hx : Passes CX X E)
    (I : Inv X pins σ H s) (r : Vals vs us) (h : sp (vs ++ dvs) H Q E) : wpAny (model X.prog X.w) X.A (call (.ref f) us) (EP X pins σ Q) X.xe s := by
  have r2 : Vals (vs ++ dvs) (us ++ ds) := r.append hd
  have hl : (us ++ ds).length = ps.length := by rw [← r2.length]; exact F.len _ _ _ _ h
  refine wpAny_call (codeAny_mono (F.run X.A X.stack s H ⟨us, []⟩ (us ++ ds) (vs ++ dvs) Q E hr I.env0 (hb s us I.kIn hl) r2 h) fun r s' hq => ?_)
  cases r with
  | error e => exact hx pins σ H s e s' I hq
  | ok fl =>
    cases fl with
    | ret u => exact I.after hq
    | next => exact False.elim hq
    | brk => exact False.elim hq
    | cont => exact False.elim hq

theorem pe_call (F : FnOk X.prog X.w X.K X.mg X.base CX k f fd ps sp) (hr : Room k X.A) (hg : Gl X x) (hm : X.mg x = some (.ref f)) (hk : PySem.W.keepIn X.K (.ref f) = true) (hb : Binds X.K fd ps ds) (hd : Vals dvs ds) (hx : Passes CX X E)
    (ha : PA X (e :: es) t) (hdb : (x == ("__debug__" : Str)) = false := by decide) (he : starEach (e :: es) X.env = (false, eval e X.env) :: starEach es X.env := by rfl) (hpl : (backTo pos (starEach es X.env)).any (·.1) = false := by rfl) :
    PE X (.Call (.Name x p) (e :: es) [] pos) (tCall sp dvs E t) := by
  intro pins s σ H Q I h
  refine wpAny_Call_Name_kw (ld_glob I hg hm ?_ hdb)
  refine PySem.W.callWith_K (h₀ := X.base) I.ok.mod.kin hk (thn (ha pos pins s σ H _ I h) fun us s1 ⟨vs, H1, I1, r, q⟩ => ⟨I1.kIn, ?_⟩) he hpl
  exact run_fn F hr hb hd hx I1 r q
/-- what a class must have to be made -/
structure Mk (K : PySem.W.Frag) (C f : Addr) : Prop where
  makes : PySem.W.makesIn K C = true
  init : PySem.W.findIn K (.ref C) "__init__" = some (some (.ref f))
  fn : PySem.W.isFn K (.ref f) = true
  kp : PySem.W.keepIn K (.ref C) = true

end

/-! ### keywords -/
/-- the values of the keywords, from the left -/
def PK (X : Cx) (kws : List Keyword) (t : TA) : Prop :=
  ∀ (pos : Pos) (pins : List (Addr × Obj)) (s : Shared) (σ : St) (H : Hp) (Q : List V → Hp → Prop), Inv X pins σ H s → t σ H Q → wpAny (model X.prog X.w) X.A (evalAll ((backToKw pos (keywordEach kws X.env)).map (·.2))) (AP X pins σ Q) X.xe s
section
variable {X : Cx} {CX : CXT} {k : Nat} {f C : Addr} {fd : FuncData} {ps ks : List Str} {sp : Sp} {E : XK} {x m : Str} {p pos apos kpos : Pos} {e o : Expr} {es : List Expr} {kws : List Keyword} {te ta : TE} {t tk : TA} {nm : Option Str}
/-- how a call with keywords binds: g puts the positional values us and the keywords' values ws (names ks) in the parameters' order, defaults among them -/
structure KBinds (K : PySem.W.Frag) (fd : FuncData) (ps ks : List Str) (g : List Value → List Value → List Value) (gV : List V → List V → List V) : Prop where
  to : ∀ (s : Shared) (us ws : List Value), K.In s.heap → (g us ws).length = ps.length → BindsTo s fd ⟨us, ks.zip ws⟩ (ps.zip (g us ws))
  rel : ∀ {vs : List V} {us : List Value} {zs : List V} {ws : List Value}, Vals vs us → Vals zs ws → Vals (gV vs zs) (g us ws)
def tCallK (sp : Sp) (gV : List V → List V → List V) (E : XK) (t tk : TA) : TE := fun σ H Q => t σ H fun vs H1 => tk σ H1 fun zs H2 => sp (gV vs zs) H2 Q E
variable {g : List Value → List Value → List Value} {gV : List V → List V → List V}
end

/-! ### a def's body keeps its promise -/
/-- names: the parameters first -/
structure FnScope (N P : List Str) (sc : Scope) : Prop where
  kind : sc.kind = .function
  co : sc.isCoroutine = false
  gen : sc.isGenerator = false
  nd : N.Nodup
  pre : N.take P.length = P
  par : ∀ x ∈ P, sc.names.lookup x = some .local ∨ sc.names.lookup x = some .cell
  nofree : ∀ y ∈ sc.names, y.2 ≠ .free

theorem bindL_out {kindOf : Str → Option NameKind} {x : Str} : ∀ {binds : List (Str × Value)} {m : Str → Option Value}, (∀ v, (x, v) ∉ binds) → bindL kindOf binds m x = m x
  | [], _, _ => rfl
  | (n, v) :: r, m, h => by
    unfold bindL
    rw [bindL_out fun w hw => h w (List.mem_cons_of_mem _ hw)]
    split
    · have : x ≠ n := by rintro rfl; exact h v List.mem_cons_self
      simp [this]
    · rfl
theorem bindC_out {kindOf : Str → Option NameKind} {x : Str} : ∀ {binds : List (Str × Value)} {m : Str → Option Value}, (∀ v, (x, v) ∉ binds) → bindC kindOf binds m x = m x
  | [], _, _ => rfl
  | (n, v) :: r, m, h => by
    unfold bindC
    rw [bindC_out fun w hw => h w (List.mem_cons_of_mem _ hw)]
    split
    · rfl
    · have : x ≠ n := by rintro rfl; exact h v List.mem_cons_self
      simp [this]
theorem bindL_get {kindOf : Str → Option NameKind} {x : Str} {v : Value} : ∀ {P : List Str} {vs : List Value} {i : Nat} {m : Str → Option Value}, P.Nodup → P[i]? = some x → vs[i]? = some v → kindOf x = some .local →
    bindL kindOf (P.zip vs) m x = some v
  | [], _, _, _, _, h, _, _ => by simp at h
  | _ :: _, [], _, _, _, _, h, _ => by simp at h
  | p :: P, w :: vs, 0, m, nd, h1, h2, hk => by
    simp at h1 h2; subst h1; subst h2
    show bindL kindOf ((p, w) :: P.zip vs) m p = _
    unfold bindL
    rw [bindL_out fun v hv => (List.nodup_cons.mp nd).1 (List.of_mem_zip hv).1, if_pos hk]
    simp
  | p :: P, w :: vs, i + 1, m, nd, h1, h2, hk => by
    show bindL kindOf ((p, w) :: P.zip vs) m x = _
    unfold bindL
    exact bindL_get (i := i) (List.nodup_cons.mp nd).2 (by simpa using h1) (by simpa using h2) hk
theorem bindC_get {kindOf : Str → Option NameKind} {x : Str} {v : Value} : ∀ {P : List Str} {vs : List Value} {i : Nat} {m : Str → Option Value}, P.Nodup → P[i]? = some x → vs[i]? = some v → kindOf x ≠ some .local →
    bindC kindOf (P.zip vs) m x = some v
  | [], _, _, _, _, h, _, _ => by simp at h
  | _ :: _, [], _, _, _, _, h, _ => by simp at h
  | p :: P, w :: vs, 0, m, nd, h1, h2, hk => by
    simp at h1 h2; subst h1; subst h2
    show bindC kindOf ((p, w) :: P.zip vs) m p = _
    unfold bindC
    rw [bindC_out fun v hv => (List.nodup_cons.mp nd).1 (List.of_mem_zip hv).1, if_neg hk]
    simp
  | p :: P, w :: vs, i + 1, m, nd, h1, h2, hk => by
    show bindC kindOf ((p, w) :: P.zip vs) m x = _
    unfold bindC
    exact bindC_get (i := i) (List.nodup_cons.mp nd).2 (by simpa using h1) (by simpa using h2) hk

/-- the names' values at the entry -/
def start (N : List Str) (vs : List V) : St := vs.map some ++ List.replicate (N.length - vs.length) none

/-- the context of a def's body, at its entry; an exception leaves the frame, then lies as CX says -/
def cxOf (CX : CXT) (P : Program) (w : World) (K : PySem.W.Frag) (mg : Str → Option Value) (base : Heap) (N : List Str) (qual : Str) (scope : Scope) (f : Addr) (cd : Value) (A : Around) (outer : List Env) (s : Shared) (H : Hp) (E : XK) : Cx where
  prog := P
  w := w
  K := K
  mg := mg
  base := base
  A := A.deeper (envOfC qual scope s.heap.objs.size f cd)
  N := N
  s_0 := s
  H_0 := H
  env := envOfC qual scope s.heap.objs.size f cd
  outer := outer
  stack := envOfC qual scope s.heap.objs.size f cd :: outer
  ex := []
  calm := true
  fn := fun _ => true
  pn := []
  xe := fun e s' => wpAny (model P w) (A.deeper (envOfC qual scope s.heap.objs.size f cd)) (leaving (envOfC qual scope s.heap.objs.size f cd) e) (fun _ s'' => CX outer H s E e s'') (fun e' s'' => CX outer H s E e' s'') s'

theorem cell_has {sc : Scope} {n : Nat} {x : Str} (h : sc.names.lookup x = some .cell) : ∃ c, (cellsFrom n sc.names []).lookup x = some c := by
  have q := PySem.W.cellsFrom_some sc.names n [] (.inl h)
  exact Option.isSome_iff_exists.mp q

theorem inv_start {CX : CXT} {P : Program} {w : World} {K : PySem.W.Frag} {mg : Str → Option Value} {base : Heap} {N ps : List Str} {qual : Str} {scope : Scope} {f : Addr} {cd : Value} {A : Around} {outer : List Env} {s s1 : Shared} {H : Hp} {E : XK} {us : List Value} {vs : List V}
    (S : FnScope N ps scope) (hd : A.handled = none) (e0 : Env0 P w K mg base A outer s H) (hl : vs.length = ps.length) (r : Vals vs us)
    (x : InCallC s s.heap.objs.size (bindL (envOfC qual scope s.heap.objs.size f cd).kindOf (ps.zip us) fun _ => none) (cellsFrom (s.heap.objs.size + 1) scope.names []) (bindC (envOfC qual scope s.heap.objs.size f cd).kindOf (ps.zip us) fun _ => none) s1) :
    Inv (cxOf CX P w K mg base N qual scope f cd A outer s H E) [] (start N vs) H s1 := by
  have hpl : ps.length ≤ N.length := by have := congrArg List.length S.pre; rw [List.length_take] at this; omega
  obtain ⟨h1, tk, rfl, hk⟩ := x.done
  have noA : ∀ b : Addr, b ∉ (cxOf CX P w K mg base N qual scope f cd A outer s H E).ex := fun b z => absurd (show b ∈ ([] : List Addr) from z) (by simp)
  refine ⟨⟨e0.mod, S.kind, rfl, rfl, Nat.le_refl _, fun y z c h1 h2 => ?_, fun y hy => ?_, fun y c _ h => ?_, fun _ => hd, Around.frames_deeper e0.frames, .inr ⟨rfl, rfl⟩, fun b z => absurd z (noA b), e0.bs, e0.bsz, fun b _ _ => noA b, fun b z => absurd z (noA b), e0.funs, e0.frf⟩,
    rfl, e0.bare, Un.kept hk, ⟨_, x.toInCall.ns, fun i y v h1 h2 h3 => ?_⟩, fun y c h => ⟨_, x.cell y c h⟩, e0.hok.fresh (Nat.le_refl _), fun y c h => ?_, fun p hp => absurd (show p ∈ ([] : List (Addr × Obj)) from hp) (by simp), e0.hok.kept hk, ?_⟩
  · exact name_of_addr x.apart (PySem.mem_of_lookup h1) (PySem.mem_of_lookup h2)
  · have hy : scope.names.lookup y = some .cell ∨ scope.names.lookup y = some .free := hy
    rcases hy with hy | hy
    · exact cell_has hy
    · exact absurd rfl (S.nofree _ (PySem.mem_of_lookup hy))
  · exact Nat.le_of_lt (x.above y c (PySem.mem_of_lookup h))
  · have hi : i < vs.length := by
      unfold start at h2
      by_cases hi : i < vs.length
      · exact hi
      · rw [List.getElem?_append_right (by simpa using hi)] at h2
        rw [List.getElem?_replicate] at h2
        split at h2 <;> cases h2
    have ha : vs[i]? = some v := by
      unfold start at h2
      rw [List.getElem?_append_left (by simpa using hi), List.getElem?_map] at h2
      cases e : vs[i]? with
      | none => rw [e] at h2; cases h2
      | some a => rw [e] at h2; cases h2; rfl
    obtain ⟨u, hu, rv⟩ := r.get ha
    have hp : ps[i]? = some y := by
      rw [← S.pre, List.getElem?_take_of_lt (by omega)]; exact h1
    have ndP : ps.Nodup := by rw [← S.pre]; exact S.nd.sublist (List.take_sublist _ _)
    refine ⟨u, rv, ?_⟩
    rcases S.par y (List.mem_of_getElem? hp) with k | k
    · exact .inl ⟨k, bindL_get ndP hp hu k⟩
    · obtain ⟨c, e⟩ := cell_has (n := s.heap.objs.size + 1) k
      refine .inr ⟨.inl k, c, e, ?_⟩
      have q := x.cell y c e
      rw [bindC_get ndP hp hu (by show scope.names.lookup y ≠ _; rw [k]; decide)] at q
      exact q
  · exact e0.hok.fresh (Nat.le_of_lt (x.above y c (PySem.mem_of_lookup h)))
  · unfold start
    show _ = N.length
    rw [List.length_append, List.length_map, List.length_replicate]
    omega

/-- THE RULE: a def (or a method) of the text, by its body. The body's reading t is chosen for each entry; it is run at the parameters' values -/
theorem fn_of {CX : CXT} {P : Program} {w : World} {K : PySem.W.Frag} {mg : Str → Option Value} {base : Heap} {k : Nat} {f : Addr} {name qual : Str} {params : Arguments} {body : List Stmt} {scope : Scope} {dV kV doc pm cdv ct oc : Value} {an od : Option Addr}
    {osl : Array (Option Value)} {N ps : List Str} {sp : Sp} (lk : K.lookup f = some ⟨oc, od, .func (PySem.W.fnOf name qual params body scope dV kV doc pm an cdv ct), osl⟩) (hcd : PySem.W.codeIn K cdv qual = true) (S : FnScope N ps scope)
    (len : ∀ vs H Q E, sp vs H Q E → vs.length = ps.length)
    (hbody : ∀ (A : Around) (outer : List Env) (s : Shared) (H : Hp) (vs : List V) (Q : VK) (E : XK), Room k (A.deeper (envOfC qual scope s.heap.objs.size f cdv)) → sp vs H Q E →
      ∃ t, PSs (cxOf CX P w K mg base N qual scope f cdv A outer s H E) body t ∧ t { nx := fun _ H' => Q .non H', rt := Q } (start N vs) H) :
    FnOk P w K mg base CX (k + 1) f (PySem.W.fnOf name qual params body scope dV kV doc pm an cdv ct) ps sp := by
  refine ⟨len, fun A outer s H args us vs Q E hr e0 hb r hsp => ?_⟩
  have hl := len _ _ _ _ hsp
  have KX : K.In s.heap := e0.mod.kin.keeps fun b o e => (e0.bs b o e).1
  have lim : s.heap.NoLimit := e0.mod.nolimit.keeps fun b o e => (e0.bs b o e).1
  have hkind : ∀ y ∈ ps.zip us, scope.names.lookup y.1 = some .local ∨ (scope.names.lookup y.1 = some .cell ∧ ((cellsFrom (s.heap.objs.size + 1) scope.names []).lookup y.1).isSome = true) := fun ⟨n, v⟩ hy => by
    rcases S.par n (List.of_mem_zip hy).1 with q | q
    · exact .inl q
    · exact .inr ⟨q, PySem.W.cellsFrom_some _ _ _ (.inl q)⟩
  refine codeAny_call_function hr.depth (KX _ _ lk) rfl S.co S.gen rfl (PySem.W.codeRec_of KX hcd) (hb _ _ _ _ ?_)
  refine wpAny_newFunctionEnv_cells S.kind hkind fun env he s1 x => ?_
  subst he
  refine ⟨lim.keeps x.toInCall.keep, codeAny_func ?_⟩
  obtain ⟨t, ht, hq⟩ := hbody A outer s H vs Q E (hr.deeper _) hsp
  have I : Inv (cxOf CX P w K mg base N qual scope f cdv A outer s H E) [] (start N vs) H s1 := inv_start S hr.hd e0 hl r x
  refine wpAny_mono (ht [] s1 (start N vs) H _ I hq) (fun fl s' hs => ?_) fun e s' hs => hs
  have fin : ∀ {σ' : St} {H' : Hp} {v : V} {u : Value}, Inv (cxOf CX P w K mg base N qual scope f cdv A outer s H E) [] σ' H' s' → RelV v u → Q v H' → CE outer P w H s Q u s' :=
    fun {σ' H' v u} J rv q => ⟨v, H', J.os, J.bare, J.base, J.hok, rv, q⟩
  cases fl with
  | ret u =>
    obtain ⟨v, σ', H', J, rv, q⟩ := hs
    exact fin J rv q
  | next =>
    obtain ⟨σ', H', J, q⟩ := hs
    exact fin (v := V.non) (u := Value.none) J rfl q
  | brk =>
    obtain ⟨_, _, _, q⟩ := hs
    exact False.elim q
  | cont =>
    obtain ⟨_, _, _, q⟩ := hs
    exact False.elim q
end L2

namespace L2
open PySem PySem.Spec PyProof.Rows
section
variable {X : Cx} {x : Str} {p pos : Pos} {e : Expr} {es : List Expr} {t : TA} {id T : String} {r : List V → Hp → VK → Prop}

def tCB (r : List V → Hp → VK → Prop) (t : TA) : TE := fun σ H Q => t σ H fun vs H1 => r vs H1 Q
/-- f(e, ..), f a built-in function -/
theorem pe_callB (hc : CallR X (.builtin id) r) (hg : Gl X x) (hm : X.mg x = none) (hv : bootBuiltins x = some (.builtin id)) (ha : PA X (e :: es) t) (hn : x ≠ "__name__" := by decide) (hdb : (x == ("__debug__" : Str)) = false := by decide)
    (he : starEach (e :: es) X.env = (false, eval e X.env) :: starEach es X.env := by rfl) (hpl : (backTo pos (starEach es X.env)).any (·.1) = false := by rfl) : PE X (.Call (.Name x p) (e :: es) [] pos) (tCB r t) := by
  intro pins s σ H Q I h
  refine wpAny_Call_Name_kw (ld_blt I hg hm hv ?_ hn hdb)
  exact PyProof.Rows.callWith_builtin1 (thn (ha pos pins s σ H _ I h) fun us s1 ⟨vs, H1, I1, r1, q1⟩ => hc pins s1 σ H1 vs us Q I1 r1 q1) he hpl
end
end L2

namespace HT
open PySem PyProof.Rows

/-- t < u of tuples of ints -/
def lexLt : List Int → List Int → Bool
  | [], [] => false
  | [], _ :: _ => true
  | _ :: _, [] => false
  | x :: xs, y :: ys => if x = y then lexLt xs ys else decide (x < y)
section
open PySem.SeqAt
open PySem.AutoSeq1 (wpAny_loadPart')
open PySem.MeetsSeq PySem.MeetsSeq2 PySem.MeetsSeq3

end

section
variable {prog : Program} {w : World} {A : Around} {E : Value → Shared → Prop} {s : Shared}

/-! ### t[a:b], not the whole -/
/-- a slice's bound as a place among n (d where it is left out) -/
def sIx (n d : Nat) : Option Int → Nat
  | none => d
  | some v => if v < 0 then (v + (n : Int)).toNat else min v.toNat n
theorem sIx_none (n d : Nat) : sIx n d none = d := rfl
theorem sIx_nat (n d k : Nat) : sIx n d (some (k : Int)) = min k n := by
  show (if (k : Int) < 0 then ((k : Int) + (n : Int)).toNat else min (k : Int).toNat n) = min k n
  rw [if_neg (by omega), Int.toNat_natCast]
end
end HT

namespace L2
open PySem PySem.Spec PyProof.Rows

/-! ### the parts of a slice -/
abbrev TO := St → Hp → (Option Int → Hp → Prop) → Prop
/-- a slice's part (left out, or an int) -/
def PO (X : Cx) (e : Option Expr) (t : TO) : Prop :=
  ∀ (pins : List (Addr × Obj)) (s : Shared) (σ : St) (H : Hp) (Q : Option Int → Hp → Prop), Inv X pins σ H s → t σ H Q →
    wpAny (model X.prog X.w) X.A (evalPart e X.env) (fun u s' => ∃ o H', Inv X pins σ H' s' ∧ IsPart u o ∧ Q o H') X.xe s
def tNoPart : TO := fun _ H Q => Q none H
def tPart (t : TE) : TO := fun σ H Q => t σ H fun x H1 => ∃ i, x = .int i ∧ Q (some i) H1

section
variable {X : Cx} {e : Expr} {te : TE} {lo hi : Option Expr} {tl th : TO} {pos p2 : Pos}

theorem po_none : PO X none tNoPart := by
  intro pins s σ H Q I h
  rw [evalPart_none]
  exact wpAny_pure ⟨none, H, I, .none, h⟩
theorem po_some (h : PE X e te) : PO X (some e) (tPart te) := by
  intro pins s σ H Q I hw
  rw [evalPart_some]
  refine thn (h pins s σ H _ I hw) fun u s1 ⟨x, H1, I1, r1, q1⟩ => ?_
  obtain ⟨i, rfl, q⟩ := q1
  obtain ⟨t, rfl⟩ := r1
  exact ⟨some i, H1, I1, .int i t, q⟩

/-- what a slice of a value is, by values: the slice object stands at sl -/
def SlR (X : Cx) (r : V → Option Int → Option Int → Hp → VK → Prop) : Prop :=
  ∀ (pins : List (Addr × Obj)) (s : Shared) (σ : St) (H : Hp) (x : V) (v vl vu : Value) (lo hi : Option Int) (sl : Addr) (Q : VK), Inv X pins σ H s → RelV x v → s.heap.IsSliceOf sl vl vu .none → IsPart vl lo → IsPart vu hi → r x lo hi H Q →
    ∃ T id, typeLookup (.type T) "__getitem__" = pure (some (.builtin id)) ∧ s.TypeIs v T ∧ wpAny (model X.prog X.w) X.A (getItem v (.ref sl)) (EP X pins σ Q) X.xe s
def tSl (r : V → Option Int → Option Int → Hp → VK → Prop) (te : TE) (tl th : TO) : TE := fun σ H Q => te σ H fun x H1 => tl σ H1 fun l H2 => th σ H2 fun u H3 => r x l u H3 Q
/-- a[lo:hi], any a -/
theorem pe_slice {r : V → Option Int → Option Int → Hp → VK → Prop} (hr : SlR X r) (he : PE X e te) (hl : PO X lo tl) (hu : PO X hi th) : PE X (.Subscript e (.Slice lo hi none p2) pos) (tSl r te tl th) := by
  intro pins s σ H Q I h
  refine Subscript_ (thn (he pins s σ H _ I h) fun v s1 ⟨x, H1, I1, r1, q1⟩ => ?_)
  refine wpAny_Slice (thn (hl pins s1 σ H1 _ I1 q1) fun vl s2 ⟨l, H2, I2, pl, q2⟩ => thn (hu pins s2 σ H2 _ I2 q2) fun vu s3 ⟨u, H3, I3, pu, q3⟩ => ?_)
  rw [evalPart_none]
  refine wpAny_pure ?_
  have I4 : Inv X pins σ H3 { s3 with heap := s3.heap.push { cls := .type "slice", data := .fields #[vl, vu, .none] } } := I3.kept (t' := s3.toks) fun b ob q => Heap.get?_push_of_some _ q
  obtain ⟨T, id, hT, ht, hg⟩ := hr pins { s3 with heap := s3.heap.push { cls := .type "slice", data := .fields #[vl, vu, .none] } } σ H3 x v vl vu l u s3.heap.objs.size Q I4 r1 (Heap.IsSliceOf.new ..) pl pu q3
  show wpAny (model X.prog X.w) X.A (subscriptTail e (.Slice lo hi none p2) v (.ref s3.heap.objs.size)) (EP X pins σ Q) X.xe { s3 with heap := s3.heap.push { cls := .type "slice", data := .fields #[vl, vu, .none] } }
  exact tail_any (ops := [.ref s3.heap.objs.size, v]) ht hT hg (by with_unfolding_all rfl)

/-- the items of xs[lo:hi] -/
def cutV (xs : List V) (lo hi : Option Int) : List V := (xs.drop (HT.sIx xs.length 0 lo)).take (HT.sIx xs.length xs.length hi - HT.sIx xs.length 0 lo)
theorem cutV_length (xs : List V) (lo hi : Option Int) : (cutV xs lo hi).length ≤ xs.length := by
  unfold cutV
  rw [List.length_take, List.length_drop]
  omega
/-- t[lo:hi], not the whole of it (the whole would be t itself) -/
def rSlT (K : PySem.W.Frag) : V → Option Int → Option Int → Hp → VK → Prop := fun x lo hi H Q => ∃ a xs, x = .ref a ∧ SqT K H a xs ∧
  ¬ (HT.sIx xs.length 0 lo = 0 ∧ HT.sIx xs.length xs.length hi = xs.length) ∧ ∀ p, H p = none → Q (.ref p) (upd H p (.tup (cutV xs lo hi)))
/-! ### t < u, t + u -/
def rLtT (K : PySem.W.Frag) : R2 := fun x y H Q => ∃ a b ns ms, x = .ref a ∧ y = .ref b ∧ SqT K H a (ns.map V.int) ∧ SqT K H b (ms.map V.int) ∧ Q (.bl (HT.lexLt ns ms)) H
/-- t + u, t not empty: u empty gives t itself -/
def rCatT (K : PySem.W.Frag) : R2 := fun x y H Q => ∃ a b xs ys, x = .ref a ∧ y = .ref b ∧ SqT K H a xs ∧ SqT K H b ys ∧ xs ≠ [] ∧ xs.length + ys.length ≤ sizeLine ∧
  (ys = [] → Q (.ref a) H) ∧ (ys ≠ [] → ∀ p, H p = none → Q (.ref p) (upd H p (.tup (xs ++ ys))))
end
end L2

namespace L2
open PySem PySem.Spec PyProof.Rows

/-! ### places -/
/-- the place that an index of any sign means -/
def ixN (n : Nat) (i : Int) : Option Nat := if 0 ≤ i then (if i < n then some i.toNat else none) else if -(n : Int) ≤ i then some (i + n).toNat else none
def atI {α : Type} (xs : List α) (i : Int) : Option α := (ixN xs.length i).bind fun j => xs[j]?
theorem ixN_seq {n : Nat} {i : Int} {j : Nat} (h : ixN n i = some j) : seqIndex? i n = some j ∧ j < n ∧ -(n : Int) ≤ i ∧ i < n := by
  unfold ixN at h
  by_cases h0 : 0 ≤ i
  · rw [if_pos h0] at h
    by_cases h1 : i < n
    · rw [if_pos h1] at h
      have e : i.toNat = j := Option.some.inj h
      exact ⟨by rw [seqIndex_of h0 h1, e], by omega, by omega, h1⟩
    · rw [if_neg h1] at h; cases h
  · rw [if_neg h0] at h
    by_cases h1 : -(n : Int) ≤ i
    · rw [if_pos h1] at h
      have e : (i + n).toNat = j := Option.some.inj h
      exact ⟨by rw [seqIndex_neg (by omega) h1, e], by omega, h1, by omega⟩
    · rw [if_neg h1] at h; cases h
theorem atI_get {α : Type} {xs : List α} {i : Int} {v : α} (h : atI xs i = some v) : ∃ j, seqIndex? i xs.length = some j ∧ xs[j]? = some v ∧ j < xs.length ∧ -(xs.length : Int) ≤ i ∧ i < xs.length := by
  unfold atI at h
  cases e : ixN xs.length i with
  | none => rw [e] at h; cases h
  | some j =>
    rw [e] at h
    obtain ⟨h1, h2, h3, h4⟩ := ixN_seq e
    exact ⟨j, h1, h, h2, h3, h4⟩
theorem atI_nat {α : Type} {xs : List α} {j : Nat} {v : α} (h : xs[j]? = some v) : atI xs (j : Int) = some v := by
  have hj : j < xs.length := (List.getElem?_eq_some_iff.mp h).1
  have e : ixN xs.length (j : Int) = some j := by
    unfold ixN
    rw [if_pos (by omega), if_pos (by omega)]; simp
  unfold atI; rw [e]; exact h
/-! ### what may be subscripted -/
/-- what stands as an index of a plain subscript -/
def PlainIx (b : Expr) : Prop := ∀ o i, subscripted b false o i = operate [o, i] (getItem o i)
/-- a subscript by values -/
def IxR (X : Cx) (r : R2) : Prop :=
  ∀ (value slice : Expr) (pins : List (Addr × Obj)) (s : Shared) (σ : St) (H : Hp) (x y : V) (v u : Value) (Q : VK), Inv X pins σ H s → RelV x v → RelV y u → r x y H Q →
    subscripted slice false v u = operate [v, u] (getItem v u) → wpAny (model X.prog X.w) X.A (subscriptTail value slice v u) (EP X pins σ Q) X.xe s
/-- a call of a builtin's method by values: the receiver, the arguments -/
def MtR (X : Cx) (id : String) (r : V → List V → Hp → VK → Prop) : Prop :=
  ∀ (pins : List (Addr × Obj)) (s : Shared) (σ : St) (H : Hp) (x : V) (xs : List V) (v : Value) (us : List Value) (Q : VK), Inv X pins σ H s → RelV x v → Vals xs us → r x xs H Q →
    wpAny (model X.prog X.w) X.A (call (.builtin id) (v :: us)) (EP X pins σ Q) X.xe s
section
variable {X : Cx} {a b : Expr} {ta tb : TE} {pos : Pos}
/-- a[b] -/
theorem pe_ix {r : R2} (hr : IxR X r) (ha : PE X a ta) (hb : PE X b tb) (hs : PlainIx b) : PE X (.Subscript a b pos) (tOp r ta tb) := by
  intro pins s σ H Q I h
  exact Subscript_ (binT ha hb I h fun v u s2 x y H2 I2 rx ry q => hr a b pins s2 σ H2 x y v u Q I2 rx ry q (hs _ _))

def rIxL (K : PySem.W.Frag) : R2 := fun x y H Q => ∃ p xs i v, x = .ref p ∧ y = .int i ∧ SqL K H p xs ∧ atI xs i = some v ∧ Q v H
def rIxT (K : PySem.W.Frag) : R2 := fun x y H Q => ∃ p xs i v, x = .ref p ∧ y = .int i ∧ SqT K H p xs ∧ atI xs i = some v ∧ Q v H
def rIxS : R2 := fun x y H Q => ∃ z i c, x = .str z ∧ y = .int i ∧ z.length ≤ sizeLine ∧ atI z.cps.toList i = some c ∧ Q (.str ⟨#[c]⟩) H
theorem ix_list : IxR X (rIxL X.K) := by
  intro value slice pins s σ H x y v u Q I rx ry h hs
  obtain ⟨p, xs, i, z, rfl, rfl, hq, he, q⟩ := h
  cases rx
  obtain ⟨t, rfl⟩ := ry
  obtain ⟨its, r, pl, hz⟩ := I.list hq
  obtain ⟨j, h1, h2, h3, h4, h5⟩ := atI_get he
  obtain ⟨w, ew, rw'⟩ := r.get h2
  have hl := r.length
  have hn := line63
  have fin : EP X pins σ Q w s := ⟨z, H, I, rw', q⟩
  by_cases h0 : 0 ≤ i
  · have hj : i.toNat = j := by
      rw [seqIndex_of h0 h5] at h1
      exact Option.some.inj h1
    exact item_listR pl.isList h0 (by omega) (by rw [hj]; simpa using ew) fin hs
  · have hj : (i + (its.toArray.size : Int)).toNat = j := by
      rw [seqIndex_neg (by omega) h4] at h1
      rw [List.size_toArray, ← hl]
      exact Option.some.inj h1
    exact subscriptTail_builtinR (x := w) pl.isList.typeIs slot_list_getitem.lookup
      (wpAny_getItem_list_neg (Q := fun r s' => r = w ∧ EP X pins σ Q r s') pl.isList (by omega) (by rw [List.size_toArray] <;> omega) (by omega) (by rw [hj]; simpa using ew) ⟨rfl, fin⟩) hs
/-- list, tuple or str -/
def rIx (K : PySem.W.Frag) : R2 := fun x y H Q => rIxL K x y H Q ∨ rIxT K x y H Q ∨ rIxS x y H Q
/-! ### xs[i] = v, any sign -/
def rSetL : V → V → V → Hp → (Hp → Prop) → Prop := fun o i v H Q => ∃ p xs k j, o = .ref p ∧ i = .int k ∧ H p = some (.lst xs) ∧ ixN xs.length k = some j ∧ Q (upd H p (.lst (xs.set j v)))
/-! ### slices -/
theorem slice_bounds (lo hi : Option Int) (n : Nat) : (sliceBounds lo hi none n).1 = ((HT.sIx n 0 lo : Nat) : Int) ∧ (sliceBounds lo hi none n).2.1 = ((HT.sIx n n hi : Nat) : Int) ∧ (sliceBounds lo hi none n).2.2 = 1 := by
  refine ⟨?_, ?_, rfl⟩
  · cases lo with
    | none => simp [sliceBounds, HT.sIx]
    | some i =>
      simp only [sliceBounds, HT.sIx, Option.getD_none, show (1 : Int) > 0 by decide, if_true]
      by_cases h : i < 0
      · simp only [h, if_true] <;> omega
      · simp only [h, if_false] <;> omega
  · cases hi with
    | none => simp [sliceBounds, HT.sIx]
    | some i =>
      simp only [sliceBounds, HT.sIx, Option.getD_none, show (1 : Int) > 0 by decide, if_true]
      by_cases h : i < 0
      · simp only [h, if_true] <;> omega
      · simp only [h, if_false] <;> omega
theorem slicePick_cut (its : List Value) (lo hi : Option Int) : slicePick its.toArray lo hi none = ((its.drop (HT.sIx its.length 0 lo)).take (HT.sIx its.length its.length hi - HT.sIx its.length 0 lo)).toArray := by
  obtain ⟨h1, h2, h3⟩ := slice_bounds lo hi its.toArray.size
  unfold slicePick
  rw [h1, h2, h3]
  simp only [sliceRange_one, pick_run, List.size_toArray] <;> rfl
/-- xs[lo:hi] of a list: a new list -/
def rSlL (K : PySem.W.Frag) : V → Option Int → Option Int → Hp → VK → Prop := fun x lo hi H Q => ∃ a xs, x = .ref a ∧ SqL K H a xs ∧ ∀ p, H p = none → Q (.ref p) (upd H p (.lst (cutV xs lo hi)))
theorem sl_list : SlR X (rSlL X.K) := by
  intro pins s σ H x v vl vu lo hi sl Q I rx hs pl pu h
  obtain ⟨a, xs, rfl, hx, q⟩ := h
  cases rx
  obtain ⟨its, r, ht, hz⟩ := I.list hx
  have hlen := r.length
  refine ⟨"list", _, slot_list_getitem.lookup, ht.isList.typeIs, ?_⟩
  refine wpAny_getItem_list_slice ht.isList hs pl pu .none (by simp) ?_ (by rw [List.size_toArray] <;> omega)
  rw [slicePick_cut, ← hlen]
  refine ⟨.ref s.heap.objs.size, _, I.laid (t' := s.toks) (o := .lst (cutV xs lo hi)) (fun b ob q => Heap.get?_push_of_some _ q) (Nat.le_refl _) ?_, rfl, q _ (I.hok.fresh (Nat.le_refl _))⟩
  exact ⟨Nat.le_trans (cutV_length xs lo hi) hz, _, 0, (r.drop (HT.sIx xs.length 0 lo)).take (HT.sIx xs.length xs.length hi - HT.sIx xs.length 0 lo), Heap.get?_push_size _ rfl⟩

/-! ### in, not in: flat items -/
def flatV : V → Bool
  | .non => true
  | .bl _ => true
  | .int _ => true
  | .str _ => true
  | _ => false
/-- == of flat values -/
def eqV : V → V → Bool
  | .non, .non => true
  | .bl a, .bl b => a == b
  | .bl a, .int b => (if a then 1 else 0) == b
  | .int a, .bl b => a == (if b then 1 else 0)
  | .int a, .int b => a == b
  | .str a, .str b => a == b
  | _, _ => false
theorem eqAt_V {A : Around} {s : Shared} {y x : V} {u v : Value} (ry : RelV y u) (rx : RelV x v) (fy : flatV y = true) (fx : flatV x = true) : SeqAt.EqAt A s u v (eqV y x) := by
  cases y with
  | non =>
    cases ry
    cases x with
    | non => cases rx; exact SeqAt.EqAt.same _
    | bl b => cases rx; exact SeqAt.EqAt.none_bool b
    | int b => obtain ⟨t, rfl⟩ := rx; exact SeqAt.EqAt.none_int b t
    | str b => obtain ⟨t, rfl⟩ := rx; exact SeqAt.EqAt.none_str b t
    | _ => exact absurd (show false = true from fx) Bool.false_ne_true
  | bl a =>
    cases ry
    cases x with
    | non => cases rx; exact SeqAt.EqAt.bool_none a
    | bl b => cases rx; exact SeqAt.EqAt.bool_bool a b
    | int b => obtain ⟨t, rfl⟩ := rx; exact SeqAt.EqAt.bool_int a b t
    | str b => obtain ⟨t, rfl⟩ := rx; exact SeqAt.EqAt.bool_str a b t
    | _ => exact absurd (show false = true from fx) Bool.false_ne_true
  | int a =>
    obtain ⟨t', rfl⟩ := ry
    cases x with
    | non => cases rx; exact SeqAt.EqAt.int_none a t'
    | bl b => cases rx; exact SeqAt.EqAt.int_bool a t' b
    | int b => obtain ⟨t, rfl⟩ := rx; exact SeqAt.EqAt.int_int a t' b t
    | str b => obtain ⟨t, rfl⟩ := rx; exact SeqAt.EqAt.int_str a t' b t
    | _ => exact absurd (show false = true from fx) Bool.false_ne_true
  | str a =>
    obtain ⟨t', rfl⟩ := ry
    cases x with
    | non => cases rx; exact SeqAt.EqAt.str_none a t'
    | bl b => cases rx; exact SeqAt.EqAt.str_bool a t' b
    | int b => obtain ⟨t, rfl⟩ := rx; exact SeqAt.EqAt.str_int a t' b t
    | str b => obtain ⟨t, rfl⟩ := rx; exact SeqAt.EqAt.str_str a t' b t
    | _ => exact absurd (show false = true from fx) Bool.false_ne_true
  | _ => exact absurd (show false = true from fy) Bool.false_ne_true
/-- the items' answers, read off the values (a value's own answer does not lean on its token) -/
def eqU (x : V) (u : Value) : Bool := match u with
  | .none => eqV .non x
  | .bool b => eqV (.bl b) x
  | .int i _ => eqV (.int i) x
  | .str z _ => eqV (.str z) x
  | _ => false
theorem eqU_of {x y : V} {u : Value} (r : RelV y u) (f : flatV y = true) : eqU x u = eqV y x := by
  cases y with
  | non => cases r; rfl
  | bl b => cases r; rfl
  | int i => obtain ⟨t, rfl⟩ := r; rfl
  | str z => obtain ⟨t, rfl⟩ := r; rfl
  | _ => exact absurd (show false = true from f) Bool.false_ne_true
theorem any_eqU {x : V} : ∀ {xs : List V} {us : List Value}, Vals xs us → xs.all flatV = true → us.any (eqU x) = xs.any fun y => eqV y x
  | _, _, .nil, _ => rfl
  | y :: xs, u :: us, .cons r t, f => by
    rw [List.all_cons, Bool.and_eq_true] at f
    rw [List.any_cons, List.any_cons, eqU_of r f.1, any_eqU t f.2]
theorem mem_eqAt {A : Around} {s : Shared} {x : V} {v : Value} (rx : RelV x v) (fx : flatV x = true) : ∀ {xs : List V} {us : List Value}, Vals xs us → xs.all flatV = true → ∀ u ∈ us, SeqAt.EqAt A s u v (eqU x u)
  | _, _, .nil, _ => fun u hu => by cases hu
  | y :: xs, u :: us, .cons r t, f => fun u' hu => by
    rw [List.all_cons, Bool.and_eq_true] at f
    rcases List.mem_cons.mp hu with rfl | hu
    · rw [eqU_of r f.1]; exact eqAt_V r rx f.1 fx
    · exact mem_eqAt rx fx t f.2 u' hu
def inV (x : V) (xs : List V) : Bool := xs.any fun y => eqV y x
/-- x in a list or tuple of flat items -/
def rIn (K : PySem.W.Frag) (neg : Bool) : R2 := fun x y H Q => ∃ p xs, y = .ref p ∧ (SqL K H p xs ∨ SqT K H p xs) ∧ flatV x = true ∧ xs.all flatV = true ∧ Q (.bl (if neg then !inV x xs else inV x xs)) H
theorem op_in_seq : OpR X (compareOp .In) (rIn X.K false) := by
  intro pins s σ H x y v u Q I rx ry h
  obtain ⟨p, xs, rfl, hq, fx, fs, q⟩ := h
  cases ry
  rcases hq with hq | hq
  · obtain ⟨its, r, pl, hz⟩ := I.list hq
    refine SeqAt.in_listAt (eqU x) pl.isList (fun w hw => mem_eqAt rx fx r fs w (by simpa using hw)) ⟨.bl _, H, I, rfl, ?_⟩
    rw [show its.toArray.any (eqU x) = its.any (eqU x) by simp, any_eqU r fs]
    exact q
  · obtain ⟨its, r, pl, hz⟩ := I.tuple hq
    refine SeqAt.in_tupleAt (eqU x) pl (fun w hw => mem_eqAt rx fx r fs w (by simpa using hw)) ⟨.bl _, H, I, rfl, ?_⟩
    rw [show its.toArray.any (eqU x) = its.any (eqU x) by simp, any_eqU r fs]
    exact q
theorem op_notIn_seq : OpR X (compareOp .NotIn) (rIn X.K true) := by
  intro pins s σ H x y v u Q I rx ry h
  obtain ⟨p, xs, rfl, hq, fx, fs, q⟩ := h
  cases ry
  rcases hq with hq | hq
  · obtain ⟨its, r, pl, hz⟩ := I.list hq
    refine SeqAt.notIn_listAt (eqU x) pl.isList (fun w hw => mem_eqAt rx fx r fs w (by simpa using hw)) ⟨.bl _, H, I, rfl, ?_⟩
    rw [show its.toArray.any (eqU x) = its.any (eqU x) by simp, any_eqU r fs]
    exact q
  · obtain ⟨its, r, pl, hz⟩ := I.tuple hq
    refine SeqAt.notIn_tupleAt (eqU x) pl (fun w hw => mem_eqAt rx fx r fs w (by simpa using hw)) ⟨.bl _, H, I, rfl, ?_⟩
    rw [show its.toArray.any (eqU x) = its.any (eqU x) by simp, any_eqU r fs]
    exact q
/-! ### len, list(x), tuple(x) of any list or tuple that is read -/
theorem call_len_seq : CallR X (.builtin "len") (fun xs H Q => ∃ p ys, xs = [.ref p] ∧ (SqL X.K H p ys ∨ SqT X.K H p ys) ∧ Q (.int ys.length) H) := by
  intro pins s σ H xs us Q I r h
  obtain ⟨p, ys, rfl, hq, q⟩ := h
  obtain ⟨u, rfl, rx⟩ := vals1 r
  cases rx
  have hn := line63
  rcases hq with hq | hq
  · obtain ⟨its, r', pl, hz⟩ := I.list hq
    have hlen := r'.length
    exact Calls.call_len_list pl.isList (by simp only [List.size_toArray] <;> omega) ⟨.int ys.length, H, I.tok _, ⟨s.toks + 1, by rw [List.size_toArray, hlen]⟩, q⟩
  · obtain ⟨its, r', pl, hz⟩ := I.tuple hq
    have hlen := r'.length
    exact len_tuple pl (by simp only [List.size_toArray] <;> omega) ⟨.int ys.length, H, I.tok _, ⟨s.toks + 1, by rw [List.size_toArray, hlen]⟩, q⟩
/-! ### the call of a builtin's method: o.m(..) -/
/-- the value is of that builtin type -/
def tyV (K : PySem.W.Frag) (T : String) (x : V) (H : Hp) : Prop := match x with
  | .str _ => T = "str"
  | .int _ => T = "int"
  | .ref p => (T = "list" ∧ ∃ xs, SqL K H p xs) ∨ (T = "tuple" ∧ ∃ o, K.lookup p = some o ∧ o.cls = .type "tuple" ∧ o.dict = none) ∨
      (T = "dict" ∧ ((∃ kvs, H p = some (.dK kvs)) ∨ ∃ kvs, H p = some (.dT kvs))) ∨ (T = "set" ∧ ∃ S n, H p = some (.set S n))
  | _ => False
theorem tyV_is {pins : List (Addr × Obj)} {σ : St} {H : Hp} {s : Shared} {T : String} {x : V} {v : Value} (I : Inv X pins σ H s) (r : RelV x v) (ty : tyV X.K T x H) :
    s.TypeIs v T ∧ ∀ a, v = .ref a → ∃ ob, s.heap.get? a = some ob ∧ ob.dict = none := by
  cases x with
  | str z =>
    obtain ⟨t, rfl⟩ := r
    cases (show T = "str" from ty)
    exact ⟨typeIs_str s z t, fun _ e => nomatch e⟩
  | int i =>
    obtain ⟨t, rfl⟩ := r
    cases (show T = "int" from ty)
    exact ⟨typeIs_int s i t, fun _ e => nomatch e⟩
  | ref p =>
    cases r
    rcases ty with ⟨rfl, xs, hq⟩ | ⟨rfl, o, hk, hc, hd⟩ | ⟨rfl, hk⟩ | ⟨rfl, S, n, hk⟩
    · obtain ⟨its, _, pl, _⟩ := I.list hq
      refine ⟨pl.isList.typeIs, fun a e => ?_⟩
      cases e
      obtain ⟨o, n, e, c, hd, _⟩ := pl
      exact ⟨o, e, hd⟩
    · refine ⟨⟨o, I.kIn p o hk, hc⟩, fun a e => ?_⟩
      cases e
      exact ⟨o, I.kIn _ o hk, hd⟩
    · have z : ∃ o, s.heap.get? p = some o ∧ o.ExactDict := by
        rcases hk with ⟨kvs, hk⟩ | ⟨kvs, hk⟩
        · obtain ⟨_, _, _, _, o, _, _, e, ex, _⟩ := I.hok p _ hk
          exact ⟨o, e, ex⟩
        · obtain ⟨_, _, _, _, o, _, _, e, ex, _⟩ := I.hok p _ hk
          exact ⟨o, e, ex⟩
      obtain ⟨o, e, ex⟩ := z
      refine ⟨⟨o, e, ex.1⟩, fun a e2 => ?_⟩
      cases e2
      exact ⟨o, e, ex.2.1⟩
    · obtain ⟨o, _, _, _, e, ex, _⟩ := I.hok p _ hk
      refine ⟨⟨o, e, ex.1⟩, fun a e2 => ?_⟩
      cases e2
      exact ⟨o, e, ex.2.1⟩
  | _ => exact False.elim ty
def tBM0 (K : PySem.W.Frag) (T : String) (r : V → List V → Hp → VK → Prop) (to : TE) : TE := fun σ H Q => to σ H fun x H1 => tyV K T x H1 ∧ r x [] H1 Q
def tBM (K : PySem.W.Frag) (T : String) (r : V → List V → Hp → VK → Prop) (to : TE) (t : TA) : TE := fun σ H Q => to σ H fun x H1 => tyV K T x H1 ∧ t σ H1 fun xs H2 => r x xs H2 Q
variable {o e : Expr} {es : List Expr} {to : TE} {t : TA} {name : Str} {apos cpos : Pos} {T id : String} {r : V → List V → Hp → VK → Prop}
theorem pe_bm0 (pa : PlainAttrs T) (slot : Slot T name id) (hty : typeOf (.builtin id) = pure (.type "method_descriptor")) (hm : MtR X id r) (ho : PE X o to)
    (hbase : attributeBase o name X.env (eval o X.env) = eval o X.env := by rfl) (hline : (apos.endLine == cpos.line) = true := by rfl) : PE X (.Call (.Attribute o name apos) [] [] cpos) (tBM0 X.K T r to) := by
  intro pins s σ H Q I h
  refine wpAny_Call_method0_late hbase hline (thn (ho pins s σ H _ I h) fun v s1 ⟨x, H1, I1, r1, ty, q1⟩ => ?_)
  obtain ⟨h1, h2⟩ := tyV_is I1 r1 ty
  exact ⟨T, id, pa, slot, hty, h1, h2, Calls.callWith_builtin rfl (PySem.evalArgs_none (hm pins s1 σ H1 x [] v [] Q I1 r1 .nil q1))⟩
theorem pe_bm (pa : PlainAttrs T) (slot : Slot T name id) (hty : typeOf (.builtin id) = pure (.type "method_descriptor")) (hm : MtR X id r) (ho : PE X o to) (ha : PA X (e :: es) t)
    (hbase : attributeBase o name X.env (eval o X.env) = eval o X.env := by rfl)
    (hfew : ((backTo cpos (starEach (e :: es) X.env)).all (fun x => !x.1) && (backToKw cpos (keywordEach [] X.env)).all (fun x => x.1.isSome)
      && decide ((e :: es).length + ([] : List Keyword).length + (if ([] : List Keyword).isEmpty then 0 else 1) < 30)) = true := by rfl)
    (hline : (apos.endLine == cpos.line) = true := by rfl) (hs : starEach (e :: es) X.env = (false, eval e X.env) :: starEach es X.env := by rfl) (hplain : (backTo cpos (starEach es X.env)).any (·.1) = false := by rfl) :
    PE X (.Call (.Attribute o name apos) (e :: es) [] cpos) (tBM X.K T r to t) := by
  intro pins s σ H Q I h
  refine wpAny_Call_method_late hbase hfew hline rfl (thn (ho pins s σ H _ I h) fun v s1 ⟨x, H1, I1, r1, ty, q1⟩ => ?_)
  obtain ⟨h1, h2⟩ := tyV_is I1 r1 ty
  refine ⟨T, id, pa, slot, hty, h1, h2, ?_⟩
  have hA := ha cpos pins s1 σ H1 _ I1 q1
  rw [hs] at hA ⊢
  refine Calls.callWith_builtin (by show (false || (backTo cpos (starEach es X.env)).any (·.1)) = false; rw [hplain] <;> rfl) (Calls.evalArgs_plain ?_)
  exact thn hA fun us s2 ⟨vs, H2, I2, r2, q2⟩ => hm pins s2 σ H2 x vs v us Q I2 r1 r2 q2
/- xs.append(e), list.index on a module's tuple .. are MtR facts of 06m -/
end
end L2

namespace L2
open PySem PySem.Spec PyProof.Rows

def MtM (X : Cx) (id : String) (r : V → List V → Hp → VK → Prop) : Prop :=
  ∀ (pins : List (Addr × Obj)) (s : Shared) (σ : St) (H : Hp) (x : V) (xs : List V) (v : Value) (us : List Value) (Q : VK), Inv X pins σ H s → RelV x v → Vals xs us → r x xs H Q →
    wpAny (model X.prog X.w) X.A (call (.builtin id) (v :: us)) (EP X pins σ Q) X.xe s

/-! ### lists of values -/
theorem Vals.one : ∀ {x : V} {us : List Value}, Vals [x] us → ∃ u, us = [u] ∧ RelV x u
  | _, _, .cons r .nil => ⟨_, rfl, r⟩
theorem Vals.rep {xs : List V} {us : List Value} (h : Vals xs us) : ∀ k : Nat, Vals (List.replicate k xs).flatten (List.replicate k us).flatten
  | 0 => .nil
  | k + 1 => by
    rw [List.replicate_succ, List.replicate_succ, List.flatten_cons, List.flatten_cons]
    exact Vals.append h (Vals.rep h k)
theorem foldl_rep (its : List Value) : ∀ (k : Nat) (acc : List Value),
    List.foldl (fun x1 x2 => x1 ++ x2) acc.toArray (List.replicate k its.toArray) = (acc ++ (List.replicate k its).flatten).toArray
  | 0, acc => by simp
  | k + 1, acc => by
    have e : acc.toArray ++ its.toArray = (acc ++ its).toArray := by simp
    have e2 : (acc ++ its) ++ (List.replicate k its).flatten = acc ++ (List.replicate (k + 1) its).flatten := by
      rw [List.replicate_succ, List.flatten_cons, List.append_assoc]
    rw [← e2, ← foldl_rep its k (acc ++ its), ← e, List.replicate_succ, List.foldl_cons]

section
variable {X : Cx} {pins : List (Addr × Obj)} {σ : St} {H : Hp} {s : Shared} {l b : Addr} {xs ys zs : List V}

/-! ### the two steps: a tracked list is rewritten, a new list is laid -/
theorem Inv.lset {its its' : List Value} {n : Nat} {f : Array Value → Array Value} {t' : Nat} (I : Inv X pins σ H s) (hH : H l = some (.lst xs))
    (e : s.heap.get? l = some { cls := .type "list", data := .seq its.toArray n }) (hf : f its.toArray = its'.toArray) (hv : Vals ys its') (hz : ys.length ≤ sizeLine) :
    Inv X pins σ (upd H l (.lst ys)) { s with heap := s.heap.update l (Obj.mapSeq f), toks := t' } := by
  have q := PySem.IsL.update e f
  rw [hf] at q
  refine I.write (x := l) (e := l) (by rw [hH]; exact trivial) (.inl rfl) (fun b' u hb hu => (Heap.get?_update_other s.heap (Obj.mapSeq f) (Ne.symm hb)).trans hu) ⟨_, q⟩ ?_
  exact ⟨hz, its', _, hv, q⟩
theorem Inv.lnew {its : List Value} {t' : Nat} (I : Inv X pins σ H s) (hv : Vals ys its) (hz : ys.length ≤ sizeLine) :
    Inv X pins σ (upd H s.heap.objs.size (.lst ys)) { s with heap := s.heap.push { cls := .type "list", data := .seq its.toArray }, toks := t' } :=
  I.laid (fun _ _ q => Heap.get?_push_of_some _ q) (Nat.le_refl _) ⟨hz, its, 0, hv, Heap.get?_push_size _ rfl⟩
theorem Inv.fresh (I : Inv X pins σ H s) : H s.heap.objs.size = none := I.hok.fresh (Nat.le_refl _)
theorem Inv.lstM (I : Inv X pins σ H s) (hH : H l = some (.lst xs)) : xs.length ≤ sizeLine ∧ ∃ (its : List Value) (n : Nat), Vals xs its ∧ xs.length = its.length ∧ s.heap.get? l = some { cls := .type "list", data := .seq its.toArray n } := by
  obtain ⟨z, its, n, r, e⟩ := I.hok l _ hH
  exact ⟨z, its, n, r, r.length, e⟩

theorem notLongL {n : Nat} (h : n ≤ sizeLine) : Builtin.List.listTooLong n = false := by
  unfold Builtin.List.listTooLong
  exact decide_eq_false (by omega)
end

section
variable {X : Cx}

/-! ### methods -/
def rAppend : V → List V → Hp → VK → Prop := fun x vs H Q => ∃ l xs y, x = .ref l ∧ vs = [y] ∧ H l = some (.lst xs) ∧ xs.length < sizeLine ∧ Q .non (upd H l (.lst (xs ++ [y])))
theorem mt_append : MtM X "list.append" rAppend := by
  intro pins s σ H x vs v us Q I rx rv h
  obtain ⟨l, xs, y, rfl, rfl, hH, hz, q⟩ := h
  cases rx
  obtain ⟨u, rfl, ru⟩ := rv.one
  obtain ⟨z, its, n, r, hl, e⟩ := I.lstM hH
  refine call_meets F.slot_list_append ⟨_, e, rfl⟩ F.entry_list_append (F.args_list_append_2 _ _) (PySem.list_append l its.toArray n u (by rw [List.size_toArray]; omega)) ⟨e, ?_⟩
  refine ⟨.non, _, I.lset (its' := its ++ [u]) hH e (by simp) (r.append (.cons ru .nil)) ?_, rfl, q⟩
  rw [List.length_append, List.length_singleton]
  omega

def rExtend : V → List V → Hp → VK → Prop := fun x vs H Q => ∃ l b xs zs, x = .ref l ∧ vs = [.ref b] ∧ H l = some (.lst xs) ∧ H b = some (.lst zs) ∧ xs.length + zs.length ≤ sizeLine ∧ Q .non (upd H l (.lst (xs ++ zs)))
def rPop : V → List V → Hp → VK → Prop := fun x vs H Q => ∃ l xs y, x = .ref l ∧ vs = [] ∧ H l = some (.lst xs) ∧ xs[xs.length - 1]? = some y ∧ Q y (upd H l (.lst xs.dropLast))
def rPopAt : V → List V → Hp → VK → Prop := fun x vs H Q => ∃ l xs i k y, x = .ref l ∧ vs = [.int i] ∧ H l = some (.lst xs) ∧ -(2 ^ 63) ≤ i ∧ i < 2 ^ 63 ∧ seqIndex? i xs.length = some k ∧ xs[k]? = some y ∧ Q y (upd H l (.lst (xs.eraseIdx k)))
def rReverse : V → List V → Hp → VK → Prop := fun x vs H Q => ∃ l xs, x = .ref l ∧ vs = [] ∧ H l = some (.lst xs) ∧ Q .non (upd H l (.lst xs.reverse))
def rClear : V → List V → Hp → VK → Prop := fun x vs H Q => ∃ l xs, x = .ref l ∧ vs = [] ∧ H l = some (.lst xs) ∧ Q .non (upd H l (.lst []))
/-! ### list + list, list += list, list * int -/
def rCat : R2 := fun x y H Q => ∃ l b xs zs, x = .ref l ∧ y = .ref b ∧ H l = some (.lst xs) ∧ H b = some (.lst zs) ∧ xs.length + zs.length ≤ sizeLine ∧ ∀ p, H p = none → Q (.ref p) (upd H p (.lst (xs ++ zs)))
theorem op_cat : OpR X (binaryOp .Add) rCat := by
  intro pins s σ H x y v u Q I rx ry h
  obtain ⟨l, b, xs, zs, rfl, rfl, hH, hB, hz, q⟩ := h
  cases rx
  cases ry
  obtain ⟨z, its, n, r, hl, e⟩ := I.lstM hH
  obtain ⟨z2, its2, n2, r2, hl2, e2⟩ := I.lstM hB
  refine PySem.P.add_list e e2 ?_ (by rw [List.size_toArray, List.size_toArray]; omega)
  have ea : its.toArray ++ its2.toArray = (its ++ its2).toArray := by simp
  rw [ea]
  exact ⟨.ref _, _, I.lnew (t' := s.toks) (r.append r2) (by rw [List.length_append]; omega), rfl, q _ I.fresh⟩
/-- a list times an int (a negative one is nothing) -/
def rRep : R2 := fun x y H Q => ∃ l k xs, x = .ref l ∧ y = .int k ∧ H l = some (.lst xs) ∧ -(2 ^ 63) ≤ k ∧ k < 2 ^ 63 ∧ xs.length * k.toNat ≤ sizeLine ∧
  ∀ p, H p = none → Q (.ref p) (upd H p (.lst (List.replicate k.toNat xs).flatten))
theorem len_rep {α : Type} (xs : List α) (k : Nat) : (List.replicate k xs).flatten.length = k * xs.length := by
  induction k with
  | zero => simp
  | succ k ih => rw [List.replicate_succ, List.flatten_cons, List.length_append, ih, Nat.succ_mul, Nat.add_comm]
theorem op_rep : OpR X (binaryOp .Mult) rRep := by
  intro pins s σ H x y v u Q I rx ry h
  obtain ⟨l, k, xs, rfl, rfl, hH, h1, h2, hz, q⟩ := h
  cases rx
  obtain ⟨t, rfl⟩ := ry
  obtain ⟨z, its, n, r, hl, e⟩ := I.lstM hH
  have hlen : its.toArray.size * k.toNat ≤ sizeLine := by rw [List.size_toArray, ← hl]; exact hz
  have hcap : ¬ its.toArray.size * k.toNat > (2 ^ 63 - 1) / 8 := by
    have : (sizeLine : Nat) ≤ (2 ^ 63 - 1) / 8 := by decide
    omega
  have hfit : ¬ (!Builtin.List.listFitsIndex k) = true := by
    rw [fitsIndex_both h1 h2]
    exact Bool.false_ne_true
  have hlong : ¬ Builtin.List.listTooLong (its.toArray.size * k.toNat) = true := by
    rw [notLongL hlen]
    exact Bool.false_ne_true
  have hnew : List.foldl (fun x1 x2 => x1 ++ x2) #[] (List.replicate (if its.toArray.isEmpty = true then 0 else k.toNat) its.toArray) = (List.replicate k.toNat its).flatten.toArray := by
    have f0 : ∀ m : Nat, List.foldl (fun x1 x2 => x1 ++ x2) #[] (List.replicate m its.toArray) = (List.replicate m its).flatten.toArray := fun m => by
      have := foldl_rep its m []
      rw [List.nil_append] at this
      exact this
    rw [f0]
    cases its with
    | nil => simp
    | cons a r' => rw [if_neg (by simp)]
  refine wpAny_binaryOp_repeat_ref (T := "list") (U := "int") (by decide) ⟨_, e, rfl⟩ (fun s' => typeIs_int s' k t) noFill_list_mul F.fills_int_mul F.slot_int_rmul repeat_list F.slot_int_index.lookup
    (call_meets F.slot_int_rmul (typeIs_int s k t) F.entry_int_rmul (F.args_int_rmul_2 _ _) (int___rmul___int_list k t l its.toArray n)
      ⟨e, rfl, ⟨_, e, rfl⟩, call_meets F.slot_list_mul ⟨_, e, rfl⟩ F.entry_list_mul (F.args_list_mul_2 _ _) (AutoListH.list___mul___list_int_3 l its.toArray n k t hfit hcap hlong) ⟨e, ?_⟩⟩)
  rw [hnew]
  exact ⟨.ref _, _, I.lnew (t' := s.toks) (r.rep k.toNat) (by rw [len_rep, Nat.mul_comm]; exact hz), rfl, q _ I.fresh⟩

/-! ### del xs[i] -/
end

/-! ### xs[a:b] = ys -/
section
variable {prog : Program} {w : World} {A : Around} {E : Value → Shared → Prop} {s : Shared}
end

section
variable {X : Cx}
end
end L2

namespace Att
open PySem PySem.W PySem.Calls PyProof.Rows

/-! ### the script -/
/-! ### the attachment: holds_open's last premise (the goal 'hc' behind k_head) from a wpAny of the law's body -/
/-! ### rules over ANY heap (no ledger) from facts about the written part K: the library's own take a ledger (News) for what they write -/
section
variable {prog : Program} {w : World} {A : Around} {E : Value → Shared → Prop} {s : Shared} {K : Frag}

/-! the whole heap as the ledger: makes every rule that writes through a ledger a rule over any heap -/
def noObjs (h : Heap) : Heap := { h with objs := #[] }
def ledger (h : Heap) (L d : Addr) : List (Addr × Obj) := (List.range h.objs.size).filterMap fun a => if a = L ∨ a = d then none else (h.get? a).map fun o => (a, o)
end
end Att

namespace L2
open PySem PySem.Spec PyProof.Rows

/-- nothing is tracked but the script, known to the object (or it is an object of the module) -/
def Only (H : Hp) : Prop := ∀ b, H b = none ∨ ∃ o xs, H b = some (.frz o (.lst xs))

end L2

namespace L2
open PySem PySem.Spec PyProof.Rows

abbrev KOf {K : PySem.W.Frag} {h : Heap} (_ : K.In h) : PySem.W.Frag := K

end L2

/- THE LAST THEOREM (shape; LID, My.* are yours):
   My.Adr: a structure of the addresses that your layer names (classes, functions); My.Txt K t: a structure (Prop) of the equations over K;
   My.txt_mk : {K} {implicit addresses ..} (e1 : nsIn K mainGlobals "law" = some (some (.ref f))) (e2 : K.lookup f = some ⟨oc, od, .func (fnOf "law" "law" params body scope dV kV doc pm an cdv ct), sl⟩) (e3 : codeIn K cdv "law" = true) .. : ∃ t, My.Txt K t

set_option maxRecDepth 100000 in
set_option maxHeartbeats 0 in
theorem PySem.Challenge.cw_LID_holds : PySem.Challenge.rw_LID.Holds := by
  w_on; o_law; k_head; (case hw => w_witness2)
  k_fill
  refine L2.walk_of (l := PySem.Challenge.rw_LID) (n := 63) (k := 40) (x := "script") (CX := fun w => ..) (sp := fun _ => My.sp_law) rfl (by decide) rfl ⟨rfl, by decide, by decide⟩ (fun w h Y => PySem.W.kIn_of Y) ?F ?S ?C
  case F =>
    intro w mg fa h KX G hmg
    have T : ∃ t, My.Txt (L2.KOf KX) t := by
      dsimp only [L2.KOf]                          -- K must stand as «<heap const> w.params» for k_is
      refine' My.txt_mk ?e1 ?e2 ?e3 ..
      (case e1 => PySem.W.k_is)                    -- in the order: a name -> its address -> its object -> its parts
      (case e2 => PySem.W.k_is)
      ..
    obtain ⟨t, T⟩ := T
    have e0 := hmg.symm.trans (PySem.W.mg_of KX G T.law)
    cases e0                                       -- fa is the law's own address
    exact ⟨_, fun s u => .of_eq rfl, fun base kb nb => My.law_fn T kb nb⟩     -- if «.of_eq rfl» comes too early: refine' ⟨_, ?b, fun base kb nb => My.law_fn T kb nb⟩; exact fun s u => .of_eq rfl
  case S => exact fun w H a ns hl hO hS => ..
  case C => exact ..
(the tactic k_is has no namespace: write k_is) -/

/-! SHORT WORDS over the layer: a def of the text, its body, what a loop and a test want. -/
namespace L2
open PySem PySem.Spec PyProof.Rows

/-! ### the text by places -/
/-- the j-th statement of a class's body -/
def inClass (s : Stmt) (j : Nat) : Stmt := match s with
  | .ClassDef _ _ _ body _ _ _ _ _ _ _ => body.getD j (.Pass ⟨0, 0, 0, 0⟩)
  | _ => .Pass ⟨0, 0, 0, 0⟩
def defArgs (s : Stmt) : Arguments := match s with
  | .FunctionDef _ a _ _ _ _ _ _ _ _ => a
  | _ => { posonlyargs := [], args := [], vararg := none, kwonlyargs := [], kw_defaults := [], kwarg := none, defaults := [] }
def defBody (s : Stmt) : List Stmt := match s with
  | .FunctionDef _ _ b _ _ _ _ _ _ _ => b
  | _ => []
def defScope (s : Stmt) : Scope := match s with
  | .FunctionDef _ _ _ _ _ _ sc _ _ _ => sc
  | _ => { kind := .function, names := [], isGenerator := false, isCoroutine := false }

/-! ### no exception leaves a def -/
abbrev CX0 : CXT := fun _ _ _ _ _ _ => False
abbrev E0 : XK := fun _ _ _ => False
theorem pass0 {X : Cx} : Passes CX0 X E0 := fun _ _ _ _ _ _ _ h => h.elim

/-! ### a def (or method) of the text as it stands behind the top -/
structure Fun (K : PySem.W.Frag) (x qual : Str) (st : Stmt) (f : Addr) (fd : FuncData) : Prop where
  ex : ∃ (oc : Value) (od : Option Addr) (kV doc pm : Value) (an : Option Addr) (cdv ct : Value) (osl : Array (Option Value)),
    fd = PySem.W.fnOf x qual (defArgs st) (defBody st) (defScope st) .none kV doc pm an cdv ct ∧ K.lookup f = some ⟨oc, od, .func fd, osl⟩ ∧ PySem.W.codeIn K cdv qual = true
  kp : PySem.W.keepIn K (.ref f) = true
section
variable {P : Program} {w : World} {K : PySem.W.Frag} {mg : Str → Option Value} {base : Heap}
/-- THE RULE for a def: its body as a term of rules, and the reading of that term -/
theorem Fun.ok {x qual : Str} {st : Stmt} {f : Addr} {fd : FuncData} {N ps : List Str} {k : Nat} {sp : Sp} (F : Fun K x qual st f fd) (S : FnScope N ps (defScope st)) (len : ∀ vs H Q E, sp vs H Q E → vs.length = ps.length)
    (hbody : ∀ (cdv : Value) (A : Around) (outer : List Env) (s : Shared) (H : Hp) (vs : List V) (Q : VK) (E : XK), Room k (A.deeper (envOfC qual (defScope st) s.heap.objs.size f cdv)) → sp vs H Q E →
      ∃ t, PSs (cxOf CX0 P w K mg base N qual (defScope st) f cdv A outer s H E).nox (defBody st) t ∧ t { nx := fun _ H' => Q .non H', rt := Q } (start N vs) H) : FnOk P w K mg base CX0 (k + 1) f fd ps sp := by
  obtain ⟨oc, od, kV, doc, pm, an, cdv, ct, osl, rfl, lk, hcd⟩ := F.ex
  refine fn_of lk hcd S len fun A outer s H vs Q E hr hsp => ?_
  obtain ⟨t, h, q⟩ := hbody cdv A outer s H vs Q E hr hsp
  exact ⟨t, h.nox, q⟩
/-- how its arguments bind (no defaults): h is «fun _ _ _ _ _ _ us hl => match us, hl with | [_, _], _ => rfl», one _ a parameter -/
theorem Fun.binds {x qual : Str} {st : Stmt} {f : Addr} {fd : FuncData} {ps : List Str} (F : Fun K x qual st f fd)
    (h : ∀ (kV doc pm : Value) (an : Option Addr) (cdv ct : Value) (us : List Value), us.length = ps.length → bindArgs (PySem.W.fnOf x qual (defArgs st) (defBody st) (defScope st) .none kV doc pm an cdv ct) ⟨us, []⟩ = pure (ps.zip us)) : Binds K fd ps [] := by
  obtain ⟨oc, od, kV, doc, pm, an, cdv, ct, osl, rfl, lk, hcd⟩ := F.ex
  exact .all (h kV doc pm an cdv ct)
theorem fun_mk {x qual : Str} {st : Stmt} {f : Addr} {oc : Value} {od an : Option Addr} {osl : Array (Option Value)} {kV doc pm cdv ct : Value} (l : K.lookup f = some ⟨oc, od, .func (PySem.W.fnOf x qual (defArgs st) (defBody st) (defScope st) .none kV doc pm an cdv ct), osl⟩)
    (c : PySem.W.codeIn K cdv qual = true) (k : PySem.W.keepIn K (.ref f) = true) : Fun K x qual st f (PySem.W.fnOf x qual (defArgs st) (defBody st) (defScope st) .none kV doc pm an cdv ct) := ⟨⟨oc, od, kV, doc, pm, an, cdv, ct, osl, rfl, l, c⟩, k⟩
end
/-! ### expressions in short: the name that stands in the i-th slot -/
section
variable {X : Cx}
theorem pv (i : Nat) {x : Str} {pos : Pos} (hN : X.N[i]? = some x := by rfl) (hv : Vis X.env.scope x := by first | exact Or.inl rfl | exact Or.inr (Or.inl rfl) | exact Or.inr (Or.inr rfl)) (hd : (x == ("__debug__" : Str)) = false := by decide)
    (hcd : (x == ("__classdict__" : Str)) = false := by decide) : PE X (.Name x pos) (tVar i) := pe_var hN hv hd hcd
end

/-! ### tests -/
/-! ### heaps -/
/-- all that was tracked is as it was -/
def Same (H H' : Hp) : Prop := ∀ b o, H b = some o → H' b = some o
/-! ### lists -/
theorem at_of {xs : List V} {z : Int} {j : Nat} {v : V} (e : z = (j : Int)) (h : xs[j]? = some v) : atI xs z = some v := by
  rw [e]
  exact atI_nat h
end L2

section
set_option Elab.async false
set_option linter.all false
set_option maxRecDepth 100000
set_option maxHeartbeats 2000000
namespace L2
open PySem PySem.Spec PyProof.Rows
open PySem.W (WData Codec OpenSpec Well WellAll ReadsW ReadsAllW)
/-! ### an answer as data -/
mutual
/-- x stands for the datum d, lists and tuples all the way -/
inductive Dw (K : PySem.W.Frag) (H : Hp) : V → WData → Prop
  | non : Dw K H .non .none
  | bl (b : Bool) : Dw K H (.bl b) (.bool b)
  | int (i : Int) : Dw K H (.int i) (.int i)
  | str (x : Str) : Dw K H (.str x) (.str x)
  | byt (b : Array UInt8) : Dw K H (.byt b) (.bytes b.toList)
  | lst {a : Addr} {xs : List V} {ds : List WData} : SqL K H a xs → DwAll K H xs ds → Dw K H (.ref a) (.list ds)
  | tup {a : Addr} {xs : List V} {ds : List WData} : SqT K H a xs → DwAll K H xs ds → Dw K H (.ref a) (.tuple ds)
inductive DwAll (K : PySem.W.Frag) (H : Hp) : List V → List WData → Prop
  | nil : DwAll K H [] []
  | cons {v : V} {vs : List V} {d : WData} {ds : List WData} : Dw K H v d → DwAll K H vs ds → DwAll K H (v :: vs) (d :: ds)
end
theorem dw_ints {K : PySem.W.Frag} {H : Hp} : ∀ ns : List Int, DwAll K H (ns.map V.int) (ns.map WData.int)
  | [] => .nil
  | n :: r => .cons (.int n) (dw_ints r)
theorem ints_dw {K : PySem.W.Frag} {H : Hp} : ∀ (ns : List Int) (xs : List V), DwAll K H xs (ns.map WData.int) → xs = ns.map V.int
  | [], xs, h => by
    cases h
    rfl
  | n :: r, xs, h => by
    cases h with
    | cons h1 h2 =>
      cases h1
      rw [ints_dw r _ h2] <;> rfl
section
variable {P : Program} {w : World} {K : PySem.W.Frag} {H : Hp} {h : Heap} {R : PySem.W.WRecords} {cl : Str → Option Addr}
theorem sqL_at {a : Addr} {xs : List V} (hok : HOk P w H h) (KX : K.In h) (q : SqL K H a xs) : ∃ (its : List Value) (o : Obj) (n : Nat), Vals xs its ∧ h.get? a = some o ∧ o.cls = .type "list" ∧ o.data = .seq its.toArray n := by
  rcases q with q | ⟨o, its, n, e, hc, _, hd, _, hv⟩
  · obtain ⟨_, its, n, hv, e⟩ := (show ObjOk P w H h a (.lst xs) from q.ok hok)
    exact ⟨its, _, n, hv, e, rfl, rfl⟩
  · exact ⟨its.toList, o, n, hv, KX _ _ e, hc, by simp [hd]⟩
theorem sqT_at {a : Addr} {xs : List V} (hok : HOk P w H h) (KX : K.In h) (q : SqT K H a xs) : ∃ (its : List Value) (o : Obj) (n : Nat), Vals xs its ∧ h.get? a = some o ∧ o.cls = .type "tuple" ∧ o.data = .seq its.toArray n := by
  rcases q with q | ⟨o, its, n, e, hc, hd, _, hv⟩
  · obtain ⟨_, its, hv, o, e, hc, n, hd⟩ := (show ObjOk P w H h a (.tup xs) from q.ok hok)
    exact ⟨its, o, n, hv, e, hc, hd⟩
  · exact ⟨its.toList, o, n, hv, KX _ _ e, hc, by simp [hd]⟩
mutual
theorem Dw.reads (hok : HOk P w H h) (KX : K.In h) : ∀ (d : WData) (v : V) (u : Value), Dw K H v d → RelV v u → ∃ as, ReadsW R cl h u d as
  | .none, _, _, x, r => by
    cases x
    cases r
    exact ⟨_, ReadsW.none⟩
  | .bool b, _, _, x, r => by
    cases x
    cases r
    exact ⟨_, ReadsW.bool b⟩
  | .int i, _, _, x, r => by
    cases x
    obtain ⟨t, rfl⟩ := r
    exact ⟨_, ReadsW.int i t⟩
  | .str s, _, _, x, r => by
    cases x
    obtain ⟨t, rfl⟩ := r
    exact ⟨_, ReadsW.str s t⟩
  | .bytes b, _, _, x, r => by
    cases x
    obtain ⟨t, rfl⟩ := r
    exact ⟨_, ReadsW.bytes _ t⟩
  | .list ds, _, _, x, r => by
    cases x with
    | lst hs ha =>
      cases r
      obtain ⟨its, o, n, rv, ho, hc, hd⟩ := sqL_at hok KX hs
      obtain ⟨as, hr⟩ := Dw.readsAll hok KX ds _ its ha rv
      exact ⟨_, ReadsW.list ho hc hd hr⟩
  | .tuple ds, _, _, x, r => by
    cases x with
    | tup hs ha =>
      cases r
      obtain ⟨its, o, n, rv, ho, hc, hd⟩ := sqT_at hok KX hs
      obtain ⟨as, hr⟩ := Dw.readsAll hok KX ds _ its ha rv
      exact ⟨_, ReadsW.tuple ho hc hd hr⟩
  | .float _, _, _, x, _ => by cases x
  | .dict _, _, _, x, _ => by cases x
  | .bytearray _, _, _, x, _ => by cases x
  | .set _, _, _, x, _ => by cases x
  | .frozenset _, _, _, x, _ => by cases x
  | .obj _ _, _, _, x, _ => by cases x
theorem Dw.readsAll (hok : HOk P w H h) (KX : K.In h) : ∀ (ds : List WData) (vs : List V) (us : List Value), DwAll K H vs ds → Vals vs us → ∃ as, ReadsAllW R cl h us ds as
  | [], _, _, x, r => by
    cases x
    cases r
    exact ⟨_, ReadsAllW.nil⟩
  | d :: ds, _, _, x, r => by
    cases x with
    | cons h1 h2 =>
      cases r with
      | cons r1 r2 =>
        obtain ⟨as, q1⟩ := Dw.reads hok KX d _ _ h1 r1
        obtain ⟨bs, q2⟩ := Dw.readsAll hok KX ds _ _ h2 r2
        exact ⟨_, ReadsAllW.cons q1 q2⟩
end
end
/-! ### the arguments -/
mutual
/-- data that a codec tells -/
def plW : WData → Bool
  | .none => true
  | .bool _ => true
  | .int _ => true
  | .str _ => true
  | .bytes _ => true
  | .list xs => plWs xs
  | .tuple xs => plWs xs
  | _ => false
def plWs : List WData → Bool
  | [] => true
  | x :: r => plW x && plWs r
end
theorem plWs_map {α : Type} {f : α → WData} (h : ∀ a, plW (f a) = true) : ∀ l : List α, plWs (l.map f) = true
  | [] => rfl
  | x :: r => by
    show (plW (f x) && plWs (r.map f)) = true
    rw [h x, plWs_map h r] <;> rfl
theorem pl_enc : ∀ (c : Codec) (a : c.denote), plW (c.enc a) = true
  | .unit, _ => rfl
  | .bool, _ => rfl
  | .int _ _, _ => rfl
  | .nat _ _, _ => rfl
  | .u8, _ => rfl
  | .bytes _ _, _ => rfl
  | .text _ _ _ _, _ => rfl
  | .list _ _ c, a => plWs_map (fun x => pl_enc c x) a
  | .pair c d, a => by
    show (plW (c.enc a.1) && (plW (d.enc a.2) && true)) = true
    rw [pl_enc c a.1, pl_enc d a.2] <;> rfl
  | .triple c d e, a => by
    show (plW (c.enc a.1) && (plW (d.enc a.2.1) && (plW (e.enc a.2.2) && true))) = true
    rw [pl_enc c a.1, pl_enc d a.2.1, pl_enc e a.2.2] <;> rfl
  | .option c, none => rfl
  | .option c, some x => pl_enc c x
theorem pl_encAll : ∀ (cs : List Codec) (a : Codec.denoteAll cs), plWs (Codec.encAll cs a) = true
  | [], _ => rfl
  | c :: cs, a => by
    show (plW (c.enc a.1) && plWs (Codec.encAll cs a.2)) = true
    rw [pl_enc c a.1, pl_encAll cs a.2] <;> rfl
theorem weight_mem : ∀ {xs : List WData} {d : WData}, d ∈ xs → d.weight ≤ WData.weightAll xs
  | [], d, h => absurd h (by simp)
  | x :: r, d, h => by
    show d.weight ≤ x.weight + 1 + WData.weightAll r
    rcases List.mem_cons.mp h with e | m
    · rw [e]
      omega
    · have z := weight_mem m
      omega
def toV : Value → V
  | .none => .non
  | .bool b => .bl b
  | .int i _ => .int i
  | .str x _ => .str x
  | .bytes b _ => .byt b
  | .ref a => .ref a
  | _ => .non
/-- a value of the arguments, its objects among A -/
def OkU (A : List Addr) : Value → Prop
  | .none => True
  | .bool _ => True
  | .int _ _ => True
  | .str _ _ => True
  | .bytes _ _ => True
  | .ref a => a ∈ A
  | _ => False
theorem OkU.mono {A B : List Addr} (h : ∀ a ∈ A, a ∈ B) : ∀ {u : Value}, OkU A u → OkU B u := fun {u} x => by
  cases u with
  | ref a => exact h a x
  | none => trivial
  | bool b => trivial
  | int i t => trivial
  | str s t => trivial
  | bytes b t => trivial
  | _ => exact False.elim x
theorem relV_toV {A : List Addr} {u : Value} (x : OkU A u) : RelV (toV u) u := by
  cases u with
  | ref a => rfl
  | none => rfl
  | bool b => rfl
  | int i t => exact ⟨t, rfl⟩
  | str s t => exact ⟨t, rfl⟩
  | bytes b t => exact ⟨t, rfl⟩
  | _ => exact False.elim x
theorem vals_toV {A : List Addr} : ∀ {vs : List Value}, (∀ u ∈ vs, OkU A u) → Vals (vs.map toV) vs
  | [], _ => .nil
  | u :: r, h => .cons (relV_toV (h u (List.mem_cons_self ..))) (vals_toV fun x hx => h x (List.mem_cons_of_mem _ hx))
/-- an object of the arguments -/
def ArgOb (h : Heap) (A : List Addr) (a : Addr) : Prop := ∃ vs : List Value, vs.length ≤ sizeLine ∧ (∀ u ∈ vs, OkU A u) ∧
  (h.get? a = some { cls := .type "list", data := .seq vs.toArray } ∨ h.get? a = some { cls := .type "tuple", data := .seq vs.toArray })
theorem ArgOb.mono {h : Heap} {A B : List Addr} {a : Addr} (k : ∀ a ∈ A, a ∈ B) (x : ArgOb h A a) : ArgOb h B a := by
  obtain ⟨vs, h1, h2, h3⟩ := x
  exact ⟨vs, h1, fun u hu => (h2 u hu).mono k, h3⟩
theorem wellAll_len {P : Params} {h : Heap} : ∀ {vs : List Value} {ds : List WData}, WellAll P h vs ds → vs.length = ds.length
  | _, _, .nil => rfl
  | _, _, .cons _ b => by
    show _ + 1 = _ + 1
    rw [wellAll_len b]
theorem well_list {P : Params} {h : Heap} {v : Value} {ds : List WData} (x : Well P h v (.list ds)) : ∃ (a : Addr) (vs : List Value), v = .ref a ∧ h.get? a = some { cls := .type "list", data := .seq vs.toArray } ∧ WellAll P h vs ds := by
  cases x with
  | list ho hall => exact ⟨_, _, rfl, ho, hall⟩
theorem well_tuple {P : Params} {h : Heap} {v : Value} {ds : List WData} (x : Well P h v (.tuple ds)) : ∃ (a : Addr) (vs : List Value), v = .ref a ∧ h.get? a = some { cls := .type "tuple", data := .seq vs.toArray } ∧ WellAll P h vs ds := by
  cases x with
  | tuple ho hall => exact ⟨_, _, rfl, ho, hall⟩
theorem well_cons {P : Params} {h : Heap} {us : List Value} {d : WData} {ds : List WData} (x : WellAll P h us (d :: ds)) : ∃ (v : Value) (vs : List Value), us = v :: vs ∧ Well P h v d ∧ WellAll P h vs ds := by
  cases x with
  | cons a b => exact ⟨_, _, rfl, a, b⟩
theorem line_of {n : Nat} (h : n ≤ 1048576) : n ≤ sizeLine := Nat.le_trans h (by decide)
section
variable {P : Params} {h : Heap}
mutual
theorem area_one : ∀ (d : WData) (v : Value), Well P h v d → plW d = true → d.weight ≤ 1048576 → ∃ A : List Addr, OkU A v ∧ ∀ a ∈ A, ArgOb h A a
  | .none, _, x, _, _ => by
    cases x
    exact ⟨[], trivial, fun a m => absurd m (by simp)⟩
  | .bool b, _, x, _, _ => by
    cases x
    exact ⟨[], trivial, fun a m => absurd m (by simp)⟩
  | .int i, _, x, _, _ => by
    cases x
    exact ⟨[], trivial, fun a m => absurd m (by simp)⟩
  | .str s, _, x, _, _ => by
    cases x
    exact ⟨[], trivial, fun a m => absurd m (by simp)⟩
  | .bytes b, _, x, _, _ => by
    cases x
    exact ⟨[], trivial, fun a m => absurd m (by simp)⟩
  | .list ds, _, x, p, z => by
    obtain ⟨a, vs, rfl, ho, hall⟩ := well_list x
    have z2 : WData.weightAll ds ≤ 1048576 := z
    obtain ⟨A, h1, h2⟩ := area_all ds _ hall p fun d hd => Nat.le_trans (weight_mem hd) z2
    have k : ∀ b ∈ A, b ∈ a :: A := fun b hb => List.mem_cons_of_mem _ hb
    refine ⟨a :: A, List.mem_cons_self .., fun b hb => ?_⟩
    rcases List.mem_cons.mp hb with e | m
    · rw [e]
      exact ⟨vs, line_of (by rw [wellAll_len hall]; exact Nat.le_trans (PySem.W.length_le_weightAllW ds) z2), fun u hu => (h1 u hu).mono k, .inl ho⟩
    · exact (h2 b m).mono k
  | .tuple ds, _, x, p, z => by
    obtain ⟨a, vs, rfl, ho, hall⟩ := well_tuple x
    have z2 : WData.weightAll ds ≤ 1048576 := z
    obtain ⟨A, h1, h2⟩ := area_all ds _ hall p fun d hd => Nat.le_trans (weight_mem hd) z2
    have k : ∀ b ∈ A, b ∈ a :: A := fun b hb => List.mem_cons_of_mem _ hb
    refine ⟨a :: A, List.mem_cons_self .., fun b hb => ?_⟩
    rcases List.mem_cons.mp hb with e | m
    · rw [e]
      exact ⟨vs, line_of (by rw [wellAll_len hall]; exact Nat.le_trans (PySem.W.length_le_weightAllW ds) z2), fun u hu => (h1 u hu).mono k, .inr ho⟩
    · exact (h2 b m).mono k
  | .float _, _, _, p, _ => Bool.noConfusion (show false = true from p)
  | .dict _, _, _, p, _ => Bool.noConfusion (show false = true from p)
  | .bytearray _, _, _, p, _ => Bool.noConfusion (show false = true from p)
  | .set _, _, _, p, _ => Bool.noConfusion (show false = true from p)
  | .frozenset _, _, _, p, _ => Bool.noConfusion (show false = true from p)
  | .obj _ _, _, _, p, _ => Bool.noConfusion (show false = true from p)
theorem area_all : ∀ (ds : List WData) (vs : List Value), WellAll P h vs ds → plWs ds = true → (∀ d ∈ ds, d.weight ≤ 1048576) → ∃ A : List Addr, (∀ u ∈ vs, OkU A u) ∧ ∀ a ∈ A, ArgOb h A a
  | [], _, x, _, _ => by
    cases x
    exact ⟨[], fun u m => absurd m (by simp), fun a m => absurd m (by simp)⟩
  | d :: ds, _, x, p, z => by
    obtain ⟨v, vs, rfl, x1, x2⟩ := well_cons x
    have q : plW d = true ∧ plWs ds = true := Bool.and_eq_true_iff.mp p
    obtain ⟨A, a1, a2⟩ := area_one d v x1 q.1 (z d (List.mem_cons_self ..))
    obtain ⟨B, b1, b2⟩ := area_all ds vs x2 q.2 fun e he => z e (List.mem_cons_of_mem _ he)
    have kA : ∀ b ∈ A, b ∈ A ++ B := fun b hb => List.mem_append.mpr (.inl hb)
    have kB : ∀ b ∈ B, b ∈ A ++ B := fun b hb => List.mem_append.mpr (.inr hb)
    refine ⟨A ++ B, fun u hu => ?_, fun b hb => ?_⟩
    · rcases List.mem_cons.mp hu with e | m
      · rw [e]
        exact a1.mono kA
      · exact (b1 u m).mono kB
    · rcases List.mem_append.mp hb with m | m
      · exact (a2 b m).mono kA
      · exact (b2 b m).mono kB
end
end
/-- what is tracked of an argument's object -/
def hoOf (o : Obj) : Option HO := match o.data with
  | .seq vs _ => if (o.cls == Value.type "list") = true then some (.frz o (.lst (vs.toList.map toV))) else some (.frz o (.tup (vs.toList.map toV)))
  | _ => none
def argH (K : PySem.W.Frag) (h : Heap) (A : List Addr) : Hp := fun b => if b ∈ A then (if (K.lookup b).isNone = true then (h.get? b).bind hoOf else none) else none
/-- nothing is tracked but what is known to the object -/
def OnlyF (H : Hp) : Prop := ∀ b, H b = none ∨ ∃ o u, H b = some (.frz o u)
theorem hoOf_lst (vs : List Value) : hoOf { cls := .type "list", data := .seq vs.toArray } = some (.frz { cls := .type "list", data := .seq vs.toArray } (.lst (vs.map toV))) := by
  show (if (Value.type "list" == Value.type "list") = true then some (HO.frz { cls := .type "list", data := .seq vs.toArray } (.lst (vs.toArray.toList.map toV))) else some (HO.frz { cls := .type "list", data := .seq vs.toArray } (.tup (vs.toArray.toList.map toV)))) = _
  rw [if_pos (beq_self_eq_true _)]
theorem hoOf_tup (vs : List Value) : hoOf { cls := .type "tuple", data := .seq vs.toArray } = some (.frz { cls := .type "tuple", data := .seq vs.toArray } (.tup (vs.map toV))) := by
  show (if (Value.type "tuple" == Value.type "list") = true then some (HO.frz { cls := .type "tuple", data := .seq vs.toArray } (.lst (vs.toArray.toList.map toV))) else some (HO.frz { cls := .type "tuple", data := .seq vs.toArray } (.tup (vs.toArray.toList.map toV)))) = _
  rw [if_neg (by decide)]
section
variable {P : Program} {w : World} {K : PySem.W.Frag} {h : Heap} {A : List Addr}
theorem argH_at {b : Addr} {o : Obj} (hb : b ∈ A) (hk : K.lookup b = none) (e : h.get? b = some o) : argH K h A b = hoOf o := by
  unfold argH
  rw [if_pos hb, hk, if_pos (show (none : Option Obj).isNone = true from rfl), e] <;> rfl
theorem of_argH {b : Addr} {u : HO} (q : argH K h A b = some u) : b ∈ A ∧ K.lookup b = none := by
  unfold argH at q
  by_cases hb : b ∈ A
  · rw [if_pos hb] at q
    cases hk : K.lookup b with
    | none => exact ⟨hb, rfl⟩
    | some o =>
      rw [hk, if_neg (by simp)] at q
      cases q
  · rw [if_neg hb] at q
    cases q
/-- what stands tracked -/
theorem argH_is (ar : ∀ a ∈ A, ArgOb h A a) {b : Addr} {u : HO} (q : argH K h A b = some u) : K.lookup b = none ∧ ∃ vs : List Value, vs.length ≤ sizeLine ∧ (∀ u ∈ vs, OkU A u) ∧
    ((h.get? b = some { cls := .type "list", data := .seq vs.toArray } ∧ u = .frz { cls := .type "list", data := .seq vs.toArray } (.lst (vs.map toV))) ∨
     (h.get? b = some { cls := .type "tuple", data := .seq vs.toArray } ∧ u = .frz { cls := .type "tuple", data := .seq vs.toArray } (.tup (vs.map toV)))) := by
  obtain ⟨hb, hk⟩ := of_argH q
  obtain ⟨vs, h1, h2, h3⟩ := ar b hb
  refine ⟨hk, vs, h1, h2, ?_⟩
  rcases h3 with e | e
  · rw [argH_at hb hk e, hoOf_lst] at q
    exact .inl ⟨e, (Option.some.inj q).symm⟩
  · rw [argH_at hb hk e, hoOf_tup] at q
    exact .inr ⟨e, (Option.some.inj q).symm⟩
theorem argH_only (ar : ∀ a ∈ A, ArgOb h A a) : OnlyF (argH K h A) := fun b => by
  cases q : argH K h A b with
  | none => exact .inl rfl
  | some u =>
    obtain ⟨_, vs, _, _, ⟨_, e⟩ | ⟨_, e⟩⟩ := argH_is ar q
    · exact .inr ⟨_, _, by rw [e]⟩
    · exact .inr ⟨_, _, by rw [e]⟩
theorem argH_ok (ar : ∀ a ∈ A, ArgOb h A a) : HOk P w (argH K h A) h := fun b u q => by
  obtain ⟨_, vs, h1, h2, ⟨e, rfl⟩ | ⟨e, rfl⟩⟩ := argH_is ar q
  · exact ⟨e, by rw [List.length_map]; exact h1, vs, _, vals_toV h2, e⟩
  · exact ⟨e, by rw [List.length_map]; exact h1, vs, vals_toV h2, _, e, rfl, _, rfl⟩
theorem seq_inj {c c' : Value} {vs us : List Value} (e : (some { cls := c, data := .seq vs.toArray } : Option Obj) = some { cls := c', data := .seq us.toArray }) : c = c' ∧ vs = us := by
  have e1 := Option.some.inj e
  have e2 : c = c' := congrArg Obj.cls e1
  have e3 : Data.seq vs.toArray = Data.seq us.toArray := congrArg Obj.data e1
  injection e3 with e4
  refine ⟨e2, ?_⟩
  have e5 := congrArg Array.toList e4
  simpa using e5
/-- a list argument -/
theorem argL (KX : K.In h) (ar : ∀ a ∈ A, ArgOb h A a) {a : Addr} {vs : List Value} (ha : a ∈ A) (e : h.get? a = some { cls := .type "list", data := .seq vs.toArray }) : (∀ u ∈ vs, OkU A u) ∧ SqL K (argH K h A) a (vs.map toV) := by
  obtain ⟨us, h1, h2, h3⟩ := ar a ha
  have hu : us = vs := by
    rcases h3 with q | q
    · rw [e] at q
      exact (seq_inj q).2.symm
    · rw [e] at q
      exact absurd (Value.type.inj (seq_inj q).1) (by decide)
  subst hu
  refine ⟨h2, ?_⟩
  cases hk : K.lookup a with
  | none => exact .inl (.inr ⟨_, by rw [argH_at ha hk e, hoOf_lst]⟩)
  | some o =>
    have e2 := KX a o hk
    rw [e] at e2
    obtain rfl := Option.some.inj e2
    exact .inr ⟨_, us.toArray, _, hk, rfl, rfl, rfl, by rw [List.size_toArray]; exact h1, by simpa using vals_toV h2⟩
theorem argT (KX : K.In h) (ar : ∀ a ∈ A, ArgOb h A a) {a : Addr} {vs : List Value} (ha : a ∈ A) (e : h.get? a = some { cls := .type "tuple", data := .seq vs.toArray }) : (∀ u ∈ vs, OkU A u) ∧ SqT K (argH K h A) a (vs.map toV) := by
  obtain ⟨us, h1, h2, h3⟩ := ar a ha
  have hu : us = vs := by
    rcases h3 with q | q
    · rw [e] at q
      exact absurd (Value.type.inj (seq_inj q).1) (by decide)
    · rw [e] at q
      exact (seq_inj q).2.symm
  subst hu
  refine ⟨h2, ?_⟩
  cases hk : K.lookup a with
  | none => exact .inl (.inr ⟨_, by rw [argH_at ha hk e, hoOf_tup]⟩)
  | some o =>
    have e2 := KX a o hk
    rw [e] at e2
    obtain rfl := Option.some.inj e2
    exact .inr ⟨_, us.toArray, _, hk, rfl, rfl, by rw [List.size_toArray]; exact h1, by simpa using vals_toV h2⟩
mutual
theorem dw_one {Pm : Params} (KX : K.In h) (ar : ∀ a ∈ A, ArgOb h A a) : ∀ (d : WData) (v : Value), Well Pm h v d → plW d = true → OkU A v → Dw K (argH K h A) (toV v) d
  | .none, _, x, _, _ => by
    cases x
    exact .non
  | .bool b, _, x, _, _ => by
    cases x
    exact .bl b
  | .int i, _, x, _, _ => by
    cases x
    exact .int i
  | .str s, _, x, _, _ => by
    cases x
    exact .str s
  | .bytes b, _, x, _, _ => by
    cases x
    have z := Dw.byt (K := K) (H := argH K h A) b.toArray
    exact z
  | .list ds, _, x, p, hu => by
    obtain ⟨a, vs, rfl, ho, hall⟩ := well_list x
    obtain ⟨h2, hs⟩ := argL KX ar hu ho
    exact .lst hs (dw_all KX ar ds _ hall p h2)
  | .tuple ds, _, x, p, hu => by
    obtain ⟨a, vs, rfl, ho, hall⟩ := well_tuple x
    obtain ⟨h2, hs⟩ := argT KX ar hu ho
    exact .tup hs (dw_all KX ar ds _ hall p h2)
  | .float _, _, _, p, _ => Bool.noConfusion (show false = true from p)
  | .dict _, _, _, p, _ => Bool.noConfusion (show false = true from p)
  | .bytearray _, _, _, p, _ => Bool.noConfusion (show false = true from p)
  | .set _, _, _, p, _ => Bool.noConfusion (show false = true from p)
  | .frozenset _, _, _, p, _ => Bool.noConfusion (show false = true from p)
  | .obj _ _, _, _, p, _ => Bool.noConfusion (show false = true from p)
theorem dw_all {Pm : Params} (KX : K.In h) (ar : ∀ a ∈ A, ArgOb h A a) : ∀ (ds : List WData) (vs : List Value), WellAll Pm h vs ds → plWs ds = true → (∀ u ∈ vs, OkU A u) → DwAll K (argH K h A) (vs.map toV) ds
  | [], _, x, _, _ => by
    cases x
    exact .nil
  | d :: ds, _, x, p, hu => by
    obtain ⟨v, vs, rfl, x1, x2⟩ := well_cons x
    have q : plW d = true ∧ plWs ds = true := Bool.and_eq_true_iff.mp p
    exact .cons (dw_one KX ar d v x1 q.1 (hu _ (List.mem_cons_self ..))) (dw_all KX ar ds vs x2 q.2 fun u m => hu u (List.mem_cons_of_mem _ m))
end
end
/-! ### the call -/
theorem spec_call {P : Program} {w : World} {K : PySem.W.Frag} {mg mb : Str → Option Value} {CX : CXT} {k : Nat} {fa : Addr} {fd : FuncData} {ps : List Str} {sp : Sp} {s₁ : Shared} {vals : List Value} {ds : List WData} {R : PySem.W.WRecords} {cl : Str → Option Addr} {d0 : WData}
    (KX : K.In s₁.heap) (hns : s₁.heap.Ns mainGlobals mg) (hb : s₁.heap.Ns builtinsNs mb) (hbb : ∀ x : Str, x ≠ "__name__" → mb x = bootBuiltins x) (hlim : s₁.heap.NoLimit) (hg : s₁.gens = #[])
    (hwl : WellAll w.params s₁.heap vals ds) (hpl : plWs ds = true) (hwt : ∀ d ∈ ds, d.weight ≤ 1048576) (hr : Room k callerA)
    (F : ∀ base : Heap, K.In base → base.Ns mainGlobals mg → FnOk P w K mg base CX k fa fd ps sp) (hbind : ∀ (s : Shared) (us : List Value), us.length = ps.length → BindsTo s fd ⟨us, []⟩ (ps.zip us)) (hlen : ds.length = ps.length)
    (hsp : ∀ (H : Hp) (xs : List V), OnlyF H → DwAll K H xs ds → sp xs H (fun v H' => Dw K H' v d0) fun _ _ _ => False)
    (hCX : ∀ H e s', CX [] H s₁ (fun _ _ _ => False) e s' → False) :
    codeAny (model P w) callerA (.call (.ref fa) ⟨vals, []⟩) (fun r s' => ∃ u as, r = .ok (.ret u) ∧ ReadsW R cl s'.heap u d0 as ∧ OldK s₁.heap s'.heap ∧ s'.os = s₁.os ∧ AllBare s'.gens) s₁ := by
  obtain ⟨A, ho, ar⟩ := area_all ds vals hwl hpl hwt
  have hO : OnlyF (argH K s₁.heap A) := argH_only ar
  have hok : HOk P w (argH K s₁.heap A) s₁.heap := argH_ok ar
  have hS := dw_all KX ar ds vals hwl hpl ho
  have hV := vals_toV ho
  have hK : ∀ b u, argH K s₁.heap A b = some u → K.lookup b = none := fun b u q => (argH_is ar q).1
  have noA : ∀ {b : Addr} {o : Obj} {es : Array DictEntry} {ep : Nat}, s₁.heap.get? b = some o → o.data = .dict es ep → argH K s₁.heap A b = none := fun {b o es ep} e d => by
    cases q : argH K s₁.heap A b with
    | none => rfl
    | some u =>
      obtain ⟨_, vs, _, _, ⟨e2, _⟩ | ⟨e2, _⟩⟩ := argH_is ar q
      · rw [e2] at e
        cases e
        have d' : Data.seq vs.toArray _ = Data.dict es ep := d
        cases d'
      · rw [e2] at e
        cases e
        have d' : Data.seq vs.toArray _ = Data.dict es ep := d
        cases d'
  generalize argH K s₁.heap A = H at hO hok hS hK noA
  have base_of : ∀ {b : Addr} {o : Obj}, s₁.heap.get? b = some o → H b = none → (hidT s₁.heap H).get? b = some o := fun e n => hidT_get e n
  have nsK : ∀ {b : Addr} {m : Str → Option Value}, s₁.heap.Ns b m → (hidT s₁.heap H).Ns b m := fun {b m} ⟨o, es, ep, e, d, r⟩ => ⟨o, es, ep, base_of e (noA e d), d, r⟩
  have nK : ∀ b o, K.lookup b = some o → H b = none := fun b o e => by
    cases q : H b with
    | none => rfl
    | some u =>
      rw [hK b u q] at e
      cases e
  have hKb : K.In (hidT s₁.heap H) := fun b o e => base_of (KX b o e) (nK b o e)
  have hM : Mod K mg (hidT s₁.heap H) := ⟨hKb, nsK hns, ⟨mb, nsK hb, hbb⟩, let ⟨mc, h1, h2⟩ := hlim; ⟨mc, nsK h1, h2⟩⟩
  have e0 : Env0 P w K mg (hidT s₁.heap H) callerA [] s₁ H := ⟨rfl, hM, fun b o e => of_hidT e, Nat.le_of_eq (hidT_size _ _), trivial, fun b hb => absurd (show b ∈ ([] : List Addr) from hb) (by simp), hok, .of_eq hg⟩
  have hl : vals.length = ps.length := by rw [wellAll_len hwl]; exact hlen
  refine codeAny_mono ((F _ hKb (nsK hns)).run callerA [] s₁ H ⟨vals, []⟩ vals (vals.map toV) _ _ hr e0 (hbind s₁ vals hl) hV (hsp H _ hO hS)) fun r s' x => ?_
  cases r with
  | error e => exact (hCX H e s' x).elim
  | ok fl =>
    cases fl with
    | next => exact False.elim x
    | brk => exact False.elim x
    | cont => exact False.elim x
    | ret u =>
      obtain ⟨v, H', os, bare, un, hok', r', q⟩ := x
      have kept : ∀ b o, s₁.heap.get? b = some o → s'.heap.get? b = some o := fun b o e => by
        cases q2 : H b with
        | none => exact un.keep b o e q2 (by intro z; exact absurd (show b ∈ ([] : List Addr) from z) (by simp)) (by simp)
        | some u2 =>
          rcases hO b with z | ⟨ob, u3, z⟩
          · rw [q2] at z
            cases z
          · have z2 := un.frzs b ob _ z
            obtain ⟨e1, _⟩ := hok b _ z
            obtain ⟨e2, _⟩ := hok' b _ z2
            rw [e] at e1
            cases e1
            exact e2
      have KX' : K.In s'.heap := fun b o e => kept b o (KX b o e)
      obtain ⟨as, hrd⟩ := Dw.reads (R := R) (cl := cl) hok' KX' d0 v u q r'
      exact ⟨u, as, rfl, hrd, OldK.of_keep kept, os, bare⟩
/-! ### the row -/
theorem layable_weight {ds : List WData} (h : WData.layableAll ds = true) : ∀ d ∈ ds, d.weight ≤ 1048576 := fun d hd =>
  (PySem.W.layableW_iff.mp (List.all_eq_true.mp h d hd)).2.2
theorem encAll_len : ∀ (cs : List Codec) (a : Codec.denoteAll cs), (Codec.encAll cs a).length = cs.length
  | [], _ => rfl
  | c :: cs, a => by
    show (Codec.encAll cs a.2).length + 1 = cs.length + 1
    rw [encAll_len cs a.2]
/-- the goal that k_headS leaves (case hc), from the promise of the row's def: whatever the arguments that the codecs let and the row asks for, the def gives what stands for enc (f ..) -/
theorem walk_spec {r : OpenSpec} {k : Nat} {q : Program} {loose : List Str} {XP : (Str → Option Value) → Heap → Prop} {YP : World → Heap → Prop} {d : DefRec} {K : Params → PySem.W.Frag} {CX : World → CXT} {ps : List Str} {sp : World → Sp}
    (hwell : r.wellSaid = true) (hdf : d.params.defaults = []) (hlen : r.args.length = ps.length) (hr : Room k callerA)
    (hY : ∀ (w : World) (h : Heap), YP w h → (K w.params).In h)
    (F : ∀ (w : World) (mg : Str → Option Value) (fa : Addr) (h : Heap), YP w h → (K w.params).In h → h.Ns mainGlobals mg → mg d.name = some (.ref fa) →
      ∃ fd : FuncData, (∀ (s : Shared) (us : List Value), us.length = ps.length → BindsTo s fd ⟨us, []⟩ (ps.zip us)) ∧
        ∀ base : Heap, (K w.params).In base → base.Ns mainGlobals mg → FnOk r.prog w (K w.params) mg base (CX w) k fa fd ps (sp w))
    (hsp : ∀ (w : World) (H : Hp) (xs : List V) (a : Codec.denoteAll r.args), OnlyF H → Codec.withinAll r.args a = true → Codec.app r.args r.asked a = true → DwAll (K w.params) H xs (Codec.encAll r.args a) →
      sp w xs H (fun v H' => Dw (K w.params) H' v (r.ret.enc (Codec.app r.args r.f a))) fun _ _ _ => False)
    (hCX : ∀ (w : World) (H : Hp) (s : Shared) (e : Value) (s' : Shared), CX w [] H s (fun _ _ _ => False) e s' → False) :
    PySem.W.WalkOS q loose XP YP r d [] (fun f vs => PySem.call f vs) := by
  intro w s_0 s₁ mg mb G Y fa o pm cd doc dV kV ho hd hcd hD hmg hg args vals as hpre hlay hrd hwl hlo
  obtain ⟨a, e1, e2⟩ := PySem.W.os_pre_some hpre
  obtain ⟨e3, hwi⟩ := Codec.encAll_of_decAll r.args args a e1
  subst e3
  have KX := hY w _ Y
  obtain ⟨fd, hb, hF⟩ := F w mg fa _ Y KX G.T.g hmg
  refine PySem.W.enter_call (codeAny_mono (spec_call (R := []) (cl := classAt s_0.heap) (d0 := r.ret.enc (Codec.app r.args r.f a)) KX G.T.g G.T.b G.T.builtins G.T.nolimit hg hwl (pl_encAll _ _) (layable_weight hlay) hr hF hb (by rw [encAll_len]; exact hlen)
    (fun H xs hO hS => hsp w H xs a hO hwi e2 hS) fun H e s' => hCX w H s₁ e s') fun r' s' hq => ?_)
  obtain ⟨u, as', rfl, h1, h2, h3, h4⟩ := hq
  exact ⟨.inl ⟨u, _, as', rfl, fun _ => rfl, h1, (OpenSpec.post_iff hwell hwi _ _).mpr rfl, fun z => Bool.noConfusion (show false = true from z)⟩, h2, h3, h4⟩
/-- the same where the promise hangs on the written part alone -/
theorem walk_specK {r : OpenSpec} {k : Nat} {q : Program} {loose : List Str} {XP : (Str → Option Value) → Heap → Prop} {YP : World → Heap → Prop} {d : DefRec} {K : Params → PySem.W.Frag} {CX : CXT} {ps : List Str} {sp : PySem.W.Frag → Sp}
    (hwell : r.wellSaid = true) (hdf : d.params.defaults = []) (hlen : r.args.length = ps.length) (hr : Room k callerA)
    (hY : ∀ (w : World) (h : Heap), YP w h → (K w.params).In h)
    (F : ∀ (w : World) (mg : Str → Option Value) (fa : Addr) (h : Heap), YP w h → (K w.params).In h → h.Ns mainGlobals mg → mg d.name = some (.ref fa) →
      ∃ fd : FuncData, (∀ (s : Shared) (us : List Value), us.length = ps.length → BindsTo s fd ⟨us, []⟩ (ps.zip us)) ∧
        ∀ base : Heap, (K w.params).In base → base.Ns mainGlobals mg → FnOk r.prog w (K w.params) mg base CX k fa fd ps (sp (K w.params)))
    (hsp : ∀ (K : PySem.W.Frag) (H : Hp) (xs : List V) (a : Codec.denoteAll r.args), OnlyF H → Codec.withinAll r.args a = true → Codec.app r.args r.asked a = true → DwAll K H xs (Codec.encAll r.args a) →
      sp K xs H (fun v H' => Dw K H' v (r.ret.enc (Codec.app r.args r.f a))) fun _ _ _ => False)
    (hCX : ∀ (H : Hp) (s : Shared) (e : Value) (s' : Shared), CX [] H s (fun _ _ _ => False) e s' → False) :
    PySem.W.WalkOS q loose XP YP r d [] (fun f vs => PySem.call f vs) :=
  walk_spec (K := K) (CX := fun _ => CX) (sp := fun w => sp (K w.params)) hwell hdf hlen hr hY F (fun w H xs a h1 h2 h3 h4 => hsp (K w.params) H xs a h1 h2 h3 h4) fun _ H s e s' => hCX H s e s'
end L2
end

set_option Elab.async false
set_option linter.all false
set_option maxRecDepth 100000
set_option maxHeartbeats 2000000

namespace L2
open PySem PySem.Spec PyProof.Rows
abbrev CellAt (h : Heap) (c : Addr) (v : Option Value) : Prop := h.IsCell c v
def relS (scope sc : Scope) : Scope :=
  { scope with names := scope.names.map fun (n, k) => if (k == .free && sc.kind == .function && sc.names.lookup n == some .cell) then (n, .cell) else (n, k) }

def cloFrom (cells : List (Str × Addr)) : List (Str × NameKind) → List (Str × Addr) → List (Str × Addr)
  | [], acc => acc
  | (n, k) :: r, acc => if k == .free then cloFrom cells r ((n, (cells.lookup n).getD 0) :: acc) else cloFrom cells r acc

theorem closure_loop (env : Env) (f : Str × NameKind → List (Str × Addr) → Sem (ForInStep (List (Str × Addr))))
    (hf : ∀ n k c, f (n, k) c = if k == .free then (do let a ← cellOf env n; pure (.yield ((n, a) :: c))) else pure (.yield c)) :
    ∀ (names : List (Str × NameKind)) (acc : List (Str × Addr)), (∀ y ∈ names, y.2 = .free → ∃ c, env.cells.lookup y.1 = some c) → forIn names acc f = pure (cloFrom env.cells names acc)
  | [], acc, _ => by rw [List.forIn_nil]; rfl
  | (n, k) :: r, acc, h => by
    rw [List.forIn_cons, hf]
    have ih := fun acc => closure_loop env f hf r acc fun y hy => h y (List.mem_cons_of_mem _ hy)
    unfold cloFrom
    by_cases hk : (k == NameKind.free) = true
    · rw [if_pos hk, if_pos hk]
      obtain ⟨c, hc⟩ := h (n, k) List.mem_cons_self (by simpa using hk)
      have e : cellOf env n = pure c := by unfold cellOf; rw [hc]
      rw [e]
      have e2 : (env.cells.lookup n).getD 0 = c := by rw [hc]; rfl
      rw [e2]
      exact ih _
    · rw [if_neg hk, if_neg hk]
      exact ih _
theorem closure_ok {scope : Scope} {env : Env} (h : ∀ y ∈ scope.names, y.2 = .free → ∃ c, env.cells.lookup y.1 = some c) : closureFor scope env = pure (cloFrom env.cells scope.names []) := by
  simp only [closureFor]
  rw [closure_loop env _ (fun n k c => rfl) scope.names [] h]
  rfl

theorem mem_lookup {α : Type} : ∀ {l : List (Str × α)} {n : Str} {c : α}, (n, c) ∈ l → ∃ c', l.lookup n = some c'
  | (k, v) :: r, n, c, h => by
    rw [List.lookup_cons]
    cases hb : n == k with
    | true => exact ⟨_, rfl⟩
    | false =>
      rcases List.mem_cons.mp h with e | h
      · cases e; simp at hb
      · exact mem_lookup h

theorem cloFrom_mem {cells : List (Str × Addr)} : ∀ {names : List (Str × NameKind)} {acc : List (Str × Addr)} {n : Str} {c : Addr}, (n, c) ∈ cloFrom cells names acc → (n, c) ∈ acc ∨ ((n, .free) ∈ names ∧ c = (cells.lookup n).getD 0)
  | [], _, _, _, h => .inl h
  | (m, k) :: r, acc, n, c, h => by
    unfold cloFrom at h
    split at h
    · rename_i hk
      have hk : k = .free := by simpa using hk
      rcases cloFrom_mem h with h | ⟨h1, h2⟩
      · rcases List.mem_cons.mp h with e | h
        · cases e; exact .inr ⟨hk ▸ List.mem_cons_self, rfl⟩
        · exact .inl h
      · exact .inr ⟨List.mem_cons_of_mem _ h1, h2⟩
    · rcases cloFrom_mem h with h | ⟨h1, h2⟩
      · exact .inl h
      · exact .inr ⟨List.mem_cons_of_mem _ h1, h2⟩
theorem cloFrom_acc {cells : List (Str × Addr)} : ∀ {names : List (Str × NameKind)} {acc : List (Str × Addr)} {p : Str × Addr}, p ∈ acc → p ∈ cloFrom cells names acc
  | [], _, _, h => h
  | (m, k) :: r, acc, p, h => by
    unfold cloFrom
    split
    · exact cloFrom_acc (List.mem_cons_of_mem _ h)
    · exact cloFrom_acc h
theorem cloFrom_has {cells : List (Str × Addr)} : ∀ {names : List (Str × NameKind)} {acc : List (Str × Addr)} {n : Str}, (n, .free) ∈ names → (n, (cells.lookup n).getD 0) ∈ cloFrom cells names acc
  | (m, k) :: r, acc, n, h => by
    unfold cloFrom
    rcases List.mem_cons.mp h with e | h
    · cases e
      exact cloFrom_acc List.mem_cons_self
    · split
      · exact cloFrom_has h
      · exact cloFrom_has h

theorem cells_mem : ∀ {names : List (Str × NameKind)} {h : Heap} {acc : List (Str × Addr)} {x : Str} {c : Addr}, (x, c) ∈ cellsFrom h.objs.size names acc →
    (x, c) ∈ acc ∨ ((x, .cell) ∈ names ∧ h.objs.size ≤ c ∧ CellAt (pushCells h names) c none)
  | [], _, _, _, _, h => .inl h
  | (n, k) :: r, h, acc, x, c, hm => by
    unfold cellsFrom at hm
    unfold pushCells
    split at hm
    · rename_i hk
      rw [if_pos hk]
      have hk : k = .cell := by simpa using hk
      rw [← Heap.size_push h { cls := .type "cell", data := .cell none }] at hm
      rcases cells_mem hm with hm | ⟨h1, h2, h3⟩
      · rcases List.mem_cons.mp hm with e | hm
        · cases e
          exact .inr ⟨hk ▸ List.mem_cons_self, Nat.le_refl _, _, pushCells_keeps r _ _ _ (Heap.get?_push_size _ rfl), rfl⟩
        · exact .inl hm
      · rw [Heap.size_push] at h2
        exact .inr ⟨List.mem_cons_of_mem _ h1, Nat.le_of_succ_le h2, h3⟩
    · rename_i hk
      rw [if_neg hk]
      rcases cells_mem hm with hm | ⟨h1, h2, h3⟩
      · exact .inl hm
      · exact .inr ⟨List.mem_cons_of_mem _ h1, h2, h3⟩
theorem cells_acc : ∀ {names : List (Str × NameKind)} {n : Nat} {acc : List (Str × Addr)} {p : Str × Addr}, p ∈ acc → p ∈ cellsFrom n names acc
  | [], _, _, _, h => h
  | (m, k) :: r, n, acc, p, h => by
    unfold cellsFrom
    split
    · exact cells_acc (List.mem_cons_of_mem _ h)
    · exact cells_acc h
theorem cells_has : ∀ {names : List (Str × NameKind)} {n : Nat} {acc : List (Str × Addr)} {x : Str}, (x, .cell) ∈ names → ∃ c, (x, c) ∈ cellsFrom n names acc
  | (m, k) :: r, n, acc, x, h => by
    unfold cellsFrom
    rcases List.mem_cons.mp h with e | h
    · cases e
      exact ⟨n, cells_acc List.mem_cons_self⟩
    · split
      · exact cells_has h
      · exact cells_has h
theorem cells_inj : ∀ {names : List (Str × NameKind)} {h : Heap} {acc : List (Str × Addr)} {x y : Str} {c : Addr}, (∀ p ∈ acc, p.2 < h.objs.size) → (∀ x y c, (x, c) ∈ acc → (y, c) ∈ acc → x = y) →
    (x, c) ∈ cellsFrom h.objs.size names acc → (y, c) ∈ cellsFrom h.objs.size names acc → x = y
  | [], _, _, _, _, _, _, hi, h1, h2 => hi _ _ _ h1 h2
  | (n, k) :: r, h, acc, x, y, c, hl, hi, h1, h2 => by
    unfold cellsFrom at h1 h2
    split at h1
    · rename_i hk
      rw [if_pos hk] at h2
      rw [← Heap.size_push h { cls := .type "cell", data := .cell none }] at h1 h2
      refine cells_inj (h := h.push _) (fun p hp => ?_) (fun x y c a b => ?_) h1 h2
      · rw [Heap.size_push]
        rcases List.mem_cons.mp hp with rfl | hp
        · exact Nat.lt_succ_self _
        · exact Nat.lt_succ_of_lt (hl p hp)
      · rcases List.mem_cons.mp a with e | a <;> rcases List.mem_cons.mp b with e' | b
        · cases e; cases e'; rfl
        · cases e; exact absurd (hl _ b) (Nat.lt_irrefl _)
        · cases e'; exact absurd (hl _ a) (Nat.lt_irrefl _)
        · exact hi _ _ _ a b
    · rename_i hk
      rw [if_neg hk] at h2
      exact cells_inj hl hi h1 h2

theorem newEnv_comp {M : Model} {A : Around} {E : Value → Shared → Prop} {s : Shared} {scope : Scope} {globals : Addr} {closure : List (Str × Addr)} {qual : Str} {func : Option Addr} {code : Value} {around : Env} {builtins : Addr} {Q : Env → Shared → Prop}
    (h : Q (newEnv scope s.heap.objs.size globals (cellsFrom (s.heap.objs.size + 1) scope.names closure) qual func code (some around) builtins)
      { s with heap := pushCells (s.heap.push { cls := .type "dict", data := .dict #[] }) scope.names }) :
    wpAny M A (newFunctionEnv scope globals closure [] qual func code (some around) builtins) Q E s := by
  simp only [newFunctionEnv, Option.isSome_some, if_true]
  refine wpAny_bind (wpAny_alloc ?_)
  refine wpAny_bind (wpAny_layCells _ (fun n k c => rfl) scope.names closure _ _ ?_)
  rw [show ({ s with heap := s.heap.push { cls := .type "dict", data := .dict #[] } } : Shared).heap.objs.size = s.heap.objs.size + 1 from Heap.size_push ..]
  rw [List.forIn_nil]
  exact wpAny_bind (wpAny_pure (wpAny_pure h))

/-- every name of the written scope, in the scope that runs -/
theorem lookup_relS {sc : Scope} : ∀ {names : List (Str × NameKind)} {x : Str} {k : NameKind},
    (names.map fun (n, k) => if (k == NameKind.free && sc.kind == .function && sc.names.lookup n == some .cell) then (n, NameKind.cell) else (n, k)).lookup x = some k →
    ∃ k', names.lookup x = some k' ∧ (k = k' ∨ (k' = .free ∧ k = .cell))
  | [], _, _, h => by simp at h
  | (n, k₀) :: r, x, k, h => by
    have ih := @lookup_relS sc r x k
    have h' : List.lookup x ((if (k₀ == NameKind.free && sc.kind == .function && sc.names.lookup n == some .cell) = true then (n, NameKind.cell) else (n, k₀)) :: (r.map _)) = some k := h
    cases hx : x == n with
    | true =>
      simp only [List.lookup_cons, hx]
      by_cases hc : (k₀ == NameKind.free && sc.kind == .function && sc.names.lookup n == some .cell) = true
      · rw [if_pos hc] at h'
        simp only [List.lookup_cons, hx] at h'
        cases h'
        simp only [Bool.and_eq_true, beq_iff_eq] at hc
        exact ⟨k₀, rfl, .inr ⟨hc.1.1, rfl⟩⟩
      · rw [if_neg hc] at h'
        simp only [List.lookup_cons, hx] at h'
        cases h'
        exact ⟨_, rfl, .inl rfl⟩
    | false =>
      simp only [List.lookup_cons, hx]
      by_cases hc : (k₀ == NameKind.free && sc.kind == .function && sc.names.lookup n == some .cell) = true
      · rw [if_pos hc] at h'
        simp only [List.lookup_cons, hx] at h'
        exact ih h'
      · rw [if_neg hc] at h'
        simp only [List.lookup_cons, hx] at h'
        exact ih h'
/-- the names of a comprehension's block: its own (with their places in N), or captured -/
structure BlkOk (N : List Str) (sc scope : Scope) (own : List (Str × Nat)) : Prop where
  kind : scope.kind = .function
  uniq : ∀ y ∈ scope.names, scope.names.lookup y.1 = some y.2
  ix : ∀ p ∈ own, N[p.2]? = some p.1
  free : ∀ y ∈ scope.names, y.2 = .free → sc.names.lookup y.1 = some .cell ∨ sc.names.lookup y.1 = some .free
  own : ∀ y ∈ scope.names, y.2 = .local ∨ y.2 = .cell → y.1 ∈ own.map (·.1) ∨ y.1 ∉ N
/-- the slots of the block's own names forgotten -/
def wipe (σ : St) : List Nat → St
  | [] => σ
  | v :: vs => (wipe σ vs).set v none
theorem wipe_length (σ : St) : ∀ vs : List Nat, (wipe σ vs).length = σ.length
  | [] => rfl
  | v :: vs => by unfold wipe; rw [List.length_set, wipe_length σ vs]
theorem wipe_some {σ : St} {i : Nat} {x : V} : ∀ {vs : List Nat}, (wipe σ vs)[i]? = some (some x) → σ[i]? = some (some x) ∧ i ∉ vs
  | [], h => ⟨h, by simp⟩
  | v :: vs, h => by
    unfold wipe at h
    by_cases hi : v = i
    · subst hi
      by_cases hv : v < (wipe σ vs).length
      · rw [List.getElem?_set_self hv] at h; cases h
      · rw [List.getElem?_eq_none (by simpa using hv)] at h; cases h
    · rw [List.getElem?_set_ne hi] at h
      obtain ⟨h1, h2⟩ := wipe_some h
      exact ⟨h1, by simp only [List.mem_cons, not_or]; exact ⟨fun e => hi e.symm, h2⟩⟩

/-- the context of a block that starts at s, its iterator's objects at fp -/
abbrev Cx.blk (X : Cx) (s : Shared) (H : Hp) (scope : Scope) (cenv : Env) (fp : List Addr) : Cx := { X with s_0 := s, H_0 := H, env := cenv, outer := X.stack, ex := fp, fn := fun x => scope.names.lookup x == some .cell, pn := [], xe := fun _ _ => False }
section
variable {X : Cx} {pins : List (Addr × Obj)} {σ : St} {H : Hp} {s : Shared}
theorem block_start {scope : Scope} {own : List (Str × Nat)} {fp : List Addr} (I : Inv X pins σ H s) (ok : BlkOk X.N X.env.scope scope own) (hN : X.N.Nodup) (hfp : ∀ b ∈ fp, FpOk X pins H b ∧ b < s.heap.objs.size) :
    Inv (X.blk s H scope (compEnvC scope (cellsFrom (s.heap.objs.size + 1) scope.names (cloFrom X.env.cells scope.names [])) s.heap.objs.size X.env) fp) [] (wipe σ (own.map (·.2))) H { s with heap := pushCells (s.heap.push { cls := .type "dict", data := .dict #[] }) scope.names } := by
  have hfree : ∀ y ∈ scope.names, y.2 = .free → ∃ c, X.env.cells.lookup y.1 = some c := fun y hy e => by
    rcases ok.free y hy e with k | k
    · exact I.ok.has _ (.inl k)
    · exact I.ok.has _ (.inr k)
  generalize hcenv : compEnvC scope (cellsFrom (s.heap.objs.size + 1) scope.names (cloFrom X.env.cells scope.names [])) s.heap.objs.size X.env = cenv
  have kp : ∀ b o, s.heap.get? b = some o → (pushCells (s.heap.push { cls := .type "dict", data := .dict #[] }) scope.names).get? b = some o := fun b o e => pushCells_keeps _ _ _ _ (Heap.get?_push_of_some _ e)
  have hL : cenv.locals = s.heap.objs.size := by rw [← hcenv]; rfl
  have hcl : cenv.cells = cellsFrom (s.heap.objs.size + 1) scope.names (cloFrom X.env.cells scope.names []) := by rw [← hcenv]; rfl
  have hsc : cenv.scope = relS scope X.env.scope := by rw [← hcenv]; rfl
  rw [← Heap.size_push s.heap { cls := .type "dict", data := .dict #[] }] at hcl
  have cm : ∀ {y c}, (y, c) ∈ cloFrom X.env.cells scope.names [] → X.env.cells.lookup y = some c ∧ c < s.heap.objs.size := fun {y c} hm => by
    rcases cloFrom_mem hm with hm | ⟨h1, rfl⟩
    · cases hm
    · obtain ⟨c, hc⟩ := hfree _ h1 rfl
      rw [hc]
      obtain ⟨w, z⟩ := I.cell _ _ hc
      exact ⟨rfl, z.lt⟩
  have mem : ∀ {y c}, cenv.cells.lookup y = some c → (X.env.cells.lookup y = some c ∧ c < s.heap.objs.size) ∨ (s.heap.objs.size + 1 ≤ c ∧ CellAt (pushCells (s.heap.push { cls := .type "dict", data := .dict #[] }) scope.names) c none) := fun {y c} e => by
    rw [hcl] at e
    rcases cells_mem (PySem.mem_of_lookup e) with hm | ⟨_, h2, h3⟩
    · exact .inl (cm hm)
    · rw [Heap.size_push] at h2; exact .inr ⟨h2, h3⟩
  have look : ∀ {y}, scope.names.lookup y = some .free → ∃ c, cenv.cells.lookup y = some c ∧ X.env.cells.lookup y = some c := fun {y} hl => by
    have hy : (y, NameKind.free) ∈ scope.names := PySem.mem_of_lookup hl
    obtain ⟨c', e'⟩ := mem_lookup (cells_acc (names := scope.names) (n := (s.heap.push { cls := .type "dict", data := .dict #[] }).objs.size) (cloFrom_has (cells := X.env.cells) (acc := []) hy))
    rw [← hcl] at e'
    refine ⟨c', e', ?_⟩
    rw [hcl] at e'
    rcases cells_mem (PySem.mem_of_lookup e') with hm | ⟨h1, _, _⟩
    · exact (cm hm).1
    · have := ok.uniq _ h1
      rw [hl] at this; cases this
  have okB : (X.blk s H scope cenv fp).Ok := by
    refine ⟨I.ok.mod, by show cenv.scope.kind = _; rw [hsc]; exact ok.kind, by show cenv.globals = _; rw [← hcenv]; exact I.ok.glob, by show cenv.builtins = _; rw [← hcenv]; exact I.ok.blt, by show s.heap.objs.size ≤ cenv.locals; rw [hL]; exact Nat.le_refl _,
      fun y z c e1 e2 => ?_, fun y hy => ?_, fun y c z e => ?_, I.ok.hd, I.ok.frames, .inl rfl, fun b hb => ⟨?_, fun y c e z => ?_⟩, I.bs, Nat.le_trans I.ok.bsz I.sz, fun b o e hb => ?_, fun b hb z => ?_, I.stack, I.stkFree⟩
    · have e1 : cenv.cells.lookup y = some c := e1
      have e2 : cenv.cells.lookup z = some c := e2
      rw [hcl] at e1 e2
      refine cells_inj (fun p hp => ?_) (fun y z c a b => I.ok.inj y z c (cm a).1 (cm b).1) (PySem.mem_of_lookup e1) (PySem.mem_of_lookup e2)
      rw [Heap.size_push]
      exact Nat.lt_succ_of_lt (cm (y := p.1) (c := p.2) hp).2
    · show ∃ c, cenv.cells.lookup y = some c
      have key : ∀ k, cenv.kindOf y = some k → (k = .cell ∨ k = .free) → ∃ c, cenv.cells.lookup y = some c := fun k hk hk' => by
        unfold Env.kindOf at hk
        rw [hsc] at hk
        obtain ⟨k', e, r⟩ := lookup_relS hk
        have : k' = .cell ∨ k' = .free := by
          rcases r with rfl | ⟨rfl, _⟩
          · exact hk'
          · exact .inr rfl
        rcases this with rfl | rfl
        · obtain ⟨c, hm⟩ := cells_has (n := (s.heap.push { cls := .type "dict", data := .dict #[] }).objs.size) (acc := cloFrom X.env.cells scope.names []) (PySem.mem_of_lookup e)
          obtain ⟨c', e'⟩ := mem_lookup hm
          exact ⟨c', by rw [hcl]; exact e'⟩
        · obtain ⟨c, h1, _⟩ := look e
          exact ⟨c, h1⟩
      rcases hy with hy | hy
      · exact key _ hy (.inl rfl)
      · exact key _ hy (.inr rfl)
    · have z : (scope.names.lookup y == some NameKind.cell) = true := z
      have z : scope.names.lookup y = some .cell := by simpa using z
      have e : cenv.cells.lookup y = some c := e
      rw [hcl] at e
      rcases cells_mem (PySem.mem_of_lookup e) with hm | ⟨_, h2, _⟩
      · rcases cloFrom_mem hm with hm | ⟨h1, _⟩
        · cases hm
        · have q := ok.uniq _ h1
          rw [z] at q; cases q
      · rw [Heap.size_push] at h2
        exact Nat.le_of_succ_le h2
    · show b ≠ cenv.locals
      rw [hL]; exact Nat.ne_of_lt (hfp b hb).2
    · have e : cenv.cells.lookup y = some c := e
      rcases mem e with ⟨h1, _⟩ | ⟨h1, _⟩
      · exact (hfp b hb).1.2.2.2.2.1 y c h1 z
      · have h2 : s.heap.objs.size + 1 ≤ b := by rw [← z]; exact h1
        exact absurd (Nat.lt_of_lt_of_le (hfp b hb).2 (Nat.le_of_succ_le h2)) (Nat.lt_irrefl _)
    · rcases (hfp b hb).1.2.2.2.1 with z | z
      · exact I.ok.noex b o e z
      · exact absurd (Nat.lt_of_lt_of_le (Heap.lt_size e) (Nat.le_trans I.ok.bsz z)) (Nat.lt_irrefl _)
    · rcases List.mem_cons.mp (I.stkSub b z) with z | z
      · exact (hfp b hb).1.2.1 z
      · exact (hfp b hb).1.2.2.1 z
  refine ⟨okB, rfl, I.bare, Un.kept kp, ⟨fun _ => none, ?_, fun i y av e1 e2 e3 => ?_⟩, fun y c e => ?_, ?_, fun y c e => ?_, fun p hp => ?_, I.hok.kept kp, by rw [wipe_length]; exact I.len⟩
  · show Heap.Ns _ cenv.locals _
    rw [hL]
    exact Heap.Ns.keeps (Heap.Ns.new ..) fun b o e => pushCells_keeps _ _ _ _ e
  · obtain ⟨e2, hne⟩ := wipe_some e2
    have hfr : scope.names.lookup y = some .free ∧ (cenv.kindOf y = some .cell ∨ cenv.kindOf y = some .free) := by
      have key : ∀ k, cenv.scope.names.lookup y = some k → k = .local ∨ k = .cell ∨ k = .free → scope.names.lookup y = some .free ∧ (cenv.kindOf y = some .cell ∨ cenv.kindOf y = some .free) := fun k hk hk' => by
        have hk0 := hk
        rw [hsc] at hk
        obtain ⟨k', e, r⟩ := lookup_relS hk
        have no : ¬ (k' = .local ∨ k' = .cell) := fun hh => by
          rcases ok.own _ (PySem.mem_of_lookup e) hh with e' | e'
          · obtain ⟨p, hp, hpy⟩ := List.mem_map.mp e'
            have e3 := ok.ix p hp
            have : p.1 = y := hpy
            rw [this] at e3
            exact hne (List.mem_map.mpr ⟨p, hp, nodup_ix hN e3 e1⟩)
          · exact e' (List.mem_of_getElem? e1)
        rcases r with rfl | ⟨rfl, rfl⟩
        · rcases hk' with rfl | rfl | rfl
          · exact absurd (.inl rfl) no
          · exact absurd (.inr rfl) no
          · exact ⟨e, .inr hk0⟩
        · exact ⟨e, .inl hk0⟩
      have e3 : Vis cenv.scope y := e3
      rcases e3 with e3 | e3 | e3
      · exact key _ e3 (.inl rfl)
      · exact key _ e3 (.inr (.inl rfl))
      · exact key _ e3 (.inr (.inr rfl))
    obtain ⟨m, hn, hl⟩ := I.loc
    have hvis : Vis X.env.scope y := (ok.free _ (PySem.mem_of_lookup hfr.1) rfl).elim (fun k => .inr (.inl k)) (fun k => .inr (.inr k))
    obtain ⟨w, r, q⟩ := hl i y av e1 e2 hvis
    refine ⟨w, r, .inr ⟨hfr.2, ?_⟩⟩
    obtain ⟨c, h1, h2⟩ := look hfr.1
    rcases q with ⟨k, _⟩ | ⟨_, c', e', z⟩
    · have k : X.env.scope.names.lookup y = some .local := k
      rcases ok.free _ (PySem.mem_of_lookup hfr.1) rfl with k' | k' <;> rw [show X.env.scope.names.lookup y = _ from k'] at k <;> cases k
    · rw [h2] at e'; cases e'
      exact ⟨c, h1, z.keeps kp⟩
  · have e : cenv.cells.lookup y = some c := e
    rcases mem e with ⟨h1, _⟩ | ⟨_, z⟩
    · obtain ⟨w, z⟩ := I.cell y c h1
      exact ⟨w, z.keeps kp⟩
    · exact ⟨_, z⟩
  · show H cenv.locals = none
    rw [hL]; exact I.hok.fresh (Nat.le_refl _)
  · have e : cenv.cells.lookup y = some c := e
    rcases mem e with ⟨h1, _⟩ | ⟨h1, _⟩
    · exact I.freeC y c h1
    · exact I.hok.fresh (Nat.le_of_succ_le h1)
  · exact absurd (show p ∈ ([] : List (Addr × Obj)) ++ [] from hp) (by simp)

/-- an item appended to a tracked list -/
theorem app_ok {E : Value → Shared → Prop} {D : Addr} {xs : List V} {y : V} {v : Value} {Q : Value → Shared → Prop} (I : Inv X pins σ H s) (hD : H D = some (.lst xs)) (hz : xs.length < sizeLine) (r : RelV y v)
    (h : ∀ s', Inv X pins σ (upd H D (.lst (xs ++ [y]))) s' → Q .none s') : wpAny (model X.prog X.w) X.A (call (.builtin "list.append") [.ref D, v]) Q E s := by
  obtain ⟨hz', its, n, ri, e⟩ := I.hok D _ hD
  have hl := ri.length
  refine append_at (hsz := by rw [List.size_toArray]; omega) e fun h' sb ho' => ?_
  refine h { s with heap := h' } (I.write (t' := s.toks) (by rw [hD]; trivial) (.inl rfl) (fun b u hb q => (sb.2 b hb).trans q) ⟨_, ho'⟩ ⟨by rw [List.length_append]; exact hz, its ++ [v], n + 1, ri.append (.cons r .nil), ?_⟩)
  rw [ho']
  simp

/-- a clause's tests -/
def PTs (X : Cx) (ifs : List Expr) (t : TT) : Prop :=
  ∀ (pins : List (Addr × Obj)) (s : Shared) (σ : St) (H : Hp) (Q : Bool → Hp → Prop), Inv X pins σ H s → t σ H Q →
    wpAny (model X.prog X.w) X.A (forIn ifs true fun c r => if r = true then do let ok ← isTrue c X.env (eval c X.env); pure (ForInStep.yield ok) else pure (ForInStep.yield r)) (TP X pins σ Q) X.xe s
def tYes : TT := fun _ H Q => Q true H
theorem pts_one {c : Expr} {t : TT} (h : PT X c t) : PTs X [c] t := fun pins s σ H Q I hw => wpAny_tests_one (h pins s σ H Q I hw)
end

theorem thnF {α : Type} {t : Sem α} {Q Q' : α → Shared → Prop} {M : Model} {A : Around} {E : Value → Shared → Prop} {s : Shared} (h : wpAny M A t Q (fun _ _ => False) s) (hQ : ∀ a s, Q a s → Q' a s) : wpAny M A t Q' E s := wpAny_mono h hQ fun _ _ z => False.elim z

/-- the loop of a list comprehension's block, the target of any form (codeAny_compLoop_tests asks a target that no tuple goes to; statement and proof follow it, PyProof/CompMap.lean:41-61, with the step letOwnedTupleGo kept) -/
theorem compLoop_any {prog : Program} {w : World} {A : Around} {R : Result → Shared → Prop} {s : Shared} {elt target iter : Expr} {ifs : List Expr} {scope : Scope} {pos : Pos} {it acc : Value} {env : Env} (I : Nat → Shared → Prop)
    (turn : ∀ n s, I n s → wpAny (model prog w) A (pyNext it) (fun r s₁ => match r with
      | none => R (.ok .next) s₁
      | some v => wpAny (model prog w) A (letOwnedTupleGo target it v) (fun _ s₁' => wpAny (model prog w) A (assign target env v) (fun _ s₂ =>
          wpAny (model prog w) A (forIn ifs true fun c r => if r = true then do let ok ← isTrue c env (eval c env); pure (ForInStep.yield ok) else pure (ForInStep.yield r)) (fun ok s₃ =>
            if ok = true then wpAny (model prog w) A (eval elt env) (fun x s₄ =>
              wpAny (model prog w) A (call (.builtin "list.append") [acc, x]) (fun _ s₅ => ∃ m, m < n ∧ I m s₅) (notedBy (model prog w) A env fun e s' => R (.error e) s') s₄) (notedBy (model prog w) A env fun e s' => R (.error e) s') s₃
            else ∃ m, m < n ∧ I m s₃) (notedBy (model prog w) A env fun e s' => R (.error e) s') s₂) (notedBy (model prog w) A env fun e s' => R (.error e) s') s₁') (notedBy (model prog w) A env fun e s' => R (.error e) s') s₁) (notedBy (model prog w) A env fun e s' => R (.error e) s') s)
    (n : Nat) (h : I n s) :
    codeAny (model prog w) A (.compLoop (.ListComp elt [⟨target, iter, ifs, 0⟩] scope pos) 0 it acc env) R s := by
  refine codeAny_loop rfl I (fun n s hI => ?_) n h
  show wpAny _ A ((compTurn (.ListComp elt [⟨target, iter, ifs, 0⟩] scope pos) 0 it acc env).onRaise (fun x => do noteFrame x env; theTreesLotGoes x)) _ _ s
  refine wpAny_noted ?_
  rw [compTurn_list]
  refine wpAny_bind (wpAny_standAt (wpAny_bind (wpAny_mono (turn n s hI) (fun r s₁ h₁ => ?_) fun _ _ h' => h')))
  cases r with
  | none => exact wpAny_pure h₁
  | some v =>
    refine wpAny_bind (wpAny_mono h₁ (fun _ s₁' h₁' => ?_) fun _ _ h' => h')
    refine wpAny_bind (wpAny_mono h₁' (fun _ s₂ h₂ => wpAny_bind (wpAny_mono h₂ (fun ok s₃ h₃ => ?_) fun _ _ h' => h')) fun _ _ h' => h')
    cases ok with
    | false => exact wpAny_pure ⟨rfl, h₃⟩
    | true =>
      exact wpAny_bind (wpAny_bind (wpAny_mono h₃ (fun x s₄ h₄ => wpAny_bind (wpAny_mono h₄ (fun _ s₅ h₅ => wpAny_pure (wpAny_pure ⟨rfl, h₅⟩)) fun _ _ h' => h')) fun _ _ h' => h'))

section
variable {X : Cx}
/-- [elt for target in iter if ..]: D the new list; W by the turn and a measure, Nx what a turn is to reach -/
def tLc (wi : TI) (g : TG) (tt : TT) (te : TE) (vs : List Nat) : TE := fun σ H Q => wi σ H fun J H1 => ∀ D, H1 D = none → ∃ W : Nat → Nat → Hp → Prop, (∃ m, W 0 m (upd H1 D (.lst []))) ∧ ∀ i m H, W i m H →
  (J.stop i H ∧ Q (.ref D) H) ∨ (J.go i H ∧ ∃ Nx : Hp → Prop, (∀ H', Nx H' → ∃ m', m' < m ∧ W (i + 1) m' H') ∧ ∀ x H', J.yld i H x H' → g x (wipe σ vs) H' fun σ2 H2 => wipe σ2 vs = wipe σ vs ∧ tt σ2 H2 fun b H3 =>
    if b = true then te σ2 H3 fun y H4 => ∃ acc, H4 D = some (.lst acc) ∧ acc.length < sizeLine ∧ Nx (upd H4 D (.lst (acc ++ [y]))) else Nx H3)
theorem lc_core {pins : List (Addr × Obj)} {s : Shared} {σ : St} {H : Hp} {Q : VK} {elt tg iter : Expr} {ifs : List Expr} {scope : Scope} {own : List (Str × Nat)} {pos pos' : Pos} {wi : TI} {g : TG} {tt : TT} {te : TE} {use : Option (Value → Sem Unit)} {Qf : Value → Shared → Prop}
    (hc : X.calm = true) (hN : X.N.Nodup) (I : Inv X pins σ H s) (hi : PI X tg iter wi) (ok : BlkOk X.N X.env.scope scope own)
    (hg : ∀ (s : Shared) (H : Hp) (C : Addr) (cl : List (Str × Addr)) (fp : List Addr), PG (X.blk s H scope (compEnvC scope cl C X.env) fp) tg g) (ht : ∀ (s : Shared) (H : Hp) (C : Addr) (cl : List (Str × Addr)) (fp : List Addr), PTs (X.blk s H scope (compEnvC scope cl C X.env) fp) ifs tt)
    (he : ∀ (s : Shared) (H : Hp) (C : Addr) (cl : List (Str × Addr)) (fp : List Addr), PE (X.blk s H scope (compEnvC scope cl C X.env) fp) elt te) (hs : ∀ x, foldedSetIterable iter X.env x = pure x)
    (h : tLc wi g tt te (own.map (·.2)) σ H Q)
    (hRR : ∀ D C s' m H', Inv X pins σ H' s' → Q (.ref D) H' → s'.heap.Ns C m → FpOk X pins H' C → compPost (model X.prog X.w) X.A X.xe use Qf (.ref D) C (.ok .next) s') :
    wpAny (model X.prog X.w) X.A (comprehension (.ListComp elt [⟨tg, iter, ifs, 0⟩] scope pos) scope X.env pos' (newList []) false (eval iter X.env) use) Qf X.xe s := by
  have hfree : ∀ y ∈ scope.names, y.2 = .free → ∃ c, X.env.cells.lookup y.1 = some c := fun y hy e => by
    rcases ok.free y hy e with k | k
    · exact I.ok.has _ (.inl k)
    · exact I.ok.has _ (.inr k)
  refine wpAny_comprehension_free (use := use) rfl hs (closure_ok hfree) ok.kind (fun y hy e => by rw [ok.uniq y hy, e])
    (thn (hi pins s σ H _ I h) fun xv s1 hx => thn hx fun itv s2 h2 => ?_)
  obtain ⟨it, fp, tn, J, H2, e, I2, T, st2, f2, q⟩ := h2
  subst e
  refine wpAny_newObj_type (newEnv_comp ?_) (by show 0 ≤ sizeLine; decide)
  generalize hD : s2.heap.objs.size = D
  have hDn : H2 D = none := I2.hok.fresh (Nat.le_of_eq hD)
  obtain ⟨W, ⟨m0, w0⟩, turn⟩ := q D hDn
  -- the new list
  generalize hs3 : ({ s2 with heap := s2.heap.push { cls := .type "list", data := .seq ([] : List Value).toArray } } : Shared) = s3
  have I3 : Inv X pins σ (upd H2 D (.lst [])) s3 := by
    rw [← hs3]
    refine I2.laid (t' := s2.toks) (fun b o e => Heap.get?_push_of_some _ e) (Nat.le_of_eq hD) ⟨Nat.zero_le _, [], 0, .nil, ?_⟩
    rw [← hD]
    exact Heap.get?_push_size _ rfl
  have h3 : s3.heap = s2.heap.push { cls := .type "list", data := .seq ([] : List Value).toArray } := by rw [← hs3]
  have sz : ∀ b ∈ fp, b < s2.heap.objs.size := fun b hb => by
    obtain ⟨o, e, _⟩ := T.obj _ _ st2 b hb
    exact Heap.lt_size e
  have f3 : ∀ b ∈ fp, FpOk X pins (upd H2 D (.lst [])) b ∧ b < s3.heap.objs.size := fun b hb => by
    have hlt := sz b hb
    refine ⟨⟨?_, (f2 b hb).2⟩, by rw [h3, Heap.size_push]; exact Nat.lt_succ_of_lt hlt⟩
    rw [upd_ne (by rw [← hD]; exact Nat.ne_of_lt hlt)]
    exact (f2 b hb).1
  have st3 : tn 0 s3.heap := T.keep _ _ _ st2 fun b _ o e => by rw [h3]; exact Heap.get?_push_of_some _ e
  have I4 := block_start I3 ok hN f3
  have pg := hg s3 (upd H2 D (.lst [])) s3.heap.objs.size (cellsFrom (s3.heap.objs.size + 1) scope.names (cloFrom X.env.cells scope.names [])) fp
  have pt := ht s3 (upd H2 D (.lst [])) s3.heap.objs.size (cellsFrom (s3.heap.objs.size + 1) scope.names (cloFrom X.env.cells scope.names [])) fp
  have pe := he s3 (upd H2 D (.lst [])) s3.heap.objs.size (cellsFrom (s3.heap.objs.size + 1) scope.names (cloFrom X.env.cells scope.names [])) fp
  show codeAny _ _ (.compStart (.ListComp elt [⟨tg, iter, ifs, 0⟩] scope pos) 0 (.ref it) (.ref D) (compEnvC scope (cellsFrom (s3.heap.objs.size + 1) scope.names (cloFrom X.env.cells scope.names [])) s3.heap.objs.size X.env)) (compPost (model X.prog X.w) X.A X.xe use Qf (.ref D) s3.heap.objs.size) { s3 with heap := pushCells (s3.heap.push { cls := .type "dict", data := .dict #[] }) scope.names }
  have nfp : ∀ b ∈ fp, (upd H2 D (.lst [])) b = none := fun b hb => (f3 b hb).1.1
  generalize hce : compEnvC scope (cellsFrom (s3.heap.objs.size + 1) scope.names (cloFrom X.env.cells scope.names [])) s3.heap.objs.size X.env = ce at I4 pg pt pe ⊢
  have cL : ce.locals = s3.heap.objs.size := by subst hce; rfl
  generalize hH3 : upd H2 D (.lst []) = H3 at I3 I4 pg pt pe w0 nfp f3
  generalize hs4 : ({ s3 with heap := pushCells (s3.heap.push { cls := .type "dict", data := .dict #[] }) scope.names } : Shared) = s4 at I4 ⊢
  have st4 : tn 0 s4.heap := T.keep _ _ _ st3 fun b _ o e => by rw [← hs4]; exact pushCells_keeps _ _ _ _ (Heap.get?_push_of_some _ e)
  have stat : ∀ {σ' : St} {H' : Hp} {s' : Shared}, Inv (X.blk s3 H3 scope ce fp) [] σ' H' s' → (∀ b ∈ fp, H' b = none) → ∀ b ∈ fp, FpOk (X.blk s3 H3 scope ce fp) [] H' b := fun {σ' H' s'} I' hn b hb =>
    ⟨hn b hb, (I'.ok.exf b hb).1, I'.ok.exfs b hb, .inl hb, fun x c e => (I'.ok.exf b hb).2 x c e, fun p hp => absurd (show p ∈ ([] : List (Addr × Obj)) ++ [] from hp) (by simp)⟩
  have loop : codeAny (model X.prog X.w) X.A (.compLoop (.ListComp elt [⟨tg, iter, ifs, 0⟩] scope pos) 0 (.ref it) (.ref D) ce) (compPost (model X.prog X.w) X.A X.xe use Qf (.ref D) s3.heap.objs.size) s4 := by
    refine compLoop_any (fun n s' => ∃ i H', Inv (X.blk s3 H3 scope ce fp) [] (wipe σ (own.map (·.2))) H' s' ∧ tn i s'.heap ∧ (∀ b ∈ fp, H' b = none) ∧ W i n H') ?_ m0 ⟨0, H3, I4, st4, nfp, w0⟩
    rintro n s5 ⟨i, H5, I5, st5, n5, w5⟩
    rcases turn i n H5 w5 with ⟨stop, qq⟩ | ⟨go, Nx, hNx, step⟩
    · have td := T.done (X.blk s3 H3 scope ce fp) rfl rfl rfl hc i [] s5 _ H5 (fun _ _ => False) I5 (stat I5 n5) st5 stop
      refine thnF td fun r s6 ⟨hr, I6⟩ => ?_
      subst hr
      -- back in the def's context
      have I7 : Inv X pins σ H5 s6 := I3.call' (ch := fp) I6.os I6.base I6.hok I6.bare fun b hb => ⟨(f3 b hb).1.2.2.2.1, (f3 b hb).1.2.1, (f3 b hb).1.2.2.2.2.1, (f3 b hb).1.2.2.2.2.2⟩
      have nC : H5 s3.heap.objs.size = none := by
        have z : H5 ce.locals = none := I6.free
        rw [cL] at z
        exact z
      obtain ⟨m, hn, _⟩ := I6.loc
      have hn : s6.heap.Ns ce.locals m := hn
      rw [cL] at hn
      exact hRR D s3.heap.objs.size s6 m H5 I7 qq hn (I3.fpOk (Nat.le_refl _) nC)
    · have ti := T.item (X.blk s3 H3 scope ce fp) rfl rfl rfl hc i [] s5 _ H5 (fun _ _ => False) I5 (stat I5 n5) st5 go
      refine thnF ti fun r s6 ⟨u, hr, h6⟩ => ?_
      subst hr
      refine thnF h6 fun _ s7 ⟨x, H7, I7, r7, y7, st7, n7⟩ => ?_
      have I7' := I7.pinned (stat I7 n7) (T.obj _ _ st7)
      refine thnF (pg _ s7 _ H7 x u _ I7' r7 (step x H7 y7)) fun _ s8 ⟨σ8, H8, I8, hw8, q8⟩ => ?_
      refine thnF (pt _ s8 σ8 H8 _ I8 q8) fun b s9 ⟨H9, I9, q9⟩ => ?_
      -- the turn's end
      have fin : ∀ {s' : Shared} {H' : Hp}, Inv (X.blk s3 H3 scope ce fp) ([] ++ pinsAt fp s7.heap) σ8 H' s' → Nx H' → ∃ m, m < n ∧ ∃ i H', Inv (X.blk s3 H3 scope ce fp) [] (wipe σ (own.map (·.2))) H' s' ∧ tn i s'.heap ∧ (∀ b ∈ fp, H' b = none) ∧ W i m H' := fun {s' H'} I' nx => by
        obtain ⟨m', hm, w'⟩ := hNx H' nx
        have pin' : ∀ b ∈ fp, ∀ o, s7.heap.get? b = some o → s'.heap.get? b = some o ∧ H' b = none := fun b hb o e =>
          let z := I'.pin (b, o) (List.mem_append_right _ (List.mem_append_right _ (mem_pinsAt hb e)))
          ⟨z.1, z.2.1⟩
        have hl : (wipe σ (own.map (·.2))).length = σ8.length := by rw [← hw8, wipe_length]
        refine ⟨m', hm, i + 1, H', (I'.unpinned (pins := [])).weak hl (fun j v e => ?_), T.keep _ _ _ st7 fun b hb o e => (pin' b hb o e).1, fun b hb => ?_, w'⟩
        · rw [← hw8] at e
          exact (wipe_some e).1
        · obtain ⟨o, e, _⟩ := T.obj _ _ st7 b hb
          exact (pin' b hb o e).2
      cases b with
      | false =>
        simp only [Bool.false_eq_true, if_false] at q9 ⊢
        exact fin I9 q9
      | true =>
        simp only [if_true] at q9 ⊢
        refine thnF (pe _ s9 σ8 H9 _ I9 q9) fun z s10 ⟨yv, H10, I10, r10, acc, hD10, hz10, nx⟩ => ?_
        exact app_ok (X := X.blk s3 H3 scope ce fp) I10 hD10 hz10 r10 fun s11 I11 => fin I11 nx
  exact codeAny_compStart_list loop (T.self X.A 0 _ _ _ st4 loop)
/-- name = [..] on one line, the name a local -/
theorem ps_setLc {i : Nat} {y : Str} {py : Pos} {elt tg iter : Expr} {ifs : List Expr} {scope : Scope} {own : List (Str × Nat)} {pos spos : Pos} {wi : TI} {g : TG} {tt : TT} {te : TE} (hc : X.calm = true) (hN : X.N.Nodup) (hy : X.N[i]? = some y) (hyl : X.env.scope.names.lookup y = some .local)
    (hsw : swapsWith (.ListComp elt [⟨tg, iter, ifs, 0⟩] scope pos) (some (.Name y py)) spos.line X.env = pure true) (hi : PI X tg iter wi) (ok : BlkOk X.N X.env.scope scope own)
    (hg : ∀ (s : Shared) (H : Hp) (C : Addr) (cl : List (Str × Addr)) (fp : List Addr), PG (X.blk s H scope (compEnvC scope cl C X.env) fp) tg g) (ht : ∀ (s : Shared) (H : Hp) (C : Addr) (cl : List (Str × Addr)) (fp : List Addr), PTs (X.blk s H scope (compEnvC scope cl C X.env) fp) ifs tt)
    (he : ∀ (s : Shared) (H : Hp) (C : Addr) (cl : List (Str × Addr)) (fp : List Addr), PE (X.blk s H scope (compEnvC scope cl C X.env) fp) elt te) (hs : ∀ x, foldedSetIterable iter X.env x = pure x := by intro _; rfl) :
    PS X (.Assign [.Name y py] (.ListComp elt [⟨tg, iter, ifs, 0⟩] scope pos) spos) (tAsg (tLc wi g tt te (own.map (·.2))) (gName i)) := by
  intro pins s σ H D I h
  rw [exec_Assign_Name_used _ _ _ _ hsw]
  refine wpAny_bind (wpAny_standAt (wpAny_bind ?_))
  show wpAny _ X.A (do let _ ← comprehension (.ListComp elt [⟨tg, iter, ifs, 0⟩] scope pos) scope X.env (firstIterPos [⟨tg, iter, ifs, 0⟩] pos) (newList []) false (eval iter X.env) (some (assign (.Name y py) X.env))) _ _ s
  have h : tLc wi g tt te (own.map (·.2)) σ H (fun x H1 => gName i x σ H1 D.nx) := h
  refine wpAny_bind (thn (lc_core (Qf := fun _ s' => SP X pins D .next s') hc hN I hi ok hg ht he hs h fun L C s' m H' I' q hn f => ?_) fun _ s' hq => wpAny_pure (wpAny_pure hq))
  show wpAny _ _ (assign (.Name y py) X.env (.ref L)) _ _ _
  refine wpAny_assign_Name (store_ok2 (v := V.ref L) I' hN hy (.inl hyl) rfl (fun s2 I2 ⟨a, sb, ha⟩ => ?_) (.inr hyl))
  obtain ⟨f0, f1, f2, f3, f4, f5⟩ := f
  have haC : C ≠ a := by
    rcases ha with z | z
    · rw [z]; exact f1
    · exact fun e => f4 y a z e.symm
  refine ⟨m, hn.sameBut sb haC, fun h3 sb3 => ?_⟩
  exact ⟨_, H', I2.turned (t' := s2.toks) (fun b o hb e => (sb3.2 b hb).trans e) f0 f1 f3 f4 f5, q⟩
theorem sw_true {elt : Expr} {gs : List Comprehension} {scope : Scope} {pos py : Pos} {y : Str} {l : Nat} {env : Env} (hk : env.scope.kind = .function) (hy : env.scope.names.lookup y = some .local) (hl : (py.line == pos.line) = true)
    (ha : (scope.names.any fun (n, k) => n == y && (k == .local || k == .cell)) = false) : swapsWith (.ListComp elt gs scope pos) (some (.Name y py)) l env = pure true := by
  have ky : env.kindOf y = some .local := hy
  have hb : env.blockKind = .function := by unfold Env.blockKind; rw [hk]; rfl
  unfold swapsWith
  simp only [hb, ky, ha, Expr.pos, hl]
  rfl
end

/-! ### the forms one uses -/
/-- over a range: Pv by the turn and the heap (the new list at D within) -/
theorem lc_range {lo : Int} {n : Nat} {g : TG} {tt : TT} {te : TE} {vs : List Nat} {σ : St} {H1 : Hp} {D : Addr} {Qd : Hp → Prop} (Pv : Nat → Hp → Prop) (h0 : Pv 0 (upd H1 D (.lst [])))
    (hs : ∀ i H, i < n → Pv i H → g (.int (lo + i)) (wipe σ vs) H fun σ2 H2 => wipe σ2 vs = wipe σ vs ∧ tt σ2 H2 fun b H3 =>
      if b = true then te σ2 H3 fun y H4 => ∃ acc, H4 D = some (.lst acc) ∧ acc.length < sizeLine ∧ Pv (i + 1) (upd H4 D (.lst (acc ++ [y]))) else Pv (i + 1) H3) (hd : ∀ H, Pv n H → Qd H) :
    ∃ W : Nat → Nat → Hp → Prop, (∃ m, W 0 m (upd H1 D (.lst []))) ∧ ∀ i m H, W i m H →
      ((Itr lo n).stop i H ∧ Qd H) ∨ ((Itr lo n).go i H ∧ ∃ Nx : Hp → Prop, (∀ H', Nx H' → ∃ m', m' < m ∧ W (i + 1) m' H') ∧ ∀ x H', (Itr lo n).yld i H x H' → g x (wipe σ vs) H' fun σ2 H2 => wipe σ2 vs = wipe σ vs ∧ tt σ2 H2 fun b H3 =>
        if b = true then te σ2 H3 fun y H4 => ∃ acc, H4 D = some (.lst acc) ∧ acc.length < sizeLine ∧ Nx (upd H4 D (.lst (acc ++ [y]))) else Nx H3) := by
  refine ⟨fun i m H => m = n - i ∧ i ≤ n ∧ Pv i H, ⟨n, by simp, Nat.zero_le _, h0⟩, ?_⟩
  rintro i m H ⟨rfl, hi, p⟩
  by_cases hlt : i < n
  · refine .inr ⟨hlt, Pv (i + 1), fun H' p' => ⟨n - (i + 1), by omega, rfl, hlt, p'⟩, fun x H' y => ?_⟩
    obtain ⟨e, y⟩ := y
    subst e y
    exact hs i _ hlt p
  · have e : i = n := by omega
    subst e
    exact .inl ⟨Nat.le_refl _, hd H p⟩
def blkC (N : List Str) (sc scope : Scope) (own : List (Str × Nat)) : Bool :=
  (match scope.kind with | .function => true | _ => false) && (scope.names.all fun y => decide (scope.names.lookup y.1 = some y.2)) && (own.all fun p => decide (N[p.2]? = some p.1)) &&
    (scope.names.all fun y => match y.2 with
      | .free => (match sc.names.lookup y.1 with | some .cell => true | some .free => true | _ => false)
      | .local => decide (y.1 ∈ own.map (·.1)) || decide (y.1 ∉ N)
      | .cell => decide (y.1 ∈ own.map (·.1)) || decide (y.1 ∉ N)
      | _ => true)
theorem blkOk_by {N : List Str} {sc scope : Scope} {own : List (Str × Nat)} (h : blkC N sc scope own = true) : BlkOk N sc scope own := by
  unfold blkC at h
  simp only [Bool.and_eq_true, List.all_eq_true, decide_eq_true_eq] at h
  obtain ⟨⟨⟨h1, h2⟩, h3⟩, h4⟩ := h
  refine ⟨?_, h2, h3, fun y hy e => ?_, fun y hy e => ?_⟩
  · split at h1
    · assumption
    · cases h1
  · have q := h4 y hy
    simp only [e] at q
    split at q <;> first | exact .inl (by assumption) | exact .inr (by assumption) | cases q
  · have q := h4 y hy
    rcases e with e | e <;> (simp only [e, Bool.or_eq_true, decide_eq_true_eq] at q; exact q)
end L2

namespace Pm
/-- the number at place k -/
def g (l : List Int) (k : Nat) : Int := l.getD k 0
theorem g_get {l : List Int} {k : Nat} (h : k < l.length) : l[k]? = some (g l k) := by
  unfold g
  rw [List.getD_eq_getElem?_getD, List.getElem?_eq_getElem h]
  rfl
theorem g_mem {l : List Int} {k : Nat} (h : k < l.length) : g l k ∈ l := List.mem_of_getElem? (g_get h)
/-! what stands where -/
def colsM (ct : List Int) (t : Nat) : Int := g ct (1 + 9 * t)
def rowsM (ct : List Int) (t : Nat) : Int := g ct (2 + 9 * t)
def idxM (ct : List Int) (t : Nat) : Int := g ct (3 + 9 * t)
def noneM (ct : List Int) (t : Nat) : Int := g ct (4 + 9 * t)
def alikeM (ct : List Int) (t c : Nat) : Int := g ct (6 + 9 * t + c)
def tableAt (ct : List Int) (t : Nat) : Kp118.Table := ⟨(colsM ct t).toNat, (rowsM ct t).toNat, (idxM ct t).toNat, (noneM ct t).toNat, [(alikeM ct t 0).toNat, (alikeM ct t 1).toNat, (alikeM ct t 2).toNat, (alikeM ct t 3).toNat]⟩
def catOf (n no : Int) (ct : List Int) : Kp118.Cat := ⟨n.toNat, no.toNat, (List.range 8).map (tableAt ct)⟩
def condAt (qc : List Int) (k : Nat) : Kp118.Cond := ⟨(g qc (5 * k)).toNat, (g qc (5 * k + 1)).toNat, (g qc (5 * k + 2)).toNat, (g qc (5 * k + 3)).toNat, g qc (5 * k + 4)⟩
def outAt (qo : List Int) (k : Nat) : Nat × Nat := ((g qo (2 * k)).toNat, (g qo (2 * k + 1)).toNat)
def askOf (n cs os no : Int) (qt qc qo : List Int) : Kp118.Ask := ⟨n.toNat, cs.toNat, os.toNat, no.toNat, qt.map Int.toNat, (List.range 12).map (condAt qc), (List.range 8).map (outAt qo)⟩
/-! reading the catalogue -/
theorem rdNat_some {l : List Int} {v : Nat} {r : List Int} (h : Kp118Neutral.rdNat l = some (v, r)) : ∃ z, l = z :: r ∧ v = z.toNat := by
  cases l with
  | nil => cases h
  | cons z l =>
    simp only [Kp118Neutral.rdNat] at h
    split at h
    · injection h with h
      injection h with h1 h2
      subst h1 h2
      exact ⟨z, rfl, rfl⟩
    · cases h
theorem rdMany_len {A : Type} (f : Kp118Neutral.Rd A) : ∀ (n : Nat) (l : List Int) (xs : List A) (r : List Int), Kp118Neutral.rdMany f n l = some (xs, r) → xs.length = n
  | 0, l, xs, r, h => by
    simp only [Kp118Neutral.rdMany] at h
    injection h with h
    injection h with h1 h2
    subst h1
    rfl
  | n + 1, l, xs, r, h => by
    simp only [Kp118Neutral.rdMany, Option.bind_eq_some_iff, Option.map_eq_some_iff] at h
    obtain ⟨a, _, ⟨ys, s⟩, h2, h3⟩ := h
    injection h3 with h3 _
    subst h3
    simp only [List.length_cons]
    rw [rdMany_len f n _ _ _ h2]
theorem rdMany_nat : ∀ (n : Nat) (l : List Int) (xs : List Nat) (r : List Int), Kp118Neutral.rdMany Kp118Neutral.rdNat n l = some (xs, r) → ∃ zs : List Int, zs.length = n ∧ l = zs ++ r ∧ xs = zs.map Int.toNat
  | 0, l, xs, r, h => by
    simp only [Kp118Neutral.rdMany] at h
    injection h with h
    injection h with h1 h2
    subst h1 h2
    exact ⟨[], rfl, rfl, rfl⟩
  | n + 1, l, xs, r, h => by
    simp only [Kp118Neutral.rdMany, Option.bind_eq_some_iff, Option.map_eq_some_iff] at h
    obtain ⟨⟨v, m⟩, h1, ⟨ys, s⟩, h2, h3⟩ := h
    obtain ⟨z, rfl, rfl⟩ := rdNat_some h1
    obtain ⟨zs, e1, e2, e3⟩ := rdMany_nat n _ _ _ h2
    injection h3 with h3 h4
    subst h3 h4
    refine ⟨z :: zs, by simp [e1], ?_, ?_⟩
    · simp only [List.cons_append]
      exact congrArg (z :: ·) e2
    · simp [e3]
theorem rdTable_some {l : List Int} {T : Kp118.Table} {r : List Int} (h : Kp118Neutral.rdKp118_Table l = some (T, r)) (h4 : T.alike.length = 4) :
    ∃ a b c d e x0 x1 x2 x3 : Int, l = a :: b :: c :: d :: e :: x0 :: x1 :: x2 :: x3 :: r ∧ T = ⟨a.toNat, b.toNat, c.toNat, d.toNat, [x0.toNat, x1.toNat, x2.toNat, x3.toNat]⟩ := by
  simp only [Kp118Neutral.rdKp118_Table, Option.bind_eq_some_iff] at h
  obtain ⟨⟨a, l1⟩, h1, ⟨b, l2⟩, h2, ⟨c, l3⟩, h3, ⟨d, l4⟩, h5, ⟨xs, l5⟩, h6, h7⟩ := h
  injection h7 with h7
  injection h7 with h7 h8
  subst h7 h8
  obtain ⟨a, rfl, rfl⟩ := rdNat_some h1
  obtain ⟨b, rfl, rfl⟩ := rdNat_some h2
  obtain ⟨c, rfl, rfl⟩ := rdNat_some h3
  obtain ⟨d, rfl, rfl⟩ := rdNat_some h5
  simp only [Kp118Neutral.rdList, Option.bind_eq_some_iff] at h6
  obtain ⟨⟨n, l6⟩, h9, h10⟩ := h6
  obtain ⟨e, e9, e10⟩ := rdNat_some h9
  split at h10
  · obtain ⟨zs, e1, e2, e3⟩ := rdMany_nat _ _ _ _ h10
    simp only at h4 e2 e3
    subst e3
    rw [List.length_map] at h4
    match zs, h4 with
    | [x0, x1, x2, x3], _ =>
      refine ⟨a, b, c, d, e, x0, x1, x2, x3, ?_, rfl⟩
      rw [e9, e2]
      rfl
  · cases h10
/-- a table that begins at o -/
def tblAt (l : List Int) (o : Nat) : Kp118.Table := ⟨(g l o).toNat, (g l (o + 1)).toNat, (g l (o + 2)).toNat, (g l (o + 3)).toNat, [(g l (o + 5)).toNat, (g l (o + 6)).toNat, (g l (o + 7)).toNat, (g l (o + 8)).toNat]⟩
theorem rdTables : ∀ (n : Nat) (l : List Int) (ts : List Kp118.Table) (r : List Int), Kp118Neutral.rdMany Kp118Neutral.rdKp118_Table n l = some (ts, r) → (∀ t, t ∈ ts → t.alike.length = 4) → ts = (List.range n).map fun k => tblAt l (9 * k)
  | 0, l, ts, r, h, _ => by
    simp only [Kp118Neutral.rdMany] at h
    injection h with h
    injection h with h1 h2
    subst h1
    rfl
  | n + 1, l, ts, r, h, h4 => by
    simp only [Kp118Neutral.rdMany, Option.bind_eq_some_iff, Option.map_eq_some_iff] at h
    obtain ⟨⟨T, m⟩, h1, ⟨ys, s⟩, h2, h3⟩ := h
    injection h3 with h3 h5
    subst h3 h5
    obtain ⟨a, b, c, d, e, x0, x1, x2, x3, rfl, rfl⟩ := rdTable_some h1 (h4 _ List.mem_cons_self)
    have ih := rdTables n _ _ _ h2 fun t ht => h4 t (List.mem_cons_of_mem _ ht)
    simp only at ih
    rw [ih, List.range_succ_eq_map, List.map_cons, List.map_map]
    congr 1
theorem rd_cat {ct : List Int} {ts : List Kp118.Table} (h : Kp118Neutral.rdList Kp118Neutral.rdKp118_Table ct = some (ts, [])) (h8 : ts.length = 8) (h4 : ∀ t, t ∈ ts → t.alike.length = 4) : ts = (List.range 8).map (tableAt ct) := by
  simp only [Kp118Neutral.rdList, Option.bind_eq_some_iff] at h
  obtain ⟨⟨n, l⟩, h1, h2⟩ := h
  obtain ⟨z, e1, e2⟩ := rdNat_some h1
  split at h2
  · have e3 := rdMany_len _ _ _ _ _ h2
    have e4 := rdTables _ _ _ _ h2 h4
    rw [h8] at e3
    rw [e4, ← e3]
    refine List.map_congr_left fun k _ => ?_
    subst e1
    simp only [tblAt, tableAt, colsM, rowsM, idxM, noneM, alikeM]
    have q : ∀ i j, j = i + 1 → g (z :: l) j = g l i := fun i j e => by rw [e]; rfl
    rw [q (9 * k) _ (by omega), q (9 * k + 1) _ (by omega), q (9 * k + 2) _ (by omega), q (9 * k + 3) _ (by omega), q (9 * k + 5) _ (by omega), q (9 * k + 6) _ (by omega), q (9 * k + 7) _ (by omega), q (9 * k + 8) _ (by omega)]
  · cases h2
/-! n by n -/
theorem chunks_eq (n : Nat) (hn : 0 < n) : ∀ (m f : Nat) (l : List Int), l.length = n * m → m ≤ f → Kp118Neutral.chunksBy n f l = (List.range m).map fun k => (l.drop (n * k)).take n
  | 0, f, l, hl, _ => by
    have e : l = [] := List.length_eq_zero_iff.mp (by simpa using hl)
    subst e
    cases f <;> simp [Kp118Neutral.chunksBy]
  | m + 1, 0, l, hl, hf => absurd hf (by omega)
  | m + 1, f + 1, l, hl, hf => by
    have hl' : l.length = n * m + n := by rw [hl, Nat.mul_succ]
    have ne : l ≠ [] := by
      intro e
      subst e
      simp at hl'
      omega
    have ih := chunks_eq n hn m f (l.drop n) (by rw [List.length_drop, hl']; omega) (by omega)
    rw [Kp118Neutral.chunksBy, if_neg ne, ih, List.range_succ_eq_map, List.map_cons, List.map_map, Nat.mul_zero, List.drop_zero]
    congr 1
    refine List.map_congr_left fun k _ => ?_
    simp only [Function.comp, List.drop_drop, Nat.mul_succ, Nat.add_comm]
theorem chunk_g (l : List Int) (n a i : Nat) (h : i < n) : ((l.drop a).take n).getD i 0 = g l (a + i) := by
  unfold g
  rw [List.getD_eq_getElem?_getD, List.getD_eq_getElem?_getD, List.getElem?_take, if_pos h, List.getElem?_drop]
theorem chunks5 {qc : List Int} (h : qc.length = 60) : Kp118Neutral.chunks 5 qc = (List.range 12).map fun k => (qc.drop (5 * k)).take 5 := chunks_eq 5 (by decide) 12 _ _ (by omega) (by omega)
theorem chunks2 {qo : List Int} (h : qo.length = 16) : Kp118Neutral.chunks 2 qo = (List.range 8).map fun k => (qo.drop (2 * k)).take 2 := chunks_eq 2 (by decide) 8 _ _ (by omega) (by omega)
theorem conds_eq {qc : List Int} (h : qc.length = 60) : ((Kp118Neutral.chunks 5 qc).map fun l => (⟨((l.getD 0 0)).toNat, ((l.getD 1 0)).toNat, ((l.getD 2 0)).toNat, ((l.getD 3 0)).toNat, (l.getD 4 0)⟩ : Kp118.Cond)) = (List.range 12).map (condAt qc) := by
  rw [chunks5 h, List.map_map]
  refine List.map_congr_left fun k _ => ?_
  simp only [Function.comp, condAt]
  rw [chunk_g _ _ _ _ (by decide), chunk_g _ _ _ _ (by decide), chunk_g _ _ _ _ (by decide), chunk_g _ _ _ _ (by decide), chunk_g _ _ _ _ (by decide)]
  rfl
theorem outs_eq {qo : List Int} (h : qo.length = 16) : ((Kp118Neutral.chunks 2 qo).map fun l => (((l.getD 0 0)).toNat, ((l.getD 1 0)).toNat)) = (List.range 8).map (outAt qo) := by
  rw [chunks2 h, List.map_map]
  refine List.map_congr_left fun k _ => ?_
  simp only [Function.comp, outAt]
  rw [chunk_g _ _ _ _ (by decide), chunk_g _ _ _ _ (by decide)]
  rfl
end Pm
namespace Pm
theorem nat_of {z : Int} {b : Nat} (h : Kp118Neutral.natural z b = true) : 0 ≤ z := by
  simp only [Kp118Neutral.natural, Bool.and_eq_true, decide_eq_true_eq] at h
  exact h.1
/-- what is known of the conditions that are handed in -/
structure QcOk (qc : List Int) : Prop where
  a0 : ∀ k, k < 12 → 0 ≤ g qc (5 * k)
  i0 : ∀ k, k < 12 → 0 ≤ g qc (5 * k + 1)
  op0 : ∀ k, k < 12 → 0 ≤ g qc (5 * k + 2)
  b0 : ∀ k, k < 12 → 0 ≤ g qc (5 * k + 3)
  a1 : ∀ k, k < 12 → g qc (5 * k) < 256
  b1 : ∀ k, k < 12 → g qc (5 * k + 3) < 256
theorem natChunks {qc : List Int} (h : qc.length = 60) (ha : ((Kp118Neutral.chunks 5 qc).all fun l => Kp118Neutral.natural (l.getD 0 0) 63 && Kp118Neutral.natural (l.getD 1 0) 63 && Kp118Neutral.natural (l.getD 2 0) 63 && Kp118Neutral.natural (l.getD 3 0) 63 && Kp118Neutral.whole64 (l.getD 4 0)) = true) :
    ∀ k, k < 12 → 0 ≤ g qc (5 * k) ∧ 0 ≤ g qc (5 * k + 1) ∧ 0 ≤ g qc (5 * k + 2) ∧ 0 ≤ g qc (5 * k + 3) := by
  intro k hk
  rw [chunks5 h, List.all_eq_true] at ha
  have q := ha _ (List.mem_map.mpr ⟨k, List.mem_range.mpr hk, rfl⟩)
  simp only [Bool.and_eq_true] at q
  obtain ⟨⟨⟨⟨q0, q1⟩, q2⟩, q3⟩, _⟩ := q
  have q0 := nat_of q0
  have q1 := nat_of q1
  have q2 := nat_of q2
  have q3 := nat_of q3
  rw [chunk_g _ _ _ _ (by decide)] at q0 q1 q2 q3
  exact ⟨q0, q1, q2, q3⟩
theorem qcOk_of {qc : List Int} (h : ∀ k, k < 12 → 0 ≤ g qc (5 * k) ∧ 0 ≤ g qc (5 * k + 1) ∧ 0 ≤ g qc (5 * k + 2) ∧ 0 ≤ g qc (5 * k + 3))
    (hp : ∀ x, x ∈ (List.range 12).map (condAt qc) → x.a < 256 ∧ x.b < 256 ∧ -(2 ^ 31 : Int) ≤ x.j ∧ x.j < 2 ^ 31) : QcOk qc := by
  have q : ∀ k, k < 12 → (g qc (5 * k)).toNat < 256 ∧ (g qc (5 * k + 3)).toNat < 256 := fun k hk => by
    have e := hp (condAt qc k) (List.mem_map.mpr ⟨k, List.mem_range.mpr hk, rfl⟩)
    exact ⟨e.1, e.2.1⟩
  exact ⟨fun k hk => (h k hk).1, fun k hk => (h k hk).2.1, fun k hk => (h k hk).2.2.1, fun k hk => (h k hk).2.2.2, fun k hk => by have := (q k hk).1; omega, fun k hk => by have := (q k hk).2; omega⟩
end Pm
namespace Pm
/-! the program's own functions -/
def alikeOk (ct : List Int) (t : Nat) : Bool := (List.range (colsM ct t).toNat).all fun c => decide (0 ≤ alikeM ct t c) && decide (alikeM ct t c ≤ 4096)
def tableOk (ct : List Int) (t : Nat) : Bool := decide (1 ≤ colsM ct t) && decide (colsM ct t ≤ 4) && (decide (0 ≤ rowsM ct t) && decide (rowsM ct t ≤ 4096)) && decide (idxM ct t / 2 ^ (colsM ct t).toNat = 0) && decide (noneM ct t = 0) && alikeOk ct t
def catOk (n no : Int) (ct : List Int) : Bool := decide (1 ≤ n) && decide (n ≤ 8) && decide (no = 0) && (List.range n.toNat).all (tableOk ct)
def countsOk (n cs os no : Int) : Bool := decide (1 ≤ n) && decide (n ≤ 5) && (decide (0 ≤ cs) && decide (cs ≤ 12)) && (decide (1 ≤ os) && decide (os ≤ 8)) && decide (no = 0)
def placesOk (nc n : Int) (qt : List Int) : Bool := (List.range n.toNat).all fun p => decide (0 ≤ g qt p) && decide (g qt p < nc)
def colThere (ct : List Int) (n : Int) (qt : List Int) (p i : Int) : Bool := decide (0 ≤ p) && decide (p < n) && (decide (0 ≤ i) && decide (i < colsM ct (g qt p.toNat).toNat))
def condOk (ct : List Int) (n : Int) (qt qc : List Int) (k : Nat) : Bool := (decide (0 ≤ g qc (5 * k + 2)) && decide (g qc (5 * k + 2) ≤ 5)) && colThere ct n qt (g qc (5 * k)) (g qc (5 * k + 1)) && (decide (g qc (5 * k + 3) = 255) || colThere ct n qt (g qc (5 * k + 3)) (g qc (5 * k + 4)))
def condsOk (ct : List Int) (n cs : Int) (qt qc : List Int) : Bool := (List.range cs.toNat).all (condOk ct n qt qc)
def outsOk (ct : List Int) (n os : Int) (qt qo : List Int) : Bool := (List.range os.toNat).all fun k => colThere ct n qt (g qo (2 * k)) (g qo (2 * k + 1))
def askOk (nc n cs os no : Int) (ct qt qc qo : List Int) : Bool := countsOk n cs os no && placesOk nc n qt && condsOk ct n cs qt qc && outsOk ct n os qt qo
def rightM (nc cno n cs os no : Int) (ct qt qc qo : List Int) : Bool := catOk nc cno ct && askOk nc n cs os no ct qt qc qo

theorem g_nonneg {l : List Int} (h : ∀ x, x ∈ l → 0 ≤ x) (k : Nat) : 0 ≤ g l k := by
  by_cases hk : k < l.length
  · exact h _ (g_mem hk)
  · unfold g
    rw [List.getD_eq_getElem?_getD, List.getElem?_eq_none (by omega)]
    exact Int.le_refl 0
theorem goodTable_eq {ct : List Int} (h0 : ∀ x, x ∈ ct → 0 ≤ x) (t : Nat) : Kp118.goodTable (tableAt ct t) = tableOk ct t := by
  have hc : 0 ≤ colsM ct t := g_nonneg h0 _
  have hr : 0 ≤ rowsM ct t := g_nonneg h0 _
  have hi : 0 ≤ idxM ct t := g_nonneg h0 _
  have hn : 0 ≤ noneM ct t := g_nonneg h0 _
  have ha : ∀ c, 0 ≤ alikeM ct t c := fun c => g_nonneg h0 _
  have ha0 := ha 0
  have ha1 := ha 1
  have ha2 := ha 2
  have ha3 := ha 3
  unfold Kp118.goodTable tableOk alikeOk
  by_cases hcc : 1 ≤ colsM ct t ∧ colsM ct t ≤ 4
  · obtain ⟨c1, c2⟩ := hcc
    rw [Bool.eq_iff_iff]
    simp only [Bool.and_eq_true, decide_eq_true_eq]
    simp only [tableAt]
    have : colsM ct t = 1 ∨ colsM ct t = 2 ∨ colsM ct t = 3 ∨ colsM ct t = 4 := by omega
    rcases this with e | e | e | e <;> simp only [e] <;> simp [List.range, List.range.loop] <;> omega
  · have e1 : (decide (1 ≤ colsM ct t) && decide (colsM ct t ≤ 4)) = false := by
      simp only [Bool.and_eq_false_iff, decide_eq_false_iff_not]
      omega
    have e2 : (decide (1 ≤ (tableAt ct t).cols) && decide ((tableAt ct t).cols ≤ 4)) = false := by
      simp only [Bool.and_eq_false_iff, decide_eq_false_iff_not]
      simp only [tableAt]
      omega
    simp only [e1, e2, Bool.false_and]
theorem take_map_range {α : Type} (f : Nat → α) (n m : Nat) (h : n ≤ m) : ((List.range m).map f).take n = (List.range n).map f := by
  rw [← List.map_take, List.take_range, Nat.min_eq_left h]
theorem goodCat_eq {ct : List Int} {n no : Int} (h0 : ∀ x, x ∈ ct → 0 ≤ x) (hn : 0 ≤ n) (hno : 0 ≤ no) : Kp118.goodCat (catOf n no ct) = catOk n no ct := by
  unfold Kp118.goodCat catOk
  by_cases hcc : 1 ≤ n ∧ n ≤ 8
  · obtain ⟨c1, c2⟩ := hcc
    have e1 : (catOf n no ct).table.take (catOf n no ct).tables = (List.range n.toNat).map (tableAt ct) := take_map_range _ _ _ (by simp only [catOf]; omega)
    rw [e1, List.all_map]
    have e2 : (Kp118.goodTable ∘ tableAt ct) = tableOk ct := funext fun t => goodTable_eq h0 t
    rw [e2]
    have d1 : decide (1 ≤ (catOf n no ct).tables) = decide (1 ≤ n) := by rw [decide_eq_decide]; simp only [catOf]; omega
    have d2 : decide ((catOf n no ct).tables ≤ 8) = decide (n ≤ 8) := by rw [decide_eq_decide]; simp only [catOf]; omega
    have d3 : decide ((catOf n no ct).none_ = 0) = decide (no = 0) := by rw [decide_eq_decide]; simp only [catOf]; omega
    rw [d1, d2, d3]
  · have e1 : (decide (1 ≤ n) && decide (n ≤ 8)) = false := by
      simp only [Bool.and_eq_false_iff, decide_eq_false_iff_not]
      omega
    have e2 : (decide (1 ≤ (catOf n no ct).tables) && decide ((catOf n no ct).tables ≤ 8)) = false := by
      simp only [Bool.and_eq_false_iff, decide_eq_false_iff_not]
      simp only [catOf]
      omega
    simp only [e1, e2, Bool.false_and]
theorem at_eq (n no : Int) (ct : List Int) {t : Nat} (h : t < 8) : (catOf n no ct).at_ t = tableAt ct t := by
  unfold Kp118.Cat.at_
  simp only [catOf, List.getD_eq_getElem?_getD, List.getElem?_map, List.getElem?_range h, Option.map_some, Option.getD_some]
theorem tableOf_eq (n cs os no : Int) (qt qc qo : List Int) (o : Nat) : (askOf n cs os no qt qc qo).tableOf o = (g qt o).toNat := by
  unfold Kp118.Ask.tableOf g
  simp only [askOf, List.getD_eq_getElem?_getD, List.getElem?_map]
  cases qt[o]? <;> rfl
theorem isCol_eq {nc cno n cs os no : Int} {ct qt qc qo : List Int} (hct : ∀ x, x ∈ ct → 0 ≤ x) (hp : ∀ p : Nat, (p : Int) < n → g qt p < nc) (hnc : nc ≤ 8) (hq : ∀ x, x ∈ qt → 0 ≤ x) {p i : Int} (h0 : 0 ≤ p) (h1 : 0 ≤ i) :
    Kp118.isCol (catOf nc cno ct) (askOf n cs os no qt qc qo) p.toNat i.toNat = colThere ct n qt p i := by
  unfold Kp118.isCol colThere
  have e : (askOf n cs os no qt qc qo).tables = n.toNat := rfl
  rw [tableOf_eq, e]
  by_cases hpn : p < n
  · have k0 := g_nonneg hq p.toNat
    have k1 := hp p.toNat (by omega)
    have kc : 0 ≤ colsM ct (g qt p.toNat).toNat := g_nonneg hct _
    rw [at_eq _ _ _ (by omega), Bool.eq_iff_iff]
    simp only [Bool.and_eq_true, decide_eq_true_eq]
    simp only [tableAt]
    omega
  · rw [Bool.eq_iff_iff]
    simp only [Bool.and_eq_true, decide_eq_true_eq]
    omega
theorem all_congr {α : Type} {l : List α} {p q : α → Bool} (h : ∀ x, x ∈ l → p x = q x) : l.all p = l.all q := by
  rw [Bool.eq_iff_iff, List.all_eq_true, List.all_eq_true]
  exact ⟨fun a x hx => by rw [← h x hx]; exact a x hx, fun a x hx => by rw [h x hx]; exact a x hx⟩
theorem places_eq {n : Int} {nc : Int} {qt : List Int} (hq : ∀ x, x ∈ qt → 0 ≤ x) (hl : qt.length = 8) (hn : n ≤ 8) : ((qt.map Int.toNat).take n.toNat).all (fun t => decide (t < nc.toNat)) = placesOk nc n qt := by
  unfold placesOk
  rw [Bool.eq_iff_iff, List.all_eq_true, List.all_eq_true]
  constructor
  · intro a p hp
    have hp := List.mem_range.mp hp
    have hl' : p < qt.length := by omega
    have q := a (g qt p).toNat (by
      refine List.mem_of_getElem? (i := p) ?_
      rw [List.getElem?_take, if_pos hp, List.getElem?_map, g_get hl']
      rfl)
    have k := g_nonneg hq p
    simp only [decide_eq_true_eq, Bool.and_eq_true] at q ⊢
    omega
  · intro a t ht
    obtain ⟨p, hp⟩ := List.mem_iff_getElem?.mp ht
    rw [List.getElem?_take] at hp
    split at hp
    · rename_i hlt
      have q := a p (List.mem_range.mpr hlt)
      rw [List.getElem?_map, g_get (by omega)] at hp
      have e : (g qt p).toNat = t := Option.some.inj hp
      simp only [decide_eq_true_eq, Bool.and_eq_true] at q ⊢
      omega
    · cases hp
theorem goodCond_eq {nc cno n cs os no : Int} {ct qt qc qo : List Int} (hct : ∀ x, x ∈ ct → 0 ≤ x) (hp : ∀ p : Nat, (p : Int) < n → g qt p < nc) (hnc : nc ≤ 8) (hq : ∀ x, x ∈ qt → 0 ≤ x) (hc : QcOk qc) {k : Nat} (hk : k < 12) :
    Kp118.goodCond (catOf nc cno ct) (askOf n cs os no qt qc qo) (condAt qc k) = condOk ct n qt qc k := by
  have a0 := hc.a0 k hk
  have i0 := hc.i0 k hk
  have op0 := hc.op0 k hk
  have b0 := hc.b0 k hk
  unfold Kp118.goodCond condOk
  have e1 : Kp118.isCol (catOf nc cno ct) (askOf n cs os no qt qc qo) (condAt qc k).a (condAt qc k).i = colThere ct n qt (g qc (5 * k)) (g qc (5 * k + 1)) := isCol_eq hct hp hnc hq a0 i0
  have e2 : decide ((condAt qc k).op ≤ 5) = (decide (0 ≤ g qc (5 * k + 2)) && decide (g qc (5 * k + 2) ≤ 5)) := by
    rw [Bool.eq_iff_iff]
    simp only [Bool.and_eq_true, decide_eq_true_eq]
    simp only [condAt]
    omega
  have e3 : ((condAt qc k).b == 255) = decide (g qc (5 * k + 3) = 255) := by
    rw [Bool.eq_iff_iff]
    simp only [beq_iff_eq, decide_eq_true_eq]
    simp only [condAt]
    omega
  have e4 : (decide (0 ≤ (condAt qc k).j) && Kp118.isCol (catOf nc cno ct) (askOf n cs os no qt qc qo) (condAt qc k).b (condAt qc k).j.toNat) = colThere ct n qt (g qc (5 * k + 3)) (g qc (5 * k + 4)) := by
    by_cases hj : 0 ≤ g qc (5 * k + 4)
    · have : decide (0 ≤ (condAt qc k).j) = true := decide_eq_true hj
      rw [this, Bool.true_and]
      exact isCol_eq hct hp hnc hq b0 hj
    · have : decide (0 ≤ (condAt qc k).j) = false := decide_eq_false hj
      rw [this, Bool.false_and]
      unfold colThere
      rw [decide_eq_false hj, Bool.false_and, Bool.and_false]
  rw [e1, e2, e3, e4, Bool.and_comm (colThere _ _ _ _ _)]
theorem goodAsk_eq {nc cno n cs os no : Int} {ct qt qc qo : List Int} (hct : ∀ x, x ∈ ct → 0 ≤ x) (hnc : nc ≤ 8) (hnc0 : 0 ≤ nc) (hq : ∀ x, x ∈ qt → 0 ≤ x) (hql : qt.length = 8) (hc : QcOk qc) (ho : ∀ x, x ∈ qo → 0 ≤ x)
    (hn : 0 ≤ n) (hcs : 0 ≤ cs) (hos : 0 ≤ os) (hno : 0 ≤ no) : Kp118.goodAsk (catOf nc cno ct) (askOf n cs os no qt qc qo) = askOk nc n cs os no ct qt qc qo := by
  unfold Kp118.goodAsk askOk
  have e1 : (decide (1 ≤ (askOf n cs os no qt qc qo).tables) && decide ((askOf n cs os no qt qc qo).tables ≤ 5) && decide ((askOf n cs os no qt qc qo).conds ≤ 12) && decide (1 ≤ (askOf n cs os no qt qc qo).outs) && decide ((askOf n cs os no qt qc qo).outs ≤ 8) && decide ((askOf n cs os no qt qc qo).none_ = 0)) = countsOk n cs os no := by
    unfold countsOk
    rw [Bool.eq_iff_iff]
    simp only [Bool.and_eq_true, decide_eq_true_eq]
    simp only [askOf]
    omega
  rw [e1]
  by_cases hk : countsOk n cs os no = true
  · have hk' := hk
    unfold countsOk at hk'
    simp only [Bool.and_eq_true, decide_eq_true_eq] at hk'
    have e2 : (((askOf n cs os no qt qc qo).table.take (askOf n cs os no qt qc qo).tables).all fun t => decide (t < (catOf nc cno ct).tables)) = placesOk nc n qt := places_eq hq hql (by omega)
    rw [e2]
    by_cases hpl : placesOk nc n qt = true
    · have hp : ∀ p : Nat, (p : Int) < n → g qt p < nc := fun p hp => by
        unfold placesOk at hpl
        rw [List.all_eq_true] at hpl
        have := hpl p (List.mem_range.mpr (by omega))
        simp only [Bool.and_eq_true, decide_eq_true_eq] at this
        exact this.2
      have e3 : (askOf n cs os no qt qc qo).cs = (List.range cs.toNat).map (condAt qc) := take_map_range _ _ _ (by simp only [askOf]; omega)
      have e4 : (askOf n cs os no qt qc qo).os = (List.range os.toNat).map (outAt qo) := take_map_range _ _ _ (by simp only [askOf]; omega)
      rw [e3, e4, List.all_map, List.all_map]
      have e5 : (List.range cs.toNat).all (Kp118.goodCond (catOf nc cno ct) (askOf n cs os no qt qc qo) ∘ condAt qc) = condsOk ct n cs qt qc := all_congr fun k hk => by
        have := List.mem_range.mp hk
        exact goodCond_eq hct hp hnc hq hc (by omega)
      have e6 : (List.range os.toNat).all ((fun x => Kp118.isCol (catOf nc cno ct) (askOf n cs os no qt qc qo) x.1 x.2) ∘ outAt qo) = outsOk ct n os qt qo := all_congr fun k hk => isCol_eq hct hp hnc hq (g_nonneg ho _) (g_nonneg ho _)
      rw [e5, e6]
    · have : placesOk nc n qt = false := by simpa using hpl
      simp only [this, Bool.and_false, Bool.false_and]
  · have : countsOk n cs os no = false := by simpa using hk
    simp only [this, Bool.false_and]
theorem right_eq {nc cno n cs os no : Int} {ct qt qc qo : List Int} (hct : ∀ x, x ∈ ct → 0 ≤ x) (hnc0 : 0 ≤ nc) (hcn : 0 ≤ cno) (hq : ∀ x, x ∈ qt → 0 ≤ x) (hql : qt.length = 8) (hc : QcOk qc) (ho : ∀ x, x ∈ qo → 0 ≤ x)
    (hn : 0 ≤ n) (hcs : 0 ≤ cs) (hos : 0 ≤ os) (hno : 0 ≤ no) : Kp118.right (catOf nc cno ct) (askOf n cs os no qt qc qo) = rightM nc cno n cs os no ct qt qc qo := by
  unfold Kp118.right rightM
  rw [goodCat_eq hct hnc0 hcn]
  by_cases hk : catOk nc cno ct = true
  · have hk' := hk
    unfold catOk at hk'
    simp only [Bool.and_eq_true, decide_eq_true_eq] at hk'
    rw [goodAsk_eq hct hk'.1.1.2 hnc0 hq hql hc ho hn hcs hos hno]
  · have : catOk nc cno ct = false := by simpa using hk
    simp only [this, Bool.false_and]
end Pm
namespace Pm
theorem asked_best {s0 s1 s4 s5 s6 s7 : Int} {ct qt qc qo : List Int} (h : PyKp118.db_best_asked s0 s1 s4 s5 s6 s7 ct qt qc qo = true) (hc : qc.length = 60) (ho : qo.length = 16) :
    PyKp118.db_best s0 s1 s4 s5 s6 s7 ct qt qc qo = Kp118Neutral.wrKp118_Ans (Kp118.answer (.best (catOf s0 s1 ct) (askOf s4 s5 s6 s7 qt qc qo))) ∧ QcOk qc := by
  simp only [PyKp118.db_best_asked, Kp118Neutral.asked, Bool.and_eq_true] at h
  obtain ⟨h1, h2⟩ := h
  simp only [Kp118Neutral.asked1, Bool.and_eq_true] at h1
  have hk := natChunks hc h1.1.2.2
  simp only [PyKp118.db_best, Kp118Neutral.f]
  cases e : Kp118Neutral.rdList Kp118Neutral.rdKp118_Table ct with
  | none =>
    simp only [Kp118Neutral.callOf, e, Option.bind_none] at h2
    cases h2
  | some p =>
    obtain ⟨ts, r⟩ := p
    simp only [Kp118Neutral.callOf, e, Option.bind_some] at h2 ⊢
    by_cases hr : r = []
    · subst hr
      simp only [if_true, conds_eq hc, outs_eq ho, decide_eq_true_eq] at h2 ⊢
      obtain ⟨⟨p1, p2⟩, p3, p4, p5, p6⟩ := h2
      have e2 := rd_cat e p1 p2
      subst e2
      exact ⟨rfl, qcOk_of hk p6⟩
    · rw [if_neg hr] at h2
      cases h2
end Pm
namespace Pm
/-! the program's own functions of a plan and its cost -/
def tiedC (qc : List Int) (k : Nat) (o : Int) (e : List Int) : Int :=
  if g qc (5 * k + 2) ≠ 0 then -1
  else if (decide (g qc (5 * k) = o) && (decide (g qc (5 * k + 3) = 255) || e.contains (g qc (5 * k + 3)))) = true then g qc (5 * k + 1)
  else if (decide (g qc (5 * k + 3) = o) && e.contains (g qc (5 * k))) = true then g qc (5 * k + 4)
  else -1
def idxAt (ct : List Int) (t : Nat) (c : Int) : Bool := decide (idxM ct t / 2 ^ c.toNat % 2 = 1)
def stepOk (n : Int) (od : List Int) (s : Nat) : Bool := (decide (0 ≤ g od s) && decide (g od s < n)) && !(od.take s).contains (g od s)
def orderOk (n : Int) (od : List Int) : Bool := (List.range n.toNat).all (stepOk n od)
def lookOk (cs : Int) (ct qt qc : List Int) (c o : Int) (e : List Int) : Bool := (decide (0 ≤ c) && decide (c < cs)) && (!decide (tiedC qc c.toNat o e = -1) && idxAt ct (g qt o.toNat).toNat (tiedC qc c.toNat o e))
def wayOk (cs : Int) (ct qt qc od by_ : List Int) (s : Nat) : Bool := decide (g by_ s = 255) || lookOk cs ct qt qc (g by_ s) (g od s) (od.take s)
def byOk (n cs : Int) (ct qt qc od by_ : List Int) : Bool := (List.range n.toNat).all (wayOk cs ct qt qc od by_)
def planOk (n cs : Int) (ct qt qc od by_ : List Int) : Bool := orderOk n od && byOk n cs ct qt qc od by_
def partsM (a b : Int) : Int := (a + b - 1) / b
def bitsM (x : Int) : Int := ((if x == 0 then 0 else x.natAbs.log2 + 1 : Nat) : Int)
def lookM (rows alike : Int) : Int := bitsM (partsM rows 32) + partsM alike 32 + alike + 2
def pagesM (ct qt qc : List Int) (o : Int) (e : List Int) (w : Int) : Int :=
  if w = 255 then partsM (rowsM ct (g qt o.toNat).toNat) 16
  else lookM (rowsM ct (g qt o.toNat).toNat) (alikeM ct (g qt o.toNat).toNat (tiedC qc w.toNat o e).toNat)
def lessM (ct qt qc : List Int) (o : Int) (e : List Int) (m : Int) (k : Nat) : Int :=
  if tiedC qc k o e = -1 then m else (if alikeM ct (g qt o.toNat).toNat (tiedC qc k o e).toNat < m then alikeM ct (g qt o.toNat).toNat (tiedC qc k o e).toNat else m)
def leastM (ct qt qc : List Int) (o : Int) (e : List Int) : Nat → Int
  | 0 => rowsM ct (g qt o.toNat).toNat
  | k + 1 => lessM ct qt qc o e (leastM ct qt qc o e k) k
def comeM (cs : Int) (ct qt qc od : List Int) : Nat → Int
  | 0 => 1
  | k + 1 => comeM cs ct qt qc od k * leastM ct qt qc (g od k) (od.take k) cs.toNat
def costM (cs : Int) (ct qt qc od by_ : List Int) : Nat → Int
  | 0 => 0
  | k + 1 => costM cs ct qt qc od by_ k + comeM cs ct qt qc od k * pagesM ct qt qc (g od k) (od.take k) (g by_ k)
/-- what a right question gives -/
structure Rq (n cs : Int) (ct qt qc : List Int) : Prop where
  n1 : 1 ≤ n
  n5 : n ≤ 5
  c0 : 0 ≤ cs
  c12 : cs ≤ 12
  pl : ∀ p : Nat, (p : Int) < n → 0 ≤ g qt p ∧ g qt p < 8
  tb : ∀ p : Nat, (p : Int) < n → tableOk ct (g qt p).toNat = true
  cd : ∀ k : Nat, (k : Int) < cs → condOk ct n qt qc k = true
theorem rq_of {nc cno n cs os no : Int} {ct qt qc qo : List Int} (h : rightM nc cno n cs os no ct qt qc qo = true) : Rq n cs ct qt qc := by
  simp only [rightM, catOk, askOk, countsOk, placesOk, condsOk, Bool.and_eq_true, decide_eq_true_eq, List.all_eq_true] at h
  obtain ⟨⟨⟨⟨h1, h2⟩, h3⟩, h4⟩, ⟨⟨⟨⟨⟨h5, h6⟩, h7⟩, h8⟩, h9⟩, h10⟩, h11⟩ := h
  have pl : ∀ p : Nat, (p : Int) < n → 0 ≤ g qt p ∧ g qt p < nc := fun p hp => h9 p (List.mem_range.mpr (by omega))
  refine ⟨h5.1, h5.2, h6.1, h6.2, fun p hp => ?_, fun p hp => ?_, fun k hk => h10 k (List.mem_range.mpr (by omega))⟩
  · have := pl p hp
    omega
  · have := pl p hp
    exact h4 _ (List.mem_range.mpr (by omega))
section
variable {nc cno n cs os no : Int} {ct qt qc qo od by_ e : List Int}
theorem Rq.tab (R : Rq n cs ct qt qc) {o : Int} (h0 : 0 ≤ o) (h1 : o < n) : 0 ≤ g qt o.toNat ∧ g qt o.toNat < 8 ∧ 1 ≤ colsM ct (g qt o.toNat).toNat ∧ colsM ct (g qt o.toNat).toNat ≤ 4 ∧ 0 ≤ rowsM ct (g qt o.toNat).toNat ∧ rowsM ct (g qt o.toNat).toNat ≤ 4096 ∧
    ∀ c : Nat, (c : Int) < colsM ct (g qt o.toNat).toNat → 0 ≤ alikeM ct (g qt o.toNat).toNat c ∧ alikeM ct (g qt o.toNat).toNat c ≤ 4096 := by
  have h := R.tb o.toNat (by omega)
  have p := R.pl o.toNat (by omega)
  simp only [tableOk, alikeOk, Bool.and_eq_true, decide_eq_true_eq, List.all_eq_true] at h
  exact ⟨p.1, p.2, h.1.1.1.1.1, h.1.1.1.1.2, h.1.1.1.2.1, h.1.1.1.2.2, fun c hc => h.2 c (List.mem_range.mpr (by omega))⟩
theorem Rq.tied (R : Rq n cs ct qt qc) {o : Int} (h0 : 0 ≤ o) (h1 : o < n) {k : Nat} (hk : (k : Int) < cs) : tiedC qc k o e = -1 ∨ (0 ≤ tiedC qc k o e ∧ tiedC qc k o e < colsM ct (g qt o.toNat).toNat) := by
  have h := R.cd k hk
  have n5 := R.n5
  simp only [condOk, colThere, Bool.and_eq_true, Bool.or_eq_true, decide_eq_true_eq] at h
  obtain ⟨⟨_, h2, h3⟩, h4⟩ := h
  unfold tiedC
  split
  · exact .inl rfl
  · split
    · rename_i q
      simp only [Bool.and_eq_true, decide_eq_true_eq] at q
      rw [q.1] at h3
      exact .inr h3
    · split
      · rename_i q
        simp only [Bool.and_eq_true, decide_eq_true_eq] at q
        rcases h4 with h4 | h4
        · omega
        · rw [q.1] at h4
          exact .inr h4.2
      · exact .inl rfl
theorem contains_nat : ∀ {e : List Int} {z : Int}, (∀ x, x ∈ e → 0 ≤ x) → 0 ≤ z → (e.map Int.toNat).contains z.toNat = e.contains z
  | [], _, _, _ => rfl
  | x :: e, z, he, hz => by
    have hx := he x List.mem_cons_self
    have ih := contains_nat (e := e) (fun y hy => he y (List.mem_cons_of_mem _ hy)) hz
    simp only [List.map_cons, List.contains_cons, ih]
    congr 1
    rw [Bool.eq_iff_iff]
    simp only [beq_iff_eq]
    omega
theorem tied_eq (R : Rq n cs ct qt qc) (hc : QcOk qc) (he : ∀ x, x ∈ e → 0 ≤ x) {o : Int} (h0 : 0 ≤ o) (h1 : o < n) {k : Nat} (hk : (k : Int) < cs) :
    Kp118.tied (condAt qc k) o.toNat (e.map Int.toNat) = if tiedC qc k o e = -1 then none else some (tiedC qc k o e).toNat := by
  have n5 := R.n5
  have c12 := R.c12
  have a0 := hc.a0 k (by omega)
  have i0 := hc.i0 k (by omega)
  have op0 := hc.op0 k (by omega)
  have b0 := hc.b0 k (by omega)
  have hT := R.tied (e := e) h0 h1 hk
  have key : (if tiedC qc k o e = -1 then none else some (tiedC qc k o e).toNat) = (if g qc (5 * k + 2) ≠ 0 then none
      else if (decide (g qc (5 * k) = o) && (decide (g qc (5 * k + 3) = 255) || e.contains (g qc (5 * k + 3)))) = true then some (g qc (5 * k + 1)).toNat
      else if (decide (g qc (5 * k + 3) = o) && e.contains (g qc (5 * k))) = true then some (g qc (5 * k + 4)).toNat
      else none) := by
    unfold tiedC at hT ⊢
    split
    · rfl
    · split
      · rename_i q1 q2
        rw [if_neg q1, if_pos q2] at hT
        rw [if_neg (by omega)]
      · split
        · rename_i q1 q2 q3
          have hj : g qc (5 * k + 4) ≠ -1 := by
            have h := R.cd k hk
            simp only [condOk, colThere, Bool.and_eq_true, Bool.or_eq_true, decide_eq_true_eq] at h
            simp only [Bool.and_eq_true, decide_eq_true_eq] at q3
            omega
          rw [if_neg hj]
        · rfl
  rw [key]
  show (if (g qc (5 * k + 2)).toNat ≠ 0 then none
    else if (g qc (5 * k)).toNat = o.toNat ∧ ((g qc (5 * k + 3)).toNat = 255 ∨ (e.map Int.toNat).contains (g qc (5 * k + 3)).toNat = true) then some (g qc (5 * k + 1)).toNat
    else if (g qc (5 * k + 3)).toNat = o.toNat ∧ (g qc (5 * k + 3)).toNat ≠ 255 ∧ (e.map Int.toNat).contains (g qc (5 * k)).toNat = true then some (g qc (5 * k + 4)).toNat
    else none) = _
  have e1 : (g qc (5 * k + 2)).toNat ≠ 0 ↔ g qc (5 * k + 2) ≠ 0 := by omega
  have e2 : ((g qc (5 * k)).toNat = o.toNat ∧ ((g qc (5 * k + 3)).toNat = 255 ∨ (e.map Int.toNat).contains (g qc (5 * k + 3)).toNat = true)) ↔ (decide (g qc (5 * k) = o) && (decide (g qc (5 * k + 3) = 255) || e.contains (g qc (5 * k + 3)))) = true := by
    rw [contains_nat he b0]
    simp only [Bool.and_eq_true, Bool.or_eq_true, decide_eq_true_eq]
    have z1 : (g qc (5 * k)).toNat = o.toNat ↔ g qc (5 * k) = o := by omega
    have z2 : (g qc (5 * k + 3)).toNat = 255 ↔ g qc (5 * k + 3) = 255 := by omega
    rw [z1, z2]
  have e3 : ((g qc (5 * k + 3)).toNat = o.toNat ∧ (g qc (5 * k + 3)).toNat ≠ 255 ∧ (e.map Int.toNat).contains (g qc (5 * k)).toNat = true) ↔ (decide (g qc (5 * k + 3) = o) && e.contains (g qc (5 * k))) = true := by
    rw [contains_nat he a0]
    simp only [Bool.and_eq_true, decide_eq_true_eq]
    have z1 : (g qc (5 * k + 3)).toNat = o.toNat ↔ g qc (5 * k + 3) = o := by omega
    rw [z1]
    exact ⟨fun h => ⟨h.1, h.2.2⟩, fun h => ⟨h.1, by omega, h.2⟩⟩
  by_cases q1 : g qc (5 * k + 2) ≠ 0
  · rw [if_pos q1, if_pos (e1.mpr q1)]
  · rw [if_neg q1, if_neg (fun z => q1 (e1.mp z))]
    by_cases q2 : (decide (g qc (5 * k) = o) && (decide (g qc (5 * k + 3) = 255) || e.contains (g qc (5 * k + 3)))) = true
    · rw [if_pos q2, if_pos (e2.mpr q2)]
    · rw [if_neg q2, if_neg (fun z => q2 (e2.mp z))]
      by_cases q3 : (decide (g qc (5 * k + 3) = o) && e.contains (g qc (5 * k))) = true
      · rw [if_pos q3, if_pos (e3.mpr q3)]
      · rw [if_neg q3, if_neg (fun z => q3 (e3.mp z))]
theorem cs_eq (h : cs ≤ 12) : (askOf n cs os no qt qc qo).cs = (List.range cs.toNat).map (condAt qc) := take_map_range _ _ _ (by show cs.toNat ≤ 12; omega)
theorem cs_at (h : cs ≤ 12) {k : Nat} (hk : (k : Int) < cs) : (askOf n cs os no qt qc qo).cs[k]? = some (condAt qc k) := by
  rw [cs_eq h, List.getElem?_map, List.getElem?_range (by omega)]
  rfl
theorem cs_no (h : cs ≤ 12) {k : Nat} (hk : cs ≤ (k : Int)) : (askOf n cs os no qt qc qo).cs[k]? = none := by
  rw [cs_eq h, List.getElem?_map, List.getElem?_eq_none (by rw [List.length_range]; omega)]
  rfl
theorem tab_eq (R : Rq n cs ct qt qc) {o : Int} (h0 : 0 ≤ o) (h1 : o < n) : Kp118.tab (catOf nc cno ct) (askOf n cs os no qt qc qo) o.toNat = tableAt ct (g qt o.toNat).toNat := by
  unfold Kp118.tab
  have := R.tab h0 h1
  rw [tableOf_eq, at_eq _ _ _ (by omega)]
theorem alike_at (ct : List Int) (t : Nat) {c : Nat} (hc : c < 4) : (tableAt ct t).alike.getD c 0 = (alikeM ct t c).toNat := by
  match c, hc with
  | 0, _ => rfl
  | 1, _ => rfl
  | 2, _ => rfl
  | 3, _ => rfl
theorem indexed_eq (hct : ∀ x, x ∈ ct → 0 ≤ x) (t c : Nat) : Kp118.isIndexed (tableAt ct t) c = decide (idxM ct t / 2 ^ c % 2 = 1) := by
  have hi : 0 ≤ idxM ct t := g_nonneg hct _
  unfold Kp118.isIndexed
  rw [Bool.eq_iff_iff]
  simp only [beq_iff_eq, decide_eq_true_eq]
  simp only [tableAt]
  have e : idxM ct t = ((idxM ct t).toNat : Int) := by omega
  generalize hm : (idxM ct t).toNat = m at e
  rw [e]
  have : ((m : Int) / 2 ^ c % 2) = ((m / 2 ^ c % 2 : Nat) : Int) := by
    rw [Int.natCast_emod, Int.natCast_ediv, Int.natCast_pow]
    rfl
  rw [this]
  omega
theorem mayBy_eq (R : Rq n cs ct qt qc) (hc : QcOk qc) (hct : ∀ x, x ∈ ct → 0 ≤ x) (he : ∀ x, x ∈ e → 0 ≤ x) {o w : Int} (h0 : 0 ≤ o) (h1 : o < n) (hw : 0 ≤ w) :
    Kp118.mayBy (catOf nc cno ct) (askOf n cs os no qt qc qo) (e.map Int.toNat) o.toNat w.toNat = (decide (w = 255) || lookOk cs ct qt qc w o e) := by
  have c12 := R.c12
  unfold Kp118.mayBy
  have e1 : (w.toNat == 255) = decide (w = 255) := by
    rw [Bool.eq_iff_iff]
    simp only [beq_iff_eq, decide_eq_true_eq]
    omega
  rw [e1]
  congr 1
  unfold lookOk
  by_cases hk : w < cs
  · rw [cs_at c12 (by omega), decide_eq_true hw, decide_eq_true hk, Bool.true_and, Bool.true_and]
    simp only [tied_eq R hc he h0 h1 (k := w.toNat) (by omega)]
    by_cases q : tiedC qc w.toNat o e = -1
    · rw [if_pos q, decide_eq_true q]
      rfl
    · rw [if_neg q, decide_eq_false q]
      simp only [tab_eq R h0 h1, indexed_eq hct]
      rfl
  · rw [cs_no c12 (by omega), decide_eq_false hk]
    simp
theorem take_nn (ho : ∀ x, x ∈ od → 0 ≤ x) (k : Nat) : ∀ x, x ∈ od.take k → 0 ≤ x := fun x hx => ho x (List.mem_of_mem_take hx)
theorem take_succ_g {k : Nat} (hk : k < od.length) : od.take (k + 1) = od.take k ++ [g od k] := by
  rw [List.take_add_one, g_get hk]
  rfl
def planL (od by_ : List Int) (k m : Nat) : Kp118.Plan := (List.range' k m).map fun s => ((g od s).toNat, (g by_ s).toNat)
theorem planL_succ (od by_ : List Int) (k m : Nat) : planL od by_ k (m + 1) = ((g od k).toNat, (g by_ k).toNat) :: planL od by_ (k + 1) m := by
  unfold planL
  rw [List.range'_succ, List.map_cons]
/-! pages -/
theorem over_eq (a : Int) (b : Nat) (h : 0 ≤ a) (hb : 0 < b) : ((Kp118.over a.toNat b : Nat) : Int) = partsM a b := by
  unfold Kp118.over partsM
  rw [Int.natCast_ediv]
  congr 1
  omega
theorem digits_eq : ∀ (f n : Nat), n < 2 ^ f → Kp118.digits f n = if n = 0 then 0 else n.log2 + 1
  | 0, n, h => by
    have : n = 0 := by simpa using h
    rw [if_pos this]
    rfl
  | f + 1, n, h => by
    unfold Kp118.digits
    by_cases hn : n = 0
    · rw [if_pos hn, if_pos hn]
    · rw [if_neg hn, if_neg hn, digits_eq f (n / 2) (by rw [Nat.pow_succ] at h; omega)]
      rw [Nat.log2_def n]
      by_cases h2 : 2 ≤ n
      · rw [if_neg (by omega), if_pos h2]
        omega
      · rw [if_pos (by omega), if_neg h2]
theorem bits_eq {n : Nat} (h : n < 2 ^ 16) : ((Kp118.digits 16 n : Nat) : Int) = bitsM (n : Int) := by
  rw [digits_eq 16 n h]
  unfold bitsM
  congr 1
  by_cases hn : n = 0
  · subst hn
    rfl
  · have : ((n : Int) == 0) = false := by
      rw [beq_eq_false_iff_ne]
      omega
    rw [if_neg hn, this]
    rfl
theorem bits_le {n : Int} (h0 : 0 ≤ n) (h : n < 65536) : 0 ≤ bitsM n ∧ bitsM n ≤ 16 := by
  have e := bits_eq (n := n.toNat) (by omega)
  have : ((n.toNat : Nat) : Int) = n := by omega
  rw [this] at e
  have k : ∀ f m, Kp118.digits f m ≤ f := by
    intro f
    induction f with
    | zero => intro m; exact Nat.le_refl _
    | succ f ih =>
      intro m
      unfold Kp118.digits
      split
      · omega
      · have := ih (m / 2)
        omega
  have := k 16 n.toNat
  omega
theorem lookUp_eq (ct : List Int) (t : Nat) {c : Nat} (hc : c < 4) (hr : 0 ≤ rowsM ct t) (hr2 : rowsM ct t ≤ 4096) (ha : 0 ≤ alikeM ct t c) : ((Kp118.lookUp (tableAt ct t) c : Nat) : Int) = lookM (rowsM ct t) (alikeM ct t c) := by
  unfold Kp118.lookUp lookM
  rw [alike_at ct t hc]
  simp only [Int.natCast_add]
  have e1 := over_eq (rowsM ct t) 32 hr (by omega)
  have e2 := over_eq (alikeM ct t c) 32 ha (by omega)
  have e3 : Kp118.over (tableAt ct t).rows 32 = Kp118.over (rowsM ct t).toNat 32 := rfl
  rw [e3, bits_eq (by unfold Kp118.over; omega), e1, e2]
  have : (((alikeM ct t c).toNat : Nat) : Int) = alikeM ct t c := by omega
  rw [this]
  rfl
theorem pages_eq (R : Rq n cs ct qt qc) (hc : QcOk qc) (he : ∀ x, x ∈ e → 0 ≤ x) {o w : Int} (h0 : 0 ≤ o) (h1 : o < n) (hw : w = 255 ∨ (0 ≤ w ∧ w < cs ∧ tiedC qc w.toNat o e ≠ -1)) :
    ((Kp118.pages (catOf nc cno ct) (askOf n cs os no qt qc qo) (e.map Int.toNat) o.toNat w.toNat : Nat) : Int) = pagesM ct qt qc o e w := by
  have c12 := R.c12
  obtain ⟨t0, t1, t2, t3, t4, t5, t6⟩ := R.tab h0 h1
  unfold Kp118.pages pagesM
  rcases hw with rfl | ⟨w0, w1, w2⟩
  · rw [cs_no c12 (by omega), if_pos rfl]
    simp only [tab_eq R h0 h1]
    exact over_eq _ 16 t4 (by omega)
  · rw [cs_at c12 (by omega), if_neg (by omega)]
    simp only [tied_eq R hc he h0 h1 (k := w.toNat) (by omega), if_neg w2, if_neg (show ¬ w.toNat = 255 by omega), tab_eq R h0 h1]
    have q := R.tied (e := e) h0 h1 (k := w.toNat) (by omega)
    exact lookUp_eq ct _ (by omega) t4 t5 (t6 _ (by omega)).1
theorem pages_le (R : Rq n cs ct qt qc) {o w : Int} (h0 : 0 ≤ o) (h1 : o < n) (hw : w = 255 ∨ (0 ≤ w ∧ w < cs ∧ tiedC qc w.toNat o e ≠ -1)) : 0 ≤ pagesM ct qt qc o e w ∧ pagesM ct qt qc o e w ≤ 5000 := by
  obtain ⟨t0, t1, t2, t3, t4, t5, t6⟩ := R.tab h0 h1
  unfold pagesM
  rcases hw with rfl | ⟨w0, w1, w2⟩
  · rw [if_pos rfl]
    unfold partsM
    omega
  · rw [if_neg (by have := R.c12; omega)]
    have q := R.tied (e := e) h0 h1 (k := w.toNat) (by omega)
    have a := t6 (tiedC qc w.toNat o e).toNat (by omega)
    unfold lookM
    have b := bits_le (n := partsM (rowsM ct (g qt o.toNat).toNat) 32) (by unfold partsM; omega) (by unfold partsM; omega)
    have p : 0 ≤ partsM (alikeM ct (g qt o.toNat).toNat (tiedC qc w.toNat o e).toNat) 32 ∧ partsM (alikeM ct (g qt o.toNat).toNat (tiedC qc w.toNat o e).toNat) 32 ≤ 200 := by
      unfold partsM
      omega
    omega
theorem least_le (R : Rq n cs ct qt qc) {o : Int} (h0 : 0 ≤ o) (h1 : o < n) : ∀ k : Nat, (k : Int) ≤ cs → 0 ≤ leastM ct qt qc o e k ∧ leastM ct qt qc o e k ≤ 4096
  | 0, _ => by
    obtain ⟨t0, t1, t2, t3, t4, t5, t6⟩ := R.tab h0 h1
    exact ⟨t4, t5⟩
  | k + 1, hk => by
    obtain ⟨t0, t1, t2, t3, t4, t5, t6⟩ := R.tab h0 h1
    have ih := least_le R h0 h1 k (by omega)
    have q := R.tied (e := e) h0 h1 (k := k) (by omega)
    show 0 ≤ lessM ct qt qc o e (leastM ct qt qc o e k) k ∧ lessM ct qt qc o e (leastM ct qt qc o e k) k ≤ 4096
    unfold lessM
    split
    · exact ih
    · have a := t6 (tiedC qc k o e).toNat (by omega)
      split <;> omega
theorem fans_eq (R : Rq n cs ct qt qc) (hc : QcOk qc) (he : ∀ x, x ∈ e → 0 ≤ x) {o : Int} (h0 : 0 ≤ o) (h1 : o < n) :
    ((Kp118.fans (catOf nc cno ct) (askOf n cs os no qt qc qo) (e.map Int.toNat) o.toNat : Nat) : Int) = leastM ct qt qc o e cs.toNat := by
  obtain ⟨t0, t1, t2, t3, t4, t5, t6⟩ := R.tab h0 h1
  unfold Kp118.fans
  rw [cs_eq R.c12, tab_eq R h0 h1]
  have c0 := R.c0
  suffices H : ∀ m : Nat, (m : Int) ≤ cs → ((((((List.range m).map (condAt qc)).filterMap fun x => Kp118.tied x o.toNat (e.map Int.toNat)).foldl (fun m i => min m ((tableAt ct (g qt o.toNat).toNat).alike.getD i 0)) (tableAt ct (g qt o.toNat).toNat).rows : Nat)) : Int) = leastM ct qt qc o e m from H cs.toNat (by omega)
  intro m
  induction m with
  | zero =>
    intro _
    show (((rowsM ct (g qt o.toNat).toNat).toNat : Nat) : Int) = rowsM ct (g qt o.toNat).toNat
    omega
  | succ m ih =>
    intro hm
    have ih := ih (by omega)
    rw [List.range_succ, List.map_append, List.filterMap_append, List.foldl_append]
    generalize ((List.map (condAt qc) (List.range m)).filterMap fun x => Kp118.tied x o.toNat (e.map Int.toNat)).foldl (fun m i => min m ((tableAt ct (g qt o.toNat).toNat).alike.getD i 0)) (tableAt ct (g qt o.toNat).toNat).rows = y at ih ⊢
    have q := R.tied (e := e) h0 h1 (k := m) (by omega)
    show _ = lessM ct qt qc o e (leastM ct qt qc o e m) m
    rw [← ih, List.map_cons, List.map_nil, List.filterMap_cons, tied_eq R hc he h0 h1 (k := m) (by omega)]
    unfold lessM
    by_cases z : tiedC qc m o e = -1
    · rw [if_pos z, if_pos z]
      rfl
    · rw [if_neg z, if_neg z]
      have a := t6 (tiedC qc m o e).toNat (by omega)
      simp only [List.filterMap_nil, List.foldl_cons, List.foldl_nil]
      rw [alike_at ct _ (by omega)]
      split <;> omega
theorem cost_eq (R : Rq n cs ct qt qc) (hc : QcOk qc) (ho : ∀ x, x ∈ od → 0 ≤ x) (lo : n.toNat ≤ od.length) (hp : planOk n cs ct qt qc od by_ = true) : ∀ (m k N : Nat), k + m = n.toNat → (N : Int) = comeM cs ct qt qc od k →
    costM cs ct qt qc od by_ k + ((Kp118.costFrom (catOf nc cno ct) (askOf n cs os no qt qc qo) ((od.take k).map Int.toNat) N (planL od by_ k m) : Nat) : Int) = costM cs ct qt qc od by_ n.toNat
  | 0, k, N, hk, hN => by
    have : k = n.toNat := by omega
    subst this
    show _ + ((0 : Nat) : Int) = _
    omega
  | m + 1, k, N, hk, hN => by
    have n5 := R.n5
    have n1 := R.n1
    simp only [planOk, orderOk, byOk, Bool.and_eq_true, List.all_eq_true] at hp
    have p1 := hp.1 k (List.mem_range.mpr (by omega))
    have p2 := hp.2 k (List.mem_range.mpr (by omega))
    simp only [stepOk, Bool.and_eq_true, decide_eq_true_eq] at p1
    simp only [wayOk, lookOk, Bool.or_eq_true, Bool.and_eq_true, decide_eq_true_eq, Bool.not_eq_true', decide_eq_false_iff_not] at p2
    have p3 : g by_ k = 255 ∨ (0 ≤ g by_ k ∧ g by_ k < cs ∧ tiedC qc (g by_ k).toNat (g od k) (od.take k) ≠ -1) := by
      rcases p2 with h | h
      · exact .inl h
      · exact .inr ⟨h.1.1, h.1.2, h.2.1⟩
    have f := fans_eq (nc := nc) (cno := cno) (os := os) (no := no) (qo := qo) R hc (take_nn ho k) p1.1.1 p1.1.2
    have pg := pages_eq (nc := nc) (cno := cno) (os := os) (no := no) (qo := qo) R hc (take_nn ho k) p1.1.1 p1.1.2 p3
    have hp' : planOk n cs ct qt qc od by_ = true := by
      simp only [planOk, orderOk, byOk, Bool.and_eq_true, List.all_eq_true]
      exact hp
    have ih := cost_eq R hc ho lo hp' m (k + 1) (N * Kp118.fans (catOf nc cno ct) (askOf n cs os no qt qc qo) ((od.take k).map Int.toNat) (g od k).toNat) (by omega) (by
      rw [Int.natCast_mul, f, hN]
      rfl)
    rw [planL_succ]
    rw [take_succ_g (by omega), List.map_append] at ih
    have ih' : costM cs ct qt qc od by_ (k + 1) + ((Kp118.costFrom (catOf nc cno ct) (askOf n cs os no qt qc qo) ((od.take k).map Int.toNat ++ [(g od k).toNat]) (N * Kp118.fans (catOf nc cno ct) (askOf n cs os no qt qc qo) ((od.take k).map Int.toNat) (g od k).toNat) (planL od by_ (k + 1) m) : Nat) : Int) = costM cs ct qt qc od by_ n.toNat := ih
    rw [← ih']
    show _ + ((N * Kp118.pages _ _ _ _ _ + Kp118.costFrom _ _ _ _ _ : Nat) : Int) = (costM cs ct qt qc od by_ k + comeM cs ct qt qc od k * pagesM ct qt qc (g od k) (od.take k) (g by_ k)) + _
    rw [Int.natCast_add, Int.natCast_mul, pg, hN]
    omega
/-- db_cost, as the program has it -/
def costAns (nc cno n cs os no : Int) (ct qt qc qo od by_ : List Int) : Int :=
  if rightM nc cno n cs os no ct qt qc qo then (if planOk n cs ct qt qc od by_ then costM cs ct qt qc od by_ n.toNat else -2) else -22
end
end Pm
namespace Pm
/-! the first of the least -/
def flS {α : Type} (f : α → Nat) (m : Option α) (x : α) : Option α := match m with
  | none => some x
  | some y => if f x < f y then some x else some y
def fl {α : Type} (f : α → Nat) (m : Option α) (l : List α) : Option α := l.foldl (flS f) m
section
variable {α β : Type}
theorem fl_cons (f : α → Nat) (m : Option α) (x : α) (l : List α) : fl f m (x :: l) = fl f (flS f m x) l := rfl
theorem fl_append (f : α → Nat) (m : Option α) (l l' : List α) : fl f m (l ++ l') = fl f (fl f m l) l' := List.foldl_append
theorem fl_some (f : α → Nat) : ∀ (l : List α) (a : α), fl f (some a) l = match fl f none l with
    | none => some a
    | some b => if f b < f a then some b else some a
  | [], a => rfl
  | x :: l, a => by
    have e1 : fl f none (x :: l) = fl f (some x) l := rfl
    rw [e1, fl_some f l x, fl_cons]
    show fl f (if f x < f a then some x else some a) l = _
    by_cases h : f x < f a
    · rw [if_pos h, fl_some f l x]
      cases fl f none l with
      | none => simp only [if_pos h]
      | some b =>
        by_cases h2 : f b < f x
        · simp only [if_pos h2]
          rw [if_pos (by omega)]
        · simp only [if_neg h2, if_pos h]
    · rw [if_neg h, fl_some f l a]
      cases fl f none l with
      | none => simp only [if_neg h]
      | some b =>
        by_cases h2 : f b < f x
        · simp only [if_pos h2]
        · simp only [if_neg h2, if_neg h]
          rw [if_neg (by omega)]
theorem fl_map (f : β → Nat) (g : α → β) : ∀ (l : List α) (m : Option α), fl f (m.map g) (l.map g) = (fl (f ∘ g) m l).map g
  | [], m => rfl
  | x :: l, m => by
    rw [List.map_cons, fl_cons, fl_cons, ← fl_map f g l]
    congr 1
    cases m with
    | none => rfl
    | some y =>
      show (if f (g x) < f (g y) then some (g x) else some (g y)) = (if f (g x) < f (g y) then some x else some y).map g
      split <;> rfl
theorem fl_map0 (f : β → Nat) (g : α → β) (l : List α) : fl f none (l.map g) = (fl (f ∘ g) none l).map g := fl_map f g l none
theorem fl_iff {f g : α → Nat} (h : ∀ x y, f x < f y ↔ g x < g y) (m : Option α) (l : List α) : fl f m l = fl g m l := by
  have : flS f = flS g := by
    funext m x
    cases m with
    | none => rfl
    | some y =>
      show (if f x < f y then some x else some y) = (if g x < g y then some x else some y)
      by_cases q : f x < f y
      · rw [if_pos q, if_pos ((h x y).mp q)]
      · rw [if_neg q, if_neg (fun z => q ((h x y).mpr z))]
  unfold fl
  rw [this]
theorem fl_isSome (f : α → Nat) : ∀ (l : List α) (a : α), ∃ b, fl f (some a) l = some b
  | [], a => ⟨a, rfl⟩
  | x :: l, a => by
    rw [fl_cons]
    show ∃ b, fl f (if f x < f a then some x else some a) l = some b
    split
    · exact fl_isSome f l x
    · exact fl_isSome f l a
theorem fl_ne (f : α → Nat) {l : List α} (h : l ≠ []) : ∃ b, fl f none l = some b := by
  cases l with
  | nil => exact absurd rfl h
  | cons x l => exact fl_isSome f l x
/-- the first of the least, in blocks: each block by its own first of the least -/
theorem fl_blocks (f : β → Nat) (F : α → List β) (F0 : α → β) (h : ∀ x, fl f none (F x) = some (F0 x)) : ∀ (l : List α) (m : Option β), fl f m (l.flatMap F) = fl f m (l.map F0)
  | [], m => rfl
  | x :: l, m => by
    rw [List.flatMap_cons, fl_append, List.map_cons, fl_cons]
    have e : fl f m (F x) = flS f m (F0 x) := by
      cases m with
      | none => exact h x
      | some y =>
        rw [fl_some, h x]
        rfl
    rw [e]
    exact fl_blocks f F F0 h l _
end
section
variable {c : Kp118.Cat} {q : Kp118.Ask}
theorem best_fl (c : Kp118.Cat) (q : Kp118.Ask) : Kp118.best c q = fl (Kp118.cost c q) none (Kp118.plans c q) := by
  unfold Kp118.best fl
  congr 1
  funext m p
  cases m <;> rfl
def choices (c : Kp118.Cat) (q : Kp118.Ask) (e : List Nat) (o : Nat) : List Nat := (List.range q.conds ++ [255]).filter (Kp118.mayBy c q e o)
theorem choices_ne (c : Kp118.Cat) (q : Kp118.Ask) (e : List Nat) (o : Nat) : choices c q e o ≠ [] := by
  intro h
  have : 255 ∈ choices c q e o := List.mem_filter.mpr ⟨List.mem_append_right _ List.mem_cons_self, rfl⟩
  rw [h] at this
  cases this
/-- the way of a step: the first of the least -/
def bestBy (c : Kp118.Cat) (q : Kp118.Ask) (e : List Nat) (n o : Nat) : Nat := (fl (fun b => n * Kp118.pages c q e o b) none (choices c q e o)).getD 255
theorem bestBy_eq (c : Kp118.Cat) (q : Kp118.Ask) (e : List Nat) (n o : Nat) : fl (fun b => n * Kp118.pages c q e o b) none (choices c q e o) = some (bestBy c q e n o) := by
  obtain ⟨b, h⟩ := fl_ne (fun b => n * Kp118.pages c q e o b) (choices_ne c q e o)
  unfold bestBy
  rw [h]
  rfl
def bestWays (c : Kp118.Cat) (q : Kp118.Ask) : List Nat → Nat → List Nat → List Nat
  | _, _, [] => []
  | e, n, o :: r => bestBy c q e n o :: bestWays c q (e ++ [o]) (n * Kp118.fans c q e o) r
theorem ways_best : ∀ (o : List Nat) (e : List Nat) (n : Nat), fl (fun w => Kp118.costFrom c q e n (o.zip w)) none (Kp118.waysOf c q e o) = some (bestWays c q e n o)
  | [], e, n => rfl
  | o :: r, e, n => by
    have ih := ways_best r (e ++ [o]) (n * Kp118.fans c q e o)
    show fl (fun w => Kp118.costFrom c q e n ((o :: r).zip w)) none ((choices c q e o).flatMap fun b => (Kp118.waysOf c q (e ++ [o]) r).map fun w => b :: w) = _
    rw [fl_blocks _ _ (fun b => b :: bestWays c q (e ++ [o]) (n * Kp118.fans c q e o) r), fl_map0]
    · have : fl ((fun w => Kp118.costFrom c q e n ((o :: r).zip w)) ∘ fun b => b :: bestWays c q (e ++ [o]) (n * Kp118.fans c q e o) r) none (choices c q e o) = fl (fun b => n * Kp118.pages c q e o b) none (choices c q e o) := by
        refine fl_iff (fun x y => ?_) _ _
        show n * Kp118.pages c q e o x + Kp118.costFrom c q (e ++ [o]) (n * Kp118.fans c q e o) (r.zip (bestWays c q (e ++ [o]) (n * Kp118.fans c q e o) r)) < n * Kp118.pages c q e o y + Kp118.costFrom c q (e ++ [o]) (n * Kp118.fans c q e o) (r.zip (bestWays c q (e ++ [o]) (n * Kp118.fans c q e o) r)) ↔ _
        omega
      rw [this, bestBy_eq]
      rfl
    · intro b
      rw [fl_map0]
      have : fl ((fun w => Kp118.costFrom c q e n ((o :: r).zip w)) ∘ fun w => b :: w) none (Kp118.waysOf c q (e ++ [o]) r) = fl (fun w => Kp118.costFrom c q (e ++ [o]) (n * Kp118.fans c q e o) (r.zip w)) none (Kp118.waysOf c q (e ++ [o]) r) := by
        refine fl_iff (fun x y => ?_) _ _
        show n * Kp118.pages c q e o b + Kp118.costFrom c q (e ++ [o]) (n * Kp118.fans c q e o) (r.zip x) < n * Kp118.pages c q e o b + Kp118.costFrom c q (e ++ [o]) (n * Kp118.fans c q e o) (r.zip y) ↔ _
        omega
      rw [this, ih]
      rfl
/-- the best plan of an order -/
def planFor (c : Kp118.Cat) (q : Kp118.Ask) (o : List Nat) : Kp118.Plan := o.zip (bestWays c q [] 1 o)
theorem best_orders (c : Kp118.Cat) (q : Kp118.Ask) : Kp118.best c q = fl (Kp118.cost c q) none ((Kp118.orders q.tables (List.range q.tables)).map (planFor c q)) := by
  rw [best_fl]
  unfold Kp118.plans
  refine fl_blocks _ _ _ (fun o => ?_) _ _
  rw [fl_map0]
  have := ways_best (c := c) (q := q) o [] 1
  rw [show (Kp118.cost c q ∘ fun w => o.zip w) = fun w => Kp118.costFrom c q [] 1 (o.zip w) from rfl, this]
  rfl
end
end Pm
namespace Pm
/-! the program's own functions of the best plan -/
def waysM (cs : Int) (ct qt qc : List Int) (o : Int) (e : List Int) : List Int := ((List.range cs.toNat).filter fun (w : Nat) => lookOk cs ct qt qc (w : Int) o e).map (fun (w : Nat) => (w : Int)) ++ [255]
/-- the first of the least, from a on -/
def flI {α : Type} (f : α → Int) (a : α) (l : List α) : α := l.foldl (fun b x => if f x < f b then x else b) a
def bestWayM (cs : Int) (ct qt qc : List Int) (o : Int) (e : List Int) (n : Int) : Int := flI (fun w => n * pagesM ct qt qc o e w) ((waysM cs ct qt qc o e).headD 255) (waysM cs ct qt qc o e).tail
def byAt (cs : Int) (ct qt qc od : List Int) (s : Nat) : Int := bestWayM cs ct qt qc (g od s) (od.take s) (comeM cs ct qt qc od s)
def bestByM (cs : Int) (ct qt qc od : List Int) (k : Nat) : List Int := (List.range k).map (byAt cs ct qt qc od)
def leastCostM (n cs : Int) (ct qt qc od : List Int) : Int := costM cs ct qt qc od (bestByM cs ct qt qc od n.toNat) n.toNat
def moreM (n : Nat) (od : List Int) : List (List Int) := ((List.range n).filter fun (p : Nat) => !od.contains (p : Int)).map fun (p : Nat) => od ++ [(p : Int)]
def longerM (n : Nat) (os : List (List Int)) : List (List Int) := os.flatMap (moreM n)
def everyM (n : Nat) : Nat → List (List Int)
  | 0 => [[]]
  | k + 1 => longerM n (everyM n k)
def bestOrderM (n cs : Int) (ct qt qc : List Int) : List Int := flI (leastCostM n cs ct qt qc) ((everyM n.toNat n.toNat).headD []) (everyM n.toNat n.toNat).tail
def rowM (l : List Int) : List Int := 5 :: (l ++ List.replicate (5 - l.length) 255)
section
variable {α : Type}
theorem flI_snoc (f : α → Int) (a : α) (l : List α) (x : α) : flI f a (l ++ [x]) = if f x < f (flI f a l) then x else flI f a l := by
  unfold flI
  rw [List.foldl_append]
  rfl
theorem flI_mem (f : α → Int) : ∀ (l : List α) (a : α), flI f a l ∈ a :: l
  | [], a => List.mem_cons_self
  | x :: l, a => by
    have h : flI f a (x :: l) = flI f (if f x < f a then x else a) l := rfl
    rw [h]
    have := flI_mem f l (if f x < f a then x else a)
    rcases List.mem_cons.mp this with q | q
    · rw [q]
      split
      · exact List.mem_cons_of_mem _ List.mem_cons_self
      · exact List.mem_cons_self
    · exact List.mem_cons_of_mem _ (List.mem_cons_of_mem _ q)
theorem flI_congr {f g : α → Int} : ∀ (l : List α) (a : α), (∀ x, x ∈ a :: l → f x = g x) → flI f a l = flI g a l
  | [], a, _ => rfl
  | x :: l, a, h => by
    have ha := h a List.mem_cons_self
    have hx := h x (List.mem_cons_of_mem _ List.mem_cons_self)
    show flI f (if f x < f a then x else a) l = flI g (if g x < g a then x else a) l
    rw [ha, hx]
    refine flI_congr l _ fun y hy => ?_
    rcases List.mem_cons.mp hy with q | q
    · rw [q]
      split
      · exact hx
      · exact ha
    · exact h y (List.mem_cons_of_mem _ (List.mem_cons_of_mem _ q))
theorem fl_flI (f : α → Nat) : ∀ (l : List α) (a : α), fl f (some a) l = some (flI (fun x => (f x : Int)) a l)
  | [], a => rfl
  | x :: l, a => by
    show fl f (if f x < f a then some x else some a) l = some (flI (fun x => (f x : Int)) (if (f x : Int) < (f a : Int) then x else a) l)
    by_cases h : f x < f a
    · rw [if_pos h, if_pos (by omega)]
      exact fl_flI f l x
    · rw [if_neg h, if_neg (by omega)]
      exact fl_flI f l a
end
/-! the orders -/
theorem orders_all : ∀ n : Nat, n < 6 → (n = 0 ∨ (Kp118.orders n (List.range n) = (everyM n n).map (List.map Int.toNat) ∧ (everyM n n).all (fun od => orderOk (n : Int) od && decide (od.length = n) && od.all fun x => decide (0 ≤ x)) = true ∧ everyM n n ≠ [])) := by
  intro n h
  match n, h with
  | 0, _ => exact .inl rfl
  | 1, _ => exact .inr ⟨by decide +kernel, by decide +kernel, by decide +kernel⟩
  | 2, _ => exact .inr ⟨by decide +kernel, by decide +kernel, by decide +kernel⟩
  | 3, _ => exact .inr ⟨by decide +kernel, by decide +kernel, by decide +kernel⟩
  | 4, _ => exact .inr ⟨by decide +kernel, by decide +kernel, by decide +kernel⟩
  | 5, _ => exact .inr ⟨by decide +kernel, by decide +kernel, by decide +kernel⟩
theorem every_len : ∀ n : Nat, n < 6 → ∀ k, k ≤ n → (everyM n k).length ≤ 120 := by
  intro n h
  match n, h with
  | 0, _ => decide +kernel
  | 1, _ => decide +kernel
  | 2, _ => decide +kernel
  | 3, _ => decide +kernel
  | 4, _ => decide +kernel
  | 5, _ => decide +kernel
section
variable {nc cno n cs os no : Int} {ct qt qc qo od by_ e : List Int}
theorem head_tail {α : Type} {l : List α} (d : α) (h : l ≠ []) : l = l.headD d :: l.tail := by
  cases l with
  | nil => exact absurd rfl h
  | cons x l => rfl
theorem ways_ne (cs : Int) (ct qt qc : List Int) (o : Int) (e : List Int) : waysM cs ct qt qc o e ≠ [] := by
  unfold waysM
  simp
theorem ways_ok {w o : Int} (h : w ∈ waysM cs ct qt qc o e) : w = 255 ∨ (0 ≤ w ∧ w < cs ∧ tiedC qc w.toNat o e ≠ -1) := by
  unfold waysM at h
  rcases List.mem_append.mp h with q | q
  · obtain ⟨v, hv, rfl⟩ := List.mem_map.mp q
    have := (List.mem_filter.mp hv).2
    simp only [lookOk, Bool.and_eq_true, decide_eq_true_eq, Bool.not_eq_true', decide_eq_false_iff_not] at this
    exact .inr ⟨this.1.1, this.1.2, this.2.1⟩
  · exact .inl (List.mem_singleton.mp q)
theorem ways_look {w o : Int} (h : w ∈ waysM cs ct qt qc o e) : (decide (w = 255) || lookOk cs ct qt qc w o e) = true := by
  unfold waysM at h
  rcases List.mem_append.mp h with q | q
  · obtain ⟨v, hv, rfl⟩ := List.mem_map.mp q
    have := (List.mem_filter.mp hv).2
    rw [this, Bool.or_true]
  · rw [List.mem_singleton.mp q]
    rfl
theorem best_mem (o c : Int) : bestWayM cs ct qt qc o e c ∈ waysM cs ct qt qc o e := by
  have h := flI_mem (fun w => c * pagesM ct qt qc o e w) (waysM cs ct qt qc o e).tail ((waysM cs ct qt qc o e).headD 255)
  rw [← head_tail 255 (ways_ne cs ct qt qc o e)] at h
  exact h
theorem ways_nn {w o : Int} (h : w ∈ waysM cs ct qt qc o e) : 0 ≤ w := by
  rcases ways_ok h with q | q <;> omega
theorem choices_eq (R : Rq n cs ct qt qc) (hc : QcOk qc) (hct : ∀ x, x ∈ ct → 0 ≤ x) (he : ∀ x, x ∈ e → 0 ≤ x) {o : Int} (h0 : 0 ≤ o) (h1 : o < n) :
    choices (catOf nc cno ct) (askOf n cs os no qt qc qo) (e.map Int.toNat) o.toNat = (waysM cs ct qt qc o e).map Int.toNat := by
  have c12 := R.c12
  unfold choices waysM
  rw [List.filter_append, List.map_append, List.map_map]
  congr 1
  show (List.range cs.toNat).filter _ = _
  have e1 : (Int.toNat ∘ fun (w : Nat) => (w : Int)) = id := by
    funext w
    simp
  rw [e1, List.map_id]
  refine List.filter_congr fun w hw => ?_
  have hw := List.mem_range.mp hw
  have q := mayBy_eq (nc := nc) (cno := cno) (os := os) (no := no) (qo := qo) R hc hct he h0 h1 (w := (w : Int)) (by omega)
  rw [Int.toNat_natCast] at q
  rw [q, decide_eq_false (by omega), Bool.false_or]
theorem bestBy_M (R : Rq n cs ct qt qc) (hc : QcOk qc) (hct : ∀ x, x ∈ ct → 0 ≤ x) (he : ∀ x, x ∈ e → 0 ≤ x) {o c : Int} {N : Nat} (h0 : 0 ≤ o) (h1 : o < n) (hN : (N : Int) = c) :
    bestBy (catOf nc cno ct) (askOf n cs os no qt qc qo) (e.map Int.toNat) N o.toNat = (bestWayM cs ct qt qc o e c).toNat := by
  have q := bestBy_eq (catOf nc cno ct) (askOf n cs os no qt qc qo) (e.map Int.toNat) N o.toNat
  rw [choices_eq R hc hct he h0 h1, fl_map0] at q
  have w0 := head_tail 255 (ways_ne cs ct qt qc o e)
  rw [w0] at q
  have q' : (fl ((fun b => N * Kp118.pages (catOf nc cno ct) (askOf n cs os no qt qc qo) (e.map Int.toNat) o.toNat b) ∘ Int.toNat) (some ((waysM cs ct qt qc o e).headD 255)) (waysM cs ct qt qc o e).tail).map Int.toNat = some (bestBy (catOf nc cno ct) (askOf n cs os no qt qc qo) (e.map Int.toNat) N o.toNat) := q
  rw [fl_flI] at q'
  have q2 := Option.some.inj q'
  rw [← q2]
  congr 1
  unfold bestWayM
  refine flI_congr _ _ fun w hw => ?_
  rw [← w0] at hw
  show ((N * Kp118.pages _ _ _ _ w.toNat : Nat) : Int) = _
  rw [Int.natCast_mul, pages_eq R hc he h0 h1 (ways_ok hw), hN]
theorem bestWays_M (R : Rq n cs ct qt qc) (hc : QcOk qc) (hct : ∀ x, x ∈ ct → 0 ≤ x) (ho : ∀ x, x ∈ od → 0 ≤ x) (hO : orderOk n od = true) (lo : n.toNat ≤ od.length) : ∀ (m k N : Nat), k + m = n.toNat → (N : Int) = comeM cs ct qt qc od k →
    bestWays (catOf nc cno ct) (askOf n cs os no qt qc qo) ((od.take k).map Int.toNat) N ((List.range' k m).map fun s => (g od s).toNat) = (List.range' k m).map fun s => (byAt cs ct qt qc od s).toNat
  | 0, k, N, _, _ => rfl
  | m + 1, k, N, hk, hN => by
    have p1 : stepOk n od k = true := by
      unfold orderOk at hO
      exact List.all_eq_true.mp hO k (List.mem_range.mpr (by omega))
    simp only [stepOk, Bool.and_eq_true, decide_eq_true_eq] at p1
    have f := fans_eq (nc := nc) (cno := cno) (os := os) (no := no) (qo := qo) R hc (take_nn ho k) p1.1.1 p1.1.2
    have ih := bestWays_M R hc hct ho hO lo m (k + 1) (N * Kp118.fans (catOf nc cno ct) (askOf n cs os no qt qc qo) ((od.take k).map Int.toNat) (g od k).toNat) (by omega) (by
      rw [Int.natCast_mul, f, hN]
      rfl)
    rw [take_succ_g (by omega), List.map_append] at ih
    rw [List.range'_succ, List.map_cons, List.map_cons]
    show bestBy _ _ _ _ _ :: bestWays _ _ (((od.take k).map Int.toNat) ++ [(g od k).toNat]) _ _ = _
    rw [bestBy_M R hc hct (take_nn ho k) p1.1.1 p1.1.2 hN]
    congr 1
theorem map_g : ∀ (l : List Int), l.map Int.toNat = (List.range' 0 l.length).map fun s => (g l s).toNat := by
  intro l
  rw [← List.range_eq_range']
  refine List.ext_getElem? fun i => ?_
  rw [List.getElem?_map, List.getElem?_map]
  by_cases h : i < l.length
  · rw [g_get h, List.getElem?_range h]
    rfl
  · rw [List.getElem?_eq_none (by omega), List.getElem?_eq_none (by rw [List.length_range]; omega)]
    rfl
theorem g_by {k s : Nat} (h : s < k) : g (bestByM cs ct qt qc od k) s = byAt cs ct qt qc od s := by
  unfold g bestByM
  rw [List.getD_eq_getElem?_getD, List.getElem?_map, List.getElem?_range h]
  rfl
theorem by_ok (cs : Int) (ct qt qc od : List Int) : byOk n cs ct qt qc od (bestByM cs ct qt qc od n.toNat) = true := by
  unfold byOk
  refine List.all_eq_true.mpr fun s hs => ?_
  unfold wayOk
  rw [g_by (List.mem_range.mp hs)]
  exact ways_look (best_mem _ _)
theorem zip_map {α β γ : Type} (f : α → β) (h : α → γ) : ∀ l : List α, (l.map f).zip (l.map h) = l.map fun x => (f x, h x)
  | [] => rfl
  | x :: l => by
    rw [List.map_cons, List.map_cons, List.map_cons, List.zip_cons_cons, zip_map f h l]
theorem planFor_M (R : Rq n cs ct qt qc) (hc : QcOk qc) (hct : ∀ x, x ∈ ct → 0 ≤ x) (ho : ∀ x, x ∈ od → 0 ≤ x) (hO : orderOk n od = true) (lo : od.length = n.toNat) :
    planFor (catOf nc cno ct) (askOf n cs os no qt qc qo) (od.map Int.toNat) = planL od (bestByM cs ct qt qc od n.toNat) 0 n.toNat := by
  unfold planFor planL
  have b := bestWays_M (nc := nc) (cno := cno) (os := os) (no := no) (qo := qo) R hc hct ho hO (by omega) n.toNat 0 1 (by omega) rfl
  rw [List.take_zero, List.map_nil] at b
  rw [map_g, lo, b, zip_map]
  refine List.map_congr_left fun s hs => ?_
  rw [← List.range_eq_range'] at hs
  rw [g_by (List.mem_range.mp hs)]
theorem cost_M (R : Rq n cs ct qt qc) (hc : QcOk qc) (hct : ∀ x, x ∈ ct → 0 ≤ x) (ho : ∀ x, x ∈ od → 0 ≤ x) (hO : orderOk n od = true) (lo : od.length = n.toNat) :
    ((Kp118.cost (catOf nc cno ct) (askOf n cs os no qt qc qo) (planFor (catOf nc cno ct) (askOf n cs os no qt qc qo) (od.map Int.toNat)) : Nat) : Int) = leastCostM n cs ct qt qc od := by
  rw [planFor_M R hc hct ho hO lo]
  have hp : planOk n cs ct qt qc od (bestByM cs ct qt qc od n.toNat) = true := by
    unfold planOk
    rw [hO, by_ok]
    rfl
  have z := cost_eq (nc := nc) (cno := cno) (os := os) (no := no) (qo := qo) R hc ho (by omega) hp n.toNat 0 1 (by omega) rfl
  unfold leastCostM
  rw [← z]
  show _ = (0 : Int) + _
  rw [Int.zero_add]
  rfl
/-- what a right question's orders are -/
theorem every_ok (R : Rq n cs ct qt qc) : Kp118.orders n.toNat (List.range n.toNat) = (everyM n.toNat n.toNat).map (List.map Int.toNat) ∧ everyM n.toNat n.toNat ≠ [] ∧ ∀ od, od ∈ everyM n.toNat n.toNat → orderOk n od = true ∧ od.length = n.toNat ∧ ∀ x, x ∈ od → 0 ≤ x := by
  have n1 := R.n1
  have n5 := R.n5
  rcases orders_all n.toNat (by omega) with h | ⟨h1, h2, h3⟩
  · omega
  · refine ⟨h1, h3, fun od hod => ?_⟩
    have := List.all_eq_true.mp h2 od hod
    simp only [Bool.and_eq_true, decide_eq_true_eq, List.all_eq_true] at this
    rw [show ((n.toNat : Nat) : Int) = n by omega] at this
    exact ⟨this.1.1, this.1.2, this.2⟩
theorem bestOrder_mem (R : Rq n cs ct qt qc) : bestOrderM n cs ct qt qc ∈ everyM n.toNat n.toNat := by
  have h := flI_mem (leastCostM n cs ct qt qc) (everyM n.toNat n.toNat).tail ((everyM n.toNat n.toNat).headD [])
  rw [← head_tail [] (every_ok R).2.1] at h
  exact h
theorem best_M (R : Rq n cs ct qt qc) (hc : QcOk qc) (hct : ∀ x, x ∈ ct → 0 ≤ x) :
    Kp118.best (catOf nc cno ct) (askOf n cs os no qt qc qo) = some (planFor (catOf nc cno ct) (askOf n cs os no qt qc qo) ((bestOrderM n cs ct qt qc).map Int.toNat)) := by
  obtain ⟨h1, h2, h3⟩ := every_ok R
  rw [best_orders]
  show fl _ none ((Kp118.orders n.toNat (List.range n.toNat)).map _) = _
  rw [h1, List.map_map, fl_map0]
  have w0 := head_tail [] h2
  have e1 : fl (Kp118.cost (catOf nc cno ct) (askOf n cs os no qt qc qo) ∘ (planFor (catOf nc cno ct) (askOf n cs os no qt qc qo) ∘ List.map Int.toNat)) none (everyM n.toNat n.toNat) = some (bestOrderM n cs ct qt qc) := by
    rw [w0]
    show fl _ (some ((everyM n.toNat n.toNat).headD [])) (everyM n.toNat n.toNat).tail = _
    rw [fl_flI]
    congr 1
    unfold bestOrderM
    refine flI_congr _ _ fun od hod => ?_
    rw [← w0] at hod
    obtain ⟨q1, q2, q3⟩ := h3 od hod
    exact cost_M R hc hct q3 q1 q2
  rw [e1]
  rfl
/-- db_best, as the program has it -/
def bestAns (nc cno n cs os no : Int) (ct qt qc qo : List Int) : List Int :=
  if rightM nc cno n cs os no ct qt qc qo then
    [1, costM cs ct qt qc (bestOrderM n cs ct qt qc) (bestByM cs ct qt qc (bestOrderM n cs ct qt qc) n.toNat) n.toNat] ++ rowM (bestOrderM n cs ct qt qc) ++ rowM (bestByM cs ct qt qc (bestOrderM n cs ct qt qc) n.toNat)
  else [0, -22]
theorem wr_row : ∀ (l : List Int), (∀ x, x ∈ l → 0 ≤ x) → l.length ≤ 5 → Kp118Neutral.wrList Kp118Neutral.wrNat (l.map Int.toNat ++ List.replicate (5 - l.length) 255) = rowM l := by
  intro l h hl
  unfold Kp118Neutral.wrList rowM
  have e1 : ∀ m : List Int, (∀ x, x ∈ m → 0 ≤ x) → (m.map Int.toNat).flatMap Kp118Neutral.wrNat = m := by
    intro m
    induction m with
    | nil => intro _; rfl
    | cons x m ih =>
      intro hm
      rw [List.map_cons, List.flatMap_cons, ih fun y hy => hm y (List.mem_cons_of_mem _ hy)]
      show ((x.toNat : Nat) : Int) :: m = x :: m
      have := hm x List.mem_cons_self
      congr 1
      omega
  have e2 : ∀ k : Nat, (List.replicate k 255).flatMap Kp118Neutral.wrNat = List.replicate k (255 : Int) := by
    intro k
    induction k with
    | zero => rfl
    | succ k ih =>
      rw [List.replicate_succ, List.flatMap_cons, ih]
      rfl
  rw [List.flatMap_append, e1 l h, e2, List.length_append, List.length_map, List.length_replicate]
  congr 1
  omega
theorem dbbest_eq {s0 s1 s4 s5 s6 s7 : Int} (h : PyKp118.db_best_asked s0 s1 s4 s5 s6 s7 ct qt qc qo = true) (lc : qc.length = 60) (lq : qo.length = 16) (hct : ∀ x, x ∈ ct → 0 ≤ x) (h0 : 0 ≤ s0) (h1 : 0 ≤ s1) (hq : ∀ x, x ∈ qt → 0 ≤ x) (hql : qt.length = 8) (hqo : ∀ x, x ∈ qo → 0 ≤ x)
    (h4 : 0 ≤ s4) (h5 : 0 ≤ s5) (h6 : 0 ≤ s6) (h7 : 0 ≤ s7) : PyKp118.db_best s0 s1 s4 s5 s6 s7 ct qt qc qo = bestAns s0 s1 s4 s5 s6 s7 ct qt qc qo := by
  obtain ⟨e, hc⟩ := asked_best h lc lq
  rw [e]
  show Kp118Neutral.wrKp118_Ans (if Kp118.right (catOf s0 s1 ct) (askOf s4 s5 s6 s7 qt qc qo) = false then .num (-22) else match Kp118.best (catOf s0 s1 ct) (askOf s4 s5 s6 s7 qt qc qo) with
    | none => .num (-22)
    | some p => .plan (Kp118.cost (catOf s0 s1 ct) (askOf s4 s5 s6 s7 qt qc qo) p : Nat) (Kp118.rawOf p)) = _
  unfold bestAns
  rw [right_eq hct h0 h1 hq hql hc hqo h4 h5 h6 h7]
  cases hr : rightM s0 s1 s4 s5 s6 s7 ct qt qc qo with
  | false => rfl
  | true =>
    have R := rq_of hr
    obtain ⟨q1, q2, q3⟩ := (every_ok R).2.2 _ (bestOrder_mem R)
    rw [best_M R hc hct]
    simp only [Bool.true_eq_false, if_false, if_true]
    have z := cost_M (nc := s0) (cno := s1) (os := s6) (no := s7) (qo := qo) R hc hct q3 q1 q2
    show [1] ++ [((Kp118.cost _ _ _ : Nat) : Int)] ++ (Kp118Neutral.wrList Kp118Neutral.wrNat (Kp118.rawOf _).order ++ Kp118Neutral.wrList Kp118Neutral.wrNat (Kp118.rawOf _).by_) = _
    rw [z, planFor_M R hc hct q3 q1 q2]
    have n5 := R.n5
    have lp : (planL (bestOrderM s4 s5 ct qt qc) (bestByM s5 ct qt qc (bestOrderM s4 s5 ct qt qc) s4.toNat) 0 s4.toNat).length = s4.toNat := by
      unfold planL
      rw [List.length_map, List.length_range']
    have o1 : (planL (bestOrderM s4 s5 ct qt qc) (bestByM s5 ct qt qc (bestOrderM s4 s5 ct qt qc) s4.toNat) 0 s4.toNat).map Prod.fst = (bestOrderM s4 s5 ct qt qc).map Int.toNat := by
      rw [map_g, q2]
      unfold planL
      rw [List.map_map]
      rfl
    have lb : (bestByM s5 ct qt qc (bestOrderM s4 s5 ct qt qc) s4.toNat).length = s4.toNat := by
      unfold bestByM
      rw [List.length_map, List.length_range]
    have o2 : (planL (bestOrderM s4 s5 ct qt qc) (bestByM s5 ct qt qc (bestOrderM s4 s5 ct qt qc) s4.toNat) 0 s4.toNat).map Prod.snd = (bestByM s5 ct qt qc (bestOrderM s4 s5 ct qt qc) s4.toNat).map Int.toNat := by
      rw [map_g (bestByM s5 ct qt qc (bestOrderM s4 s5 ct qt qc) s4.toNat), lb]
      unfold planL
      rw [List.map_map]
      rfl
    have nb : ∀ x, x ∈ bestByM s5 ct qt qc (bestOrderM s4 s5 ct qt qc) s4.toNat → 0 ≤ x := by
      intro x hx
      unfold bestByM at hx
      obtain ⟨s, _, rfl⟩ := List.mem_map.mp hx
      exact ways_nn (best_mem _ _)
    unfold Kp118.rawOf
    simp only [lp, o1, o2]
    have w1 := wr_row (bestOrderM s4 s5 ct qt qc) q3 (by omega)
    have w2 := wr_row (bestByM s5 ct qt qc (bestOrderM s4 s5 ct qt qc) s4.toNat) nb (by omega)
    rw [q2] at w1
    rw [lb] at w2
    rw [w1, w2]
    unfold leastCostM
    simp only [List.append_assoc, List.cons_append, List.nil_append]
end
end Pm

/-! ### a pure run: what an expression is worth, where a statement ends, the heap as it was -/
namespace Ev
open PySem PySem.Spec PyProof.Rows L2
abbrev St := L2.St
def Ev (t : TE) (σ : St) (H : Hp) (v : V) : Prop := ∀ Q : VK, Q v H → t σ H Q
def EvT (t : TT) (σ : St) (H : Hp) (b : Bool) : Prop := ∀ Q : Bool → Hp → Prop, Q b H → t σ H Q
def EvA (t : TA) (σ : St) (H : Hp) (vs : List V) : Prop := ∀ Q : List V → Hp → Prop, Q vs H → t σ H Q
section
variable {σ : St} {H : Hp} {ta tb tc : TE} {tt tu : TT} {K : PySem.W.Frag}
theorem ev_var {i : Nat} {v : V} (h : σ[i]? = some (some v)) : Ev (tVar i) σ H v := fun _ q => ⟨v, h, q⟩
theorem ev_c {v : V} : Ev (tC v) σ H v := fun _ q => q
theorem ev_i0 {g : Int → Int → V} {i j : Int} (ha : Ev ta σ H (.int i)) (hb : Ev tb σ H (.int j)) : Ev (tOp (rI0 g) ta tb) σ H (g i j) := fun Q q => ha _ (hb _ (show rI0 g (.int i) (.int j) H Q from ⟨i, j, rfl, rfl, q⟩))
theorem ev_i {C : Int → Int → Prop} {g : Int → Int → V} {i j : Int} (ha : Ev ta σ H (.int i)) (hb : Ev tb σ H (.int j)) (hc : C i j) : Ev (tOp (rI C g) ta tb) σ H (g i j) := fun Q q => ha _ (hb _ (show rI C g (.int i) (.int j) H Q from ⟨i, j, rfl, rfl, hc, q⟩))
theorem ev_eq {i j : Int} (ha : Ev ta σ H (.int i)) (hb : Ev tb σ H (.int j)) : Ev (tOp rEq ta tb) σ H (.bl (decide (i = j))) := fun Q q => ha _ (hb _ (show rEq (.int i) (.int j) H Q from ⟨rfl, by
  have e : decide (V.int i = V.int j) = decide (i = j) := decide_eq_decide.mpr ⟨fun z => V.int.inj z, fun z => congrArg V.int z⟩
  rw [e]; exact q⟩))
theorem ev_ne {i j : Int} (ha : Ev ta σ H (.int i)) (hb : Ev tb σ H (.int j)) : Ev (tOp rNe ta tb) σ H (.bl (!decide (i = j))) := fun Q q => ha _ (hb _ (show rNe (.int i) (.int j) H Q from ⟨rfl, by
  have e : decide (V.int i = V.int j) = decide (i = j) := decide_eq_decide.mpr ⟨fun z => V.int.inj z, fun z => congrArg V.int z⟩
  rw [e]; exact q⟩))
theorem ev_test {b : Bool} (h : Ev ta σ H (.bl b)) : EvT (tTest ta) σ H b := fun _ q => h _ ⟨b, rfl, q⟩
theorem ev_tB {b : Bool} (h : Ev ta σ H (.bl b)) : EvT (tB ta) σ H b := fun _ q => h _ ⟨b, rfl, q⟩
theorem ev_not {b : Bool} (h : EvT tt σ H b) : EvT (tNot tt) σ H (!b) := fun Q q => h (fun c H1 => Q (!c) H1) q
theorem ev_and {b c : Bool} (ha : EvT tt σ H b) (hb : b = true → EvT tu σ H c) : EvT (tAnd tt tu) σ H (b && c) := fun Q q => ha _ (by
  cases b with
  | true => exact hb rfl Q q
  | false => exact q)
theorem ev_or {b c : Bool} (ha : EvT tt σ H b) (hb : b = false → EvT tu σ H c) : EvT (tOr tt tu) σ H (b || c) := fun Q q => ha _ (by
  cases b with
  | true => exact q
  | false => exact hb rfl Q q)
theorem ev_chain {p p' : Int → Int → Bool} {i j k : Int} (ha : Ev ta σ H (.int i)) (hb : Ev tb σ H (.int j)) (hc : p i j = true → Ev tc σ H (.int k)) :
    Ev (tChain (rI0 fun i j => .bl (p i j)) (rI0 fun i j => .bl (p' i j)) ta tb tc) σ H (.bl (p i j && p' j k)) := fun Q q => ha _ (hb _ ⟨i, j, rfl, rfl, p i j, rfl, by
  cases e : p i j with
  | true =>
    rw [e] at q
    exact hc e _ ⟨j, k, rfl, rfl, q⟩
  | false =>
    rw [e] at q
    exact q⟩)
theorem ev_ix {p : Addr} {z : Int} {ns : List Int} (ha : Ev ta σ H (.ref p)) (hb : Ev tb σ H (.int z)) (hS : SqL K H p (ns.map V.int)) (h0 : 0 ≤ z) (h1 : z < (ns.length : Int)) :
    Ev (tOp (rIxL K) ta tb) σ H (.int (Pm.g ns z.toNat)) := fun Q q => ha _ (hb _ ⟨p, _, z, _, rfl, rfl, hS, at_of (j := z.toNat) (by omega) (by rw [List.getElem?_map, Pm.g_get (by omega)]; rfl), q⟩)
theorem ev_nil : EvA tNil σ H [] := fun _ q => q
theorem ev_cons {tr : TA} {v : V} {vs : List V} (h : Ev ta σ H v) (hr : EvA tr σ H vs) : EvA (tCons ta tr) σ H (v :: vs) := fun Q q => h _ (hr (fun xs H2 => Q (v :: xs) H2) q)
/-- a pure def's promise: what it is worth -/
def spP (f : List V → Hp → V → Prop) : Sp := fun vs H Q _ => ∃ v, f vs H v ∧ Q v H
theorem ev_call {f : List V → Hp → V → Prop} {E : XK} {t : TA} {vs : List V} {v : V} (ha : EvA t σ H vs) (hf : f vs H v) : Ev (tCall (spP f) [] E t) σ H v := fun Q q => ha _ (by
  show spP f (vs ++ []) H Q E
  rw [List.append_nil]
  exact ⟨v, hf, q⟩)
end
/-! ### statements -/
inductive Out where
  | nx (σ : St) | rt (v : V) | bk (σ : St) | ct (σ : St)
def Out.ok (D : Ends) (H : Hp) : Out → Prop
  | .nx σ => D.nx σ H
  | .rt v => D.rt v H
  | .bk σ => D.bk σ H
  | .ct σ => D.ct σ H
def Run (t : TS) (σ : St) (H : Hp) (o : Out) : Prop := ∀ D : Ends, o.ok D H → t D σ H
section
variable {σ σ' : St} {H : Hp} {te : TE} {tc : TT} {t u r : TS} {o : Out}
theorem run_ret {v : V} (h : Ev te σ H v) : Run (tRet te) σ H (.rt v) := fun D d => h D.rt d
theorem run_next : Run tNext σ H (.nx σ) := fun _ d => d
theorem run_seq (h1 : Run t σ H (.nx σ')) (h2 : Run u σ' H o) : Run (tSeq t u) σ H o := fun D d => h1 { D with nx := u D } (h2 D d)
theorem run_if {b : Bool} (hc : EvT tc σ H b) (ha : b = true → Run t σ H o) (hb : b = false → Run u σ H o) : Run (tIfS tc t u) σ H o := fun D d => hc _ (by
  cases b with
  | true => exact ha rfl D d
  | false => exact hb rfl D d)
/-- if c: (leaves); what is behind it -/
theorem run_guard {b : Bool} {v : V} (hc : EvT tc σ H b) (ha : b = true → Run t σ H (.rt v)) (hb : b = false → Run r σ H (.rt v)) : Run (tSeq (tIfS tc t tNext) r) σ H (.rt v) := fun D d => hc _ (by
  cases b with
  | true => exact ha rfl { D with nx := r D } d
  | false => exact hb rfl D d)
theorem run_set {i : Nat} {v : V} (h : Ev te σ H v) : Run (tAsg te (gName i)) σ H (.nx (σ.set i (some v))) := fun _ d => h _ d
/-- for i in range(j), the heap untouched: it leaves by o, or goes on behind it -/
theorem run_range {ta : TA} {j : Int} {ix : Nat} {v : V} (he : EvA ta σ H [.int j]) (h0 : -(2 ^ 62) ≤ j) (h1 : j < 2 ^ 62) (Pv : Nat → St → Prop) (hp : Pv 0 σ)
    (hs : ∀ i σ, i < j.toNat → Pv i σ → Run t (σ.set ix (some (.int (i : Int)))) H (.rt v) ∨ ∃ σ', (Run t (σ.set ix (some (.int (i : Int)))) H (.nx σ') ∨ Run t (σ.set ix (some (.int (i : Int)))) H (.ct σ')) ∧ Pv (i + 1) σ')
    (hd : ∀ σ, Pv j.toNat σ → Run r σ H (.rt v)) : Run (tSeq (tFor (iRng1 ta) (gName ix) t) r) σ H (.rt v) := fun D d => by
  unfold tSeq tFor iRng1
  refine he _ ⟨j, rfl, h0, h1, ?_⟩
  refine for_range (D := { D with nx := r D }) (fun i σ' H' => H' = H ∧ Pv i σ') ⟨rfl, hp⟩ ?_ ?_
  · rintro i σ1 H1 hi ⟨rfl, p⟩
    have e : (0 : Int) + (i : Int) = (i : Int) := Int.zero_add _
    rw [e]
    show t _ (σ1.set ix (some (.int (i : Int)))) H1
    rcases hs i σ1 hi p with q | ⟨σ2, q | q, p2⟩
    · exact q _ d
    · exact q _ ⟨rfl, p2⟩
    · exact q _ ⟨rfl, p2⟩
  · rintro σ1 H1 ⟨rfl, p⟩
    exact hd σ1 p D d
end
/-! ### words for what the program writes again and again -/
section
variable {σ σ' : St} {H : Hp} {te : TE} {tc : TT} {t u r : TS} {b c : Bool}
theorem ev_to {v v' : V} (h : Ev te σ H v) (e : v = v') : Ev te σ H v' := e ▸ h
theorem run_to {v v' : V} (h : Run t σ H (.rt v)) (e : v = v') : Run t σ H (.rt v') := e ▸ h
theorem guard_raw {D : Ends} (hc : EvT tc σ H b) (ha : b = true → t { D with nx := r D } σ H) (hb : b = false → r D σ H) : tSeq (tIfS tc t tNext) r D σ H := hc _ (by
  cases b with
  | true => exact ha rfl
  | false => exact hb rfl)
/-- if not b: return False -/
theorem run_need (hc : EvT tc σ H b) (hb : b = true → Run r σ H (.rt (.bl c))) : Run (tSeq (tIfS (tNot tc) (tRet (tC (.bl false))) tNext) r) σ H (.rt (.bl (b && c))) := by
  refine run_guard (ev_not hc) (fun e => ?_) (fun e => ?_)
  · cases b with
    | true => cases e
    | false => exact run_ret ev_c
  · cases b with
    | true => exact hb rfl
    | false => cases e
/-- if (not b): return False, the not in the test itself -/
theorem run_bar (hc : EvT tc σ H (!b)) (hb : b = true → Run r σ H (.rt (.bl c))) : Run (tSeq (tIfS tc (tRet (tC (.bl false))) tNext) r) σ H (.rt (.bl (b && c))) := by
  refine run_guard hc (fun e => ?_) (fun e => ?_)
  · cases b with
    | true => cases e
    | false => exact run_ret ev_c
  · cases b with
    | true => exact hb rfl
    | false => cases e
/-- if b: return True -/
theorem run_or (hc : EvT tc σ H b) (hb : b = false → Run r σ H (.rt (.bl c))) : Run (tSeq (tIfS tc (tRet (tC (.bl true))) tNext) r) σ H (.rt (.bl (b || c))) := by
  refine run_guard hc (fun e => ?_) (fun e => ?_)
  · cases b with
    | true => exact run_ret ev_c
    | false => cases e
  · cases b with
    | true => cases e
    | false => exact hb rfl
theorem all_upto {p : Nat → Bool} {n : Nat} (h : ∀ i, i < n → p i = true) : (List.range n).all p = true := List.all_eq_true.mpr fun i hi => h i (List.mem_range.mp hi)
theorem not_all {p : Nat → Bool} {n i : Nat} (h : i < n) (e : p i = false) : (List.range n).all p = false := by
  cases q : (List.range n).all p with
  | false => rfl
  | true =>
    have := List.all_eq_true.mp q i (List.mem_range.mpr h)
    rw [e] at this
    cases this
/-- for i in range(j): if not p(i): return False; .. -/
theorem run_all {ta : TA} {j : Int} {ix : Nat} (he : EvA ta σ H [.int j]) (h0 : -(2 ^ 62) ≤ j) (h1 : j < 2 ^ 62) (p : Nat → Bool) (Pv : St → Prop) (hp : Pv σ)
    (hs : ∀ i σ, i < j.toNat → Pv σ → EvT tc (σ.set ix (some (.int (i : Int)))) H (p i) ∧ Pv (σ.set ix (some (.int (i : Int)))))
    (hd : ∀ σ, Pv σ → Run r σ H (.rt (.bl true))) : Run (tSeq (tFor (iRng1 ta) (gName ix) (tIfS (tNot tc) (tRet (tC (.bl false))) tNext)) r) σ H (.rt (.bl ((List.range j.toNat).all p))) := by
  refine run_range he h0 h1 (fun i σ => Pv σ ∧ ∀ k, k < i → p k = true) ⟨hp, fun k hk => absurd hk (Nat.not_lt_zero _)⟩ ?_ ?_
  · rintro i σ1 hi ⟨p1, p2⟩
    obtain ⟨q1, q2⟩ := hs i σ1 hi p1
    cases e : p i with
    | false =>
      rw [e] at q1
      refine .inl ?_
      rw [not_all hi e]
      exact run_if (ev_not q1) (fun _ => run_ret ev_c) (fun z => by cases z)
    | true =>
      rw [e] at q1
      refine .inr ⟨_, .inl (run_if (ev_not q1) (fun z => by cases z) (fun _ => run_next)), q2, fun k hk => ?_⟩
      by_cases hk' : k = i
      · rw [hk']; exact e
      · exact p2 k (by omega)
  · rintro σ1 ⟨p1, p2⟩
    rw [all_upto p2]
    exact hd σ1 p1
end
/-! ### defs -/
section
variable {P : Program} {w : World} {K : PySem.W.Frag} {mg : Str → Option Value} {base : Heap}
/-- a def of the text, as it stands behind the top -/
structure DefAt (K : PySem.W.Frag) (mg : Str → Option Value) (x : Str) (st : Stmt) : Prop where
  ex : ∃ (f : Addr) (fd : FuncData), mg x = some (.ref f) ∧ Fun K x x st f fd
/-- .. and what it promises -/
structure FD (P : Program) (w : World) (K : PySem.W.Frag) (mg : Str → Option Value) (base : Heap) (x : Str) (k : Nat) (ps : List Str) (sp : Sp) : Prop where
  ex : ∃ (f : Addr) (fd : FuncData), mg x = some (.ref f) ∧ PySem.W.keepIn K (.ref f) = true ∧ Binds K fd ps [] ∧ FnOk P w K mg base CX0 k f fd ps sp
theorem star_name {x : Str} {p : Pos} {es : List Expr} {env : Env} : starEach (.Name x p :: es) env = (false, eval (.Name x p) env) :: starEach es env := by rfl
theorem star_con {c : Const} {j : Nat} {p : Pos} {es : List Expr} {env : Env} : starEach (.Constant c j p :: es) env = (false, eval (.Constant c j p) env) :: starEach es env := by rfl
theorem star_call {f : Expr} {as : List Expr} {ks : List Keyword} {p : Pos} {es : List Expr} {env : Env} : starEach (.Call f as ks p :: es) env = (false, eval (.Call f as ks p) env) :: starEach es env := by rfl
theorem star_sub {a b : Expr} {p : Pos} {es : List Expr} {env : Env} : starEach (.Subscript a b p :: es) env = (false, eval (.Subscript a b p) env) :: starEach es env := by rfl
theorem star_bin {a b : Expr} {o : Operator} {p : Pos} {es : List Expr} {env : Env} : starEach (.BinOp a o b p :: es) env = (false, eval (.BinOp a o b p) env) :: starEach es env := by rfl
theorem star_lst {as : List Expr} {p : Pos} {es : List Expr} {env : Env} : starEach (.List as p :: es) env = (false, eval (.List as p) env) :: starEach es env := by rfl
theorem any_cons {pos : Pos} {e : Expr} {es : List Expr} {env : Env} (h : starEach (e :: es) env = (false, eval e env) :: starEach es env) (hr : (backTo pos (starEach es env)).any (·.1) = false) : (backTo pos (starEach (e :: es) env)).any (·.1) = false := by
  rw [h]
  show (false || (backTo pos (starEach es env)).any (·.1)) = false
  rw [hr]
  rfl
/-- arguments, none starred -/
structure AX (X : Cx) (es : List Expr) (t : TA) : Prop where
  pa : PA X es t
  an : ∀ pos : Pos, (backTo pos (starEach es X.env)).any (·.1) = false
structure AX1 (X : Cx) (e : Expr) (es : List Expr) (t : TA) : Prop where
  pa : PA X (e :: es) t
  he : starEach (e :: es) X.env = (false, eval e X.env) :: starEach es X.env
  an : ∀ pos : Pos, (backTo pos (starEach es X.env)).any (·.1) = false
theorem AX1.ax {X : Cx} {e : Expr} {es : List Expr} {t : TA} (a : AX1 X e es t) : AX X (e :: es) t := ⟨a.pa, fun pos => any_cons a.he (a.an pos)⟩
theorem ax_nil {X : Cx} : AX X [] tNil := ⟨pa_nil, fun _ => by rfl⟩
theorem ax_cons {X : Cx} {e : Expr} {es : List Expr} {te : TE} {t : TA} (ha : PE X e te) (hs : starEach (e :: es) X.env = (false, eval e X.env) :: starEach es X.env) (hr : AX X es t) : AX1 X e es (tCons te t) := ⟨pa_cons ha hr.pa hs, hs, hr.an⟩
theorem pe_fn {X : Cx} {x : Str} {k : Nat} {ps : List Str} {sp : Sp} {e : Expr} {es : List Expr} {t : TA} {p pos : Pos} (D : FD X.prog X.w X.K X.mg X.base x k ps sp) (hr : Room k X.A) (hg : Gl X x) (ha : AX1 X e es t)
    (hdb : (x == ("__debug__" : Str)) = false := by decide) : PE X (.Call (.Name x p) (e :: es) [] pos) (tCall sp [] E0 t) := by
  obtain ⟨f, fd, hm, hk, hb, F⟩ := D.ex
  exact pe_call F hr hg hm hk hb .nil pass0 ha.pa hdb ha.he (ha.an _)
/-- a module's whole number -/
structure CI (mg : Str → Option Value) (x : Str) (i : Int) : Prop where
  ex : ∃ t : Tok, mg x = some (.int i t)
theorem pe_ci {X : Cx} {x : Str} {i : Int} {pos : Pos} (c : CI X.mg x i) (hg : Gl X x) (hd : (x == ("__debug__" : Str)) = false := by decide) : PE X (.Name x pos) (tC (.int i)) := by
  obtain ⟨t, h⟩ := c.ex
  exact pe_glob hg h ⟨t, rfl⟩ hd
theorem FD.of {x : Str} {st : Stmt} {N ps : List Str} {k : Nat} {φ : List V → Hp → V → Prop} (d : DefAt K mg x st) (S : FnScope N ps (defScope st))
    (hb : ∀ (kV doc pm : Value) (an : Option Addr) (cdv ct : Value) (us : List Value), us.length = ps.length → bindArgs (PySem.W.fnOf x x (defArgs st) (defBody st) (defScope st) .none kV doc pm an cdv ct) ⟨us, []⟩ = pure (ps.zip us))
    (len : ∀ vs H v, φ vs H v → vs.length = ps.length)
    (hbody : ∀ (f : Addr) (cdv : Value) (A : Around) (outer : List Env) (s : Shared) (H : Hp) (E : XK), Room k (A.deeper (envOfC x (defScope st) s.heap.objs.size f cdv)) →
      ∃ t, PSs (cxOf CX0 P w K mg base N x (defScope st) f cdv A outer s H E).nox (defBody st) t ∧ ∀ vs v, φ vs H v → Run t (start N vs) H (.rt v)) : FD P w K mg base x (k + 1) ps (spP φ) := by
  obtain ⟨f, fd, hm, F⟩ := d.ex
  refine ⟨f, fd, hm, F.kp, F.binds hb, F.ok S (fun vs H Q E ⟨v, h, _⟩ => len vs H v h) fun cdv A outer s H vs Q E hr h => ?_⟩
  obtain ⟨v, h, q⟩ := h
  obtain ⟨t, h1, h2⟩ := hbody f cdv A outer s H E hr
  exact ⟨t, h1, h2 vs v h { nx := fun _ H' => Q .non H', rt := Q } q⟩
/-- any promise; the def's body by terms -/
theorem FD.ofS {x : Str} {st : Stmt} {N ps : List Str} {k : Nat} {sp : Sp} {f : Addr} {fd : FuncData} (F : Fun K x x st f fd) (S : FnScope N ps (defScope st))
    (len : ∀ vs H Q E, sp vs H Q E → vs.length = ps.length)
    (hbody : ∀ (cdv : Value) (A : Around) (outer : List Env) (s : Shared) (H : Hp) (E : XK), Room k (A.deeper (envOfC x (defScope st) s.heap.objs.size f cdv)) →
      ∃ t, PSs (cxOf CX0 P w K mg base N x (defScope st) f cdv A outer s H E).nox (defBody st) t ∧ ∀ vs Q E', sp vs H Q E' → t { nx := fun _ H' => Q .non H', rt := Q } (start N vs) H) : FnOk P w K mg base CX0 (k + 1) f fd ps sp := by
  refine F.ok S len fun cdv A outer s H vs Q E hr h => ?_
  obtain ⟨t, h1, h2⟩ := hbody cdv A outer s H E hr
  exact ⟨t, h1, h2 vs Q E h⟩
theorem def_mk {h : Heap} {x : Str} {st : Stmt} {f : Addr} {oc : Value} {od an : Option Addr} {osl : Array (Option Value)} {kV doc pm cdv ct : Value} (X : K.In h) (G : h.Ns mainGlobals mg) (a : PySem.W.nsIn K mainGlobals x = some (some (.ref f)))
    (l : K.lookup f = some ⟨oc, od, .func (PySem.W.fnOf x x (defArgs st) (defBody st) (defScope st) .none kV doc pm an cdv ct), osl⟩) (c : PySem.W.codeIn K cdv x = true) (k : PySem.W.keepIn K (.ref f) = true) : DefAt K mg x st :=
  ⟨f, _, PySem.W.mg_of X G a, fun_mk l c k⟩
theorem ci_mk {h : Heap} {x : Str} {i : Int} {t : Tok} (X : K.In h) (G : h.Ns mainGlobals mg) (a : PySem.W.nsIn K mainGlobals x = some (some (.int i t))) : CI mg x i := ⟨t, PySem.W.mg_of X G a⟩
end
end Ev

/-! ### a run that may lay new lists: the heap grows -/
namespace Ev
open PySem PySem.Spec PyProof.Rows L2
def Le (H H' : Hp) : Prop := ∀ a o, H a = some o → H' a = some o
theorem Le.refl {H : Hp} : Le H H := fun _ _ h => h
theorem Le.trans {H H1 H2 : Hp} (a : Le H H1) (b : Le H1 H2) : Le H H2 := fun x o h => b x o (a x o h)
theorem Le.upd {H : Hp} {p : Addr} {o : HO} (h : H p = none) : Le H (upd H p o) := fun a u e => by
  rw [upd_ne]
  · exact e
  · rintro rfl
    rw [h] at e
    cases e
theorem sq_le {K : PySem.W.Frag} {H H' : Hp} {a : Addr} {xs : List V} (l : Le H H') (h : SqL K H a xs) : SqL K H' a xs := by
  rcases h with (h | ⟨o, h⟩) | h
  · exact .inl (.inl (l _ _ h))
  · exact .inl (.inr ⟨o, l _ _ h⟩)
  · exact .inr h
theorem inV_ints (x : Int) : ∀ ns : List Int, inV (.int x) (ns.map V.int) = ns.contains x
  | [] => rfl
  | y :: ns => by
    have ih := inV_ints x ns
    unfold inV at ih ⊢
    rw [List.map_cons, List.any_cons, ih, List.contains_cons]
    congr 1
    show (y == x) = (x == y)
    exact BEq.comm
theorem flat_ints (ns : List Int) : (ns.map V.int).all flatV = true := by
  rw [List.all_eq_true]
  intro v hv
  obtain ⟨z, _, rfl⟩ := List.mem_map.mp hv
  rfl
section
variable {σ : St} {H : Hp} {ta tb tl th : TE} {K : PySem.W.Frag}
theorem ev_in {x : Int} {p : Addr} {ns : List Int} (ha : Ev ta σ H (.int x)) (hb : Ev tb σ H (.ref p)) (hS : SqL K H p (ns.map V.int)) : Ev (tOp (rIn K false) ta tb) σ H (.bl (ns.contains x)) := fun Q q => ha _ (hb _ (show rIn K false (.int x) (.ref p) H Q from ⟨p, _, rfl, .inl hS, rfl, flat_ints ns, by
  show Q (.bl (inV (.int x) (ns.map V.int))) H
  rw [inV_ints]
  exact q⟩))
/-- xs[:i] -/
theorem sl_raw {a : Addr} {ns : List Int} {i : Int} {Q : VK} (hl : Ev tl σ H (.ref a)) (hS : SqL K H a (ns.map V.int)) (hi : Ev th σ H (.int i)) (h0 : 0 ≤ i) (h1 : i ≤ (ns.length : Int))
    (q : ∀ p H', Le H H' → SqL K H' p ((ns.take i.toNat).map V.int) → Q (.ref p) H') : tSl (rSlL K) tl tNoPart (tPart th) σ H Q := by
  refine hl _ (hi _ ⟨i, rfl, a, _, rfl, hS, fun p hp => q p _ (Le.upd hp) (SqL.of ?_)⟩)
  rw [upd_same]
  congr 2
  have e : i = ((i.toNat : Nat) : Int) := by omega
  unfold cutV
  rw [HT.sIx_none, e, HT.sIx_nat, List.length_map, List.drop_zero, Nat.sub_zero, Int.toNat_natCast, List.map_take]
  congr 1
  omega
theorem ev_min {t : TA} {i j : Int} (ha : EvA t σ H [.int i, .int j]) : Ev (tCB (fun xs H Q => ∃ i j, xs = [.int i, .int j] ∧ Q (.int (if j < i then j else i)) H) t) σ H (.int (if j < i then j else i)) := fun _ q => ha _ ⟨i, j, rfl, q⟩
def rBits : V → List V → Hp → VK → Prop := fun x xs H Q => ∃ i, x = .int i ∧ xs = [] ∧ Q (.int (Pm.bitsM i)) H
theorem mt_bits {X : Cx} : MtR X "int.bit_length" rBits := by
  intro pins s σ H x xs v us Q I rx rs h
  obtain ⟨i, rfl, rfl, q⟩ := h
  obtain ⟨t, rfl⟩ := rx
  cases rs
  exact call_int_bit_length ⟨.int (Pm.bitsM i), H, I.tok _, ⟨_, rfl⟩, q⟩
theorem ev_bits {i : Int} (ha : Ev ta σ H (.int i)) : Ev (tBM0 K "int" rBits ta) σ H (.int (Pm.bitsM i)) := fun _ q => ha _ ⟨rfl, i, rfl, rfl, q⟩
/-- a growing def's promise -/
def spG (f : List V → Hp → V → Prop) : Sp := fun vs H Q _ => ∃ v, f vs H v ∧ ∀ H', Le H H' → Q v H'
theorem call_raw {f : List V → Hp → V → Prop} {E : XK} {t : TA} {vs : List V} {v : V} {Q : VK} (ha : EvA t σ H vs) (hf : f vs H v) (q : ∀ H', Le H H' → Q v H') : tCall (spG f) [] E t σ H Q := ha _ (by
  show spG f (vs ++ []) H Q E
  rw [List.append_nil]
  exact ⟨v, hf, q⟩)
end
section
variable {σ : St} {H : Hp} {t r : TS}
end
section
variable {P : Program} {w : World} {K : PySem.W.Frag} {mg : Str → Option Value} {base : Heap}
theorem FD.ofG {x : Str} {st : Stmt} {N ps : List Str} {k : Nat} {φ : List V → Hp → V → Prop} (d : DefAt K mg x st) (S : FnScope N ps (defScope st))
    (hb : ∀ (kV doc pm : Value) (an : Option Addr) (cdv ct : Value) (us : List Value), us.length = ps.length → bindArgs (PySem.W.fnOf x x (defArgs st) (defBody st) (defScope st) .none kV doc pm an cdv ct) ⟨us, []⟩ = pure (ps.zip us))
    (len : ∀ vs H v, φ vs H v → vs.length = ps.length)
    (hbody : ∀ (f : Addr) (cdv : Value) (A : Around) (outer : List Env) (s : Shared) (H : Hp) (E : XK), Room k (A.deeper (envOfC x (defScope st) s.heap.objs.size f cdv)) →
      ∃ t, PSs (cxOf CX0 P w K mg base N x (defScope st) f cdv A outer s H E).nox (defBody st) t ∧ ∀ vs v, φ vs H v → ∀ D : Ends, (∀ H', Le H H' → D.rt v H') → t D (start N vs) H) : FD P w K mg base x (k + 1) ps (spG φ) := by
  obtain ⟨f, fd, hm, F⟩ := d.ex
  refine ⟨f, fd, hm, F.kp, F.binds hb, F.ok S (fun vs H Q E ⟨v, h, _⟩ => len vs H v h) fun cdv A outer s H vs Q E hr h => ?_⟩
  obtain ⟨v, h, q⟩ := h
  obtain ⟨t, h1, h2⟩ := hbody f cdv A outer s H E hr
  exact ⟨t, h1, h2 vs v h { nx := fun _ H' => Q .non H', rt := Q } q⟩
end
end Ev
namespace Ev
open PySem PySem.Spec PyProof.Rows L2
section
variable {σ : St} {H : Hp} {ta tl th te : TE} {K : PySem.W.Frag} {t u r : TS} {D : Ends} {tr : TA}
theorem evt_to {tt : TT} {b c : Bool} (h : EvT tt σ H b) (e : b = c) : EvT tt σ H c := e ▸ h
/-- arguments, some of which lay a list -/
def EvAL (t : TA) (σ : St) (H : Hp) (Φ : List V → Hp → Prop) : Prop := ∀ Q : List V → Hp → Prop, (∀ vs H', Φ vs H' → Q vs H') → t σ H Q
theorem al_cons {v : V} {Φ : List V → Hp → Prop} (h : Ev ta σ H v) (hr : EvAL tr σ H Φ) : EvAL (tCons ta tr) σ H (fun vs H' => ∃ w, vs = v :: w ∧ Φ w H') := fun Q q => h _ (hr _ fun w H' z => q _ _ ⟨w, rfl, z⟩)
theorem al_sl {a : Addr} {ns : List Int} {i : Int} (hl : Ev tl σ H (.ref a)) (hS : SqL K H a (ns.map V.int)) (hi : Ev th σ H (.int i)) (h0 : 0 ≤ i) (h1 : i ≤ (ns.length : Int)) :
    EvAL (tCons (tSl (rSlL K) tl tNoPart (tPart th)) tNil) σ H (fun vs H' => ∃ p, vs = [.ref p] ∧ Le H H' ∧ SqL K H' p ((ns.take i.toNat).map V.int)) := fun Q q => sl_raw hl hS hi h0 h1 fun p H' l hp => q _ _ ⟨p, rfl, l, hp⟩
theorem seq_set {i : Nat} {v : V} (h : Ev te σ H v) (q : r D (σ.set i (some v)) H) : tSeq (tAsg te (gName i)) r D σ H := h _ q
theorem set_raw {i : Nat} {v : V} (h : Ev te σ H v) (q : D.nx (σ.set i (some v)) H) : tAsg te (gName i) D σ H := h _ q
/-- for i in range(j), any run -/
theorem range_raw {ta : TA} {j : Int} {ix : Nat} (he : EvA ta σ H [.int j]) (h0 : -(2 ^ 62) ≤ j) (h1 : j < 2 ^ 62) (Pv : Nat → St → Hp → Prop) (hp : Pv 0 σ H)
    (hs : ∀ i σ1 H1 (D1 : Ends), i < j.toNat → Pv i σ1 H1 → (∀ σ2 H2, Pv (i + 1) σ2 H2 → D1.nx σ2 H2) → (∀ σ2 H2, Pv (i + 1) σ2 H2 → D1.ct σ2 H2) → (∀ σ2 H2, r D σ2 H2 → D1.bk σ2 H2) → (∀ v H2, D.rt v H2 → D1.rt v H2) → t D1 (σ1.set ix (some (.int (i : Int)))) H1)
    (hd : ∀ σ1 H1, Pv j.toNat σ1 H1 → r D σ1 H1) : tSeq (tFor (iRng1 ta) (gName ix) t) r D σ H := by
  unfold tSeq tFor iRng1
  refine he _ ⟨j, rfl, h0, h1, ?_⟩
  refine for_range (D := { D with nx := r D }) Pv hp ?_ hd
  intro i σ1 H1 hi p
  have e : (0 : Int) + (i : Int) = (i : Int) := Int.zero_add _
  rw [e]
  exact hs i σ1 H1 _ hi p (fun _ _ z => z) (fun _ _ z => z) (fun _ _ z => z) (fun _ _ z => z)
end
end Ev

/-! ### defs that give back new lists -/
namespace Ev
open PySem PySem.Spec PyProof.Rows L2
/-- a growing def's promise: what its value is like -/
def spW (f : List V → Hp → (V → Hp → Prop) → Prop) : Sp := fun vs H Q _ => ∃ Φ, f vs H Φ ∧ ∀ v H', Le H H' → Φ v H' → Q v H'
/-- a new list of ints -/
def IsL (ns : List Int) (v : V) (H : Hp) : Prop := ∃ p, v = .ref p ∧ H p = some (.lst (ns.map V.int))
/-- a list of lists of ints: the lists at the first of each pair -/
def At (H : Hp) (ps : List (Addr × List Int)) : Prop := ∀ x, x ∈ ps → H x.1 = some (.lst (x.2.map V.int))
def refs (ps : List (Addr × List Int)) : List V := ps.map fun x => V.ref x.1
def IsLL (os : List (List Int)) (v : V) (H : Hp) : Prop := ∃ p ps, v = .ref p ∧ H p = some (.lst (refs ps)) ∧ ps.map Prod.snd = os ∧ At H ps
theorem Le.updN {H H' : Hp} {p : Addr} {o : HO} (l : Le H H') (h : H p = none) : Le H (L2.upd H' p o) := fun a u e => by
  rw [upd_ne]
  · exact l a u e
  · rintro rfl
    rw [h] at e
    cases e
section
variable {P : Program} {w : World} {K : PySem.W.Frag} {mg : Str → Option Value} {base : Heap}
theorem FD.ofW {x : Str} {st : Stmt} {N ps : List Str} {k : Nat} {φ : List V → Hp → (V → Hp → Prop) → Prop} (d : DefAt K mg x st) (S : FnScope N ps (defScope st))
    (hb : ∀ (kV doc pm : Value) (an : Option Addr) (cdv ct : Value) (us : List Value), us.length = ps.length → bindArgs (PySem.W.fnOf x x (defArgs st) (defBody st) (defScope st) .none kV doc pm an cdv ct) ⟨us, []⟩ = pure (ps.zip us))
    (len : ∀ vs H Φ, φ vs H Φ → vs.length = ps.length)
    (hbody : ∀ (f : Addr) (cdv : Value) (A : Around) (outer : List Env) (s : Shared) (H : Hp) (E : XK), Room k (A.deeper (envOfC x (defScope st) s.heap.objs.size f cdv)) →
      ∃ t, PSs (cxOf CX0 P w K mg base N x (defScope st) f cdv A outer s H E).nox (defBody st) t ∧ ∀ vs Φ, φ vs H Φ → ∀ D : Ends, (∀ v H', Le H H' → Φ v H' → D.rt v H') → t D (start N vs) H) : FD P w K mg base x (k + 1) ps (spW φ) := by
  obtain ⟨f, fd, hm, F⟩ := d.ex
  refine ⟨f, fd, hm, F.kp, F.binds hb, F.ok S (fun vs H Q E ⟨Φ, h, _⟩ => len vs H Φ h) fun cdv A outer s H vs Q E hr h => ?_⟩
  obtain ⟨Φ, h, q⟩ := h
  obtain ⟨t, h1, h2⟩ := hbody f cdv A outer s H E hr
  exact ⟨t, h1, h2 vs Φ h { nx := fun _ H' => Q .non H', rt := Q } q⟩
end
/-- an expression that may lay lists: what its value is like -/
def EvW (t : TE) (σ : St) (H : Hp) (Φ : V → Hp → Prop) : Prop := ∀ Q : VK, (∀ v H', Le H H' → Φ v H' → Q v H') → t σ H Q
/-- .. or what it is -/
def EvG (t : TE) (σ : St) (H : Hp) (v : V) : Prop := ∀ Q : VK, (∀ H', Le H H' → Q v H') → t σ H Q
section
variable {σ : St} {H : Hp} {ta tb te to tl th : TE} {K : PySem.W.Frag} {t u r : TS} {D : Ends} {tr : TA}
theorem Ev.g {v : V} (h : Ev te σ H v) : EvG te σ H v := fun Q q => h Q (q H Le.refl)
theorem g_i0 {g : Int → Int → V} {i j : Int} (ha : Ev ta σ H (.int i)) (hb : EvG tb σ H (.int j)) : EvG (tOp (rI0 g) ta tb) σ H (g i j) := fun Q q => ha _ (hb _ fun H' l => ⟨i, j, rfl, rfl, q H' l⟩)
theorem g_i {C : Int → Int → Prop} {g : Int → Int → V} {i j : Int} (ha : Ev ta σ H (.int i)) (hb : EvG tb σ H (.int j)) (hc : C i j) : EvG (tOp (rI C g) ta tb) σ H (g i j) := fun Q q => ha _ (hb _ fun H' l => ⟨i, j, rfl, rfl, hc, q H' l⟩)
theorem g_callP {f : List V → Hp → V → Prop} {E : XK} {Φ : List V → Hp → Prop} {v : V} (ha : EvAL tr σ H Φ) (hf : ∀ vs H', Φ vs H' → f vs H' v ∧ Le H H') : EvG (tCall (spP f) [] E tr) σ H v := fun Q q => ha _ fun vs H' z => by
  show spP f (vs ++ []) H' Q E
  rw [List.append_nil]
  obtain ⟨z1, z2⟩ := hf vs H' z
  exact ⟨v, z1, q H' z2⟩
theorem g_callG {f : List V → Hp → V → Prop} {E : XK} {Φ : List V → Hp → Prop} {v : V} (ha : EvAL tr σ H Φ) (hf : ∀ vs H', Φ vs H' → f vs H' v ∧ Le H H') : EvG (tCall (spG f) [] E tr) σ H v := fun Q q => ha _ fun vs H' z => by
  show spG f (vs ++ []) H' Q E
  rw [List.append_nil]
  obtain ⟨z1, z2⟩ := hf vs H' z
  exact ⟨v, z1, fun H2 l2 => q H2 (z2.trans l2)⟩
theorem w_call {f : List V → Hp → (V → Hp → Prop) → Prop} {E : XK} {vs : List V} {Φ : V → Hp → Prop} (ha : EvA tr σ H vs) (hf : f vs H Φ) : EvW (tCall (spW f) [] E tr) σ H Φ := fun Q q => ha _ (by
  show spW f (vs ++ []) H Q E
  rw [List.append_nil]
  exact ⟨Φ, hf, q⟩)
/-- arguments: a slice that is not the last -/
theorem al_slc {a : Addr} {ns : List Int} {i : Int} {ws : List V} (hl : Ev tl σ H (.ref a)) (hS : SqL K H a (ns.map V.int)) (hi : Ev th σ H (.int i)) (h0 : 0 ≤ i) (h1 : i ≤ (ns.length : Int)) (hr : ∀ H1, Le H H1 → EvA tr σ H1 ws) :
    EvAL (tCons (tSl (rSlL K) tl tNoPart (tPart th)) tr) σ H (fun vs H' => ∃ p, vs = .ref p :: ws ∧ Le H H' ∧ SqL K H' p ((ns.take i.toNat).map V.int)) := fun Q q => sl_raw hl hS hi h0 h1 fun p H' l hp => hr H' l _ (q _ _ ⟨p, rfl, l, hp⟩)
theorem ev_notin {x : Int} {p : Addr} {ns : List Int} (ha : Ev ta σ H (.int x)) (hb : Ev tb σ H (.ref p)) (hS : SqL K H p (ns.map V.int)) : Ev (tOp (rIn K true) ta tb) σ H (.bl (!ns.contains x)) := fun Q q => ha _ (hb _ (show rIn K true (.int x) (.ref p) H Q from ⟨p, _, rfl, .inl hS, rfl, flat_ints ns, by
  show Q (.bl (!inV (.int x) (ns.map V.int))) H
  rw [inV_ints]
  exact q⟩))
theorem ev_ixV {p : Addr} {z : Int} {xs : List V} {v : V} (ha : Ev ta σ H (.ref p)) (hb : Ev tb σ H (.int z)) (hS : SqL K H p xs) (h0 : 0 ≤ z) (hv : xs[z.toNat]? = some v) : Ev (tOp (rIxL K) ta tb) σ H v := fun Q q => ha _ (hb _ ⟨p, _, z, _, rfl, rfl, hS, at_of (j := z.toNat) (by omega) hv, q⟩)
/-- a list of what is written -/
theorem w_lst {vs : List V} {Φ : V → Hp → Prop} (ha : EvA tr σ H vs) (hz : vs.length ≤ sizeLine) (hp : ∀ p H', H p = none → Le H H' → H' p = some (.lst vs) → Φ (.ref p) H') : EvW (tLst tr) σ H Φ := fun Q q => ha _ ⟨hz, fun p hn => q _ _ (Le.upd hn) (hp p _ hn (Le.upd hn) upd_same)⟩
/-- a + b of lists of ints -/
theorem w_cat {xs ys : List Int} (ha : EvW ta σ H (IsL xs)) (hb : ∀ H1, Le H H1 → EvW tb σ H1 (IsL ys)) (hz : xs.length + ys.length ≤ sizeLine) : EvW (tOp rCat ta tb) σ H (IsL (xs ++ ys)) := fun Q q => ha _ fun v H1 l1 z1 => hb H1 l1 _ fun u H2 l2 z2 => by
  obtain ⟨p1, rfl, e1⟩ := z1
  obtain ⟨p2, rfl, e2⟩ := z2
  refine ⟨p1, p2, _, _, rfl, rfl, l2 _ _ e1, e2, by rw [List.length_map, List.length_map]; exact hz, fun p hp => q _ _ ((l1.trans l2).trans (Le.upd hp)) ⟨p, rfl, ?_⟩⟩
  rw [upd_same, List.map_append]
/-- [x] * k -/
theorem w_rep {x k : Int} (ha : EvW ta σ H (IsL [x])) (hb : ∀ H1, Le H H1 → Ev tb σ H1 (.int k)) (h0 : 0 ≤ k) (h1 : k ≤ 5) : EvW (tOp rRep ta tb) σ H (IsL (List.replicate k.toNat x)) := fun Q q => ha _ fun v H1 l1 z1 => hb H1 l1 _ (by
  obtain ⟨p1, rfl, e1⟩ := z1
  refine ⟨p1, k, _, rfl, rfl, e1, by omega, by omega, ?_, fun p hp => q _ _ (l1.trans (Le.upd hp)) ⟨p, rfl, ?_⟩⟩
  · show 1 * k.toNat ≤ sizeLine
    have : 5 ≤ sizeLine := by decide
    omega
  · rw [upd_same]
    congr 2
    generalize k.toNat = m
    induction m with
    | zero => rfl
    | succ m ih =>
      rw [List.replicate_succ, List.flatten_cons, ih]
      rfl)
theorem w_ev {v : V} {Φ : V → Hp → Prop} (h : Ev te σ H v) (q : Φ v H) : EvW te σ H Φ := fun _ k => h _ (k v H Le.refl q)
theorem ev_len {p : Addr} {xs : List V} (ha : EvA tr σ H [.ref p]) (hS : SqL K H p xs) : Ev (tCB (fun xs H Q => ∃ p ys, xs = [.ref p] ∧ (SqL K H p ys ∨ SqT K H p ys) ∧ Q (.int ys.length) H) tr) σ H (.int xs.length) := fun Q q => ha _ ⟨p, xs, rfl, .inl hS, q⟩
/-- xs[1:] -/
theorem sl1_raw {a : Addr} {xs : List V} {Q : VK} (hl : Ev tl σ H (.ref a)) (hS : SqL K H a xs) (hz : 1 ≤ xs.length) (q : ∀ p H', Le H H' → H p = none → H' p = some (.lst xs.tail) → Q (.ref p) H') : tSl (rSlL K) tl (tPart (tC (.int 1))) tNoPart σ H Q := by
  refine hl _ ⟨1, rfl, a, _, rfl, hS, fun p hp => q p _ (Le.upd hp) hp ?_⟩
  rw [upd_same]
  congr 2
  unfold cutV
  have e : HT.sIx xs.length 0 (some (1 : Int)) = 1 := by
    have := HT.sIx_nat xs.length 0 1
    rw [show ((1 : Nat) : Int) = (1 : Int) from rfl] at this
    omega
  rw [HT.sIx_none, e]
  cases xs with
  | nil => rfl
  | cons x xs =>
    show List.take _ (List.drop 0 xs) = xs
    rw [List.drop_zero]
    exact List.take_of_length_le (by rw [List.length_cons]; omega)
/-- x = e -/
theorem seq_setW {i : Nat} {Φ : V → Hp → Prop} (h : EvW te σ H Φ) (q : ∀ v H', Le H H' → Φ v H' → r D (σ.set i (some v)) H') : tSeq (tAsg te (gName i)) r D σ H := h _ q
theorem seq_setG {i : Nat} {v : V} (h : EvG te σ H v) (q : ∀ H', Le H H' → r D (σ.set i (some v)) H') : tSeq (tAsg te (gName i)) r D σ H := h _ q
theorem set_rawW {i : Nat} {Φ : V → Hp → Prop} (h : EvW te σ H Φ) (q : ∀ v H', Le H H' → Φ v H' → D.nx (σ.set i (some v)) H') : tAsg te (gName i) D σ H := h _ q
theorem set_rawG {i : Nat} {v : V} (h : EvG te σ H v) (q : ∀ H', Le H H' → D.nx (σ.set i (some v)) H') : tAsg te (gName i) D σ H := h _ q
theorem seq_lst {i : Nat} {vs : List V} (ha : EvA tr σ H vs) (hz : vs.length ≤ sizeLine) (q : ∀ p, H p = none → r D (σ.set i (some (.ref p))) (upd H p (.lst vs))) : tSeq (tAsg (tLst tr) (gName i)) r D σ H := ha _ ⟨hz, q⟩
theorem ret_W {Φ : V → Hp → Prop} (h : EvW te σ H Φ) (q : ∀ v H', Le H H' → Φ v H' → D.rt v H') : tRet te D σ H := h _ q
theorem ret_ev {v : V} (h : Ev te σ H v) (q : D.rt v H) : tRet te D σ H := h _ q
/-- xs.append(e) -/
theorem app_raw {l : Addr} {xs : List V} {Φ : V → Hp → Prop} (ho : Ev to σ H (.ref l)) (hl : H l = some (.lst xs)) (hz : xs.length < sizeLine) (he : EvW te σ H Φ) (q : ∀ y H', Le H H' → Φ y H' → D.nx σ (upd H' l (.lst (xs ++ [y])))) :
    tDrop (tBM K "list" rAppend to (tCons te tNil)) D σ H := ho _ ⟨.inl ⟨rfl, _, SqL.of hl⟩, he _ fun y H' lh z => ⟨l, xs, y, rfl, rfl, lh _ _ hl, hz, q y H' lh z⟩⟩
theorem app_seq {l : Addr} {xs : List V} {Φ : V → Hp → Prop} (ho : Ev to σ H (.ref l)) (hl : H l = some (.lst xs)) (hz : xs.length < sizeLine) (he : EvW te σ H Φ) (q : ∀ y H', Le H H' → Φ y H' → r D σ (upd H' l (.lst (xs ++ [y])))) :
    tSeq (tDrop (tBM K "list" rAppend to (tCons te tNil))) r D σ H := app_raw (D := { D with nx := r D }) ho hl hz he q
theorem EvG.w {v : V} (h : EvG te σ H v) : EvW te σ H (fun x _ => x = v) := fun _ q => h _ fun H' l => q v H' l rfl
/-- for x in xs, any run; the list stays -/
theorem list_raw {ix : Nat} {xs : List V} {a : Addr} (ha : Ev tl σ H (.ref a)) (Pv : Nat → St → Hp → Prop) (hp : Pv 0 σ H) (hst : ∀ i σ1 H1, i ≤ xs.length → Pv i σ1 H1 → SqL K H1 a xs)
    (hs : ∀ i x σ1 H1 (D1 : Ends), xs[i]? = some x → Pv i σ1 H1 → (∀ σ2 H2, Pv (i + 1) σ2 H2 → D1.nx σ2 H2) → t D1 (σ1.set ix (some x)) H1)
    (hd : ∀ σ1 H1, Pv xs.length σ1 H1 → r D σ1 H1) : tSeq (tFor (iList K tl) (gName ix) t) r D σ H := by
  unfold tSeq tFor iList
  refine ha _ ⟨a, rfl, ⟨xs, hst 0 σ H (Nat.zero_le _) hp⟩, ?_⟩
  refine for_list (xs := xs) (D := { D with nx := r D }) Pv hp hst ?_ hd
  intro i x σ1 H2 hx p
  exact hs i x σ1 H2 _ hx p (fun _ _ z => z)
/-- .. over xs[1:], the heap grows only -/
theorem list1_raw {ix : Nat} {xs : List V} {a : Addr} (ha : Ev tl σ H (.ref a)) (hS : SqL K H a xs) (hz : 1 ≤ xs.length) (Pv : Nat → St → Prop) (hp : Pv 0 σ)
    (hs : ∀ i x σ1 H1 (D1 : Ends), xs.tail[i]? = some x → Le H H1 → Pv i σ1 → (∀ σ2 H2, Le H1 H2 → Pv (i + 1) σ2 → D1.nx σ2 H2) → t D1 (σ1.set ix (some x)) H1)
    (hd : ∀ σ1 H1, Le H H1 → Pv xs.tail.length σ1 → r D σ1 H1) : tSeq (tFor (iList K (tSl (rSlL K) tl (tPart (tC (.int 1))) tNoPart)) (gName ix) t) r D σ H := by
  unfold tSeq tFor iList
  refine sl1_raw ha hS hz fun p H1 l1 hn hp1 => ⟨p, rfl, ⟨_, SqL.of hp1⟩, ?_⟩
  refine for_list (xs := xs.tail) (D := { D with nx := r D }) (fun i σ' H' => Le H1 H' ∧ Pv i σ') ⟨Le.refl, hp⟩ (fun i σ1 H2 _ q => SqL.of (q.1 _ _ hp1)) ?_ (fun σ1 H2 q => hd σ1 H2 (l1.trans q.1) q.2)
  intro i x σ1 H2 hx q
  exact hs i x σ1 H2 _ hx (l1.trans q.1) q.2 (fun _ _ l z => ⟨q.1.trans l, z⟩)
theorem if_raw {tc : TT} {b : Bool} (hc : EvT tc σ H b) (ha : b = true → t D σ H) (hb : b = false → u D σ H) : tIfS tc t u D σ H := hc _ (by
  cases b with
  | true => exact ha rfl
  | false => exact hb rfl)
/-- for i in range(j), the block's last -/
theorem range_last {tr : TA} {j : Int} {ix : Nat} (he : EvA tr σ H [.int j]) (h0 : -(2 ^ 62) ≤ j) (h1 : j < 2 ^ 62) (Pv : Nat → St → Hp → Prop) (hp : Pv 0 σ H)
    (hs : ∀ i σ1 H1 (D1 : Ends), i < j.toNat → Pv i σ1 H1 → (∀ σ2 H2, Pv (i + 1) σ2 H2 → D1.nx σ2 H2) → t D1 (σ1.set ix (some (.int (i : Int)))) H1)
    (hd : ∀ σ1 H1, Pv j.toNat σ1 H1 → D.nx σ1 H1) : tFor (iRng1 tr) (gName ix) t D σ H := by
  unfold tFor iRng1
  refine he _ ⟨j, rfl, h0, h1, ?_⟩
  refine for_range (D := D) Pv hp ?_ hd
  intro i σ1 H1 hi p
  have e : (0 : Int) + (i : Int) = (i : Int) := Int.zero_add _
  rw [e]
  exact hs i σ1 H1 _ hi p (fun _ _ z => z)
/-- xs = [[]] -/
theorem seq_ll {i : Nat} (q : ∀ v H', Le H H' → IsLL [[]] v H' → r D (σ.set i (some v)) H') : tSeq (tAsg (tLst (tCons (tLst tNil) tNil)) (gName i)) r D σ H := by
  refine ⟨Nat.zero_le _, fun p0 h0 => ⟨(by show 1 ≤ sizeLine; decide), fun p hp => q (.ref p) _ ((Le.upd h0).trans (Le.upd hp)) ⟨p, [(p0, [])], rfl, upd_same, rfl, fun x hx => ?_⟩⟩⟩
  have e : x = (p0, []) := List.mem_singleton.mp hx
  subst e
  show upd _ p _ p0 = _
  rw [upd_ne]
  · exact upd_same
  · rintro rfl
    rw [upd_same] at hp
    cases hp
end
end Ev

/-! ### a list by a comprehension (wants the comprehension's block of the layer) -/
namespace Ev
open PySem PySem.Spec PyProof.Rows L2
section
variable {σ : St} {H : Hp} {r : TS} {D : Ends}
/-- xs = [i for i in range(j) if p(i)] -/
theorem seq_lc {tr : TA} {tt : TT} {j : Int} {ix iy : Nat} {vs : List Nat} (hvs : vs = [ix]) (hix : ix < σ.length) (he : EvA tr σ H [.int j]) (h0 : -(2 ^ 62) ≤ j) (h1 : j < 2 ^ 62) (hz : j.toNat < sizeLine) (p : Nat → Bool)
    (ht : ∀ (i : Nat) H1, i < j.toNat → Le H H1 → EvT tt ((σ.set ix none).set ix (some (.int (i : Int)))) H1 (p i))
    (q : ∀ l H', H l = none → Le H H' → H' l = some (.lst ((((List.range j.toNat).filter p).map fun (i : Nat) => (i : Int)).map V.int)) → r D (σ.set iy (some (.ref l))) H') : tSeq (tAsg (tLc (iRng1 tr) (gName ix) tt (tVar ix) vs) (gName iy)) r D σ H := by
  subst hvs
  unfold tSeq tAsg tLc iRng1
  refine he _ ⟨j, rfl, h0, h1, fun l hl => ?_⟩
  refine lc_range (n := j.toNat) (Qd := fun H' => r D (σ.set iy (some (.ref l))) H') (fun i H' => Le H H' ∧ H' l = some (.lst ((((List.range i).filter p).map fun (i : Nat) => (i : Int)).map V.int))) ⟨Le.upd hl, upd_same⟩ ?_ (fun H' z => q l H' hl z.1 z.2)
  rintro i H1 hi ⟨z1, z2⟩
  have e : (0 : Int) + (i : Int) = (i : Int) := Int.zero_add _
  rw [e]
  refine ⟨?_, ht i H1 hi z1 _ ?_⟩
  · show (((σ.set ix none).set ix (some (.int (i : Int)))).set ix none) = σ.set ix none
    rw [List.set_set, List.set_set]
  · have sn : (List.range (i + 1)).filter p = (List.range i).filter p ++ (if p i = true then [i] else []) := by
      rw [List.range_succ, List.filter_append]
      congr 1
      rw [List.filter_cons]
      split <;> rfl
    rw [sn]
    cases hpi : p i with
    | true =>
      refine ⟨.int (i : Int), ?_, _, z2, ?_, z1.updN hl, ?_⟩
      · show ((σ.set ix none).set ix (some (.int (i : Int))))[ix]? = _
        rw [List.getElem?_set_self (by rw [List.length_set]; exact hix)]
      · rw [List.length_map, List.length_map]
        have := List.length_filter_le p (List.range i)
        rw [List.length_range] at this
        omega
      · rw [upd_same]
        simp
    | false =>
      refine ⟨z1, ?_⟩
      rw [z2]
      simp
end
end Ev

namespace Prog
open PySem PySem.Spec PyProof.Rows L2 Ev
abbrev St := L2.St
def top (i : Nat) : Stmt := PySem.Challenge.pw_plancost_s03_db_best.main.body.getD i (.Pass ⟨0, 0, 0, 0⟩)
abbrev s_table_start : Stmt := top 11
theorem sc_table_start : FnScope ["table"] ["table"] (defScope s_table_start) := ⟨rfl, rfl, rfl, by decide +kernel, rfl, by decide +kernel, by decide +kernel⟩
abbrev s_cols_of : Stmt := top 12
theorem sc_cols_of : FnScope ["ctable", "table"] ["ctable", "table"] (defScope s_cols_of) := ⟨rfl, rfl, rfl, by decide +kernel, rfl, by decide +kernel, by decide +kernel⟩
abbrev s_rows_of : Stmt := top 13
theorem sc_rows_of : FnScope ["ctable", "table"] ["ctable", "table"] (defScope s_rows_of) := ⟨rfl, rfl, rfl, by decide +kernel, rfl, by decide +kernel, by decide +kernel⟩
abbrev s_indexed_of : Stmt := top 14
theorem sc_indexed_of : FnScope ["ctable", "table"] ["ctable", "table"] (defScope s_indexed_of) := ⟨rfl, rfl, rfl, by decide +kernel, rfl, by decide +kernel, by decide +kernel⟩
abbrev s_none_of : Stmt := top 15
theorem sc_none_of : FnScope ["ctable", "table"] ["ctable", "table"] (defScope s_none_of) := ⟨rfl, rfl, rfl, by decide +kernel, rfl, by decide +kernel, by decide +kernel⟩
abbrev s_alike_of : Stmt := top 16
theorem sc_alike_of : FnScope ["ctable", "table", "column"] ["ctable", "table", "column"] (defScope s_alike_of) := ⟨rfl, rfl, rfl, by decide +kernel, rfl, by decide +kernel, by decide +kernel⟩
abbrev s_column_indexed : Stmt := top 17
theorem sc_column_indexed : FnScope ["ctable", "table", "column"] ["ctable", "table", "column"] (defScope s_column_indexed) := ⟨rfl, rfl, rfl, by decide +kernel, rfl, by decide +kernel, by decide +kernel⟩
abbrev s_alike_as_told : Stmt := top 18
theorem sc_alike_as_told : FnScope ["ctable", "table", "column"] ["ctable", "table"] (defScope s_alike_as_told) := ⟨rfl, rfl, rfl, by decide +kernel, rfl, by decide +kernel, by decide +kernel⟩
abbrev s_table_as_told : Stmt := top 19
theorem sc_table_as_told : FnScope ["ctable", "table", "cols"] ["ctable", "table"] (defScope s_table_as_told) := ⟨rfl, rfl, rfl, by decide +kernel, rfl, by decide +kernel, by decide +kernel⟩
abbrev s_catalogue_as_told : Stmt := top 20
theorem sc_catalogue_as_told : FnScope ["ctables", "cnone", "ctable", "table"] ["ctables", "cnone", "ctable"] (defScope s_catalogue_as_told) := ⟨rfl, rfl, rfl, by decide +kernel, rfl, by decide +kernel, by decide +kernel⟩
abbrev s_a_of : Stmt := top 30
theorem sc_a_of : FnScope ["qcond", "cond"] ["qcond", "cond"] (defScope s_a_of) := ⟨rfl, rfl, rfl, by decide +kernel, rfl, by decide +kernel, by decide +kernel⟩
abbrev s_i_of : Stmt := top 31
theorem sc_i_of : FnScope ["qcond", "cond"] ["qcond", "cond"] (defScope s_i_of) := ⟨rfl, rfl, rfl, by decide +kernel, rfl, by decide +kernel, by decide +kernel⟩
abbrev s_op_of : Stmt := top 32
theorem sc_op_of : FnScope ["qcond", "cond"] ["qcond", "cond"] (defScope s_op_of) := ⟨rfl, rfl, rfl, by decide +kernel, rfl, by decide +kernel, by decide +kernel⟩
abbrev s_b_of : Stmt := top 33
theorem sc_b_of : FnScope ["qcond", "cond"] ["qcond", "cond"] (defScope s_b_of) := ⟨rfl, rfl, rfl, by decide +kernel, rfl, by decide +kernel, by decide +kernel⟩
abbrev s_j_of : Stmt := top 34
theorem sc_j_of : FnScope ["qcond", "cond"] ["qcond", "cond"] (defScope s_j_of) := ⟨rfl, rfl, rfl, by decide +kernel, rfl, by decide +kernel, by decide +kernel⟩
abbrev s_out_place_of : Stmt := top 35
theorem sc_out_place_of : FnScope ["qout", "out"] ["qout", "out"] (defScope s_out_place_of) := ⟨rfl, rfl, rfl, by decide +kernel, rfl, by decide +kernel, by decide +kernel⟩
abbrev s_out_column_of : Stmt := top 36
theorem sc_out_column_of : FnScope ["qout", "out"] ["qout", "out"] (defScope s_out_column_of) := ⟨rfl, rfl, rfl, by decide +kernel, rfl, by decide +kernel, by decide +kernel⟩
abbrev s_counts_as_told : Stmt := top 37
theorem sc_counts_as_told : FnScope ["qtables", "qconds", "qouts", "qnone"] ["qtables", "qconds", "qouts", "qnone"] (defScope s_counts_as_told) := ⟨rfl, rfl, rfl, by decide +kernel, rfl, by decide +kernel, by decide +kernel⟩
abbrev s_places_right : Stmt := top 38
theorem sc_places_right : FnScope ["ctables", "qtables", "qtable", "place"] ["ctables", "qtables", "qtable"] (defScope s_places_right) := ⟨rfl, rfl, rfl, by decide +kernel, rfl, by decide +kernel, by decide +kernel⟩
abbrev s_column_there : Stmt := top 39
theorem sc_column_there : FnScope ["ctable", "qtables", "qtable", "place", "column"] ["ctable", "qtables", "qtable", "place", "column"] (defScope s_column_there) := ⟨rfl, rfl, rfl, by decide +kernel, rfl, by decide +kernel, by decide +kernel⟩
abbrev s_cond_right : Stmt := top 40
theorem sc_cond_right : FnScope ["ctable", "qtables", "qtable", "qcond", "cond"] ["ctable", "qtables", "qtable", "qcond", "cond"] (defScope s_cond_right) := ⟨rfl, rfl, rfl, by decide +kernel, rfl, by decide +kernel, by decide +kernel⟩
abbrev s_conds_right : Stmt := top 41
theorem sc_conds_right : FnScope ["ctable", "qtables", "qconds", "qtable", "qcond", "cond"] ["ctable", "qtables", "qconds", "qtable", "qcond"] (defScope s_conds_right) := ⟨rfl, rfl, rfl, by decide +kernel, rfl, by decide +kernel, by decide +kernel⟩
abbrev s_outs_right : Stmt := top 42
theorem sc_outs_right : FnScope ["ctable", "qtables", "qouts", "qtable", "qout", "out"] ["ctable", "qtables", "qouts", "qtable", "qout"] (defScope s_outs_right) := ⟨rfl, rfl, rfl, by decide +kernel, rfl, by decide +kernel, by decide +kernel⟩
abbrev s_question_right : Stmt := top 43
theorem sc_question_right : FnScope ["ctables", "qtables", "qconds", "qouts", "qnone", "ctable", "qtable", "qcond", "qout"] ["ctables", "qtables", "qconds", "qouts", "qnone", "ctable", "qtable", "qcond", "qout"] (defScope s_question_right) := ⟨rfl, rfl, rfl, by decide +kernel, rfl, by decide +kernel, by decide +kernel⟩
abbrev s_tied_column : Stmt := top 47
theorem sc_tied_column : FnScope ["qcond", "cond", "place", "earlier", "a", "b"] ["qcond", "cond", "place", "earlier"] (defScope s_tied_column) := ⟨rfl, rfl, rfl, by decide +kernel, rfl, by decide +kernel, by decide +kernel⟩
abbrev s_lookup_right : Stmt := top 48
theorem sc_lookup_right : FnScope ["qconds", "ctable", "qtable", "qcond", "cond", "place", "earlier", "column"] ["qconds", "ctable", "qtable", "qcond", "cond", "place", "earlier"] (defScope s_lookup_right) := ⟨rfl, rfl, rfl, by decide +kernel, rfl, by decide +kernel, by decide +kernel⟩
abbrev s_parts_rounded_up : Stmt := top 53
theorem sc_parts_rounded_up : FnScope ["number", "part"] ["number", "part"] (defScope s_parts_rounded_up) := ⟨rfl, rfl, rfl, by decide +kernel, rfl, by decide +kernel, by decide +kernel⟩
abbrev s_scan_pages : Stmt := top 54
theorem sc_scan_pages : FnScope ["rows"] ["rows"] (defScope s_scan_pages) := ⟨rfl, rfl, rfl, by decide +kernel, rfl, by decide +kernel, by decide +kernel⟩
abbrev s_lookup_pages : Stmt := top 55
theorem sc_lookup_pages : FnScope ["rows", "alike", "digits"] ["rows", "alike"] (defScope s_lookup_pages) := ⟨rfl, rfl, rfl, by decide +kernel, rfl, by decide +kernel, by decide +kernel⟩
abbrev s_step_pages : Stmt := top 56
theorem sc_step_pages : FnScope ["ctable", "qtable", "qcond", "place", "earlier", "way", "table", "rows", "column"] ["ctable", "qtable", "qcond", "place", "earlier", "way"] (defScope s_step_pages) := ⟨rfl, rfl, rfl, by decide +kernel, rfl, by decide +kernel, by decide +kernel⟩
abbrev s_most_rows_found : Stmt := top 57
theorem sc_most_rows_found : FnScope ["qconds", "ctable", "qtable", "qcond", "place", "earlier", "table", "least", "cond", "column"] ["qconds", "ctable", "qtable", "qcond", "place", "earlier"] (defScope s_most_rows_found) := ⟨rfl, rfl, rfl, by decide +kernel, rfl, by decide +kernel, by decide +kernel⟩
abbrev s_rows_coming : Stmt := top 58
theorem sc_rows_coming : FnScope ["qtables", "qconds", "ctable", "qtable", "qcond", "order", "coming", "step", "found"] ["qtables", "qconds", "ctable", "qtable", "qcond", "order"] (defScope s_rows_coming) := ⟨rfl, rfl, rfl, by decide +kernel, rfl, by decide +kernel, by decide +kernel⟩
abbrev s_plan_cost : Stmt := top 59
theorem sc_plan_cost : FnScope ["qtables", "qconds", "ctable", "qtable", "qcond", "order", "by", "coming", "cost", "step"] ["qtables", "qconds", "ctable", "qtable", "qcond", "order", "by"] (defScope s_plan_cost) := ⟨rfl, rfl, rfl, by decide +kernel, rfl, by decide +kernel, by decide +kernel⟩
abbrev s_longer_orders : Stmt := top 61
theorem sc_longer_orders : FnScope ["qtables", "orders", "longer", "order", "place"] ["qtables", "orders"] (defScope s_longer_orders) := ⟨rfl, rfl, rfl, by decide +kernel, rfl, by decide +kernel, by decide +kernel⟩
abbrev s_every_order : Stmt := top 62
theorem sc_every_order : FnScope ["qtables", "orders", "step"] ["qtables"] (defScope s_every_order) := ⟨rfl, rfl, rfl, by decide +kernel, rfl, by decide +kernel, by decide +kernel⟩
abbrev s_every_way : Stmt := top 63
theorem sc_every_way : FnScope ["qconds", "ctable", "qtable", "qcond", "place", "earlier", "ways", "cond"] ["qconds", "ctable", "qtable", "qcond", "place", "earlier"] (defScope s_every_way) := ⟨rfl, rfl, rfl, by decide +kernel, rfl, by decide +kernel, by decide +kernel⟩
abbrev s_best_way : Stmt := top 64
theorem sc_best_way : FnScope ["qconds", "ctable", "qtable", "qcond", "place", "earlier", "coming", "ways", "best", "least", "way", "cost"] ["qconds", "ctable", "qtable", "qcond", "place", "earlier", "coming"] (defScope s_best_way) := ⟨rfl, rfl, rfl, by decide +kernel, rfl, by decide +kernel, by decide +kernel⟩
abbrev s_best_by : Stmt := top 65
theorem sc_best_by : FnScope ["qtables", "qconds", "ctable", "qtable", "qcond", "order", "coming", "by", "step"] ["qtables", "qconds", "ctable", "qtable", "qcond", "order"] (defScope s_best_by) := ⟨rfl, rfl, rfl, by decide +kernel, rfl, by decide +kernel, by decide +kernel⟩
abbrev s_least_cost : Stmt := top 66
theorem sc_least_cost : FnScope ["qtables", "qconds", "ctable", "qtable", "qcond", "order", "by"] ["qtables", "qconds", "ctable", "qtable", "qcond", "order"] (defScope s_least_cost) := ⟨rfl, rfl, rfl, by decide +kernel, rfl, by decide +kernel, by decide +kernel⟩
abbrev s_best_order : Stmt := top 67
theorem sc_best_order : FnScope ["qtables", "qconds", "ctable", "qtable", "qcond", "orders", "best", "least", "order", "cost"] ["qtables", "qconds", "ctable", "qtable", "qcond"] (defScope s_best_order) := ⟨rfl, rfl, rfl, by decide +kernel, rfl, by decide +kernel, by decide +kernel⟩
abbrev s_all_right : Stmt := top 73
theorem sc_all_right : FnScope ["ctables", "cnone", "qtables", "qconds", "qouts", "qnone", "ctable", "qtable", "qcond", "qout"] ["ctables", "cnone", "qtables", "qconds", "qouts", "qnone", "ctable", "qtable", "qcond", "qout"] (defScope s_all_right) := ⟨rfl, rfl, rfl, by decide +kernel, rfl, by decide +kernel, by decide +kernel⟩
abbrev s_row_told : Stmt := top 74
theorem sc_row_told : FnScope ["numbers"] ["numbers"] (defScope s_row_told) := ⟨rfl, rfl, rfl, by decide +kernel, rfl, by decide +kernel, by decide +kernel⟩
abbrev s_db_best : Stmt := top 75
theorem sc_db_best : FnScope ["ctables", "cnone", "qtables", "qconds", "qouts", "qnone", "ctable", "qtable", "qcond", "qout", "order", "by", "cost"] ["ctables", "cnone", "qtables", "qconds", "qouts", "qnone", "ctable", "qtable", "qcond", "qout"] (defScope s_db_best) := ⟨rfl, rfl, rfl, by decide +kernel, rfl, by decide +kernel, by decide +kernel⟩
structure Txt (mg : Str → Option Value) : Prop where
  range : mg "range" = none
  min : mg "min" = none
  len : mg "len" = none
  c_MOST_TABLES : CI mg "MOST_TABLES" 8
  c_MOST_COLS : CI mg "MOST_COLS" 4
  c_MOST_ROWS : CI mg "MOST_ROWS" 4096
  c_MOST_ALIKE : CI mg "MOST_ALIKE" 4096
  c_FIRST_TABLE : CI mg "FIRST_TABLE" 1
  c_TABLE_LENGTH : CI mg "TABLE_LENGTH" 9
  c_ROWS : CI mg "ROWS" 1
  c_INDEXED : CI mg "INDEXED" 2
  c_NONE : CI mg "NONE" 3
  c_FIRST_ALIKE : CI mg "FIRST_ALIKE" 5
  c_MOST_PLACES : CI mg "MOST_PLACES" 5
  c_MOST_CONDS : CI mg "MOST_CONDS" 12
  c_MOST_OUTS : CI mg "MOST_OUTS" 8
  c_EQUAL : CI mg "EQUAL" 0
  c_LAST_OP : CI mg "LAST_OP" 5
  c_NO_PLACE : CI mg "NO_PLACE" 255
  c_COND_LENGTH : CI mg "COND_LENGTH" 5
  c_OUT_LENGTH : CI mg "OUT_LENGTH" 2
  c_SCANNED : CI mg "SCANNED" 255
  c_NO_COLUMN : CI mg "NO_COLUMN" (-1)
  c_ROWS_A_PAGE : CI mg "ROWS_A_PAGE" 16
  c_ENTRIES_A_PAGE : CI mg "ENTRIES_A_PAGE" 32
  c_MORE_A_LOOKUP : CI mg "MORE_A_LOOKUP" 2
  c_NUMBER_ALONE : CI mg "NUMBER_ALONE" 0
  c_NUMBER_AND_PLAN : CI mg "NUMBER_AND_PLAN" 1
  c_NOT_RIGHT : CI mg "NOT_RIGHT" (-22)
  c_BEHIND : CI mg "BEHIND" 255
/-! ### what each def is worth -/
def fStart : List V → Hp → V → Prop := fun vs _ v => ∃ z : Int, vs = [.int z] ∧ v = .int (1 + 9 * z)
/-- a number of the table's own: h of the table's number -/
def fTab (K : PySem.W.Frag) (h : List Int → Nat → Int) : List V → Hp → V → Prop := fun vs H v => ∃ (a : Addr) (ct : List Int) (z : Int), vs = [.ref a, .int z] ∧ SqL K H a (ct.map V.int) ∧ ct.length = 73 ∧ 0 ≤ z ∧ z < 8 ∧ v = .int (h ct z.toNat)
def fAlike (K : PySem.W.Frag) : List V → Hp → V → Prop := fun vs H v => ∃ (a : Addr) (ct : List Int) (z c : Int), vs = [.ref a, .int z, .int c] ∧ SqL K H a (ct.map V.int) ∧ ct.length = 73 ∧ 0 ≤ z ∧ z < 8 ∧ 0 ≤ c ∧ c < 4 ∧ v = .int (Pm.alikeM ct z.toNat c.toNat)
def fAlikeOk (K : PySem.W.Frag) : List V → Hp → V → Prop := fun vs H v => ∃ (a : Addr) (ct : List Int) (z : Int), vs = [.ref a, .int z] ∧ SqL K H a (ct.map V.int) ∧ ct.length = 73 ∧ 0 ≤ z ∧ z < 8 ∧ 0 ≤ Pm.colsM ct z.toNat ∧ Pm.colsM ct z.toNat ≤ 4 ∧ v = .bl (Pm.alikeOk ct z.toNat)
def fTableOk (K : PySem.W.Frag) : List V → Hp → V → Prop := fun vs H v => ∃ (a : Addr) (ct : List Int) (z : Int), vs = [.ref a, .int z] ∧ SqL K H a (ct.map V.int) ∧ ct.length = 73 ∧ 0 ≤ z ∧ z < 8 ∧ v = .bl (Pm.tableOk ct z.toNat)
def fCatOk (K : PySem.W.Frag) : List V → Hp → V → Prop := fun vs H v => ∃ (a : Addr) (ct : List Int) (n no : Int), vs = [.int n, .int no, .ref a] ∧ SqL K H a (ct.map V.int) ∧ ct.length = 73 ∧ v = .bl (Pm.catOk n no ct)
/-- a number of a record: w numbers a record, the k-th of it; m records -/
def fRec (K : PySem.W.Frag) (w k m : Nat) : List V → Hp → V → Prop := fun vs H v => ∃ (a : Addr) (l : List Int) (z : Int), vs = [.ref a, .int z] ∧ SqL K H a (l.map V.int) ∧ l.length = w * m ∧ 0 ≤ z ∧ z < (m : Int) ∧ v = .int (Pm.g l (w * z.toNat + k))
def fCounts : List V → Hp → V → Prop := fun vs _ v => ∃ n cs os no : Int, vs = [.int n, .int cs, .int os, .int no] ∧ v = .bl (Pm.countsOk n cs os no)
def fPlaces (K : PySem.W.Frag) : List V → Hp → V → Prop := fun vs H v => ∃ (a : Addr) (qt : List Int) (nc n : Int), vs = [.int nc, .int n, .ref a] ∧ SqL K H a (qt.map V.int) ∧ qt.length = 8 ∧ n ≤ 5 ∧ 0 ≤ n ∧ v = .bl (Pm.placesOk nc n qt)
/-- the places name tables -/
def Places (n : Int) (qt : List Int) : Prop := ∀ p : Nat, (p : Int) < n → 0 ≤ Pm.g qt p ∧ Pm.g qt p < 8
def fCol (K : PySem.W.Frag) : List V → Hp → V → Prop := fun vs H v => ∃ (a b : Addr) (ct qt : List Int) (n p i : Int), vs = [.ref a, .int n, .ref b, .int p, .int i] ∧ SqL K H a (ct.map V.int) ∧ ct.length = 73 ∧ SqL K H b (qt.map V.int) ∧ qt.length = 8 ∧ n ≤ 5 ∧ Places n qt ∧ v = .bl (Pm.colThere ct n qt p i)
def fCond (K : PySem.W.Frag) : List V → Hp → V → Prop := fun vs H v => ∃ (a b c : Addr) (ct qt qc : List Int) (n k : Int), vs = [.ref a, .int n, .ref b, .ref c, .int k] ∧ SqL K H a (ct.map V.int) ∧ ct.length = 73 ∧ SqL K H b (qt.map V.int) ∧ qt.length = 8 ∧ SqL K H c (qc.map V.int) ∧ qc.length = 60 ∧ n ≤ 5 ∧ Places n qt ∧ 0 ≤ k ∧ k < 12 ∧ v = .bl (Pm.condOk ct n qt qc k.toNat)
def fConds (K : PySem.W.Frag) : List V → Hp → V → Prop := fun vs H v => ∃ (a b c : Addr) (ct qt qc : List Int) (n cs : Int), vs = [.ref a, .int n, .int cs, .ref b, .ref c] ∧ SqL K H a (ct.map V.int) ∧ ct.length = 73 ∧ SqL K H b (qt.map V.int) ∧ qt.length = 8 ∧ SqL K H c (qc.map V.int) ∧ qc.length = 60 ∧ n ≤ 5 ∧ Places n qt ∧ 0 ≤ cs ∧ cs ≤ 12 ∧ v = .bl (Pm.condsOk ct n cs qt qc)
def fOuts (K : PySem.W.Frag) : List V → Hp → V → Prop := fun vs H v => ∃ (a b c : Addr) (ct qt qo : List Int) (n os : Int), vs = [.ref a, .int n, .int os, .ref b, .ref c] ∧ SqL K H a (ct.map V.int) ∧ ct.length = 73 ∧ SqL K H b (qt.map V.int) ∧ qt.length = 8 ∧ SqL K H c (qo.map V.int) ∧ qo.length = 16 ∧ n ≤ 5 ∧ Places n qt ∧ 0 ≤ os ∧ os ≤ 8 ∧ v = .bl (Pm.outsOk ct n os qt qo)
def fAsk (K : PySem.W.Frag) : List V → Hp → V → Prop := fun vs H v => ∃ (a b c d : Addr) (ct qt qc qo : List Int) (nc n cs os no : Int), vs = [.int nc, .int n, .int cs, .int os, .int no, .ref a, .ref b, .ref c, .ref d] ∧ SqL K H a (ct.map V.int) ∧ ct.length = 73 ∧ SqL K H b (qt.map V.int) ∧ qt.length = 8 ∧ SqL K H c (qc.map V.int) ∧ qc.length = 60 ∧ SqL K H d (qo.map V.int) ∧ qo.length = 16 ∧
  nc ≤ 8 ∧ v = .bl (Pm.askOk nc n cs os no ct qt qc qo)
section
variable {P : Program} {w : World} {K : PySem.W.Frag} {mg : Str → Option Value} {base : Heap} {σ : St} {H : Hp} {t : TA}
theorem c_start {z : Int} (ha : EvA t σ H [.int z]) : Ev (tCall (spP fStart) [] E0 t) σ H (.int (1 + 9 * z)) := ev_call ha ⟨z, rfl, rfl⟩
theorem c_tab {h : List Int → Nat → Int} {a : Addr} {ct : List Int} {z : Int} (ha : EvA t σ H [.ref a, .int z]) (hS : SqL K H a (ct.map V.int)) (hl : ct.length = 73) (h0 : 0 ≤ z) (h1 : z < 8) : Ev (tCall (spP (fTab K h)) [] E0 t) σ H (.int (h ct z.toNat)) := ev_call ha ⟨a, ct, z, rfl, hS, hl, h0, h1, rfl⟩
theorem c_rec {w k m : Nat} {a : Addr} {l : List Int} {z : Int} (ha : EvA t σ H [.ref a, .int z]) (hS : SqL K H a (l.map V.int)) (hl : l.length = w * m) (h0 : 0 ≤ z) (h1 : z < (m : Int)) : Ev (tCall (spP (fRec K w k m)) [] E0 t) σ H (.int (Pm.g l (w * z.toNat + k))) := ev_call ha ⟨a, l, z, rfl, hS, hl, h0, h1, rfl⟩
theorem c_col {a b : Addr} {ct qt : List Int} {n p i : Int} (ha : EvA t σ H [.ref a, .int n, .ref b, .int p, .int i]) (h1 : SqL K H a (ct.map V.int)) (h2 : ct.length = 73) (h3 : SqL K H b (qt.map V.int)) (h4 : qt.length = 8) (h5 : n ≤ 5) (h6 : Places n qt) :
    Ev (tCall (spP (fCol K)) [] E0 t) σ H (.bl (Pm.colThere ct n qt p i)) := ev_call ha ⟨a, b, ct, qt, n, p, i, rfl, h1, h2, h3, h4, h5, h6, rfl⟩

theorem ok_table_start (T : Txt mg) (d : DefAt K mg "table_start" s_table_start) : FD P w K mg base "table_start" 1 ["table"] (spP fStart) := by
  refine FD.of d sc_table_start (fun _ _ _ _ _ _ us hl => match us, hl with | [_], _ => rfl) (fun vs H v h => by obtain ⟨z, rfl, _⟩ := h; rfl) fun f cdv A outer s H E hr => ⟨_, (pss_one (ps_ret (pe_op op_add (pe_ci T.c_FIRST_TABLE rfl) (pe_op op_mul (pe_ci T.c_TABLE_LENGTH rfl) (pv 0))))), ?_⟩
  rintro vs v ⟨z, rfl, rfl⟩
  exact run_ret (ev_i0 ev_c (ev_i ev_c (ev_var rfl) (.inl ⟨by decide, by decide⟩)))
theorem ok_cols_of (T : Txt mg) (d : DefAt K mg "cols_of" s_cols_of) (d_table_start : FD P w K mg base "table_start" 1 ["table"] (spP fStart)) : FD P w K mg base "cols_of" 2 ["ctable", "table"] (spP (fTab K Pm.colsM)) := by
  refine FD.of d sc_cols_of (fun _ _ _ _ _ _ us hl => match us, hl with | [_, _], _ => rfl) (fun vs H v h => by obtain ⟨a, ct, z, rfl, _⟩ := h; rfl) fun f cdv A outer s H E hr => ⟨_, (pss_one (ps_ret (pe_ix ix_list (pv 0) (pe_fn d_table_start (hr.mono (by decide)) rfl (ax_cons (pv 1) star_name ax_nil)) (fun _ _ => rfl)))), ?_⟩
  rintro vs v ⟨a, ct, z, rfl, hS, hl, h0, h1, rfl⟩
  refine run_ret (ev_to (ev_ix (ns := ct) (ev_var rfl) (c_start (ev_cons (ev_var rfl) ev_nil)) hS (by omega) (by omega)) ?_)
  have e : (1 + 9 * z).toNat = 1 + 9 * z.toNat := by omega
  rw [e]
  rfl
theorem ok_rows_of (T : Txt mg) (d : DefAt K mg "rows_of" s_rows_of) (d_table_start : FD P w K mg base "table_start" 1 ["table"] (spP fStart)) : FD P w K mg base "rows_of" 2 ["ctable", "table"] (spP (fTab K Pm.rowsM)) := by
  refine FD.of d sc_rows_of (fun _ _ _ _ _ _ us hl => match us, hl with | [_, _], _ => rfl) (fun vs H v h => by obtain ⟨a, ct, z, rfl, _⟩ := h; rfl) fun f cdv A outer s H E hr => ⟨_, (pss_one (ps_ret (pe_ix ix_list (pv 0) (pe_op op_add (pe_fn d_table_start (hr.mono (by decide)) rfl (ax_cons (pv 1) star_name ax_nil)) (pe_ci T.c_ROWS rfl)) (fun _ _ => rfl)))), ?_⟩
  rintro vs v ⟨a, ct, z, rfl, hS, hl, h0, h1, rfl⟩
  refine run_ret (ev_to (ev_ix (ns := ct) (ev_var rfl) (ev_i0 (c_start (ev_cons (ev_var rfl) ev_nil)) ev_c) hS (by omega) (by omega)) ?_)
  have e : (1 + 9 * z + 1).toNat = 2 + 9 * z.toNat := by omega
  rw [e]
  rfl
theorem ok_indexed_of (T : Txt mg) (d : DefAt K mg "indexed_of" s_indexed_of) (d_table_start : FD P w K mg base "table_start" 1 ["table"] (spP fStart)) : FD P w K mg base "indexed_of" 2 ["ctable", "table"] (spP (fTab K Pm.idxM)) := by
  refine FD.of d sc_indexed_of (fun _ _ _ _ _ _ us hl => match us, hl with | [_, _], _ => rfl) (fun vs H v h => by obtain ⟨a, ct, z, rfl, _⟩ := h; rfl) fun f cdv A outer s H E hr => ⟨_, (pss_one (ps_ret (pe_ix ix_list (pv 0) (pe_op op_add (pe_fn d_table_start (hr.mono (by decide)) rfl (ax_cons (pv 1) star_name ax_nil)) (pe_ci T.c_INDEXED rfl)) (fun _ _ => rfl)))), ?_⟩
  rintro vs v ⟨a, ct, z, rfl, hS, hl, h0, h1, rfl⟩
  refine run_ret (ev_to (ev_ix (ns := ct) (ev_var rfl) (ev_i0 (c_start (ev_cons (ev_var rfl) ev_nil)) ev_c) hS (by omega) (by omega)) ?_)
  have e : (1 + 9 * z + 2).toNat = 3 + 9 * z.toNat := by omega
  rw [e]
  rfl
theorem ok_none_of (T : Txt mg) (d : DefAt K mg "none_of" s_none_of) (d_table_start : FD P w K mg base "table_start" 1 ["table"] (spP fStart)) : FD P w K mg base "none_of" 2 ["ctable", "table"] (spP (fTab K Pm.noneM)) := by
  refine FD.of d sc_none_of (fun _ _ _ _ _ _ us hl => match us, hl with | [_, _], _ => rfl) (fun vs H v h => by obtain ⟨a, ct, z, rfl, _⟩ := h; rfl) fun f cdv A outer s H E hr => ⟨_, (pss_one (ps_ret (pe_ix ix_list (pv 0) (pe_op op_add (pe_fn d_table_start (hr.mono (by decide)) rfl (ax_cons (pv 1) star_name ax_nil)) (pe_ci T.c_NONE rfl)) (fun _ _ => rfl)))), ?_⟩
  rintro vs v ⟨a, ct, z, rfl, hS, hl, h0, h1, rfl⟩
  refine run_ret (ev_to (ev_ix (ns := ct) (ev_var rfl) (ev_i0 (c_start (ev_cons (ev_var rfl) ev_nil)) ev_c) hS (by omega) (by omega)) ?_)
  have e : (1 + 9 * z + 3).toNat = 4 + 9 * z.toNat := by omega
  rw [e]
  rfl
theorem ok_alike_of (T : Txt mg) (d : DefAt K mg "alike_of" s_alike_of) (d_table_start : FD P w K mg base "table_start" 1 ["table"] (spP fStart)) : FD P w K mg base "alike_of" 2 ["ctable", "table", "column"] (spP (fAlike K)) := by
  refine FD.of d sc_alike_of (fun _ _ _ _ _ _ us hl => match us, hl with | [_, _, _], _ => rfl) (fun vs H v h => by obtain ⟨a, ct, z, c, rfl, _⟩ := h; rfl) fun f cdv A outer s H E hr => ⟨_, (pss_one (ps_ret (pe_ix ix_list (pv 0) (pe_op op_add (pe_op op_add (pe_fn d_table_start (hr.mono (by decide)) rfl (ax_cons (pv 1) star_name ax_nil)) (pe_ci T.c_FIRST_ALIKE rfl)) (pv 2)) (fun _ _ => rfl)))), ?_⟩
  rintro vs v ⟨a, ct, z, c, rfl, hS, hl, h0, h1, h2, h3, rfl⟩
  refine run_ret (ev_to (ev_ix (ns := ct) (ev_var rfl) (ev_i0 (ev_i0 (c_start (ev_cons (ev_var rfl) ev_nil)) ev_c) (ev_var rfl)) hS (by omega) (by omega)) ?_)
  have e : (1 + 9 * z + 5 + c).toNat = 6 + 9 * z.toNat + c.toNat := by omega
  rw [e]
  rfl
theorem ok_alike_as_told (T : Txt mg) (d : DefAt K mg "alike_as_told" s_alike_as_told) (d_cols_of : FD P w K mg base "cols_of" 2 ["ctable", "table"] (spP (fTab K Pm.colsM))) (d_alike_of : FD P w K mg base "alike_of" 2 ["ctable", "table", "column"] (spP (fAlike K))) :
    FD P w K mg base "alike_as_told" 3 ["ctable", "table"] (spP (fAlikeOk K)) := by
  refine FD.of d sc_alike_as_told (fun _ _ _ _ _ _ us hl => match us, hl with | [_, _], _ => rfl) (fun vs H v h => by obtain ⟨a, ct, z, rfl, _⟩ := h; rfl) fun f cdv A outer s H E hr => ⟨_, (pss_cons (ps_for PassesOwn.never rfl (pi_range1 rfl T.range (AX1.pa (ax_cons (pe_fn d_cols_of (hr.mono (by decide)) rfl (ax_cons (pv 0) star_name (AX1.ax (ax_cons (pv 1) star_name ax_nil)))) star_call ax_nil))) (pg_name (i := 2) sc_alike_as_told.nd rfl (Or.inl rfl)) (pss_one (ps_if (pt_not (pt_chain op_le op_le pe_int (pe_fn d_alike_of (hr.mono (by decide)) rfl (ax_cons (pv 0) star_name (AX1.ax (ax_cons (pv 1) star_name (AX1.ax (ax_cons (pv 2) star_name ax_nil)))))) (pe_ci T.c_MOST_ALIKE rfl))) (pss_one (ps_ret pe_bl)) pss_nil)))
      (pss_one (ps_ret pe_bl))), ?_⟩
  rintro vs v ⟨a, ct, z, rfl, hS, hl, h0, h1, h2, h3, rfl⟩
  refine run_all (ev_cons (c_tab (ev_cons (ev_var rfl) (ev_cons (ev_var rfl) ev_nil)) hS hl h0 h1) ev_nil) (by omega) (by omega) _ (fun σ => ∃ o, σ = [some (.ref a), some (.int z), o]) ⟨_, rfl⟩ ?_ (fun σ _ => run_ret ev_c)
  rintro i σ hi ⟨o, rfl⟩
  exact ⟨ev_test (ev_chain ev_c (ev_call (ev_cons (ev_var rfl) (ev_cons (ev_var rfl) (ev_cons (ev_var rfl) ev_nil))) ⟨a, ct, z, i, rfl, hS, hl, h0, h1, by omega, by omega, rfl⟩) fun _ => ev_c), _, rfl⟩
theorem ok_table_as_told (T : Txt mg) (d : DefAt K mg "table_as_told" s_table_as_told) (d_cols_of : FD P w K mg base "cols_of" 2 ["ctable", "table"] (spP (fTab K Pm.colsM))) (d_rows_of : FD P w K mg base "rows_of" 2 ["ctable", "table"] (spP (fTab K Pm.rowsM)))
    (d_indexed_of : FD P w K mg base "indexed_of" 2 ["ctable", "table"] (spP (fTab K Pm.idxM))) (d_none_of : FD P w K mg base "none_of" 2 ["ctable", "table"] (spP (fTab K Pm.noneM))) (d_alike_as_told : FD P w K mg base "alike_as_told" 3 ["ctable", "table"] (spP (fAlikeOk K))) :
    FD P w K mg base "table_as_told" 4 ["ctable", "table"] (spP (fTableOk K)) := by
  refine FD.of d sc_table_as_told (fun _ _ _ _ _ _ us hl => match us, hl with | [_, _], _ => rfl) (fun vs H v h => by obtain ⟨a, ct, z, rfl, _⟩ := h; rfl) fun f cdv A outer s H E hr => ⟨_, (pss_cons (ps_set (i := 2) sc_table_as_told.nd rfl (Or.inl rfl) (pe_fn d_cols_of (hr.mono (by decide)) rfl (ax_cons (pv 0) star_name (AX1.ax (ax_cons (pv 1) star_name ax_nil)))))
      (pss_cons (ps_if (pt_not (pt_chain op_le op_le pe_int (pv 2) (pe_ci T.c_MOST_COLS rfl))) (pss_one (ps_ret pe_bl)) pss_nil)
      (pss_cons (ps_if (pt_not (pt_chain op_le op_le pe_int (pe_fn d_rows_of (hr.mono (by decide)) rfl (ax_cons (pv 0) star_name (AX1.ax (ax_cons (pv 1) star_name ax_nil)))) (pe_ci T.c_MOST_ROWS rfl))) (pss_one (ps_ret pe_bl)) pss_nil)
      (pss_cons (ps_if (pt_cmpR op_ne (pe_op op_shr (pe_fn d_indexed_of (hr.mono (by decide)) rfl (ax_cons (pv 0) star_name (AX1.ax (ax_cons (pv 1) star_name ax_nil)))) (pv 2)) pe_int (nomark _)) (pss_one (ps_ret pe_bl)) pss_nil)
      (pss_cons (ps_if (pt_cmpR op_ne (pe_fn d_none_of (hr.mono (by decide)) rfl (ax_cons (pv 0) star_name (AX1.ax (ax_cons (pv 1) star_name ax_nil)))) pe_int (nomark _)) (pss_one (ps_ret pe_bl)) pss_nil)
      (pss_one (ps_ret (pe_fn d_alike_as_told (hr.mono (by decide)) rfl (ax_cons (pv 0) star_name (AX1.ax (ax_cons (pv 1) star_name ax_nil))))))))))), ?_⟩
  rintro vs v ⟨a, ct, z, rfl, hS, hl, h0, h1, rfl⟩
  refine run_seq (run_set (c_tab (ev_cons (ev_var rfl) (ev_cons (ev_var rfl) ev_nil)) hS hl h0 h1)) ?_
  refine run_to (run_need (ev_test (ev_chain ev_c (ev_var rfl) fun _ => ev_c)) fun hc => run_need (ev_test (ev_chain ev_c (c_tab (ev_cons (ev_var rfl) (ev_cons (ev_var rfl) ev_nil)) hS hl h0 h1) fun _ => ev_c)) fun _ =>
    run_bar (ev_test (ev_ne (ev_i (c_tab (ev_cons (ev_var rfl) (ev_cons (ev_var rfl) ev_nil)) hS hl h0 h1) (ev_var rfl) ?_) ev_c)) fun _ =>
    run_bar (ev_test (ev_ne (c_tab (ev_cons (ev_var rfl) (ev_cons (ev_var rfl) ev_nil)) hS hl h0 h1) ev_c)) fun _ =>
    run_ret (ev_call (ev_cons (ev_var rfl) (ev_cons (ev_var rfl) ev_nil)) ⟨a, ct, z, rfl, hS, hl, h0, h1, ?_, ?_, rfl⟩)) ?_
  · simp only [Bool.and_eq_true, decide_eq_true_eq] at hc
    show (0 : Int) ≤ Pm.colsM ct z.toNat
    omega
  · simp only [Bool.and_eq_true, decide_eq_true_eq] at hc
    omega
  · simp only [Bool.and_eq_true, decide_eq_true_eq] at hc
    omega
  · simp only [Pm.tableOk, Bool.and_assoc]
theorem ok_catalogue_as_told (T : Txt mg) (d : DefAt K mg "catalogue_as_told" s_catalogue_as_told) (d_table_as_told : FD P w K mg base "table_as_told" 4 ["ctable", "table"] (spP (fTableOk K))) :
    FD P w K mg base "catalogue_as_told" 5 ["ctables", "cnone", "ctable"] (spP (fCatOk K)) := by
  refine FD.of d sc_catalogue_as_told (fun _ _ _ _ _ _ us hl => match us, hl with | [_, _, _], _ => rfl) (fun vs H v h => by obtain ⟨a, ct, n, no, rfl, _⟩ := h; rfl) fun f cdv A outer s H E hr => ⟨_, (pss_cons (ps_if (pt_not (pt_chain op_le op_le pe_int (pv 0) (pe_ci T.c_MOST_TABLES rfl))) (pss_one (ps_ret pe_bl)) pss_nil)
      (pss_cons (ps_if (pt_cmpR op_ne (pv 1) pe_int (nomark _)) (pss_one (ps_ret pe_bl)) pss_nil)
      (pss_cons (ps_for PassesOwn.never rfl (pi_range1 rfl T.range (AX1.pa (ax_cons (pv 0) star_name ax_nil))) (pg_name (i := 3) sc_catalogue_as_told.nd rfl (Or.inl rfl)) (pss_one (ps_if (pt_not (pt_val (pe_fn d_table_as_told (hr.mono (by decide)) rfl (ax_cons (pv 2) star_name (AX1.ax (ax_cons (pv 3) star_name ax_nil)))))) (pss_one (ps_ret pe_bl)) pss_nil)))
      (pss_one (ps_ret pe_bl))))), ?_⟩
  rintro vs v ⟨a, ct, n, no, rfl, hS, hl, rfl⟩
  refine run_to (run_need (ev_test (ev_chain ev_c (ev_var rfl) fun _ => ev_c)) fun hc => run_bar (ev_test (ev_ne (ev_var rfl) ev_c)) fun _ =>
    run_all (p := Pm.tableOk ct) (ev_cons (ev_var rfl) ev_nil) ?_ ?_ (Pv := fun σ => ∃ o, σ = [some (.int n), some (.int no), some (.ref a), o]) ⟨_, rfl⟩ ?_ (fun σ _ => run_ret ev_c)) ?_
  · simp only [Bool.and_eq_true, decide_eq_true_eq] at hc
    omega
  · simp only [Bool.and_eq_true, decide_eq_true_eq] at hc
    omega
  · simp only [Bool.and_eq_true, decide_eq_true_eq] at hc
    rintro i σ hi ⟨o, rfl⟩
    exact ⟨ev_tB (ev_call (ev_cons (ev_var rfl) (ev_cons (ev_var rfl) ev_nil)) ⟨a, ct, i, rfl, hS, hl, by omega, by omega, rfl⟩), _, rfl⟩
  · simp only [Pm.catOk, Bool.and_assoc]

theorem ok_a_of (T : Txt mg) (d : DefAt K mg "a_of" s_a_of) : FD P w K mg base "a_of" 1 ["qcond", "cond"] (spP (fRec K 5 0 12)) := by
  refine FD.of d sc_a_of (fun _ _ _ _ _ _ us hl => match us, hl with | [_, _], _ => rfl) (fun vs H v h => by obtain ⟨a, l, z, rfl, _⟩ := h; rfl) fun f cdv A outer s H E hr => ⟨_, (pss_one (ps_ret (pe_ix ix_list (pv 0) (pe_op op_mul (pe_ci T.c_COND_LENGTH rfl) (pv 1)) (fun _ _ => rfl)))), ?_⟩
  rintro vs v ⟨a, l, z, rfl, hS, hl, h0, h1, rfl⟩
  refine run_ret (ev_to (ev_ix (ns := l) (ev_var rfl) (ev_i ev_c (ev_var rfl) (.inl ⟨by decide, by decide⟩)) hS (by omega) (by omega)) ?_)
  have e : (5 * z).toNat = 5 * z.toNat + 0 := by omega
  rw [e]
theorem ok_i_of (T : Txt mg) (d : DefAt K mg "i_of" s_i_of) : FD P w K mg base "i_of" 1 ["qcond", "cond"] (spP (fRec K 5 1 12)) := by
  refine FD.of d sc_i_of (fun _ _ _ _ _ _ us hl => match us, hl with | [_, _], _ => rfl) (fun vs H v h => by obtain ⟨a, l, z, rfl, _⟩ := h; rfl) fun f cdv A outer s H E hr => ⟨_, (pss_one (ps_ret (pe_ix ix_list (pv 0) (pe_op op_add (pe_op op_mul (pe_ci T.c_COND_LENGTH rfl) (pv 1)) pe_int) (fun _ _ => rfl)))), ?_⟩
  rintro vs v ⟨a, l, z, rfl, hS, hl, h0, h1, rfl⟩
  refine run_ret (ev_to (ev_ix (ns := l) (ev_var rfl) (ev_i0 (ev_i ev_c (ev_var rfl) (.inl ⟨by decide, by decide⟩)) ev_c) hS (by omega) (by omega)) ?_)
  have e : (5 * z + 1).toNat = 5 * z.toNat + 1 := by omega
  rw [e]
theorem ok_op_of (T : Txt mg) (d : DefAt K mg "op_of" s_op_of) : FD P w K mg base "op_of" 1 ["qcond", "cond"] (spP (fRec K 5 2 12)) := by
  refine FD.of d sc_op_of (fun _ _ _ _ _ _ us hl => match us, hl with | [_, _], _ => rfl) (fun vs H v h => by obtain ⟨a, l, z, rfl, _⟩ := h; rfl) fun f cdv A outer s H E hr => ⟨_, (pss_one (ps_ret (pe_ix ix_list (pv 0) (pe_op op_add (pe_op op_mul (pe_ci T.c_COND_LENGTH rfl) (pv 1)) pe_int) (fun _ _ => rfl)))), ?_⟩
  rintro vs v ⟨a, l, z, rfl, hS, hl, h0, h1, rfl⟩
  refine run_ret (ev_to (ev_ix (ns := l) (ev_var rfl) (ev_i0 (ev_i ev_c (ev_var rfl) (.inl ⟨by decide, by decide⟩)) ev_c) hS (by omega) (by omega)) ?_)
  have e : (5 * z + 2).toNat = 5 * z.toNat + 2 := by omega
  rw [e]
theorem ok_b_of (T : Txt mg) (d : DefAt K mg "b_of" s_b_of) : FD P w K mg base "b_of" 1 ["qcond", "cond"] (spP (fRec K 5 3 12)) := by
  refine FD.of d sc_b_of (fun _ _ _ _ _ _ us hl => match us, hl with | [_, _], _ => rfl) (fun vs H v h => by obtain ⟨a, l, z, rfl, _⟩ := h; rfl) fun f cdv A outer s H E hr => ⟨_, (pss_one (ps_ret (pe_ix ix_list (pv 0) (pe_op op_add (pe_op op_mul (pe_ci T.c_COND_LENGTH rfl) (pv 1)) pe_int) (fun _ _ => rfl)))), ?_⟩
  rintro vs v ⟨a, l, z, rfl, hS, hl, h0, h1, rfl⟩
  refine run_ret (ev_to (ev_ix (ns := l) (ev_var rfl) (ev_i0 (ev_i ev_c (ev_var rfl) (.inl ⟨by decide, by decide⟩)) ev_c) hS (by omega) (by omega)) ?_)
  have e : (5 * z + 3).toNat = 5 * z.toNat + 3 := by omega
  rw [e]
theorem ok_j_of (T : Txt mg) (d : DefAt K mg "j_of" s_j_of) : FD P w K mg base "j_of" 1 ["qcond", "cond"] (spP (fRec K 5 4 12)) := by
  refine FD.of d sc_j_of (fun _ _ _ _ _ _ us hl => match us, hl with | [_, _], _ => rfl) (fun vs H v h => by obtain ⟨a, l, z, rfl, _⟩ := h; rfl) fun f cdv A outer s H E hr => ⟨_, (pss_one (ps_ret (pe_ix ix_list (pv 0) (pe_op op_add (pe_op op_mul (pe_ci T.c_COND_LENGTH rfl) (pv 1)) pe_int) (fun _ _ => rfl)))), ?_⟩
  rintro vs v ⟨a, l, z, rfl, hS, hl, h0, h1, rfl⟩
  refine run_ret (ev_to (ev_ix (ns := l) (ev_var rfl) (ev_i0 (ev_i ev_c (ev_var rfl) (.inl ⟨by decide, by decide⟩)) ev_c) hS (by omega) (by omega)) ?_)
  have e : (5 * z + 4).toNat = 5 * z.toNat + 4 := by omega
  rw [e]
theorem ok_out_place_of (T : Txt mg) (d : DefAt K mg "out_place_of" s_out_place_of) : FD P w K mg base "out_place_of" 1 ["qout", "out"] (spP (fRec K 2 0 8)) := by
  refine FD.of d sc_out_place_of (fun _ _ _ _ _ _ us hl => match us, hl with | [_, _], _ => rfl) (fun vs H v h => by obtain ⟨a, l, z, rfl, _⟩ := h; rfl) fun f cdv A outer s H E hr => ⟨_, (pss_one (ps_ret (pe_ix ix_list (pv 0) (pe_op op_mul (pe_ci T.c_OUT_LENGTH rfl) (pv 1)) (fun _ _ => rfl)))), ?_⟩
  rintro vs v ⟨a, l, z, rfl, hS, hl, h0, h1, rfl⟩
  refine run_ret (ev_to (ev_ix (ns := l) (ev_var rfl) (ev_i ev_c (ev_var rfl) (.inl ⟨by decide, by decide⟩)) hS (by omega) (by omega)) ?_)
  have e : (2 * z).toNat = 2 * z.toNat + 0 := by omega
  rw [e]
theorem ok_out_column_of (T : Txt mg) (d : DefAt K mg "out_column_of" s_out_column_of) : FD P w K mg base "out_column_of" 1 ["qout", "out"] (spP (fRec K 2 1 8)) := by
  refine FD.of d sc_out_column_of (fun _ _ _ _ _ _ us hl => match us, hl with | [_, _], _ => rfl) (fun vs H v h => by obtain ⟨a, l, z, rfl, _⟩ := h; rfl) fun f cdv A outer s H E hr => ⟨_, (pss_one (ps_ret (pe_ix ix_list (pv 0) (pe_op op_add (pe_op op_mul (pe_ci T.c_OUT_LENGTH rfl) (pv 1)) pe_int) (fun _ _ => rfl)))), ?_⟩
  rintro vs v ⟨a, l, z, rfl, hS, hl, h0, h1, rfl⟩
  refine run_ret (ev_to (ev_ix (ns := l) (ev_var rfl) (ev_i0 (ev_i ev_c (ev_var rfl) (.inl ⟨by decide, by decide⟩)) ev_c) hS (by omega) (by omega)) ?_)
  have e : (2 * z + 1).toNat = 2 * z.toNat + 1 := by omega
  rw [e]
theorem ok_counts_as_told (T : Txt mg) (d : DefAt K mg "counts_as_told" s_counts_as_told) : FD P w K mg base "counts_as_told" 1 ["qtables", "qconds", "qouts", "qnone"] (spP fCounts) := by
  refine FD.of d sc_counts_as_told (fun _ _ _ _ _ _ us hl => match us, hl with | [_, _, _, _], _ => rfl) (fun vs H v h => by obtain ⟨n, cs, os, no, rfl, _⟩ := h; rfl) fun f cdv A outer s H E hr => ⟨_, (pss_cons (ps_if (pt_not (pt_chain op_le op_le pe_int (pv 0) (pe_ci T.c_MOST_PLACES rfl))) (pss_one (ps_ret pe_bl)) pss_nil)
      (pss_cons (ps_if (pt_not (pt_chain op_le op_le pe_int (pv 1) (pe_ci T.c_MOST_CONDS rfl))) (pss_one (ps_ret pe_bl)) pss_nil)
      (pss_cons (ps_if (pt_not (pt_chain op_le op_le pe_int (pv 2) (pe_ci T.c_MOST_OUTS rfl))) (pss_one (ps_ret pe_bl)) pss_nil)
      (pss_one (ps_ret (pe_cmpR op_eq (pv 3) pe_int (nomark _))))))), ?_⟩
  rintro vs v ⟨n, cs, os, no, rfl, rfl⟩
  refine run_to (run_need (ev_test (ev_chain ev_c (ev_var rfl) fun _ => ev_c)) fun _ => run_need (ev_test (ev_chain ev_c (ev_var rfl) fun _ => ev_c)) fun _ => run_need (ev_test (ev_chain ev_c (ev_var rfl) fun _ => ev_c)) fun _ => run_ret (ev_eq (ev_var rfl) ev_c)) ?_
  simp only [Pm.countsOk, Bool.and_assoc]
theorem ok_places_right (T : Txt mg) (d : DefAt K mg "places_right" s_places_right) : FD P w K mg base "places_right" 1 ["ctables", "qtables", "qtable"] (spP (fPlaces K)) := by
  refine FD.of d sc_places_right (fun _ _ _ _ _ _ us hl => match us, hl with | [_, _, _], _ => rfl) (fun vs H v h => by obtain ⟨a, qt, nc, n, rfl, _⟩ := h; rfl) fun f cdv A outer s H E hr => ⟨_, (pss_cons (ps_for PassesOwn.never rfl (pi_range1 rfl T.range (AX1.pa (ax_cons (pv 1) star_name ax_nil))) (pg_name (i := 3) sc_places_right.nd rfl (Or.inl rfl)) (pss_one (ps_if (pt_not (pt_chain op_le op_lt pe_int (pe_ix ix_list (pv 2) (pv 3) (fun _ _ => rfl)) (pv 0))) (pss_one (ps_ret pe_bl)) pss_nil)))
      (pss_one (ps_ret pe_bl))), ?_⟩
  rintro vs v ⟨a, qt, nc, n, rfl, hS, hl, h5, h0, rfl⟩
  refine run_all (p := fun p => decide (0 ≤ Pm.g qt p) && decide (Pm.g qt p < nc)) (ev_cons (ev_var rfl) ev_nil) (by omega) (by omega) (Pv := fun σ => ∃ o, σ = [some (.int nc), some (.int n), some (.ref a), o]) ⟨_, rfl⟩ ?_ (fun σ _ => run_ret ev_c)
  rintro i σ hi ⟨o, rfl⟩
  exact ⟨ev_test (ev_chain ev_c (ev_ix (ns := qt) (z := (i : Int)) (ev_var rfl) (ev_var rfl) hS (by omega) (by omega)) fun _ => ev_var rfl), _, rfl⟩
theorem ok_column_there (T : Txt mg) (d : DefAt K mg "column_there" s_column_there) (d_cols_of : FD P w K mg base "cols_of" 2 ["ctable", "table"] (spP (fTab K Pm.colsM))) : FD P w K mg base "column_there" 3 ["ctable", "qtables", "qtable", "place", "column"] (spP (fCol K)) := by
  refine FD.of d sc_column_there (fun _ _ _ _ _ _ us hl => match us, hl with | [_, _, _, _, _], _ => rfl) (fun vs H v h => by obtain ⟨a, b, ct, qt, n, p, i, rfl, _⟩ := h; rfl) fun f cdv A outer s H E hr => ⟨_, (pss_cons (ps_if (pt_not (pt_chain op_le op_lt pe_int (pv 3) (pv 1))) (pss_one (ps_ret pe_bl)) pss_nil)
      (pss_one (ps_ret (pe_chain op_le op_lt pe_int (pv 4) (pe_fn d_cols_of (hr.mono (by decide)) rfl (ax_cons (pv 0) star_name (AX1.ax (ax_cons (pe_ix ix_list (pv 2) (pv 3) (fun _ _ => rfl)) star_sub ax_nil)))))))), ?_⟩
  rintro vs v ⟨a, b, ct, qt, n, p, i, rfl, hS, hl, hS2, hl2, hn, hp, rfl⟩
  refine run_need (ev_test (ev_chain ev_c (ev_var rfl) fun _ => ev_var rfl)) fun hc => ?_
  simp only [Bool.and_eq_true, decide_eq_true_eq] at hc
  have hq := hp p.toNat (by omega)
  exact run_ret (ev_chain ev_c (ev_var rfl) fun _ => c_tab (ev_cons (ev_var rfl) (ev_cons (ev_ix (ns := qt) (ev_var rfl) (ev_var rfl) hS2 (by omega) (by omega)) ev_nil)) hS hl hq.1 hq.2)
theorem ok_cond_right (T : Txt mg) (d : DefAt K mg "cond_right" s_cond_right) (d_column_there : FD P w K mg base "column_there" 3 ["ctable", "qtables", "qtable", "place", "column"] (spP (fCol K))) (d_a_of : FD P w K mg base "a_of" 1 ["qcond", "cond"] (spP (fRec K 5 0 12))) (d_i_of : FD P w K mg base "i_of" 1 ["qcond", "cond"] (spP (fRec K 5 1 12)))
    (d_op_of : FD P w K mg base "op_of" 1 ["qcond", "cond"] (spP (fRec K 5 2 12))) (d_b_of : FD P w K mg base "b_of" 1 ["qcond", "cond"] (spP (fRec K 5 3 12))) (d_j_of : FD P w K mg base "j_of" 1 ["qcond", "cond"] (spP (fRec K 5 4 12))) : FD P w K mg base "cond_right" 4 ["ctable", "qtables", "qtable", "qcond", "cond"] (spP (fCond K)) := by
  refine FD.of d sc_cond_right (fun _ _ _ _ _ _ us hl => match us, hl with | [_, _, _, _, _], _ => rfl) (fun vs H v h => by obtain ⟨a, b, c, ct, qt, qc, n, k, rfl, _⟩ := h; rfl) fun f cdv A outer s H E hr => ⟨_, (pss_cons (ps_if (pt_not (pt_chain op_le op_le pe_int (pe_fn d_op_of (hr.mono (by decide)) rfl (ax_cons (pv 3) star_name (AX1.ax (ax_cons (pv 4) star_name ax_nil)))) (pe_ci T.c_LAST_OP rfl))) (pss_one (ps_ret pe_bl)) pss_nil)
      (pss_cons (ps_if (pt_not (pt_val (pe_fn d_column_there (hr.mono (by decide)) rfl (ax_cons (pv 0) star_name (AX1.ax (ax_cons (pv 1) star_name (AX1.ax (ax_cons (pv 2) star_name (AX1.ax (ax_cons (pe_fn d_a_of (hr.mono (by decide)) rfl (ax_cons (pv 3) star_name (AX1.ax (ax_cons (pv 4) star_name ax_nil)))) star_call (AX1.ax (ax_cons (pe_fn d_i_of (hr.mono (by decide)) rfl (ax_cons (pv 3) star_name (AX1.ax (ax_cons (pv 4) star_name ax_nil)))) star_call ax_nil)))))))))))) (pss_one (ps_ret pe_bl)) pss_nil)
      (pss_cons (ps_if (pt_cmpR op_eq (pe_fn d_b_of (hr.mono (by decide)) rfl (ax_cons (pv 3) star_name (AX1.ax (ax_cons (pv 4) star_name ax_nil)))) (pe_ci T.c_NO_PLACE rfl) (nomark _)) (pss_one (ps_ret pe_bl)) pss_nil)
      (pss_one (ps_ret (pe_fn d_column_there (hr.mono (by decide)) rfl (ax_cons (pv 0) star_name (AX1.ax (ax_cons (pv 1) star_name (AX1.ax (ax_cons (pv 2) star_name (AX1.ax (ax_cons (pe_fn d_b_of (hr.mono (by decide)) rfl (ax_cons (pv 3) star_name (AX1.ax (ax_cons (pv 4) star_name ax_nil)))) star_call (AX1.ax (ax_cons (pe_fn d_j_of (hr.mono (by decide)) rfl (ax_cons (pv 3) star_name (AX1.ax (ax_cons (pv 4) star_name ax_nil)))) star_call ax_nil))))))))))))))), ?_⟩
  rintro vs v ⟨a, b, c, ct, qt, qc, n, k, rfl, hS, hl, hS2, hl2, hS3, hl3, hn, hp, h0, h1, rfl⟩
  have r2 : ∀ m : Nat, ∀ {t : TA} {σ : St}, EvA t σ H [.ref c, .int k] → Ev (tCall (spP (fRec K 5 m 12)) [] E0 t) σ H (.int (Pm.g qc (5 * k.toNat + m))) := fun m {t σ} ha => c_rec ha hS3 hl3 h0 h1
  refine run_to (run_need (ev_test (ev_chain ev_c (r2 2 (ev_cons (ev_var rfl) (ev_cons (ev_var rfl) ev_nil))) fun _ => ev_c)) fun _ =>
    run_need (ev_tB (c_col (ev_cons (ev_var rfl) (ev_cons (ev_var rfl) (ev_cons (ev_var rfl) (ev_cons (r2 0 (ev_cons (ev_var rfl) (ev_cons (ev_var rfl) ev_nil))) (ev_cons (r2 1 (ev_cons (ev_var rfl) (ev_cons (ev_var rfl) ev_nil))) ev_nil))))) hS hl hS2 hl2 hn hp)) fun _ =>
    run_or (ev_test (ev_eq (r2 3 (ev_cons (ev_var rfl) (ev_cons (ev_var rfl) ev_nil))) ev_c)) fun _ =>
    run_ret (c_col (ev_cons (ev_var rfl) (ev_cons (ev_var rfl) (ev_cons (ev_var rfl) (ev_cons (r2 3 (ev_cons (ev_var rfl) (ev_cons (ev_var rfl) ev_nil))) (ev_cons (r2 4 (ev_cons (ev_var rfl) (ev_cons (ev_var rfl) ev_nil))) ev_nil))))) hS hl hS2 hl2 hn hp)) ?_
  simp only [Pm.condOk, Bool.and_assoc, Nat.add_zero]
theorem ok_conds_right (T : Txt mg) (d : DefAt K mg "conds_right" s_conds_right) (d_cond_right : FD P w K mg base "cond_right" 4 ["ctable", "qtables", "qtable", "qcond", "cond"] (spP (fCond K))) : FD P w K mg base "conds_right" 5 ["ctable", "qtables", "qconds", "qtable", "qcond"] (spP (fConds K)) := by
  refine FD.of d sc_conds_right (fun _ _ _ _ _ _ us hl => match us, hl with | [_, _, _, _, _], _ => rfl) (fun vs H v h => by obtain ⟨a, b, c, ct, qt, qc, n, k, rfl, _⟩ := h; rfl) fun f cdv A outer s H E hr => ⟨_, (pss_cons (ps_for PassesOwn.never rfl (pi_range1 rfl T.range (AX1.pa (ax_cons (pv 2) star_name ax_nil))) (pg_name (i := 5) sc_conds_right.nd rfl (Or.inl rfl)) (pss_one (ps_if (pt_not (pt_val (pe_fn d_cond_right (hr.mono (by decide)) rfl (ax_cons (pv 0) star_name (AX1.ax (ax_cons (pv 1) star_name (AX1.ax (ax_cons (pv 3) star_name (AX1.ax (ax_cons (pv 4) star_name (AX1.ax (ax_cons (pv 5) star_name ax_nil)))))))))))) (pss_one (ps_ret pe_bl)) pss_nil)))
      (pss_one (ps_ret pe_bl))), ?_⟩
  rintro vs v ⟨a, b, c, ct, qt, qc, n, cs, rfl, hS, hl, hS2, hl2, hS3, hl3, hn, hp, h0, h1, rfl⟩
  refine run_all (p := Pm.condOk ct n qt qc) (ev_cons (ev_var rfl) ev_nil) (by omega) (by omega) (Pv := fun σ => ∃ o, σ = [some (.ref a), some (.int n), some (.int cs), some (.ref b), some (.ref c), o]) ⟨_, rfl⟩ ?_ (fun σ _ => run_ret ev_c)
  rintro i σ hi ⟨o, rfl⟩
  exact ⟨ev_tB (ev_call (ev_cons (ev_var rfl) (ev_cons (ev_var rfl) (ev_cons (ev_var rfl) (ev_cons (ev_var rfl) (ev_cons (ev_var rfl) ev_nil))))) ⟨a, b, c, ct, qt, qc, n, i, rfl, hS, hl, hS2, hl2, hS3, hl3, hn, hp, by omega, by omega, rfl⟩), _, rfl⟩
theorem ok_outs_right (T : Txt mg) (d : DefAt K mg "outs_right" s_outs_right) (d_column_there : FD P w K mg base "column_there" 3 ["ctable", "qtables", "qtable", "place", "column"] (spP (fCol K))) (d_out_place_of : FD P w K mg base "out_place_of" 1 ["qout", "out"] (spP (fRec K 2 0 8))) (d_out_column_of : FD P w K mg base "out_column_of" 1 ["qout", "out"] (spP (fRec K 2 1 8))) :
    FD P w K mg base "outs_right" 4 ["ctable", "qtables", "qouts", "qtable", "qout"] (spP (fOuts K)) := by
  refine FD.of d sc_outs_right (fun _ _ _ _ _ _ us hl => match us, hl with | [_, _, _, _, _], _ => rfl) (fun vs H v h => by obtain ⟨a, b, c, ct, qt, qc, n, k, rfl, _⟩ := h; rfl) fun f cdv A outer s H E hr => ⟨_, (pss_cons (ps_for PassesOwn.never rfl (pi_range1 rfl T.range (AX1.pa (ax_cons (pv 2) star_name ax_nil))) (pg_name (i := 5) sc_outs_right.nd rfl (Or.inl rfl)) (pss_one (ps_if (pt_not (pt_val (pe_fn d_column_there (hr.mono (by decide)) rfl (ax_cons (pv 0) star_name (AX1.ax (ax_cons (pv 1) star_name (AX1.ax (ax_cons (pv 3) star_name (AX1.ax (ax_cons (pe_fn d_out_place_of (hr.mono (by decide)) rfl (ax_cons (pv 4) star_name (AX1.ax (ax_cons (pv 5) star_name ax_nil)))) star_call (AX1.ax (ax_cons (pe_fn d_out_column_of (hr.mono (by decide)) rfl (ax_cons (pv 4) star_name (AX1.ax (ax_cons (pv 5) star_name ax_nil)))) star_call ax_nil)))))))))))) (pss_one (ps_ret pe_bl)) pss_nil)))
      (pss_one (ps_ret pe_bl))), ?_⟩
  rintro vs v ⟨a, b, c, ct, qt, qo, n, os, rfl, hS, hl, hS2, hl2, hS3, hl3, hn, hp, h0, h1, rfl⟩
  refine run_all (p := fun k => Pm.colThere ct n qt (Pm.g qo (2 * k)) (Pm.g qo (2 * k + 1))) (ev_cons (ev_var rfl) ev_nil) (by omega) (by omega) (Pv := fun σ => ∃ o, σ = [some (.ref a), some (.int n), some (.int os), some (.ref b), some (.ref c), o]) ⟨_, rfl⟩ ?_ (fun σ _ => run_ret ev_c)
  rintro i σ hi ⟨o, rfl⟩
  have r2 : ∀ m : Nat, ∀ {t : TA} {σ : St}, EvA t σ H [.ref c, .int (i : Int)] → Ev (tCall (spP (fRec K 2 m 8)) [] E0 t) σ H (.int (Pm.g qo (2 * i + m))) := fun m {t σ} ha => c_rec ha hS3 hl3 (by omega) (by omega)
  exact ⟨ev_tB (c_col (ev_cons (ev_var rfl) (ev_cons (ev_var rfl) (ev_cons (ev_var rfl) (ev_cons (r2 0 (ev_cons (ev_var rfl) (ev_cons (ev_var rfl) ev_nil))) (ev_cons (r2 1 (ev_cons (ev_var rfl) (ev_cons (ev_var rfl) ev_nil))) ev_nil))))) hS hl hS2 hl2 hn hp), _, rfl⟩
theorem ok_question_right (T : Txt mg) (d : DefAt K mg "question_right" s_question_right) (d_counts_as_told : FD P w K mg base "counts_as_told" 1 ["qtables", "qconds", "qouts", "qnone"] (spP fCounts)) (d_places_right : FD P w K mg base "places_right" 1 ["ctables", "qtables", "qtable"] (spP (fPlaces K)))
    (d_conds_right : FD P w K mg base "conds_right" 5 ["ctable", "qtables", "qconds", "qtable", "qcond"] (spP (fConds K))) (d_outs_right : FD P w K mg base "outs_right" 4 ["ctable", "qtables", "qouts", "qtable", "qout"] (spP (fOuts K))) : FD P w K mg base "question_right" 6 ["ctables", "qtables", "qconds", "qouts", "qnone", "ctable", "qtable", "qcond", "qout"] (spP (fAsk K)) := by
  refine FD.of d sc_question_right (fun _ _ _ _ _ _ us hl => match us, hl with | [_, _, _, _, _, _, _, _, _], _ => rfl) (fun vs H v h => by obtain ⟨a, b, c, e, ct, qt, qc, qo, nc, n, cs, os, no, rfl, _⟩ := h; rfl) fun f cdv A outer s H E hr => ⟨_, (pss_cons (ps_if (pt_not (pt_val (pe_fn d_counts_as_told (hr.mono (by decide)) rfl (ax_cons (pv 1) star_name (AX1.ax (ax_cons (pv 2) star_name (AX1.ax (ax_cons (pv 3) star_name (AX1.ax (ax_cons (pv 4) star_name ax_nil)))))))))) (pss_one (ps_ret pe_bl)) pss_nil)
      (pss_cons (ps_if (pt_not (pt_val (pe_fn d_places_right (hr.mono (by decide)) rfl (ax_cons (pv 0) star_name (AX1.ax (ax_cons (pv 1) star_name (AX1.ax (ax_cons (pv 6) star_name ax_nil)))))))) (pss_one (ps_ret pe_bl)) pss_nil)
      (pss_cons (ps_if (pt_not (pt_val (pe_fn d_conds_right (hr.mono (by decide)) rfl (ax_cons (pv 5) star_name (AX1.ax (ax_cons (pv 1) star_name (AX1.ax (ax_cons (pv 2) star_name (AX1.ax (ax_cons (pv 6) star_name (AX1.ax (ax_cons (pv 7) star_name ax_nil)))))))))))) (pss_one (ps_ret pe_bl)) pss_nil)
      (pss_one (ps_ret (pe_fn d_outs_right (hr.mono (by decide)) rfl (ax_cons (pv 5) star_name (AX1.ax (ax_cons (pv 1) star_name (AX1.ax (ax_cons (pv 3) star_name (AX1.ax (ax_cons (pv 6) star_name (AX1.ax (ax_cons (pv 8) star_name ax_nil))))))))))))))), ?_⟩
  rintro vs v ⟨a, b, c, e, ct, qt, qc, qo, nc, n, cs, os, no, rfl, hS, hl, hS2, hl2, hS3, hl3, hS4, hl4, hnc, rfl⟩
  have main : Pm.countsOk n cs os no = true → 1 ≤ n ∧ n ≤ 5 ∧ 0 ≤ cs ∧ cs ≤ 12 ∧ 1 ≤ os ∧ os ≤ 8 := fun hc => by
    simp only [Pm.countsOk, Bool.and_eq_true, decide_eq_true_eq] at hc
    omega
  have pl : Pm.placesOk nc n qt = true → Places n qt := fun hc p hp => by
    simp only [Pm.placesOk, List.all_eq_true, Bool.and_eq_true, decide_eq_true_eq] at hc
    have := hc p (List.mem_range.mpr (by omega))
    omega
  refine run_to (run_need (ev_tB (ev_call (ev_cons (ev_var rfl) (ev_cons (ev_var rfl) (ev_cons (ev_var rfl) (ev_cons (ev_var rfl) ev_nil)))) ⟨n, cs, os, no, rfl, rfl⟩)) fun h1 =>
    run_need (ev_tB (ev_call (ev_cons (ev_var rfl) (ev_cons (ev_var rfl) (ev_cons (ev_var rfl) ev_nil))) ⟨b, qt, nc, n, rfl, hS2, hl2, (main h1).2.1, (by have := main h1; omega), rfl⟩)) fun h2 =>
    run_need (ev_tB (ev_call (ev_cons (ev_var rfl) (ev_cons (ev_var rfl) (ev_cons (ev_var rfl) (ev_cons (ev_var rfl) (ev_cons (ev_var rfl) ev_nil))))) ⟨a, b, c, ct, qt, qc, n, cs, rfl, hS, hl, hS2, hl2, hS3, hl3, (main h1).2.1, pl h2, (by have := main h1; omega), (by have := main h1; omega), rfl⟩)) fun _ =>
    run_ret (ev_call (ev_cons (ev_var rfl) (ev_cons (ev_var rfl) (ev_cons (ev_var rfl) (ev_cons (ev_var rfl) (ev_cons (ev_var rfl) ev_nil))))) ⟨a, b, e, ct, qt, qo, n, os, rfl, hS, hl, hS2, hl2, hS4, hl4, (main h1).2.1, pl h2, (by have := main h1; omega), (by have := main h1; omega), rfl⟩)) ?_
  simp only [Pm.askOk, Bool.and_assoc]
/-! ### a plan -/
def fIdx (K : PySem.W.Frag) : List V → Hp → V → Prop := fun vs H v => ∃ (a : Addr) (ct : List Int) (z c : Int), vs = [.ref a, .int z, .int c] ∧ SqL K H a (ct.map V.int) ∧ ct.length = 73 ∧ 0 ≤ z ∧ z < 8 ∧ 0 ≤ c ∧ v = .bl (Pm.idxAt ct z.toNat c)
def fTied (K : PySem.W.Frag) : List V → Hp → V → Prop := fun vs H v => ∃ (a b : Addr) (qc e : List Int) (k o : Int), vs = [.ref a, .int k, .int o, .ref b] ∧ SqL K H a (qc.map V.int) ∧ qc.length = 60 ∧ SqL K H b (e.map V.int) ∧ 0 ≤ k ∧ k < 12 ∧ v = .int (Pm.tiedC qc k.toNat o e)
def fOrder (K : PySem.W.Frag) : List V → Hp → V → Prop := fun vs H v => ∃ (a : Addr) (od : List Int) (n : Int), vs = [.int n, .ref a] ∧ SqL K H a (od.map V.int) ∧ od.length = 5 ∧ 0 ≤ n ∧ n ≤ 5 ∧ v = .bl (Pm.orderOk n od)
/-- the catalogue's and the question's lists of a right question -/
structure Ls (K : PySem.W.Frag) (H : Hp) (a b c : Addr) (n cs : Int) (ct qt qc : List Int) : Prop where
  sa : SqL K H a (ct.map V.int)
  la : ct.length = 73
  sb : SqL K H b (qt.map V.int)
  lb : qt.length = 8
  sc : SqL K H c (qc.map V.int)
  lc : qc.length = 60
  R : Pm.Rq n cs ct qt qc
theorem Ls.le {K : PySem.W.Frag} {H H' : Hp} {a b c : Addr} {n cs : Int} {ct qt qc : List Int} (L : Ls K H a b c n cs ct qt qc) (l : Le H H') : Ls K H' a b c n cs ct qt qc := ⟨sq_le l L.sa, L.la, sq_le l L.sb, L.lb, sq_le l L.sc, L.lc, L.R⟩
def fLook (K : PySem.W.Frag) : List V → Hp → V → Prop := fun vs H v => ∃ (a b c d : Addr) (ct qt qc e : List Int) (n cs w o : Int), vs = [.int cs, .ref a, .ref b, .ref c, .int w, .int o, .ref d] ∧ Ls K H a b c n cs ct qt qc ∧ SqL K H d (e.map V.int) ∧ 0 ≤ o ∧ o < n ∧ v = .bl (Pm.lookOk cs ct qt qc w o e)
def fBy (K : PySem.W.Frag) : List V → Hp → V → Prop := fun vs H v => ∃ (a b c d f : Addr) (ct qt qc od by_ : List Int) (n cs : Int), vs = [.int n, .int cs, .ref a, .ref b, .ref c, .ref d, .ref f] ∧ Ls K H a b c n cs ct qt qc ∧ SqL K H d (od.map V.int) ∧ od.length = 5 ∧ SqL K H f (by_.map V.int) ∧ by_.length = 5 ∧ Pm.orderOk n od = true ∧ v = .bl (Pm.byOk n cs ct qt qc od by_)
def fPlan (K : PySem.W.Frag) : List V → Hp → V → Prop := fun vs H v => ∃ (a b c d f : Addr) (ct qt qc od by_ : List Int) (n cs : Int), vs = [.int n, .int cs, .ref a, .ref b, .ref c, .ref d, .ref f] ∧ Ls K H a b c n cs ct qt qc ∧ SqL K H d (od.map V.int) ∧ od.length = 5 ∧ SqL K H f (by_.map V.int) ∧ by_.length = 5 ∧ v = .bl (Pm.planOk n cs ct qt qc od by_)
def fParts : List V → Hp → V → Prop := fun vs _ v => ∃ a b : Int, vs = [.int a, .int b] ∧ 0 < b ∧ b < 1073741824 ∧ v = .int (Pm.partsM a b)
def fScan : List V → Hp → V → Prop := fun vs _ v => ∃ a : Int, vs = [.int a] ∧ v = .int (Pm.partsM a 16)
def fLookP : List V → Hp → V → Prop := fun vs _ v => ∃ a b : Int, vs = [.int a, .int b] ∧ v = .int (Pm.lookM a b)
def fPages (K : PySem.W.Frag) : List V → Hp → V → Prop := fun vs H v => ∃ (a b c d : Addr) (ct qt qc e : List Int) (n cs w o : Int), vs = [.ref a, .ref b, .ref c, .int o, .ref d, .int w] ∧ Ls K H a b c n cs ct qt qc ∧ SqL K H d (e.map V.int) ∧ 0 ≤ o ∧ o < n ∧ (w = 255 ∨ (0 ≤ w ∧ w < cs ∧ Pm.tiedC qc w.toNat o e ≠ -1)) ∧ v = .int (Pm.pagesM ct qt qc o e w)
def fMost (K : PySem.W.Frag) : List V → Hp → V → Prop := fun vs H v => ∃ (a b c d : Addr) (ct qt qc e : List Int) (n cs o : Int), vs = [.int cs, .ref a, .ref b, .ref c, .int o, .ref d] ∧ Ls K H a b c n cs ct qt qc ∧ SqL K H d (e.map V.int) ∧ 0 ≤ o ∧ o < n ∧ v = .int (Pm.leastM ct qt qc o e cs.toNat)
def fCost (K : PySem.W.Frag) : List V → Hp → V → Prop := fun vs H v => ∃ (a b c d f : Addr) (ct qt qc od by_ : List Int) (n cs : Int), vs = [.int n, .int cs, .ref a, .ref b, .ref c, .ref d, .ref f] ∧ Ls K H a b c n cs ct qt qc ∧ SqL K H d (od.map V.int) ∧ n.toNat ≤ od.length ∧ SqL K H f (by_.map V.int) ∧ n.toNat ≤ by_.length ∧ Pm.planOk n cs ct qt qc od by_ = true ∧ v = .int (Pm.costM cs ct qt qc od by_ n.toNat)
def fComing (K : PySem.W.Frag) : List V → Hp → (V → Hp → Prop) → Prop := fun vs H Φ => ∃ (a b c d : Addr) (ct qt qc od : List Int) (n cs : Int), vs = [.int n, .int cs, .ref a, .ref b, .ref c, .ref d] ∧ Ls K H a b c n cs ct qt qc ∧ SqL K H d (od.map V.int) ∧ n.toNat ≤ od.length ∧ Pm.orderOk n od = true ∧ Φ = IsL ((List.range n.toNat).map (Pm.comeM cs ct qt qc od))
theorem g_rng {f : Nat → Int} {k s : Nat} (h : s < k) : Pm.g ((List.range k).map f) s = f s := by
  unfold Pm.g
  rw [List.getD_eq_getElem?_getD, List.getElem?_map, List.getElem?_range h]
  rfl
theorem step_in {n : Int} {od : List Int} {i : Nat} (hO : Pm.orderOk n od = true) (hi : i < n.toNat) : 0 ≤ Pm.g od i ∧ Pm.g od i < n := by
  unfold Pm.orderOk at hO
  have p1 := List.all_eq_true.mp hO i (List.mem_range.mpr hi)
  simp only [Pm.stepOk, Bool.and_eq_true, decide_eq_true_eq] at p1
  exact p1.1
theorem len_line {m : Nat} (h : m ≤ 1000) : m < sizeLine := by
  have : 1000 < sizeLine := by decide
  omega
def fAll (K : PySem.W.Frag) : List V → Hp → V → Prop := fun vs H v => ∃ (a b c d : Addr) (ct qt qc qo : List Int) (nc cno n cs os no : Int), vs = [.int nc, .int cno, .int n, .int cs, .int os, .int no, .ref a, .ref b, .ref c, .ref d] ∧ SqL K H a (ct.map V.int) ∧ ct.length = 73 ∧ SqL K H b (qt.map V.int) ∧ qt.length = 8 ∧ SqL K H c (qc.map V.int) ∧ qc.length = 60 ∧ SqL K H d (qo.map V.int) ∧ qo.length = 16 ∧ v = .bl (Pm.rightM nc cno n cs os no ct qt qc qo)
theorem c_tied {a b : Addr} {qc e : List Int} {k o : Int} (ha : EvA t σ H [.ref a, .int k, .int o, .ref b]) (h1 : SqL K H a (qc.map V.int)) (h2 : qc.length = 60) (h3 : SqL K H b (e.map V.int)) (h4 : 0 ≤ k) (h5 : k < 12) : Ev (tCall (spP (fTied K)) [] E0 t) σ H (.int (Pm.tiedC qc k.toNat o e)) := ev_call ha ⟨a, b, qc, e, k, o, rfl, h1, h2, h3, h4, h5, rfl⟩
theorem c_parts {a b : Int} (ha : EvA t σ H [.int a, .int b]) (h0 : 0 < b) (h1 : b < 1073741824) : Ev (tCall (spP fParts) [] E0 t) σ H (.int (Pm.partsM a b)) := ev_call ha ⟨a, b, rfl, h0, h1, rfl⟩
theorem c_alike {a : Addr} {ct : List Int} {z c : Int} (ha : EvA t σ H [.ref a, .int z, .int c]) (hS : SqL K H a (ct.map V.int)) (hl : ct.length = 73) (h0 : 0 ≤ z) (h1 : z < 8) (h2 : 0 ≤ c) (h3 : c < 4) : Ev (tCall (spP (fAlike K)) [] E0 t) σ H (.int (Pm.alikeM ct z.toNat c.toNat)) := ev_call ha ⟨a, ct, z, c, rfl, hS, hl, h0, h1, h2, h3, rfl⟩

theorem ok_column_indexed (T : Txt mg) (d : DefAt K mg "column_indexed" s_column_indexed) (d_indexed_of : FD P w K mg base "indexed_of" 2 ["ctable", "table"] (spP (fTab K Pm.idxM))) : FD P w K mg base "column_indexed" 3 ["ctable", "table", "column"] (spP (fIdx K)) := by
  refine FD.of d sc_column_indexed (fun _ _ _ _ _ _ us hl => match us, hl with | [_, _, _], _ => rfl) (fun vs H v h => by obtain ⟨a, ct, z, c, rfl, _⟩ := h; rfl) fun f cdv A outer s H E hr => ⟨_, (pss_one (ps_ret (pe_cmpR op_eq (pe_op op_mod (pe_op op_shr (pe_fn d_indexed_of (hr.mono (by decide)) rfl (ax_cons (pv 0) star_name (AX1.ax (ax_cons (pv 1) star_name ax_nil)))) (pv 2)) pe_int) pe_int (nomark _)))), ?_⟩
  rintro vs v ⟨a, ct, z, c, rfl, hS, hl, h0, h1, h2, rfl⟩
  exact run_ret (ev_eq (ev_i (ev_i (c_tab (ev_cons (ev_var rfl) (ev_cons (ev_var rfl) ev_nil)) hS hl h0 h1) (ev_var rfl) h2) ev_c (by show (0 : Int) < 2; decide)) ev_c)
theorem ok_tied_column (T : Txt mg) (d : DefAt K mg "tied_column" s_tied_column) (d_a_of : FD P w K mg base "a_of" 1 ["qcond", "cond"] (spP (fRec K 5 0 12))) (d_i_of : FD P w K mg base "i_of" 1 ["qcond", "cond"] (spP (fRec K 5 1 12)))
    (d_op_of : FD P w K mg base "op_of" 1 ["qcond", "cond"] (spP (fRec K 5 2 12))) (d_b_of : FD P w K mg base "b_of" 1 ["qcond", "cond"] (spP (fRec K 5 3 12))) (d_j_of : FD P w K mg base "j_of" 1 ["qcond", "cond"] (spP (fRec K 5 4 12))) : FD P w K mg base "tied_column" 2 ["qcond", "cond", "place", "earlier"] (spP (fTied K)) := by
  refine FD.of d sc_tied_column (fun _ _ _ _ _ _ us hl => match us, hl with | [_, _, _, _], _ => rfl) (fun vs H v h => by obtain ⟨a, b, qc, e, k, o, rfl, _⟩ := h; rfl) fun f cdv A outer s H E hr => ⟨_, (pss_cons (ps_if (pt_cmpR op_ne (pe_fn d_op_of (hr.mono (by decide)) rfl (ax_cons (pv 0) star_name (AX1.ax (ax_cons (pv 1) star_name ax_nil)))) (pe_ci T.c_EQUAL rfl) (nomark _)) (pss_one (ps_ret (pe_ci T.c_NO_COLUMN rfl))) pss_nil)
      (pss_cons (ps_set (i := 4) sc_tied_column.nd rfl (Or.inl rfl) (pe_fn d_a_of (hr.mono (by decide)) rfl (ax_cons (pv 0) star_name (AX1.ax (ax_cons (pv 1) star_name ax_nil)))))
      (pss_cons (ps_set (i := 5) sc_tied_column.nd rfl (Or.inl rfl) (pe_fn d_b_of (hr.mono (by decide)) rfl (ax_cons (pv 0) star_name (AX1.ax (ax_cons (pv 1) star_name ax_nil)))))
      (pss_cons (ps_if (PW.pt (pw_and (pt_cmpR op_eq (pv 4) (pv 2) (nomark _)) (pw_and1 (PW.pt (pw_or (pt_cmpR op_eq (pv 5) (pe_ci T.c_NO_PLACE rfl) (nomark _)) (pw_or1 (pt_cmpR op_in_seq (pv 5) (pv 3) (by with_unfolding_all rfl)))))))) (pss_one (ps_ret (pe_fn d_i_of (hr.mono (by decide)) rfl (ax_cons (pv 0) star_name (AX1.ax (ax_cons (pv 1) star_name ax_nil)))))) pss_nil)
      (pss_cons (ps_if (PW.pt (pw_and (pt_cmpR op_eq (pv 5) (pv 2) (nomark _)) (pw_and1 (pt_cmpR op_in_seq (pv 4) (pv 3) (by with_unfolding_all rfl))))) (pss_one (ps_ret (pe_fn d_j_of (hr.mono (by decide)) rfl (ax_cons (pv 0) star_name (AX1.ax (ax_cons (pv 1) star_name ax_nil)))))) pss_nil)
      (pss_one (ps_ret (pe_ci T.c_NO_COLUMN rfl)))))))), ?_⟩
  rintro vs v ⟨a, b, qc, e, k, o, rfl, hS, hl, hS2, h0, h1, rfl⟩
  have r2 : ∀ m : Nat, ∀ {t : TA} {σ : St}, EvA t σ H [.ref a, .int k] → Ev (tCall (spP (fRec K 5 m 12)) [] E0 t) σ H (.int (Pm.g qc (5 * k.toNat + m))) := fun m {t σ} ha => c_rec ha hS hl h0 h1
  refine run_guard (ev_test (ev_ne (r2 2 (ev_cons (ev_var rfl) (ev_cons (ev_var rfl) ev_nil))) ev_c)) (fun q => run_to (run_ret ev_c) ?_) (fun q => ?_)
  · have q : Pm.g qc (5 * k.toNat + 2) ≠ 0 := by simpa using q
    unfold Pm.tiedC
    rw [if_pos q]
  · have q : ¬ Pm.g qc (5 * k.toNat + 2) ≠ 0 := by simpa using q
    refine run_seq (run_set (r2 0 (ev_cons (ev_var rfl) (ev_cons (ev_var rfl) ev_nil)))) (run_seq (run_set (r2 3 (ev_cons (ev_var rfl) (ev_cons (ev_var rfl) ev_nil)))) ?_)
    refine run_guard (ev_and (ev_test (ev_eq (ev_var rfl) (ev_var rfl))) fun _ => ev_or (ev_test (ev_eq (ev_var rfl) ev_c)) fun _ => ev_test (ev_in (ev_var rfl) (ev_var rfl) hS2)) (fun q1 => run_to (run_ret (r2 1 (ev_cons (ev_var rfl) (ev_cons (ev_var rfl) ev_nil)))) ?_) (fun q1 => ?_)
    · simp only [Nat.add_zero] at q1
      unfold Pm.tiedC
      rw [if_neg q, if_pos q1]
    · simp only [Nat.add_zero] at q1
      refine run_guard (ev_and (ev_test (ev_eq (ev_var rfl) (ev_var rfl))) fun _ => ev_test (ev_in (ev_var rfl) (ev_var rfl) hS2)) (fun q2 => run_to (run_ret (r2 4 (ev_cons (ev_var rfl) (ev_cons (ev_var rfl) ev_nil)))) ?_) (fun q2 => run_to (run_ret ev_c) ?_)
      · simp only [Nat.add_zero] at q2
        unfold Pm.tiedC
        rw [if_neg q, if_neg (by rw [Bool.not_eq_true]; exact q1), if_pos q2]
      · simp only [Nat.add_zero] at q2
        unfold Pm.tiedC
        rw [if_neg q, if_neg (by rw [Bool.not_eq_true]; exact q1), if_neg (by rw [Bool.not_eq_true]; exact q2)]
theorem ok_lookup_right (T : Txt mg) (d : DefAt K mg "lookup_right" s_lookup_right) (d_tied_column : FD P w K mg base "tied_column" 2 ["qcond", "cond", "place", "earlier"] (spP (fTied K))) (d_column_indexed : FD P w K mg base "column_indexed" 3 ["ctable", "table", "column"] (spP (fIdx K))) : FD P w K mg base "lookup_right" 4 ["qconds", "ctable", "qtable", "qcond", "cond", "place", "earlier"] (spP (fLook K)) := by
  refine FD.of d sc_lookup_right (fun _ _ _ _ _ _ us hl => match us, hl with | [_, _, _, _, _, _, _], _ => rfl) (fun vs H v h => by obtain ⟨a, b, c, d', ct, qt, qc, e, n, cs, w', o, rfl, _⟩ := h; rfl) fun f cdv A outer s H E hr => ⟨_, (pss_cons (ps_if (pt_not (pt_chain op_le op_lt pe_int (pv 4) (pv 0))) (pss_one (ps_ret pe_bl)) pss_nil)
      (pss_cons (ps_set (i := 7) sc_lookup_right.nd rfl (Or.inl rfl) (pe_fn d_tied_column (hr.mono (by decide)) rfl (ax_cons (pv 3) star_name (AX1.ax (ax_cons (pv 4) star_name (AX1.ax (ax_cons (pv 5) star_name (AX1.ax (ax_cons (pv 6) star_name ax_nil)))))))))
      (pss_cons (ps_if (pt_cmpR op_eq (pv 7) (pe_ci T.c_NO_COLUMN rfl) (nomark _)) (pss_one (ps_ret pe_bl)) pss_nil)
      (pss_one (ps_ret (pe_fn d_column_indexed (hr.mono (by decide)) rfl (ax_cons (pv 1) star_name (AX1.ax (ax_cons (pe_ix ix_list (pv 2) (pv 5) (fun _ _ => rfl)) star_sub (AX1.ax (ax_cons (pv 7) star_name ax_nil))))))))))), ?_⟩
  rintro vs v ⟨a, b, c, d', ct, qt, qc, e, n, cs, w', o, rfl, L, hS, h0, h1, rfl⟩
  have n5 := L.R.n5
  have c12 := L.R.c12
  have lb := L.lb
  refine run_need (ev_test (ev_chain ev_c (ev_var rfl) fun _ => ev_var rfl)) fun hc => ?_
  simp only [Bool.and_eq_true, decide_eq_true_eq] at hc
  refine run_seq (run_set (c_tied (ev_cons (ev_var rfl) (ev_cons (ev_var rfl) (ev_cons (ev_var rfl) (ev_cons (ev_var rfl) ev_nil)))) L.sc L.lc hS (by omega) (by omega))) ?_
  refine run_bar (b := !decide (Pm.tiedC qc w'.toNat o e = -1)) (evt_to (ev_test (ev_eq (ev_var rfl) ev_c)) (Bool.not_not _).symm) fun hb => ?_
  have q := L.R.tied (e := e) h0 h1 (k := w'.toNat) (by omega)
  have q2 : Pm.tiedC qc w'.toNat o e ≠ -1 := by simpa using hb
  have tt := L.R.tab h0 h1
  exact run_ret (ev_call (ev_cons (ev_var rfl) (ev_cons (ev_ix (ns := qt) (ev_var rfl) (ev_var rfl) L.sb h0 (by omega)) (ev_cons (ev_var rfl) ev_nil))) ⟨a, ct, _, _, rfl, L.sa, L.la, by omega, by omega, by omega, rfl⟩)
theorem ok_parts_rounded_up (T : Txt mg) (d : DefAt K mg "parts_rounded_up" s_parts_rounded_up) : FD P w K mg base "parts_rounded_up" 1 ["number", "part"] (spP fParts) := by
  refine FD.of d sc_parts_rounded_up (fun _ _ _ _ _ _ us hl => match us, hl with | [_, _], _ => rfl) (fun vs H v h => by obtain ⟨a, b, rfl, _⟩ := h; rfl) fun f cdv A outer s H E hr => ⟨_, (pss_one (ps_ret (pe_op op_fdiv (pe_op op_sub (pe_op op_add (pv 0) (pv 1)) pe_int) (pv 1)))), ?_⟩
  rintro vs v ⟨a, b, rfl, h0, h1, rfl⟩
  exact run_ret (ev_i (ev_i0 (ev_i0 (ev_var rfl) (ev_var rfl)) ev_c) (ev_var rfl) ⟨h0, h1⟩)
theorem ok_scan_pages (T : Txt mg) (d : DefAt K mg "scan_pages" s_scan_pages) (d_parts_rounded_up : FD P w K mg base "parts_rounded_up" 1 ["number", "part"] (spP fParts)) : FD P w K mg base "scan_pages" 2 ["rows"] (spP fScan) := by
  refine FD.of d sc_scan_pages (fun _ _ _ _ _ _ us hl => match us, hl with | [_], _ => rfl) (fun vs H v h => by obtain ⟨a, rfl, _⟩ := h; rfl) fun f cdv A outer s H E hr => ⟨_, (pss_one (ps_ret (pe_fn d_parts_rounded_up (hr.mono (by decide)) rfl (ax_cons (pv 0) star_name (AX1.ax (ax_cons (pe_ci T.c_ROWS_A_PAGE rfl) star_name ax_nil)))))), ?_⟩
  rintro vs v ⟨a, rfl, rfl⟩
  exact run_ret (c_parts (ev_cons (ev_var rfl) (ev_cons ev_c ev_nil)) (by decide) (by decide))
theorem ok_lookup_pages (T : Txt mg) (d : DefAt K mg "lookup_pages" s_lookup_pages) (d_parts_rounded_up : FD P w K mg base "parts_rounded_up" 1 ["number", "part"] (spP fParts)) : FD P w K mg base "lookup_pages" 2 ["rows", "alike"] (spP fLookP) := by
  refine FD.of d sc_lookup_pages (fun _ _ _ _ _ _ us hl => match us, hl with | [_, _], _ => rfl) (fun vs H v h => by obtain ⟨a, b, rfl, _⟩ := h; rfl) fun f cdv A outer s H E hr => ⟨_, (pss_cons (ps_set (i := 2) sc_lookup_pages.nd rfl (Or.inl rfl) (pe_bm0 PySem.F.plainAttrs_int PyProof.Rows.slot_int_bit_length PyProof.Rows.type_int_bit_length mt_bits (pe_fn d_parts_rounded_up (hr.mono (by decide)) rfl (ax_cons (pv 0) star_name (AX1.ax (ax_cons (pe_ci T.c_ENTRIES_A_PAGE rfl) star_name ax_nil))))))
      (pss_one (ps_ret (pe_op op_add (pe_op op_add (pe_op op_add (pv 2) (pe_fn d_parts_rounded_up (hr.mono (by decide)) rfl (ax_cons (pv 1) star_name (AX1.ax (ax_cons (pe_ci T.c_ENTRIES_A_PAGE rfl) star_name ax_nil))))) (pv 1)) (pe_ci T.c_MORE_A_LOOKUP rfl))))), ?_⟩
  rintro vs v ⟨a, b, rfl, rfl⟩
  exact run_seq (run_set (ev_bits (c_parts (ev_cons (ev_var rfl) (ev_cons ev_c ev_nil)) (by decide) (by decide)))) (run_ret (ev_i0 (ev_i0 (ev_i0 (ev_var rfl) (c_parts (ev_cons (ev_var rfl) (ev_cons ev_c ev_nil)) (by decide) (by decide))) (ev_var rfl)) ev_c))
theorem ok_step_pages (T : Txt mg) (d : DefAt K mg "step_pages" s_step_pages) (d_rows_of : FD P w K mg base "rows_of" 2 ["ctable", "table"] (spP (fTab K Pm.rowsM))) (d_alike_of : FD P w K mg base "alike_of" 2 ["ctable", "table", "column"] (spP (fAlike K))) (d_scan_pages : FD P w K mg base "scan_pages" 2 ["rows"] (spP fScan))
    (d_tied_column : FD P w K mg base "tied_column" 2 ["qcond", "cond", "place", "earlier"] (spP (fTied K))) (d_lookup_pages : FD P w K mg base "lookup_pages" 2 ["rows", "alike"] (spP fLookP)) : FD P w K mg base "step_pages" 3 ["ctable", "qtable", "qcond", "place", "earlier", "way"] (spP (fPages K)) := by
  refine FD.of d sc_step_pages (fun _ _ _ _ _ _ us hl => match us, hl with | [_, _, _, _, _, _], _ => rfl) (fun vs H v h => by obtain ⟨a, b, c, d', ct, qt, qc, e, n, cs, w', o, rfl, _⟩ := h; rfl) fun f cdv A outer s H E hr => ⟨_, (pss_cons (ps_set (i := 6) sc_step_pages.nd rfl (Or.inl rfl) (pe_ix ix_list (pv 1) (pv 3) (fun _ _ => rfl)))
      (pss_cons (ps_set (i := 7) sc_step_pages.nd rfl (Or.inl rfl) (pe_fn d_rows_of (hr.mono (by decide)) rfl (ax_cons (pv 0) star_name (AX1.ax (ax_cons (pv 6) star_name ax_nil)))))
      (pss_cons (ps_if (pt_cmpR op_eq (pv 5) (pe_ci T.c_SCANNED rfl) (nomark _)) (pss_one (ps_ret (pe_fn d_scan_pages (hr.mono (by decide)) rfl (ax_cons (pv 7) star_name ax_nil)))) pss_nil)
      (pss_cons (ps_set (i := 8) sc_step_pages.nd rfl (Or.inl rfl) (pe_fn d_tied_column (hr.mono (by decide)) rfl (ax_cons (pv 2) star_name (AX1.ax (ax_cons (pv 5) star_name (AX1.ax (ax_cons (pv 3) star_name (AX1.ax (ax_cons (pv 4) star_name ax_nil)))))))))
      (pss_one (ps_ret (pe_fn d_lookup_pages (hr.mono (by decide)) rfl (ax_cons (pv 7) star_name (AX1.ax (ax_cons (pe_fn d_alike_of (hr.mono (by decide)) rfl (ax_cons (pv 0) star_name (AX1.ax (ax_cons (pv 6) star_name (AX1.ax (ax_cons (pv 8) star_name ax_nil)))))) star_call ax_nil)))))))))), ?_⟩
  rintro vs v ⟨a, b, c, d', ct, qt, qc, e, n, cs, w', o, rfl, L, hS, h0, h1, hw, rfl⟩
  have n5 := L.R.n5
  have c12 := L.R.c12
  have lb := L.lb
  obtain ⟨t0, t1, t2, t3, t4, t5, t6⟩ := L.R.tab h0 h1
  refine run_seq (run_set (ev_ix (ns := qt) (ev_var rfl) (ev_var rfl) L.sb h0 (by omega))) (run_seq (run_set (c_tab (ev_cons (ev_var rfl) (ev_cons (ev_var rfl) ev_nil)) L.sa L.la t0 t1)) ?_)
  refine run_guard (ev_test (ev_eq (ev_var rfl) ev_c)) (fun q => run_to (run_ret (ev_call (ev_cons (ev_var rfl) ev_nil) ⟨_, rfl, rfl⟩)) ?_) (fun q => ?_)
  · unfold Pm.pagesM
    rw [if_pos (of_decide_eq_true q)]
  · have q := of_decide_eq_false q
    have hw' : 0 ≤ w' ∧ w' < cs ∧ Pm.tiedC qc w'.toNat o e ≠ -1 := hw.resolve_left q
    have qt' := L.R.tied (e := e) h0 h1 (k := w'.toNat) (by omega)
    refine run_seq (run_set (c_tied (ev_cons (ev_var rfl) (ev_cons (ev_var rfl) (ev_cons (ev_var rfl) (ev_cons (ev_var rfl) ev_nil)))) L.sc L.lc hS (by omega) (by omega))) ?_
    refine run_to (run_ret (ev_call (ev_cons (ev_var rfl) (ev_cons (c_alike (ev_cons (ev_var rfl) (ev_cons (ev_var rfl) (ev_cons (ev_var rfl) ev_nil))) L.sa L.la t0 t1 (by omega) (by omega)) ev_nil)) ⟨_, _, rfl, rfl⟩)) ?_
    unfold Pm.pagesM
    rw [if_neg q]
theorem ok_most_rows_found (T : Txt mg) (d : DefAt K mg "most_rows_found" s_most_rows_found) (d_rows_of : FD P w K mg base "rows_of" 2 ["ctable", "table"] (spP (fTab K Pm.rowsM))) (d_alike_of : FD P w K mg base "alike_of" 2 ["ctable", "table", "column"] (spP (fAlike K)))
    (d_tied_column : FD P w K mg base "tied_column" 2 ["qcond", "cond", "place", "earlier"] (spP (fTied K))) : FD P w K mg base "most_rows_found" 3 ["qconds", "ctable", "qtable", "qcond", "place", "earlier"] (spP (fMost K)) := by
  refine FD.of d sc_most_rows_found (fun _ _ _ _ _ _ us hl => match us, hl with | [_, _, _, _, _, _], _ => rfl) (fun vs H v h => by obtain ⟨a, b, c, d', ct, qt, qc, e, n, cs, o, rfl, _⟩ := h; rfl) fun f cdv A outer s H E hr => ⟨_, (pss_cons (ps_set (i := 6) sc_most_rows_found.nd rfl (Or.inl rfl) (pe_ix ix_list (pv 2) (pv 4) (fun _ _ => rfl)))
      (pss_cons (ps_set (i := 7) sc_most_rows_found.nd rfl (Or.inl rfl) (pe_fn d_rows_of (hr.mono (by decide)) rfl (ax_cons (pv 1) star_name (AX1.ax (ax_cons (pv 6) star_name ax_nil)))))
      (pss_cons (ps_for PassesOwn.never rfl (pi_range1 rfl T.range (AX1.pa (ax_cons (pv 0) star_name ax_nil))) (pg_name (i := 8) sc_most_rows_found.nd rfl (Or.inl rfl)) (pss_cons (ps_set (i := 9) sc_most_rows_found.nd rfl (Or.inl rfl) (pe_fn d_tied_column (hr.mono (by decide)) rfl (ax_cons (pv 3) star_name (AX1.ax (ax_cons (pv 8) star_name (AX1.ax (ax_cons (pv 4) star_name (AX1.ax (ax_cons (pv 5) star_name ax_nil)))))))))
      (pss_one (ps_if (pt_cmpR op_ne (pv 9) (pe_ci T.c_NO_COLUMN rfl) (nomark _)) (pss_one (ps_set (i := 7) sc_most_rows_found.nd rfl (Or.inl rfl) (pe_callB (call_min2 rfl) (by rfl) T.min PyProof.Rows.boot_min (AX1.pa (ax_cons (pv 7) star_name (AX1.ax (ax_cons (pe_fn d_alike_of (hr.mono (by decide)) rfl (ax_cons (pv 1) star_name (AX1.ax (ax_cons (pv 6) star_name (AX1.ax (ax_cons (pv 9) star_name ax_nil)))))) star_call ax_nil))))))) pss_nil))))
      (pss_one (ps_ret (pv 7)))))), ?_⟩
  rintro vs v ⟨a, b, c, d', ct, qt, qc, e, n, cs, o, rfl, L, hS, h0, h1, rfl⟩
  have n5 := L.R.n5
  have c12 := L.R.c12
  have c0 := L.R.c0
  have lb := L.lb
  obtain ⟨t0, t1, t2, t3, t4, t5, t6⟩ := L.R.tab h0 h1
  refine run_seq (run_set (ev_ix (ns := qt) (ev_var rfl) (ev_var rfl) L.sb h0 (by omega))) (run_seq (run_set (c_tab (ev_cons (ev_var rfl) (ev_cons (ev_var rfl) ev_nil)) L.sa L.la t0 t1)) ?_)
  refine run_range (v := .int (Pm.leastM ct qt qc o e cs.toNat)) (ev_cons (ev_var rfl) ev_nil) (by omega) (by omega) (fun i σ => ∃ x y, σ = [some (.int cs), some (.ref a), some (.ref b), some (.ref c), some (.int o), some (.ref d'), some (.int (Pm.g qt o.toNat)), some (.int (Pm.leastM ct qt qc o e i)), x, y]) ⟨_, _, rfl⟩ ?_ ?_
  · rintro i σ hi ⟨x, y, rfl⟩
    have q := L.R.tied (e := e) h0 h1 (k := i) (by omega)
    by_cases z : Pm.tiedC qc i o e = -1
    · refine .inr ⟨_, .inl (run_seq (run_set (c_tied (k := (i : Int)) (ev_cons (ev_var rfl) (ev_cons (ev_var rfl) (ev_cons (ev_var rfl) (ev_cons (ev_var rfl) ev_nil)))) L.sc L.lc hS (by omega) (by omega))) (run_if (ev_test (ev_ne (ev_var rfl) ev_c)) (fun k => ?_) (fun _ => run_next))), some (.int (i : Int)), some (.int (Pm.tiedC qc i o e)), ?_⟩
      · have k : ¬ Pm.tiedC qc i o e = -1 := by simpa using k
        exact absurd z k
      · show _ = [_, _, _, _, _, _, _, some (V.int (Pm.lessM ct qt qc o e (Pm.leastM ct qt qc o e i) i)), _, _]
        unfold Pm.lessM
        rw [if_pos z]
        rfl
    · refine .inr ⟨_, .inl (run_seq (run_set (c_tied (k := (i : Int)) (ev_cons (ev_var rfl) (ev_cons (ev_var rfl) (ev_cons (ev_var rfl) (ev_cons (ev_var rfl) ev_nil)))) L.sc L.lc hS (by omega) (by omega))) (run_if (ev_test (ev_ne (ev_var rfl) ev_c)) (fun _ => run_set (ev_min (ev_cons (ev_var rfl) (ev_cons (c_alike (c := Pm.tiedC qc i o e) (ev_cons (ev_var rfl) (ev_cons (ev_var rfl) (ev_cons (ev_var rfl) ev_nil))) L.sa L.la t0 t1 (by omega) (by omega)) ev_nil)))) (fun k => ?_))), some (.int (i : Int)), some (.int (Pm.tiedC qc i o e)), ?_⟩
      · have k : Pm.tiedC qc i o e = -1 := by simpa using k
        exact absurd k z
      · show _ = [_, _, _, _, _, _, _, some (V.int (Pm.lessM ct qt qc o e (Pm.leastM ct qt qc o e i) i)), _, _]
        unfold Pm.lessM
        rw [if_neg z]
        rfl
  · rintro σ ⟨x, y, rfl⟩
    exact run_ret (ev_var rfl)
theorem ok_rows_coming (T : Txt mg) (d : DefAt K mg "rows_coming" s_rows_coming) (d_most_rows_found : FD P w K mg base "most_rows_found" 3 ["qconds", "ctable", "qtable", "qcond", "place", "earlier"] (spP (fMost K))) : FD P w K mg base "rows_coming" 4 ["qtables", "qconds", "ctable", "qtable", "qcond", "order"] (spW (fComing K)) := by
  refine FD.ofW d sc_rows_coming (fun _ _ _ _ _ _ us hl => match us, hl with | [_, _, _, _, _, _], _ => rfl) (fun vs H Φ h => by obtain ⟨a, b, c, d', ct, qt, qc, od, n, cs, rfl, _⟩ := h; rfl) fun f cdv A outer s H E hr => ⟨_, (pss_cons (ps_set (i := 6) sc_rows_coming.nd rfl (Or.inl rfl) (pe_lst (AX1.pa (ax_cons pe_int star_con ax_nil))))
      (pss_cons (ps_for PassesOwn.never rfl (pi_range1 rfl T.range (AX1.pa (ax_cons (pe_op op_sub (pv 0) pe_int) star_bin ax_nil))) (pg_name (i := 7) sc_rows_coming.nd rfl (Or.inl rfl)) (pss_cons (ps_set (i := 8) sc_rows_coming.nd rfl (Or.inl rfl) (pe_fn d_most_rows_found (hr.mono (by decide)) rfl (ax_cons (pv 1) star_name (AX1.ax (ax_cons (pv 2) star_name (AX1.ax (ax_cons (pv 3) star_name (AX1.ax (ax_cons (pv 4) star_name (AX1.ax (ax_cons (pe_ix ix_list (pv 5) (pv 7) (fun _ _ => rfl)) star_sub (AX1.ax (ax_cons (pe_slice sl_list (pv 5) po_none (po_some (pv 7))) star_sub ax_nil)))))))))))))
      (pss_one (ps_expr (pe_bm PySem.F.plainAttrs_list PySem.F.slot_list_append PySem.F.type_list_append mt_append (pv 6) (AX1.pa (ax_cons (pe_op op_mul (pe_ix ix_list (pv 6) (pv 7) (fun _ _ => rfl)) (pv 8)) star_bin ax_nil)))))))
      (pss_one (ps_ret (pv 6))))), ?_⟩
  rintro vs Φ ⟨a, b, c, d', ct, qt, qc, od, n, cs, rfl, L, hS, hl, hO, rfl⟩ D hD
  have n5 := L.R.n5
  have n1 := L.R.n1
  have c0 := L.R.c0
  refine seq_lst (ev_cons ev_c ev_nil) (by show 1 ≤ sizeLine; decide) fun p hp => ?_
  refine range_raw (j := n - 1) (ev_cons (ev_i0 (ev_var rfl) ev_c) ev_nil) (by omega) (by omega) (fun i σ' H' => Le H H' ∧ H' p = some (.lst (((List.range (i + 1)).map (Pm.comeM cs ct qt qc od)).map V.int)) ∧ ∃ x y, σ' = [some (.int n), some (.int cs), some (.ref a), some (.ref b), some (.ref c), some (.ref d'), some (.ref p), x, y]) ⟨Le.upd hp, upd_same, _, _, rfl⟩ ?_ ?_
  · rintro i σ1 H1 D1 hi ⟨l, hp1, x, y, rfl⟩ hN _ _ _
    have hS1 := sq_le l hS
    have p1 := step_in hO (i := i) (by omega)
    have g2 := Pm.least_le (e := od.take i) L.R p1.1 p1.2 cs.toNat (by omega)
    refine seq_setG (v := .int (Pm.leastM ct qt qc (Pm.g od i) (od.take i) cs.toNat)) (g_callP (al_cons (ev_var rfl) (al_cons (ev_var rfl) (al_cons (ev_var rfl) (al_cons (ev_var rfl) (al_cons (ev_ix (ns := od) (z := (i : Int)) (ev_var rfl) (ev_var rfl) hS1 (by omega) (by omega)) (al_sl (ns := od) (i := (i : Int)) (ev_var rfl) hS1 (ev_var rfl) (by omega) (by omega))))))) ?_) fun H2 l2 => ?_
    · rintro vs H2 ⟨_, rfl, _, rfl, _, rfl, _, rfl, _, rfl, q, rfl, l2, hq⟩
      exact ⟨⟨a, b, c, q, ct, qt, qc, od.take i, n, cs, Pm.g od i, rfl, (L.le l).le l2, hq, p1.1, p1.2, rfl⟩, l2⟩
    · have hp2 := l2 _ _ hp1
      refine app_raw (ev_var rfl) hp2 (len_line (by rw [List.length_map, List.length_map, List.length_range]; omega)) ((ev_i (i := Pm.comeM cs ct qt qc od i) (j := Pm.leastM ct qt qc (Pm.g od i) (od.take i) cs.toNat) (ev_to (ev_ix (ns := (List.range (i + 1)).map (Pm.comeM cs ct qt qc od)) (z := (i : Int)) (ev_var rfl) (ev_var rfl) (SqL.of hp2) (by omega) (by rw [List.length_map, List.length_range]; omega)) (congrArg V.int (g_rng (by omega)))) (ev_var rfl) (.inr ⟨by omega, by omega⟩)).g.w) fun y H3 l3 e => ?_
      subst e
      refine hN _ _ ⟨(l.trans (l2.trans l3)).updN hp, ?_, _, _, rfl⟩
      rw [upd_same, List.range_succ (n := i + 1), List.map_append, List.map_append]
      rfl
  · rintro σ1 H1 ⟨l, hp1, x, y, rfl⟩
    have e : (n - 1).toNat + 1 = n.toNat := by omega
    rw [e] at hp1
    exact ret_ev (ev_var rfl) (hD _ H1 l ⟨p, rfl, hp1⟩)
theorem ok_plan_cost (T : Txt mg) (d : DefAt K mg "plan_cost" s_plan_cost) (d_step_pages : FD P w K mg base "step_pages" 3 ["ctable", "qtable", "qcond", "place", "earlier", "way"] (spP (fPages K))) (d_rows_coming : FD P w K mg base "rows_coming" 4 ["qtables", "qconds", "ctable", "qtable", "qcond", "order"] (spW (fComing K))) : FD P w K mg base "plan_cost" 5 ["qtables", "qconds", "ctable", "qtable", "qcond", "order", "by"] (spG (fCost K)) := by
  refine FD.ofG d sc_plan_cost (fun _ _ _ _ _ _ us hl => match us, hl with | [_, _, _, _, _, _, _], _ => rfl) (fun vs H v h => by obtain ⟨a, b, c, d', f, ct, qt, qc, od, by_, n, cs, rfl, _⟩ := h; rfl) fun f cdv A outer s H E hr => ⟨_, (pss_cons (ps_set (i := 7) sc_plan_cost.nd rfl (Or.inl rfl) (pe_fn d_rows_coming (hr.mono (by decide)) rfl (ax_cons (pv 0) star_name (AX1.ax (ax_cons (pv 1) star_name (AX1.ax (ax_cons (pv 2) star_name (AX1.ax (ax_cons (pv 3) star_name (AX1.ax (ax_cons (pv 4) star_name (AX1.ax (ax_cons (pv 5) star_name ax_nil)))))))))))))
      (pss_cons (ps_set (i := 8) sc_plan_cost.nd rfl (Or.inl rfl) pe_int)
      (pss_cons (ps_for PassesOwn.never rfl (pi_range1 rfl T.range (AX1.pa (ax_cons (pv 0) star_name ax_nil))) (pg_name (i := 9) sc_plan_cost.nd rfl (Or.inl rfl)) (pss_one (ps_set (i := 8) sc_plan_cost.nd rfl (Or.inl rfl) (pe_op op_add (pv 8) (pe_op op_mul (pe_ix ix_list (pv 7) (pv 9) (fun _ _ => rfl)) (pe_fn d_step_pages (hr.mono (by decide)) rfl (ax_cons (pv 2) star_name (AX1.ax (ax_cons (pv 3) star_name (AX1.ax (ax_cons (pv 4) star_name (AX1.ax (ax_cons (pe_ix ix_list (pv 5) (pv 9) (fun _ _ => rfl)) star_sub (AX1.ax (ax_cons (pe_slice sl_list (pv 5) po_none (po_some (pv 9))) star_sub (AX1.ax (ax_cons (pe_ix ix_list (pv 6) (pv 9) (fun _ _ => rfl)) star_sub ax_nil)))))))))))))))))
      (pss_one (ps_ret (pv 8)))))), ?_⟩
  rintro vs v ⟨a, b, c, d', f, ct, qt, qc, od, by_, n, cs, rfl, L, hS, hl, hS2, hl2, hP, rfl⟩ D hD
  have n5 := L.R.n5
  have n1 := L.R.n1
  have c0 := L.R.c0
  have hO : Pm.orderOk n od = true := by
    unfold Pm.planOk at hP
    exact (Bool.and_eq_true _ _ ▸ hP).1
  refine seq_setW (w_call (ev_cons (ev_var rfl) (ev_cons (ev_var rfl) (ev_cons (ev_var rfl) (ev_cons (ev_var rfl) (ev_cons (ev_var rfl) (ev_cons (ev_var rfl) ev_nil)))))) ⟨a, b, c, d', ct, qt, qc, od, n, cs, rfl, L, hS, hl, hO, rfl⟩) fun v H0 l0 z => ?_
  obtain ⟨m, rfl, hm⟩ := z
  refine seq_set ev_c ?_
  refine range_raw (j := n) (ev_cons (ev_var rfl) ev_nil) (by omega) (by omega) (fun i σ' H' => Le H0 H' ∧ ∃ x, σ' = [some (.int n), some (.int cs), some (.ref a), some (.ref b), some (.ref c), some (.ref d'), some (.ref f), some (.ref m), some (.int (Pm.costM cs ct qt qc od by_ i)), x]) ⟨Le.refl, _, rfl⟩ ?_ ?_
  · rintro i σ1 H1 D1 hi ⟨l, x, rfl⟩ hN _ _ _
    have hS1 := sq_le (l0.trans l) hS
    have hS21 := sq_le (l0.trans l) hS2
    have p := hP
    simp only [Pm.planOk, Pm.orderOk, Pm.byOk, Bool.and_eq_true, List.all_eq_true] at p
    have p1 := step_in hO hi
    have p2 := p.2 i (List.mem_range.mpr hi)
    simp only [Pm.wayOk, Pm.lookOk, Bool.or_eq_true, Bool.and_eq_true, decide_eq_true_eq, Bool.not_eq_true', decide_eq_false_iff_not] at p2
    have p3 : Pm.g by_ i = 255 ∨ (0 ≤ Pm.g by_ i ∧ Pm.g by_ i < cs ∧ Pm.tiedC qc (Pm.g by_ i).toNat (Pm.g od i) (od.take i) ≠ -1) := by
      rcases p2 with h | h
      · exact .inl h
      · exact .inr ⟨h.1.1, h.1.2, h.2.1⟩
    have g1 := Pm.pages_le (e := od.take i) L.R p1.1 p1.2 p3
    refine set_rawG (v := .int (Pm.costM cs ct qt qc od by_ (i + 1))) (g_i0 (ev_var rfl) (g_i (i := Pm.comeM cs ct qt qc od i) (j := Pm.pagesM ct qt qc (Pm.g od i) (od.take i) (Pm.g by_ i)) (ev_to (ev_ix (ns := (List.range n.toNat).map (Pm.comeM cs ct qt qc od)) (z := (i : Int)) (ev_var rfl) (ev_var rfl) (SqL.of (l _ _ hm)) (by omega) (by rw [List.length_map, List.length_range]; omega)) (congrArg V.int (g_rng hi)))
      (g_callP (al_cons (ev_var rfl) (al_cons (ev_var rfl) (al_cons (ev_var rfl) (al_cons (ev_ix (ns := od) (z := (i : Int)) (ev_var rfl) (ev_var rfl) hS1 (by omega) (by omega)) (al_slc (ns := od) (i := (i : Int)) (ev_var rfl) hS1 (ev_var rfl) (by omega) (by omega) fun H2 l2 => ev_cons (ev_ix (ns := by_) (z := (i : Int)) (ev_var rfl) (ev_var rfl) (sq_le l2 hS21) (by omega) (by omega)) ev_nil))))) ?_) (.inr ⟨by omega, by omega⟩))) fun H2 l2 => hN _ _ ⟨l.trans l2, _, rfl⟩
    rintro vs H2 ⟨_, rfl, _, rfl, _, rfl, _, rfl, q, rfl, l2, hq⟩
    exact ⟨⟨a, b, c, q, ct, qt, qc, od.take i, n, cs, Pm.g by_ i, Pm.g od i, rfl, L.le ((l0.trans l).trans l2), hq, p1.1, p1.2, p3, rfl⟩, l2⟩
  · rintro σ1 H1 ⟨l, x, rfl⟩
    exact ret_ev (ev_var rfl) (hD H1 (l0.trans l))
theorem ok_all_right (T : Txt mg) (d : DefAt K mg "all_right" s_all_right) (d_catalogue_as_told : FD P w K mg base "catalogue_as_told" 5 ["ctables", "cnone", "ctable"] (spP (fCatOk K))) (d_question_right : FD P w K mg base "question_right" 6 ["ctables", "qtables", "qconds", "qouts", "qnone", "ctable", "qtable", "qcond", "qout"] (spP (fAsk K))) :
    FD P w K mg base "all_right" 7 ["ctables", "cnone", "qtables", "qconds", "qouts", "qnone", "ctable", "qtable", "qcond", "qout"] (spP (fAll K)) := by
  refine FD.of d sc_all_right (fun _ _ _ _ _ _ us hl => match us, hl with | [_, _, _, _, _, _, _, _, _, _], _ => rfl) (fun vs H v h => by obtain ⟨a, b, c, e, ct, qt, qc, qo, nc, cno, n, cs, os, no, rfl, _⟩ := h; rfl) fun f cdv A outer s H E hr => ⟨_, (pss_cons (ps_if (pt_not (pt_val (pe_fn d_catalogue_as_told (hr.mono (by decide)) rfl (ax_cons (pv 0) star_name (AX1.ax (ax_cons (pv 1) star_name (AX1.ax (ax_cons (pv 6) star_name ax_nil)))))))) (pss_one (ps_ret pe_bl)) pss_nil)
      (pss_one (ps_ret (pe_fn d_question_right (hr.mono (by decide)) rfl (ax_cons (pv 0) star_name (AX1.ax (ax_cons (pv 2) star_name (AX1.ax (ax_cons (pv 3) star_name (AX1.ax (ax_cons (pv 4) star_name (AX1.ax (ax_cons (pv 5) star_name (AX1.ax (ax_cons (pv 6) star_name (AX1.ax (ax_cons (pv 7) star_name (AX1.ax (ax_cons (pv 8) star_name (AX1.ax (ax_cons (pv 9) star_name ax_nil))))))))))))))))))))), ?_⟩
  rintro vs v ⟨a, b, c, e, ct, qt, qc, qo, nc, cno, n, cs, os, no, rfl, hS, hl, hS2, hl2, hS3, hl3, hS4, hl4, rfl⟩
  refine run_need (ev_tB (ev_call (v := .bl (Pm.catOk nc cno ct)) (ev_cons (ev_var rfl) (ev_cons (ev_var rfl) (ev_cons (ev_var rfl) ev_nil))) ⟨a, ct, nc, cno, rfl, hS, hl, rfl⟩)) fun h => ?_
  have hnc : nc ≤ 8 := by
    simp only [Pm.catOk, Bool.and_eq_true, decide_eq_true_eq] at h
    omega
  exact run_ret (ev_call (ev_cons (ev_var rfl) (ev_cons (ev_var rfl) (ev_cons (ev_var rfl) (ev_cons (ev_var rfl) (ev_cons (ev_var rfl) (ev_cons (ev_var rfl) (ev_cons (ev_var rfl) (ev_cons (ev_var rfl) (ev_cons (ev_var rfl) ev_nil)))))))))
      ⟨a, b, c, e, ct, qt, qc, qo, nc, n, cs, os, no, rfl, hS, hl, hS2, hl2, hS3, hl3, hS4, hl4, hnc, rfl⟩)
end
end Prog

namespace Prog
open PySem PySem.Spec PyProof.Rows L2 Ev
section
variable {P : Program} {w : World} {K : PySem.W.Frag} {mg : Str → Option Value} {base : Heap} {σ : St} {H : Hp} {t : TA}
/-! ### the best plan -/
def fEvery (K : PySem.W.Frag) : List V → Hp → (V → Hp → Prop) → Prop := fun vs H Φ => ∃ (a b c d : Addr) (ct qt qc e : List Int) (n cs o : Int), vs = [.int cs, .ref a, .ref b, .ref c, .int o, .ref d] ∧ Ls K H a b c n cs ct qt qc ∧ SqL K H d (e.map V.int) ∧ 0 ≤ o ∧ o < n ∧ Φ = IsL (Pm.waysM cs ct qt qc o e)
def fWay (K : PySem.W.Frag) : List V → Hp → V → Prop := fun vs H v => ∃ (a b c d : Addr) (ct qt qc e : List Int) (n cs o m : Int), vs = [.int cs, .ref a, .ref b, .ref c, .int o, .ref d, .int m] ∧ Ls K H a b c n cs ct qt qc ∧ SqL K H d (e.map V.int) ∧ 0 ≤ o ∧ o < n ∧ v = .int (Pm.bestWayM cs ct qt qc o e m)
def fBestBy (K : PySem.W.Frag) : List V → Hp → (V → Hp → Prop) → Prop := fun vs H Φ => ∃ (a b c d : Addr) (ct qt qc od : List Int) (n cs : Int), vs = [.int n, .int cs, .ref a, .ref b, .ref c, .ref d] ∧ Ls K H a b c n cs ct qt qc ∧ SqL K H d (od.map V.int) ∧ n.toNat ≤ od.length ∧ Pm.orderOk n od = true ∧ Φ = IsL (Pm.bestByM cs ct qt qc od n.toNat)
def fLeast (K : PySem.W.Frag) : List V → Hp → V → Prop := fun vs H v => ∃ (a b c d : Addr) (ct qt qc od : List Int) (n cs : Int), vs = [.int n, .int cs, .ref a, .ref b, .ref c, .ref d] ∧ Ls K H a b c n cs ct qt qc ∧ SqL K H d (od.map V.int) ∧ n.toNat ≤ od.length ∧ Pm.orderOk n od = true ∧ v = .int (Pm.leastCostM n cs ct qt qc od)
def fLonger : List V → Hp → (V → Hp → Prop) → Prop := fun vs H Φ => ∃ (v : V) (os : List (List Int)) (n : Int), vs = [.int n, v] ∧ IsLL os v H ∧ 0 ≤ n ∧ n ≤ 5 ∧ os.length ≤ 120 ∧ (∀ o, o ∈ os → o.length ≤ 5) ∧ Φ = IsLL (Pm.longerM n.toNat os)
def fOrders : List V → Hp → (V → Hp → Prop) → Prop := fun vs _ Φ => ∃ n : Int, vs = [.int n] ∧ 0 ≤ n ∧ n ≤ 5 ∧ Φ = IsLL (Pm.everyM n.toNat n.toNat)
def fBestOrder (K : PySem.W.Frag) : List V → Hp → (V → Hp → Prop) → Prop := fun vs H Φ => ∃ (a b c : Addr) (ct qt qc : List Int) (n cs : Int), vs = [.int n, .int cs, .ref a, .ref b, .ref c] ∧ Ls K H a b c n cs ct qt qc ∧ Φ = IsL (Pm.bestOrderM n cs ct qt qc)
def fRow : List V → Hp → (V → Hp → Prop) → Prop := fun vs H Φ => ∃ (v : V) (ns : List Int), vs = [v] ∧ IsL ns v H ∧ ns.length ≤ 5 ∧ Φ = IsL (Pm.rowM ns)
theorem ok_every_way (T : Txt mg) (d : DefAt K mg "every_way" s_every_way) (d_lookup_right : FD P w K mg base "lookup_right" 4 ["qconds", "ctable", "qtable", "qcond", "cond", "place", "earlier"] (spP (fLook K))) : FD P w K mg base "every_way" 5 ["qconds", "ctable", "qtable", "qcond", "place", "earlier"] (spW (fEvery K)) := by
  refine FD.ofW d sc_every_way (fun _ _ _ _ _ _ us hl => match us, hl with | [_, _, _, _, _, _], _ => rfl) (fun vs H Φ h => by obtain ⟨a, b, c, d', ct, qt, qc, e, n, cs, o, rfl, _⟩ := h; rfl) fun f cdv A outer s H E hr => ⟨_, (pss_cons (ps_setLc (i := 6) (own := [("cond", 7)]) rfl sc_every_way.nd rfl rfl (sw_true rfl rfl rfl (by decide +kernel)) (pi_range1 rfl T.range (AX1.pa (ax_cons (pv 0) star_name ax_nil))) (blkOk_by (N := ["qconds", "ctable", "qtable", "qcond", "place", "earlier", "ways", "cond"]) (sc := defScope s_every_way) (by decide +kernel)) (fun _ _ _ _ _ => (pg_name (i := 7) sc_every_way.nd rfl (Or.inl rfl))) (fun _ _ _ _ _ => pts_one (pt_val (pe_fn d_lookup_right (hr.mono (by decide)) rfl (ax_cons (pv 0) star_name (AX1.ax (ax_cons (pv 1) star_name (AX1.ax (ax_cons (pv 2) star_name (AX1.ax (ax_cons (pv 3) star_name (AX1.ax (ax_cons (pv 7) star_name (AX1.ax (ax_cons (pv 4) star_name (AX1.ax (ax_cons (pv 5) star_name ax_nil)))))))))))))))) (fun _ _ _ _ _ => (pv 7)))
      (pss_cons (ps_expr (pe_bm PySem.F.plainAttrs_list PySem.F.slot_list_append PySem.F.type_list_append mt_append (pv 6) (AX1.pa (ax_cons (pe_ci T.c_SCANNED rfl) star_name ax_nil))))
      (pss_one (ps_ret (pv 6))))), ?_⟩
  rintro vs Φ ⟨a, b, c, d', ct, qt, qc, e, n, cs, o, rfl, L, hS, h0, h1, rfl⟩ D hD
  have c0 := L.R.c0
  have c12 := L.R.c12
  refine seq_lc (j := cs) rfl (by show 7 < 8; decide) (ev_cons (ev_var rfl) ev_nil) (by omega) (by omega) (len_line (by omega)) (fun (i : Nat) => Pm.lookOk cs ct qt qc (i : Int) o e) ?_ ?_
  · intro i H1 hi l
    exact ev_tB (ev_call (ev_cons (ev_var rfl) (ev_cons (ev_var rfl) (ev_cons (ev_var rfl) (ev_cons (ev_var rfl) (ev_cons (ev_var rfl) (ev_cons (ev_var rfl) (ev_cons (ev_var rfl) ev_nil))))))) ⟨a, b, c, d', ct, qt, qc, e, n, cs, (i : Int), o, rfl, L.le l, sq_le l hS, h0, h1, rfl⟩)
  · intro p H1 hp l hl
    refine app_seq (ev_var rfl) hl (len_line ?_) (ev_c.g.w) fun y H2 l2 z => ?_
    · rw [List.length_map, List.length_map]
      have := List.length_filter_le (fun (i : Nat) => Pm.lookOk cs ct qt qc (i : Int) o e) (List.range cs.toNat)
      rw [List.length_range] at this
      omega
    · subst z
      refine ret_ev (ev_var rfl) (hD _ _ ((l.trans l2).updN hp) ⟨p, rfl, ?_⟩)
      rw [upd_same]
      unfold Pm.waysM
      rw [List.map_append]
      rfl
theorem more_succ (j : Nat) (o : List Int) : Pm.moreM (j + 1) o = Pm.moreM j o ++ (if o.contains (j : Int) = true then [] else [o ++ [(j : Int)]]) := by
  unfold Pm.moreM
  rw [List.range_succ, List.filter_append, List.map_append]
  congr 1
  rw [List.filter_cons]
  cases o.contains (j : Int) <;> rfl
theorem more_len (j : Nat) (o : List Int) : (Pm.moreM j o).length ≤ j := by
  unfold Pm.moreM
  rw [List.length_map]
  have := List.length_filter_le (fun (p : Nat) => !o.contains (p : Int)) (List.range j)
  rw [List.length_range] at this
  exact this
theorem flat_len (n : Nat) : ∀ os : List (List Int), (os.flatMap (Pm.moreM n)).length ≤ n * os.length
  | [] => Nat.zero_le _
  | o :: os => by
    have ih := flat_len n os
    have := more_len n o
    rw [List.flatMap_cons, List.length_append, List.length_cons, Nat.mul_succ]
    omega
theorem refs_get {ps : List (Addr × List Int)} {i : Nat} {x : V} (h : (refs ps)[i]? = some x) : ∃ y, ps[i]? = some y ∧ x = .ref y.1 := by
  unfold refs at h
  rw [List.getElem?_map] at h
  cases e : ps[i]? with
  | none =>
    rw [e] at h
    cases h
  | some y =>
    rw [e] at h
    exact ⟨y, rfl, (Option.some.inj h).symm⟩
theorem ok_longer_orders (T : Txt mg) (d : DefAt K mg "longer_orders" s_longer_orders) : FD P w K mg base "longer_orders" 1 ["qtables", "orders"] (spW fLonger) := by
  refine FD.ofW d sc_longer_orders (fun _ _ _ _ _ _ us hl => match us, hl with | [_, _], _ => rfl) (fun vs H Φ h => by obtain ⟨v, os, n, rfl, _⟩ := h; rfl) fun f cdv A outer s H E hr => ⟨_, (pss_cons (ps_set (i := 2) sc_longer_orders.nd rfl (Or.inl rfl) (pe_lst pa_nil))
      (pss_cons (ps_for PassesOwn.never rfl (pi_list (pv 1)) (pg_name (i := 3) sc_longer_orders.nd rfl (Or.inl rfl)) (pss_one (ps_for PassesOwn.never rfl (pi_range1 rfl T.range (AX1.pa (ax_cons (pv 0) star_name ax_nil))) (pg_name (i := 4) sc_longer_orders.nd rfl (Or.inl rfl)) (pss_one (ps_if (pt_cmpR op_notIn_seq (pv 4) (pv 3) (by with_unfolding_all rfl)) (pss_one (ps_expr (pe_bm PySem.F.plainAttrs_list PySem.F.slot_list_append PySem.F.type_list_append mt_append (pv 2) (AX1.pa (ax_cons (pe_op op_cat (pv 3) (pe_lst (AX1.pa (ax_cons (pv 4) star_name ax_nil)))) star_bin ax_nil))))) pss_nil)))))
      (pss_one (ps_ret (pv 2))))), ?_⟩
  rintro vs Φ ⟨v, os, n, rfl, ⟨p, ps, rfl, hp, hps, hA⟩, h0, h5, hlen, hol, rfl⟩ D hD
  refine seq_lst ev_nil (by show 0 ≤ sizeLine; decide) fun m hm => ?_
  have pl : ps.length = os.length := by rw [← hps, List.length_map]
  refine list_raw (xs := refs ps) (ev_var rfl) (fun i σ' H' => Le H H' ∧ ∃ qs, H' m = some (.lst (refs qs)) ∧ qs.map Prod.snd = (os.take i).flatMap (Pm.moreM n.toNat) ∧ At H' qs ∧ (∀ x, x ∈ qs → x.1 ≠ m) ∧ ∃ x y, σ' = [some (.int n), some (.ref p), some (.ref m), x, y])
    ⟨Le.upd hm, [], upd_same, rfl, fun _ hx => (nomatch hx), fun _ hx => (nomatch hx), _, _, rfl⟩ (fun i σ1 H1 _ q => SqL.of (q.1 _ _ hp)) ?_ ?_
  · rintro i x σ1 H1 D1 hx ⟨l, qs, hq, hqs, hA1, hne, x', y', rfl⟩ hN
    obtain ⟨y, hy, rfl⟩ := refs_get hx
    have ho : os[i]? = some y.2 := by rw [← hps, List.getElem?_map, hy]; rfl
    have hym := List.mem_of_getElem? hy
    have hi : i < ps.length := (List.getElem?_eq_some_iff.mp hy).1
    have hyl := hol y.2 (List.mem_of_getElem? ho)
    refine range_last (j := n) (ev_cons (ev_var rfl) ev_nil) (by omega) (by omega) (fun j σ' H' => Le H H' ∧ ∃ qs, H' m = some (.lst (refs qs)) ∧ qs.map Prod.snd = (os.take i).flatMap (Pm.moreM n.toNat) ++ Pm.moreM j y.2 ∧ At H' qs ∧ (∀ x, x ∈ qs → x.1 ≠ m) ∧ ∃ z, σ' = [some (.int n), some (.ref p), some (.ref m), some (.ref y.1), z])
      ⟨l, qs, hq, by rw [hqs]; exact (List.append_nil _).symm, hA1, hne, _, rfl⟩ ?_ ?_
    · rintro j σ2 H2 D2 hj ⟨l2, rs, hr2, hrs, hA2, hne2, z, rfl⟩ hN2
      have hy2 := l2 _ _ (hA y hym)
      refine if_raw (ev_test (ev_notin (K := K) (ns := y.2) (x := (j : Int)) (ev_var rfl) (ev_var rfl) (SqL.of hy2))) (fun c => ?_) (fun c => ?_)
      · have c : y.2.contains (j : Int) = false := by simpa using c
        have rl : rs.length ≤ 605 := by
          have e1 := congrArg List.length hrs
          rw [List.length_map, List.length_append] at e1
          have e2 := flat_len n.toNat (os.take i)
          have e3 := more_len j y.2
          rw [List.length_take] at e2
          have e4 : n.toNat * min i os.length ≤ 5 * 120 := Nat.mul_le_mul (by omega) (by omega)
          omega
        refine app_raw (ev_var rfl) hr2 (len_line (by unfold refs; rw [List.length_map]; omega)) (w_cat (xs := y.2) (ys := [(j : Int)]) (w_ev (ev_var rfl) ⟨_, rfl, hy2⟩) (fun H3 l3 => w_lst (ev_cons (ev_var rfl) ev_nil) (by show 1 ≤ sizeLine; decide) fun p' H' _ _ h => ⟨p', rfl, h⟩) (by
          have := len_line (m := y.2.length + 1) (by omega)
          show y.2.length + 1 ≤ sizeLine
          omega)) fun v H3 l3 z => ?_
        obtain ⟨q, rfl, hq3⟩ := z
        have hqm : q ≠ m := by
          rintro rfl
          have := l3 _ _ hr2
          rw [hq3] at this
          have e := HO.lst.inj (Option.some.inj this)
          have mm : V.int (j : Int) ∈ refs rs := by
            rw [← e, List.map_append]
            exact List.mem_append_right _ List.mem_cons_self
          obtain ⟨w', _, hw'⟩ := List.mem_map.mp mm
          cases hw'
        refine hN2 _ _ ⟨(l2.trans l3).updN hm, rs ++ [(q, y.2 ++ [(j : Int)])], ?_, ?_, ?_, ?_, _, rfl⟩
        · rw [upd_same]
          unfold refs
          rw [List.map_append]
          rfl
        · rw [List.map_append, hrs, more_succ, c, List.append_assoc]
          rfl
        · intro x hx
          rcases List.mem_append.mp hx with hx | hx
          · rw [upd_ne (hne2 x hx)]
            exact l3 _ _ (hA2 x hx)
          · have e := List.mem_singleton.mp hx
            subst e
            rw [upd_ne hqm]
            exact hq3
        · intro x hx
          rcases List.mem_append.mp hx with hx | hx
          · exact hne2 x hx
          · have e := List.mem_singleton.mp hx
            subst e
            exact hqm
      · have c : y.2.contains (j : Int) = true := by simpa using c
        refine hN2 _ _ ⟨l2, rs, hr2, ?_, hA2, hne2, _, rfl⟩
        rw [hrs, more_succ, if_pos c, List.append_nil]
    · rintro σ2 H2 ⟨l2, rs, hr2, hrs, hA2, hne2, z, rfl⟩
      refine hN _ _ ⟨l2, rs, hr2, ?_, hA2, hne2, _, _, rfl⟩
      rw [hrs, List.take_add_one, ho, List.flatMap_append]
      congr 1
      exact (List.append_nil _).symm
  · rintro σ1 H1 ⟨l, qs, hq, hqs, hA1, hne, x', y', rfl⟩
    refine ret_ev (ev_var rfl) (hD _ _ l ⟨m, qs, rfl, hq, ?_, hA1⟩)
    rw [hqs]
    unfold Pm.longerM refs
    rw [List.length_map, pl, List.take_length]
theorem every_ln (n : Nat) : ∀ (k : Nat) (o : List Int), o ∈ Pm.everyM n k → o.length = k
  | 0, o, h => by
    have h : o ∈ [([] : List Int)] := h
    rw [List.mem_singleton.mp h]
    rfl
  | k + 1, o, h => by
    have h : o ∈ Pm.longerM n (Pm.everyM n k) := h
    obtain ⟨x, hx, hm⟩ := List.mem_flatMap.mp h
    obtain ⟨p, _, rfl⟩ := List.mem_map.mp hm
    rw [List.length_append, every_ln n k x hx]
    rfl
theorem ok_every_order (T : Txt mg) (d : DefAt K mg "every_order" s_every_order) (d_longer_orders : FD P w K mg base "longer_orders" 1 ["qtables", "orders"] (spW fLonger)) : FD P w K mg base "every_order" 2 ["qtables"] (spW fOrders) := by
  refine FD.ofW d sc_every_order (fun _ _ _ _ _ _ us hl => match us, hl with | [_], _ => rfl) (fun vs H Φ h => by obtain ⟨n, rfl, _⟩ := h; rfl) fun f cdv A outer s H E hr => ⟨_, (pss_cons (ps_set (i := 1) sc_every_order.nd rfl (Or.inl rfl) (pe_lst (AX1.pa (ax_cons (pe_lst pa_nil) star_lst ax_nil))))
      (pss_cons (ps_for PassesOwn.never rfl (pi_range1 rfl T.range (AX1.pa (ax_cons (pv 0) star_name ax_nil))) (pg_name (i := 2) sc_every_order.nd rfl (Or.inl rfl)) (pss_one (ps_set (i := 1) sc_every_order.nd rfl (Or.inl rfl) (pe_fn d_longer_orders (hr.mono (by decide)) rfl (ax_cons (pv 0) star_name (AX1.ax (ax_cons (pv 1) star_name ax_nil)))))))
      (pss_one (ps_ret (pv 1))))), ?_⟩
  rintro vs Φ ⟨n, rfl, h0, h5, rfl⟩ D hD
  refine seq_ll fun v H0 l0 z => ?_
  refine range_raw (j := n) (ev_cons (ev_var rfl) ev_nil) (by omega) (by omega) (fun i σ' H' => Le H H' ∧ ∃ v x, IsLL (Pm.everyM n.toNat i) v H' ∧ σ' = [some (.int n), some v, x]) ⟨l0, v, _, z, rfl⟩ ?_ ?_
  · rintro i σ1 H1 D1 hi ⟨l, v1, x, hv, rfl⟩ hN _ _ _
    refine set_rawW (w_call (ev_cons (ev_var rfl) (ev_cons (ev_var rfl) ev_nil)) ⟨v1, Pm.everyM n.toNat i, n, rfl, hv, h0, h5, Pm.every_len n.toNat (by omega) i (by omega), fun o ho => by have := every_ln n.toNat i o ho; omega, rfl⟩) fun v2 H2 l2 z2 => ?_
    exact hN _ _ ⟨l.trans l2, v2, _, z2, rfl⟩
  · rintro σ1 H1 ⟨l, v1, x, hv, rfl⟩
    exact ret_ev (ev_var rfl) (hD _ _ l hv)
theorem ok_best_way (T : Txt mg) (d : DefAt K mg "best_way" s_best_way) (d_every_way : FD P w K mg base "every_way" 5 ["qconds", "ctable", "qtable", "qcond", "place", "earlier"] (spW (fEvery K))) (d_step_pages : FD P w K mg base "step_pages" 3 ["ctable", "qtable", "qcond", "place", "earlier", "way"] (spP (fPages K))) : FD P w K mg base "best_way" 6 ["qconds", "ctable", "qtable", "qcond", "place", "earlier", "coming"] (spG (fWay K)) := by
  refine FD.ofG d sc_best_way (fun _ _ _ _ _ _ us hl => match us, hl with | [_, _, _, _, _, _, _], _ => rfl) (fun vs H v h => by obtain ⟨a, b, c, d', ct, qt, qc, e, n, cs, o, m, rfl, _⟩ := h; rfl) fun f cdv A outer s H E hr => ⟨_, (pss_cons (ps_set (i := 7) sc_best_way.nd rfl (Or.inl rfl) (pe_fn d_every_way (hr.mono (by decide)) rfl (ax_cons (pv 0) star_name (AX1.ax (ax_cons (pv 1) star_name (AX1.ax (ax_cons (pv 2) star_name (AX1.ax (ax_cons (pv 3) star_name (AX1.ax (ax_cons (pv 4) star_name (AX1.ax (ax_cons (pv 5) star_name ax_nil)))))))))))))
      (pss_cons (ps_set (i := 8) sc_best_way.nd rfl (Or.inl rfl) (pe_ix ix_list (pv 7) pe_int (fun _ _ => rfl)))
      (pss_cons (ps_set (i := 9) sc_best_way.nd rfl (Or.inl rfl) (pe_op op_mul (pv 6) (pe_fn d_step_pages (hr.mono (by decide)) rfl (ax_cons (pv 1) star_name (AX1.ax (ax_cons (pv 2) star_name (AX1.ax (ax_cons (pv 3) star_name (AX1.ax (ax_cons (pv 4) star_name (AX1.ax (ax_cons (pv 5) star_name (AX1.ax (ax_cons (pv 8) star_name ax_nil))))))))))))))
      (pss_cons (ps_for PassesOwn.never rfl (pi_list (pe_slice sl_list (pv 7) (po_some pe_int) po_none)) (pg_name (i := 10) sc_best_way.nd rfl (Or.inl rfl)) (pss_cons (ps_set (i := 11) sc_best_way.nd rfl (Or.inl rfl) (pe_op op_mul (pv 6) (pe_fn d_step_pages (hr.mono (by decide)) rfl (ax_cons (pv 1) star_name (AX1.ax (ax_cons (pv 2) star_name (AX1.ax (ax_cons (pv 3) star_name (AX1.ax (ax_cons (pv 4) star_name (AX1.ax (ax_cons (pv 5) star_name (AX1.ax (ax_cons (pv 10) star_name ax_nil))))))))))))))
      (pss_one (ps_if (pt_cmpR op_lt (pv 11) (pv 9) (nomark _)) (pss_cons (ps_set (i := 8) sc_best_way.nd rfl (Or.inl rfl) (pv 10))
      (pss_one (ps_set (i := 9) sc_best_way.nd rfl (Or.inl rfl) (pv 11)))) pss_nil))))
      (pss_one (ps_ret (pv 8))))))), ?_⟩
  rintro vs v ⟨a, b, c, d', ct, qt, qc, e, n, cs, o, m, rfl, L, hS, h0, h1, rfl⟩ D hD
  refine seq_setW (w_call (ev_cons (ev_var rfl) (ev_cons (ev_var rfl) (ev_cons (ev_var rfl) (ev_cons (ev_var rfl) (ev_cons (ev_var rfl) (ev_cons (ev_var rfl) ev_nil)))))) ⟨a, b, c, d', ct, qt, qc, e, n, cs, o, rfl, L, hS, h0, h1, rfl⟩) fun v H1 l1 z => ?_
  obtain ⟨p, rfl, hp⟩ := z
  have hw := Pm.head_tail 255 (Pm.ways_ne cs ct qt qc o e)
  have hok := fun (w : Int) (h : w ∈ Pm.waysM cs ct qt qc o e) => Pm.ways_ok h
  have hD' : ∀ H', Le H H' → D.rt (.int (Pm.flI (fun w => m * Pm.pagesM ct qt qc o e w) ((Pm.waysM cs ct qt qc o e).headD 255) (Pm.waysM cs ct qt qc o e).tail)) H' := hD
  generalize (Pm.waysM cs ct qt qc o e).headD 255 = w0 at hw hD'
  generalize (Pm.waysM cs ct qt qc o e).tail = ws at hw hD'
  rw [hw] at hp hok
  have bd : ∀ (w : Int), w ∈ w0 :: ws → 0 ≤ Pm.pagesM ct qt qc o e w ∧ Pm.pagesM ct qt qc o e w ≤ 5000 := fun w hm => Pm.pages_le (e := e) L.R h0 h1 (hok w hm)
  have pg : ∀ (w : Int) {H2 : Hp} {σ : St} {t : TA}, w ∈ w0 :: ws → Le H H2 → EvA t σ H2 [.ref a, .ref b, .ref c, .int o, .ref d', .int w] → Ev (tCall (spP (fPages K)) [] E0 t) σ H2 (.int (Pm.pagesM ct qt qc o e w)) := fun w H2 σ t hm l ha =>
    ev_call ha ⟨a, b, c, d', ct, qt, qc, e, n, cs, w, o, rfl, L.le l, sq_le l hS, h0, h1, hok w hm, rfl⟩
  refine seq_set (v := .int w0) (ev_ix (ns := w0 :: ws) (z := 0) (ev_var rfl) ev_c (SqL.of hp) (by omega) (by rw [List.length_cons]; omega)) ?_
  have b0 := bd w0 List.mem_cons_self
  refine seq_set (v := .int (m * Pm.pagesM ct qt qc o e w0)) (ev_i (ev_var rfl) (pg w0 List.mem_cons_self l1 (ev_cons (ev_var rfl) (ev_cons (ev_var rfl) (ev_cons (ev_var rfl) (ev_cons (ev_var rfl) (ev_cons (ev_var rfl) (ev_cons (ev_var rfl) ev_nil))))))) (.inr ⟨by omega, by omega⟩)) ?_
  refine list1_raw (xs := (w0 :: ws).map V.int) (ev_var rfl) (SqL.of hp) (by rw [List.length_map, List.length_cons]; omega) (fun i σ' => ∃ x y, σ' = [some (.int cs), some (.ref a), some (.ref b), some (.ref c), some (.int o), some (.ref d'), some (.int m), some (.ref p), some (.int (Pm.flI (fun w => m * Pm.pagesM ct qt qc o e w) w0 (ws.take i))), some (.int (m * Pm.pagesM ct qt qc o e (Pm.flI (fun w => m * Pm.pagesM ct qt qc o e w) w0 (ws.take i)))), x, y]) ⟨_, _, rfl⟩ ?_ ?_
  · rintro i x σ1 H2 D1 hx l ⟨x', y', rfl⟩ hN
    obtain ⟨u, hu, rfl⟩ : ∃ u, ws[i]? = some u ∧ x = V.int u := by
      rw [List.map_cons, List.tail_cons, List.getElem?_map] at hx
      cases e : ws[i]? with
      | none =>
        rw [e] at hx
        cases hx
      | some u =>
        rw [e] at hx
        exact ⟨u, rfl, (Option.some.inj hx).symm⟩
    have tk : ws.take (i + 1) = ws.take i ++ [u] := by
      rw [List.take_add_one, hu]
      rfl
    have b1 := bd u (List.mem_cons_of_mem _ (List.mem_of_getElem? hu))
    refine seq_set (v := .int (m * Pm.pagesM ct qt qc o e u)) (ev_i (ev_var rfl) (pg u (List.mem_cons_of_mem _ (List.mem_of_getElem? hu)) (l1.trans l) (ev_cons (ev_var rfl) (ev_cons (ev_var rfl) (ev_cons (ev_var rfl) (ev_cons (ev_var rfl) (ev_cons (ev_var rfl) (ev_cons (ev_var rfl) ev_nil))))))) (.inr ⟨by omega, by omega⟩)) ?_
    refine if_raw (ev_test (ev_i0 (ev_var rfl) (ev_var rfl))) (fun k => ?_) (fun k => ?_)
    · have k := of_decide_eq_true k
      refine seq_set (v := .int u) (ev_var rfl) (set_raw (v := .int (m * Pm.pagesM ct qt qc o e u)) (ev_var rfl) (hN _ _ Le.refl ⟨some (.int u), some (.int (m * Pm.pagesM ct qt qc o e u)), ?_⟩))
      rw [tk, Pm.flI_snoc, if_pos k]
      rfl
    · have k := of_decide_eq_false k
      refine hN _ _ Le.refl ⟨some (.int u), some (.int (m * Pm.pagesM ct qt qc o e u)), ?_⟩
      rw [tk, Pm.flI_snoc, if_neg k]
      rfl
  · rintro σ1 H2 l ⟨x', y', rfl⟩
    have e1 : ws.take ((w0 :: ws).map V.int).tail.length = ws := by
      rw [List.map_cons, List.tail_cons, List.length_map, List.take_length]
    rw [e1]
    exact ret_ev (ev_var rfl) (hD' H2 (l1.trans l))
theorem ok_best_by (T : Txt mg) (d : DefAt K mg "best_by" s_best_by) (d_rows_coming : FD P w K mg base "rows_coming" 4 ["qtables", "qconds", "ctable", "qtable", "qcond", "order"] (spW (fComing K))) (d_best_way : FD P w K mg base "best_way" 6 ["qconds", "ctable", "qtable", "qcond", "place", "earlier", "coming"] (spG (fWay K))) : FD P w K mg base "best_by" 7 ["qtables", "qconds", "ctable", "qtable", "qcond", "order"] (spW (fBestBy K)) := by
  refine FD.ofW d sc_best_by (fun _ _ _ _ _ _ us hl => match us, hl with | [_, _, _, _, _, _], _ => rfl) (fun vs H Φ h => by obtain ⟨a, b, c, d', ct, qt, qc, od, n, cs, rfl, _⟩ := h; rfl) fun f cdv A outer s H E hr => ⟨_, (pss_cons (ps_set (i := 6) sc_best_by.nd rfl (Or.inl rfl) (pe_fn d_rows_coming (hr.mono (by decide)) rfl (ax_cons (pv 0) star_name (AX1.ax (ax_cons (pv 1) star_name (AX1.ax (ax_cons (pv 2) star_name (AX1.ax (ax_cons (pv 3) star_name (AX1.ax (ax_cons (pv 4) star_name (AX1.ax (ax_cons (pv 5) star_name ax_nil)))))))))))))
      (pss_cons (ps_set (i := 7) sc_best_by.nd rfl (Or.inl rfl) (pe_lst pa_nil))
      (pss_cons (ps_for PassesOwn.never rfl (pi_range1 rfl T.range (AX1.pa (ax_cons (pv 0) star_name ax_nil))) (pg_name (i := 8) sc_best_by.nd rfl (Or.inl rfl)) (pss_one (ps_expr (pe_bm PySem.F.plainAttrs_list PySem.F.slot_list_append PySem.F.type_list_append mt_append (pv 7) (AX1.pa (ax_cons (pe_fn d_best_way (hr.mono (by decide)) rfl (ax_cons (pv 1) star_name (AX1.ax (ax_cons (pv 2) star_name (AX1.ax (ax_cons (pv 3) star_name (AX1.ax (ax_cons (pv 4) star_name (AX1.ax (ax_cons (pe_ix ix_list (pv 5) (pv 8) (fun _ _ => rfl)) star_sub (AX1.ax (ax_cons (pe_slice sl_list (pv 5) po_none (po_some (pv 8))) star_sub (AX1.ax (ax_cons (pe_ix ix_list (pv 6) (pv 8) (fun _ _ => rfl)) star_sub ax_nil)))))))))))))) star_call ax_nil))))))
      (pss_one (ps_ret (pv 7)))))), ?_⟩
  rintro vs Φ ⟨a, b, c, d', ct, qt, qc, od, n, cs, rfl, L, hS, hl, hO, rfl⟩ D hD
  have n5 := L.R.n5
  have n1 := L.R.n1
  refine seq_setW (w_call (ev_cons (ev_var rfl) (ev_cons (ev_var rfl) (ev_cons (ev_var rfl) (ev_cons (ev_var rfl) (ev_cons (ev_var rfl) (ev_cons (ev_var rfl) ev_nil)))))) ⟨a, b, c, d', ct, qt, qc, od, n, cs, rfl, L, hS, hl, hO, rfl⟩) fun v H0 l0 z => ?_
  obtain ⟨m, rfl, hm⟩ := z
  refine seq_lst ev_nil (by show 0 ≤ sizeLine; decide) fun p hp => ?_
  refine range_raw (j := n) (ev_cons (ev_var rfl) ev_nil) (by omega) (by omega) (fun i σ' H' => Le H0 H' ∧ H' p = some (.lst ((Pm.bestByM cs ct qt qc od i).map V.int)) ∧ ∃ x, σ' = [some (.int n), some (.int cs), some (.ref a), some (.ref b), some (.ref c), some (.ref d'), some (.ref m), some (.ref p), x]) ⟨Le.upd hp, upd_same, _, rfl⟩ ?_ ?_
  · rintro i σ1 H1 D1 hi ⟨l, hp1, x, rfl⟩ hN _ _ _
    have hS1 := sq_le (l0.trans l) hS
    have p1 := step_in hO hi
    refine app_raw (ev_var rfl) hp1 (len_line (by unfold Pm.bestByM; rw [List.length_map, List.length_map, List.length_range]; omega)) (EvG.w (v := .int (Pm.byAt cs ct qt qc od i)) (g_callG (al_cons (ev_var rfl) (al_cons (ev_var rfl) (al_cons (ev_var rfl) (al_cons (ev_var rfl) (al_cons (ev_ix (ns := od) (z := (i : Int)) (ev_var rfl) (ev_var rfl) hS1 (by omega) (by omega)) (al_slc (ns := od) (i := (i : Int)) (ev_var rfl) hS1 (ev_var rfl) (by omega) (by omega) fun H2 l2 => ev_cons (ev_to (ev_ix (ns := (List.range n.toNat).map (Pm.comeM cs ct qt qc od)) (z := (i : Int)) (ev_var rfl) (ev_var rfl) (SqL.of (l2 _ _ (l _ _ hm))) (by omega) (by rw [List.length_map, List.length_range]; omega)) (congrArg V.int (g_rng hi))) ev_nil)))))) ?_)) fun y H2 l2 z => ?_
    · rintro vs H2 ⟨_, rfl, _, rfl, _, rfl, _, rfl, _, rfl, q, rfl, l2, hq⟩
      exact ⟨⟨a, b, c, q, ct, qt, qc, od.take i, n, cs, Pm.g od i, Pm.comeM cs ct qt qc od i, rfl, L.le ((l0.trans l).trans l2), hq, p1.1, p1.2, rfl⟩, l2⟩
    · subst z
      refine hN _ _ ⟨(l.trans l2).updN hp, ?_, _, rfl⟩
      rw [upd_same]
      unfold Pm.bestByM
      rw [List.range_succ, List.map_append, List.map_append]
      rfl
  · rintro σ1 H1 ⟨l, hp1, x, rfl⟩
    exact ret_ev (ev_var rfl) (hD _ _ (l0.trans l) ⟨p, rfl, hp1⟩)
theorem by_len (cs : Int) (ct qt qc od : List Int) (k : Nat) : (Pm.bestByM cs ct qt qc od k).length = k := by
  unfold Pm.bestByM
  rw [List.length_map, List.length_range]
theorem plan_by {n cs : Int} {ct qt qc od : List Int} (hO : Pm.orderOk n od = true) : Pm.planOk n cs ct qt qc od (Pm.bestByM cs ct qt qc od n.toNat) = true := by
  unfold Pm.planOk
  rw [hO, Pm.by_ok]
  rfl
theorem ok_least_cost (T : Txt mg) (d : DefAt K mg "least_cost" s_least_cost) (d_best_by : FD P w K mg base "best_by" 7 ["qtables", "qconds", "ctable", "qtable", "qcond", "order"] (spW (fBestBy K))) (d_plan_cost : FD P w K mg base "plan_cost" 5 ["qtables", "qconds", "ctable", "qtable", "qcond", "order", "by"] (spG (fCost K))) : FD P w K mg base "least_cost" 8 ["qtables", "qconds", "ctable", "qtable", "qcond", "order"] (spG (fLeast K)) := by
  refine FD.ofG d sc_least_cost (fun _ _ _ _ _ _ us hl => match us, hl with | [_, _, _, _, _, _], _ => rfl) (fun vs H v h => by obtain ⟨a, b, c, d', ct, qt, qc, od, n, cs, rfl, _⟩ := h; rfl) fun f cdv A outer s H E hr => ⟨_, (pss_cons (ps_set (i := 6) sc_least_cost.nd rfl (Or.inl rfl) (pe_fn d_best_by (hr.mono (by decide)) rfl (ax_cons (pv 0) star_name (AX1.ax (ax_cons (pv 1) star_name (AX1.ax (ax_cons (pv 2) star_name (AX1.ax (ax_cons (pv 3) star_name (AX1.ax (ax_cons (pv 4) star_name (AX1.ax (ax_cons (pv 5) star_name ax_nil)))))))))))))
      (pss_one (ps_ret (pe_fn d_plan_cost (hr.mono (by decide)) rfl (ax_cons (pv 0) star_name (AX1.ax (ax_cons (pv 1) star_name (AX1.ax (ax_cons (pv 2) star_name (AX1.ax (ax_cons (pv 3) star_name (AX1.ax (ax_cons (pv 4) star_name (AX1.ax (ax_cons (pv 5) star_name (AX1.ax (ax_cons (pv 6) star_name ax_nil))))))))))))))))), ?_⟩
  rintro vs v ⟨a, b, c, d', ct, qt, qc, od, n, cs, rfl, L, hS, hl, hO, rfl⟩ D hD
  refine seq_setW (w_call (ev_cons (ev_var rfl) (ev_cons (ev_var rfl) (ev_cons (ev_var rfl) (ev_cons (ev_var rfl) (ev_cons (ev_var rfl) (ev_cons (ev_var rfl) ev_nil)))))) ⟨a, b, c, d', ct, qt, qc, od, n, cs, rfl, L, hS, hl, hO, rfl⟩) fun v H0 l0 z => ?_
  obtain ⟨m, rfl, hm⟩ := z
  exact call_raw (ev_cons (ev_var rfl) (ev_cons (ev_var rfl) (ev_cons (ev_var rfl) (ev_cons (ev_var rfl) (ev_cons (ev_var rfl) (ev_cons (ev_var rfl) (ev_cons (ev_var rfl) ev_nil))))))) ⟨a, b, c, d', m, ct, qt, qc, od, Pm.bestByM cs ct qt qc od n.toNat, n, cs, rfl, L.le l0, sq_le l0 hS, hl, SqL.of hm, by rw [by_len]; exact Nat.le_refl _, plan_by hO, rfl⟩ fun H2 l2 => hD H2 (l0.trans l2)
theorem flI_snd (f : List Int → Int) : ∀ (ps : List (Addr × List Int)) (x : Addr × List Int), (Pm.flI (fun y => f y.2) x ps).2 = Pm.flI f x.2 (ps.map Prod.snd)
  | [], x => rfl
  | y :: ps, x => by
    show (Pm.flI (fun y => f y.2) (if f y.2 < f x.2 then y else x) ps).2 = Pm.flI f (if f y.2 < f x.2 then y.2 else x.2) (ps.map Prod.snd)
    rw [flI_snd f ps]
    split <;> rfl
theorem ok_best_order (T : Txt mg) (d : DefAt K mg "best_order" s_best_order) (d_every_order : FD P w K mg base "every_order" 2 ["qtables"] (spW fOrders)) (d_least_cost : FD P w K mg base "least_cost" 8 ["qtables", "qconds", "ctable", "qtable", "qcond", "order"] (spG (fLeast K))) : FD P w K mg base "best_order" 9 ["qtables", "qconds", "ctable", "qtable", "qcond"] (spW (fBestOrder K)) := by
  refine FD.ofW d sc_best_order (fun _ _ _ _ _ _ us hl => match us, hl with | [_, _, _, _, _], _ => rfl) (fun vs H Φ h => by obtain ⟨a, b, c, ct, qt, qc, n, cs, rfl, _⟩ := h; rfl) fun f cdv A outer s H E hr => ⟨_, (pss_cons (ps_set (i := 5) sc_best_order.nd rfl (Or.inl rfl) (pe_fn d_every_order (hr.mono (by decide)) rfl (ax_cons (pv 0) star_name ax_nil)))
      (pss_cons (ps_set (i := 6) sc_best_order.nd rfl (Or.inl rfl) (pe_ix ix_list (pv 5) pe_int (fun _ _ => rfl)))
      (pss_cons (ps_set (i := 7) sc_best_order.nd rfl (Or.inl rfl) (pe_fn d_least_cost (hr.mono (by decide)) rfl (ax_cons (pv 0) star_name (AX1.ax (ax_cons (pv 1) star_name (AX1.ax (ax_cons (pv 2) star_name (AX1.ax (ax_cons (pv 3) star_name (AX1.ax (ax_cons (pv 4) star_name (AX1.ax (ax_cons (pv 6) star_name ax_nil)))))))))))))
      (pss_cons (ps_for PassesOwn.never rfl (pi_list (pe_slice sl_list (pv 5) (po_some pe_int) po_none)) (pg_name (i := 8) sc_best_order.nd rfl (Or.inl rfl)) (pss_cons (ps_set (i := 9) sc_best_order.nd rfl (Or.inl rfl) (pe_fn d_least_cost (hr.mono (by decide)) rfl (ax_cons (pv 0) star_name (AX1.ax (ax_cons (pv 1) star_name (AX1.ax (ax_cons (pv 2) star_name (AX1.ax (ax_cons (pv 3) star_name (AX1.ax (ax_cons (pv 4) star_name (AX1.ax (ax_cons (pv 8) star_name ax_nil)))))))))))))
      (pss_one (ps_if (pt_cmpR op_lt (pv 9) (pv 7) (nomark _)) (pss_cons (ps_set (i := 6) sc_best_order.nd rfl (Or.inl rfl) (pv 8))
      (pss_one (ps_set (i := 7) sc_best_order.nd rfl (Or.inl rfl) (pv 9)))) pss_nil))))
      (pss_one (ps_ret (pv 6))))))), ?_⟩
  rintro vs Φ ⟨a, b, c, ct, qt, qc, n, cs, rfl, L, rfl⟩ D hD
  have n5 := L.R.n5
  have n1 := L.R.n1
  refine seq_setW (w_call (ev_cons (ev_var rfl) ev_nil) ⟨n, rfl, by omega, n5, rfl⟩) fun v H1 l1 z => ?_
  obtain ⟨p, ps, rfl, hp, hps, hA⟩ := z
  obtain ⟨_, hne, hok⟩ := Pm.every_ok L.R
  have hD' : ∀ v H', Le H H' → IsL (Pm.flI (Pm.leastCostM n cs ct qt qc) ((Pm.everyM n.toNat n.toNat).headD []) (Pm.everyM n.toNat n.toNat).tail) v H' → D.rt v H' := hD
  rw [← hps] at hne hok hD'
  cases ps with
  | nil => exact absurd rfl hne
  | cons x0 xs =>
    have hD2 : ∀ v H', Le H H' → IsL (Pm.flI (Pm.leastCostM n cs ct qt qc) x0.2 (xs.map Prod.snd)) v H' → D.rt v H' := hD'
    have lc : ∀ (x : Addr × List Int) (H2 : Hp) (σ : St) (t : TA), x ∈ x0 :: xs → Le H1 H2 → EvA t σ H2 [.int n, .int cs, .ref a, .ref b, .ref c, .ref x.1] → EvG (tCall (spG (fLeast K)) [] E0 t) σ H2 (.int (Pm.leastCostM n cs ct qt qc x.2)) := fun x H2 σ t hm l ha Q q => by
      obtain ⟨o1, o2, o3⟩ := hok x.2 (List.mem_map.mpr ⟨x, hm, rfl⟩)
      exact call_raw ha ⟨a, b, c, x.1, ct, qt, qc, x.2, n, cs, rfl, L.le (l1.trans l), SqL.of (l _ _ (hA x hm)), by omega, o1, rfl⟩ q
    refine seq_set (v := .ref x0.1) (ev_ixV (xs := refs (x0 :: xs)) (z := 0) (ev_var rfl) ev_c (SqL.of hp) (by omega) rfl) ?_
    refine seq_setG (v := .int (Pm.leastCostM n cs ct qt qc x0.2)) (lc x0 H1 _ _ List.mem_cons_self Le.refl (ev_cons (ev_var rfl) (ev_cons (ev_var rfl) (ev_cons (ev_var rfl) (ev_cons (ev_var rfl) (ev_cons (ev_var rfl) (ev_cons (ev_var rfl) ev_nil))))))) fun H2 l2 => ?_
    refine list1_raw (xs := refs (x0 :: xs)) (ev_var rfl) (SqL.of (l2 _ _ hp)) (by unfold refs; rw [List.length_map, List.length_cons]; omega) (fun i σ' => ∃ x y, σ' = [some (.int n), some (.int cs), some (.ref a), some (.ref b), some (.ref c), some (.ref p), some (.ref (Pm.flI (fun y : Addr × List Int => Pm.leastCostM n cs ct qt qc y.2) x0 (xs.take i)).1), some (.int (Pm.leastCostM n cs ct qt qc (Pm.flI (fun y : Addr × List Int => Pm.leastCostM n cs ct qt qc y.2) x0 (xs.take i)).2)), x, y]) ⟨_, _, rfl⟩ ?_ ?_
    · rintro i x σ1 H3 D1 hx l ⟨x', y', rfl⟩ hN
      obtain ⟨u, hu, rfl⟩ := refs_get (ps := xs) hx
      have tk : xs.take (i + 1) = xs.take i ++ [u] := by
        rw [List.take_add_one, hu]
        rfl
      refine seq_setG (v := .int (Pm.leastCostM n cs ct qt qc u.2)) (lc u H3 _ _ (List.mem_cons_of_mem _ (List.mem_of_getElem? hu)) (l2.trans l) (ev_cons (ev_var rfl) (ev_cons (ev_var rfl) (ev_cons (ev_var rfl) (ev_cons (ev_var rfl) (ev_cons (ev_var rfl) (ev_cons (ev_var rfl) ev_nil))))))) fun H4 l4 => ?_
      refine if_raw (ev_test (ev_i0 (ev_var rfl) (ev_var rfl))) (fun k => ?_) (fun k => ?_)
      · have k := of_decide_eq_true k
        refine seq_set (v := .ref u.1) (ev_var rfl) (set_raw (v := .int (Pm.leastCostM n cs ct qt qc u.2)) (ev_var rfl) (hN _ _ l4 ⟨some (.ref u.1), some (.int (Pm.leastCostM n cs ct qt qc u.2)), ?_⟩))
        rw [tk, Pm.flI_snoc, if_pos k]
        rfl
      · have k := of_decide_eq_false k
        refine hN _ _ l4 ⟨some (.ref u.1), some (.int (Pm.leastCostM n cs ct qt qc u.2)), ?_⟩
        rw [tk, Pm.flI_snoc, if_neg k]
        rfl
    · rintro σ1 H3 l ⟨x', y', rfl⟩
      have e1 : xs.take (refs (x0 :: xs)).tail.length = xs := by
        unfold refs
        rw [List.map_cons, List.tail_cons, List.length_map, List.take_length]
      rw [e1]
      have fm := Pm.flI_mem (fun y : Addr × List Int => Pm.leastCostM n cs ct qt qc y.2) xs x0
      refine ret_ev (ev_var rfl) (hD2 _ H3 (l1.trans (l2.trans l)) ⟨_, rfl, ?_⟩)
      rw [← flI_snd]
      exact (l2.trans l) _ _ (hA _ fm)
theorem ok_row_told (T : Txt mg) (d : DefAt K mg "row_told" s_row_told) : FD P w K mg base "row_told" 1 ["numbers"] (spW fRow) := by
  refine FD.ofW d sc_row_told (fun _ _ _ _ _ _ us hl => match us, hl with | [_], _ => rfl) (fun vs H Φ h => by obtain ⟨v, ns, rfl, _⟩ := h; rfl) fun f cdv A outer s H E hr => ⟨_, (pss_one (ps_ret (pe_op op_cat (pe_op op_cat (pe_lst (AX1.pa (ax_cons (pe_ci T.c_MOST_PLACES rfl) star_name ax_nil))) (pv 0)) (pe_op op_rep (pe_lst (AX1.pa (ax_cons (pe_ci T.c_BEHIND rfl) star_name ax_nil))) (pe_op op_sub (pe_ci T.c_MOST_PLACES rfl) (pe_callB call_len_seq (by rfl) T.len PySem.boot_len (AX1.pa (ax_cons (pv 0) star_name ax_nil)))))))), ?_⟩
  rintro vs Φ ⟨v, ns, rfl, ⟨p, rfl, hp⟩, hl, rfl⟩ D hD
  have big : 20 ≤ sizeLine := by decide
  refine ret_W (w_cat (xs := [5] ++ ns) (ys := List.replicate (5 - (ns.length : Int)).toNat 255) (w_cat (xs := [5]) (ys := ns) (w_lst (ev_cons ev_c ev_nil) (by show 1 ≤ sizeLine; decide) fun p' H' _ _ h => ⟨p', rfl, h⟩) (fun H1 l1 => w_ev (ev_var rfl) ⟨p, rfl, l1 _ _ hp⟩) (by show 1 + ns.length ≤ sizeLine; omega))
    (fun H1 l1 => w_rep (w_lst (ev_cons ev_c ev_nil) (by show 1 ≤ sizeLine; decide) fun p' H' _ _ h => ⟨p', rfl, h⟩) (fun H2 l2 => ev_to (ev_i0 ev_c (ev_len (K := K) (xs := ns.map V.int) (ev_cons (ev_var rfl) ev_nil) (SqL.of (l2 _ _ (l1 _ _ hp))))) (by rw [List.length_map])) (by omega) (by omega)) (by rw [List.length_replicate, List.length_append, List.length_singleton]; omega)) fun v H1 l1 z => hD v H1 l1 ?_
  have e : (5 - (ns.length : Int)).toNat = 5 - ns.length := by omega
  rw [e] at z
  exact z
/-- db_best's promise -/
def spBest (K : PySem.W.Frag) : Sp := fun vs H Q _ => ∃ (a b c d : Addr) (ct qt qc qo : List Int) (nc cno n cs os no : Int), vs = [.int nc, .int cno, .int n, .int cs, .int os, .int no, .ref a, .ref b, .ref c, .ref d] ∧ SqL K H a (ct.map V.int) ∧ ct.length = 73 ∧ SqL K H b (qt.map V.int) ∧ qt.length = 8 ∧ SqL K H c (qc.map V.int) ∧ qc.length = 60 ∧ SqL K H d (qo.map V.int) ∧ qo.length = 16 ∧
  ∀ (H' : Hp) (p : Addr), H' p = some (.lst ((Pm.bestAns nc cno n cs os no ct qt qc qo).map V.int)) → Q (.ref p) H'
theorem ok_db_best {f : Addr} {fd : FuncData} (F : Fun K "db_best" "db_best" s_db_best f fd) (T : Txt mg) (d_all_right : FD P w K mg base "all_right" 7 ["ctables", "cnone", "qtables", "qconds", "qouts", "qnone", "ctable", "qtable", "qcond", "qout"] (spP (fAll K))) (d_best_order : FD P w K mg base "best_order" 9 ["qtables", "qconds", "ctable", "qtable", "qcond"] (spW (fBestOrder K))) (d_best_by : FD P w K mg base "best_by" 7 ["qtables", "qconds", "ctable", "qtable", "qcond", "order"] (spW (fBestBy K)))
    (d_plan_cost : FD P w K mg base "plan_cost" 5 ["qtables", "qconds", "ctable", "qtable", "qcond", "order", "by"] (spG (fCost K))) (d_row_told : FD P w K mg base "row_told" 1 ["numbers"] (spW fRow)) : FnOk P w K mg base CX0 10 f fd ["ctables", "cnone", "qtables", "qconds", "qouts", "qnone", "ctable", "qtable", "qcond", "qout"] (spBest K) := by
  refine FD.ofS F sc_db_best (fun vs H Q E h => by obtain ⟨a, b, c, e, ct, qt, qc, qo, nc, cno, n, cs, os, no, rfl, _⟩ := h; rfl) fun cdv A outer s H E hr => ⟨_, (pss_cons (ps_if (pt_not (pt_val (pe_fn d_all_right (hr.mono (by decide)) rfl (ax_cons (pv 0) star_name (AX1.ax (ax_cons (pv 1) star_name (AX1.ax (ax_cons (pv 2) star_name (AX1.ax (ax_cons (pv 3) star_name (AX1.ax (ax_cons (pv 4) star_name (AX1.ax (ax_cons (pv 5) star_name (AX1.ax (ax_cons (pv 6) star_name (AX1.ax (ax_cons (pv 7) star_name (AX1.ax (ax_cons (pv 8) star_name (AX1.ax (ax_cons (pv 9) star_name ax_nil)))))))))))))))))))))) (pss_one (ps_ret (pe_lst (AX1.pa (ax_cons (pe_ci T.c_NUMBER_ALONE rfl) star_name (AX1.ax (ax_cons (pe_ci T.c_NOT_RIGHT rfl) star_name ax_nil))))))) pss_nil)
      (pss_cons (ps_set (i := 10) sc_db_best.nd rfl (Or.inl rfl) (pe_fn d_best_order (hr.mono (by decide)) rfl (ax_cons (pv 2) star_name (AX1.ax (ax_cons (pv 3) star_name (AX1.ax (ax_cons (pv 6) star_name (AX1.ax (ax_cons (pv 7) star_name (AX1.ax (ax_cons (pv 8) star_name ax_nil)))))))))))
      (pss_cons (ps_set (i := 11) sc_db_best.nd rfl (Or.inl rfl) (pe_fn d_best_by (hr.mono (by decide)) rfl (ax_cons (pv 2) star_name (AX1.ax (ax_cons (pv 3) star_name (AX1.ax (ax_cons (pv 6) star_name (AX1.ax (ax_cons (pv 7) star_name (AX1.ax (ax_cons (pv 8) star_name (AX1.ax (ax_cons (pv 10) star_name ax_nil)))))))))))))
      (pss_cons (ps_set (i := 12) sc_db_best.nd rfl (Or.inl rfl) (pe_fn d_plan_cost (hr.mono (by decide)) rfl (ax_cons (pv 2) star_name (AX1.ax (ax_cons (pv 3) star_name (AX1.ax (ax_cons (pv 6) star_name (AX1.ax (ax_cons (pv 7) star_name (AX1.ax (ax_cons (pv 8) star_name (AX1.ax (ax_cons (pv 10) star_name (AX1.ax (ax_cons (pv 11) star_name ax_nil)))))))))))))))
      (pss_one (ps_ret (pe_op op_cat (pe_op op_cat (pe_lst (AX1.pa (ax_cons (pe_ci T.c_NUMBER_AND_PLAN rfl) star_name (AX1.ax (ax_cons (pv 12) star_name ax_nil))))) (pe_fn d_row_told (hr.mono (by decide)) rfl (ax_cons (pv 10) star_name ax_nil))) (pe_fn d_row_told (hr.mono (by decide)) rfl (ax_cons (pv 11) star_name ax_nil))))))))), ?_⟩
  rintro vs Q E' ⟨a, b, c, e, ct, qt, qc, qo, nc, cno, n, cs, os, no, rfl, hS, hl, hS2, hl2, hS3, hl3, hS4, hl4, k⟩
  refine guard_raw (ev_not (ev_tB (ev_call (v := .bl (Pm.rightM nc cno n cs os no ct qt qc qo)) (ev_cons (ev_var rfl) (ev_cons (ev_var rfl) (ev_cons (ev_var rfl) (ev_cons (ev_var rfl) (ev_cons (ev_var rfl) (ev_cons (ev_var rfl) (ev_cons (ev_var rfl) (ev_cons (ev_var rfl) (ev_cons (ev_var rfl) (ev_cons (ev_var rfl) ev_nil))))))))))
    ⟨a, b, c, e, ct, qt, qc, qo, nc, cno, n, cs, os, no, rfl, hS, hl, hS2, hl2, hS3, hl3, hS4, hl4, rfl⟩))) (fun e0 => ?_) (fun e0 => ?_)
  · have e1 : Pm.rightM nc cno n cs os no ct qt qc qo = false := by simpa using e0
    exact ⟨(by show 2 ≤ sizeLine; decide), fun p hp => k _ p (by rw [upd_same]; simp only [Pm.bestAns, e1]; rfl)⟩
  · have e1 : Pm.rightM nc cno n cs os no ct qt qc qo = true := by simpa using e0
    have R := Pm.rq_of e1
    have L : Ls K H a b c n cs ct qt qc := ⟨hS, hl, hS2, hl2, hS3, hl3, R⟩
    have n5 := R.n5
    obtain ⟨o1, o2, o3⟩ := (Pm.every_ok R).2.2 _ (Pm.bestOrder_mem R)
    have k : ∀ (H' : Hp) (p : Addr), H' p = some (.lst (([1, Pm.costM cs ct qt qc (Pm.bestOrderM n cs ct qt qc) (Pm.bestByM cs ct qt qc (Pm.bestOrderM n cs ct qt qc) n.toNat) n.toNat] ++ Pm.rowM (Pm.bestOrderM n cs ct qt qc) ++ Pm.rowM (Pm.bestByM cs ct qt qc (Pm.bestOrderM n cs ct qt qc) n.toNat)).map V.int)) → Q (.ref p) H' := fun H' p h => k H' p (by
      unfold Pm.bestAns
      rw [e1, if_pos rfl]
      exact h)
    refine seq_setW (w_call (ev_cons (ev_var rfl) (ev_cons (ev_var rfl) (ev_cons (ev_var rfl) (ev_cons (ev_var rfl) (ev_cons (ev_var rfl) ev_nil))))) ⟨a, b, c, ct, qt, qc, n, cs, rfl, L, rfl⟩) fun v H1 l1 z => ?_
    generalize Pm.bestOrderM n cs ct qt qc = od at *
    obtain ⟨m, rfl, hm⟩ := z
    refine seq_setW (w_call (ev_cons (ev_var rfl) (ev_cons (ev_var rfl) (ev_cons (ev_var rfl) (ev_cons (ev_var rfl) (ev_cons (ev_var rfl) (ev_cons (ev_var rfl) ev_nil)))))) ⟨a, b, c, m, ct, qt, qc, od, n, cs, rfl, L.le l1, SqL.of hm, by omega, o1, rfl⟩) fun v H2 l2 z => ?_
    obtain ⟨m2, rfl, hm2⟩ := z
    have lb := by_len cs ct qt qc od n.toNat
    have pb := plan_by (cs := cs) (ct := ct) (qt := qt) (qc := qc) o1
    generalize Pm.bestByM cs ct qt qc od n.toNat = by_ at *
    refine seq_setG (v := .int (Pm.costM cs ct qt qc od by_ n.toNat)) (fun Q q => call_raw (ev_cons (ev_var rfl) (ev_cons (ev_var rfl) (ev_cons (ev_var rfl) (ev_cons (ev_var rfl) (ev_cons (ev_var rfl) (ev_cons (ev_var rfl) (ev_cons (ev_var rfl) ev_nil))))))) ⟨a, b, c, m, m2, ct, qt, qc, od, by_, n, cs, rfl, (L.le l1).le l2, SqL.of (l2 _ _ hm), by omega, SqL.of hm2, by omega, pb, rfl⟩ q) fun H3 l3 => ?_
    have big : 40 ≤ sizeLine := by decide
    have r1 : (Pm.rowM od).length ≤ 11 := by
      unfold Pm.rowM
      rw [List.length_cons, List.length_append, List.length_replicate]
      omega
    have r2 : (Pm.rowM by_).length ≤ 11 := by
      unfold Pm.rowM
      rw [List.length_cons, List.length_append, List.length_replicate]
      omega
    refine ret_W (w_cat (w_cat (w_lst (ev_cons ev_c (ev_cons (ev_var rfl) ev_nil)) (by show 2 ≤ sizeLine; decide) fun p' H' _ _ h => (⟨p', rfl, h⟩ : IsL [1, Pm.costM cs ct qt qc od by_ n.toNat] _ _)) (fun H4 l4 => w_call (ev_cons (ev_var rfl) ev_nil) ⟨_, od, rfl, ⟨m, rfl, l4 _ _ (l3 _ _ (l2 _ _ hm))⟩, by omega, rfl⟩) (by show 2 + (Pm.rowM od).length ≤ sizeLine; omega))
      (fun H4 l4 => w_call (ev_cons (ev_var rfl) ev_nil) ⟨_, by_, rfl, ⟨m2, rfl, l4 _ _ (l3 _ _ hm2)⟩, by omega, rfl⟩) (by rw [List.length_append]; show 2 + (Pm.rowM od).length + (Pm.rowM by_).length ≤ sizeLine; omega)) fun v H5 l5 z => ?_
    obtain ⟨p, rfl, hp⟩ := z
    exact k _ p hp
end
theorem int_inv {K : PySem.W.Frag} {H : Hp} {xs : List V} {i : Int} {ds : List PySem.W.WData} (h : DwAll K H xs (.int i :: ds)) : ∃ vs, xs = .int i :: vs ∧ DwAll K H vs ds := by
  cases h with
  | cons h1 h2 =>
    cases h1
    exact ⟨_, rfl, h2⟩
theorem ints_inv {K : PySem.W.Frag} {H : Hp} {xs : List V} {ns : List Int} {ds : List PySem.W.WData} (h : DwAll K H xs (.list (ns.map .int) :: ds)) : ∃ a vs, xs = .ref a :: vs ∧ SqL K H a (ns.map V.int) ∧ DwAll K H vs ds := by
  cases h with
  | cons h1 h2 =>
    cases h1 with
    | lst hs ha =>
      rw [ints_dw ns _ ha] at hs
      exact ⟨_, _, rfl, hs, h2⟩
theorem nil_inv {K : PySem.W.Frag} {H : Hp} {xs : List V} (h : DwAll K H xs []) : xs = [] := by
  cases h
  rfl

theorem args_inv {K : PySem.W.Frag} {H : Hp} {xs : List V} {s0 s1 s4 s5 s6 s7 : Int} {ct qt qc qo : List Int} (h : DwAll K H xs [.int s0, .int s1, .int s4, .int s5, .int s6, .int s7, .list (ct.map .int), .list (qt.map .int), .list (qc.map .int), .list (qo.map .int)]) :
    ∃ a b c d, xs = [.int s0, .int s1, .int s4, .int s5, .int s6, .int s7, .ref a, .ref b, .ref c, .ref d] ∧ SqL K H a (ct.map V.int) ∧ SqL K H b (qt.map V.int) ∧ SqL K H c (qc.map V.int) ∧ SqL K H d (qo.map V.int) := by
  obtain ⟨x1, e1, h1⟩ := int_inv h
  obtain ⟨x2, e2, h2⟩ := int_inv h1
  obtain ⟨x3, e3, h3⟩ := int_inv h2
  obtain ⟨x4, e4, h4⟩ := int_inv h3
  obtain ⟨x5, e5, h5⟩ := int_inv h4
  obtain ⟨x6, e6, h6⟩ := int_inv h5
  obtain ⟨a, x7, e7, k1, h7⟩ := ints_inv h6
  obtain ⟨b, x8, e8, k2, h8⟩ := ints_inv h7
  obtain ⟨c, x9, e9, k3, h9⟩ := ints_inv h8
  obtain ⟨d, y1, f1, k4, g1⟩ := ints_inv h9
  have f2 := nil_inv g1
  subst f2 f1 e9 e8 e7 e6 e5 e4 e3 e2 e1
  exact ⟨a, b, c, d, rfl, k1, k2, k3, k4⟩

/-- all defs of the text -/
structure Defs (K : PySem.W.Frag) (mg : Str → Option Value) : Prop where
  d_table_start : DefAt K mg "table_start" s_table_start
  d_cols_of : DefAt K mg "cols_of" s_cols_of
  d_rows_of : DefAt K mg "rows_of" s_rows_of
  d_indexed_of : DefAt K mg "indexed_of" s_indexed_of
  d_none_of : DefAt K mg "none_of" s_none_of
  d_alike_of : DefAt K mg "alike_of" s_alike_of
  d_column_indexed : DefAt K mg "column_indexed" s_column_indexed
  d_alike_as_told : DefAt K mg "alike_as_told" s_alike_as_told
  d_table_as_told : DefAt K mg "table_as_told" s_table_as_told
  d_catalogue_as_told : DefAt K mg "catalogue_as_told" s_catalogue_as_told
  d_a_of : DefAt K mg "a_of" s_a_of
  d_i_of : DefAt K mg "i_of" s_i_of
  d_op_of : DefAt K mg "op_of" s_op_of
  d_b_of : DefAt K mg "b_of" s_b_of
  d_j_of : DefAt K mg "j_of" s_j_of
  d_out_place_of : DefAt K mg "out_place_of" s_out_place_of
  d_out_column_of : DefAt K mg "out_column_of" s_out_column_of
  d_counts_as_told : DefAt K mg "counts_as_told" s_counts_as_told
  d_places_right : DefAt K mg "places_right" s_places_right
  d_column_there : DefAt K mg "column_there" s_column_there
  d_cond_right : DefAt K mg "cond_right" s_cond_right
  d_conds_right : DefAt K mg "conds_right" s_conds_right
  d_outs_right : DefAt K mg "outs_right" s_outs_right
  d_question_right : DefAt K mg "question_right" s_question_right
  d_tied_column : DefAt K mg "tied_column" s_tied_column
  d_lookup_right : DefAt K mg "lookup_right" s_lookup_right
  d_parts_rounded_up : DefAt K mg "parts_rounded_up" s_parts_rounded_up
  d_scan_pages : DefAt K mg "scan_pages" s_scan_pages
  d_lookup_pages : DefAt K mg "lookup_pages" s_lookup_pages
  d_step_pages : DefAt K mg "step_pages" s_step_pages
  d_most_rows_found : DefAt K mg "most_rows_found" s_most_rows_found
  d_rows_coming : DefAt K mg "rows_coming" s_rows_coming
  d_plan_cost : DefAt K mg "plan_cost" s_plan_cost
  d_longer_orders : DefAt K mg "longer_orders" s_longer_orders
  d_every_order : DefAt K mg "every_order" s_every_order
  d_every_way : DefAt K mg "every_way" s_every_way
  d_best_way : DefAt K mg "best_way" s_best_way
  d_best_by : DefAt K mg "best_by" s_best_by
  d_least_cost : DefAt K mg "least_cost" s_least_cost
  d_best_order : DefAt K mg "best_order" s_best_order
  d_all_right : DefAt K mg "all_right" s_all_right
  d_row_told : DefAt K mg "row_told" s_row_told
  d_db_best : DefAt K mg "db_best" s_db_best
theorem all_defs {P : Program} {w : World} {K : PySem.W.Frag} {mg : Str → Option Value} {base : Heap} (T : Txt mg) (D : Defs K mg) {f : Addr} {fd : FuncData} (F : Fun K "db_best" "db_best" s_db_best f fd) : FnOk P w K mg base CX0 10 f fd ["ctables", "cnone", "qtables", "qconds", "qouts", "qnone", "ctable", "qtable", "qcond", "qout"] (spBest K) := by
  have x1 := ok_table_start (P := P) (w := w) (base := base) T D.d_table_start
  have x2 := ok_cols_of T D.d_cols_of x1
  have x3 := ok_rows_of T D.d_rows_of x1
  have x4 := ok_indexed_of T D.d_indexed_of x1
  have x5 := ok_none_of T D.d_none_of x1
  have x6 := ok_alike_of T D.d_alike_of x1
  have x7 := ok_alike_as_told T D.d_alike_as_told x2 x6
  have x8 := ok_table_as_told T D.d_table_as_told x2 x3 x4 x5 x7
  have x9 := ok_catalogue_as_told T D.d_catalogue_as_told x8
  have y1 := ok_a_of (P := P) (w := w) (base := base) T D.d_a_of
  have y2 := ok_i_of (P := P) (w := w) (base := base) T D.d_i_of
  have y3 := ok_op_of (P := P) (w := w) (base := base) T D.d_op_of
  have y4 := ok_b_of (P := P) (w := w) (base := base) T D.d_b_of
  have y5 := ok_j_of (P := P) (w := w) (base := base) T D.d_j_of
  have y6 := ok_out_place_of (P := P) (w := w) (base := base) T D.d_out_place_of
  have y7 := ok_out_column_of (P := P) (w := w) (base := base) T D.d_out_column_of
  have y8 := ok_counts_as_told (P := P) (w := w) (base := base) T D.d_counts_as_told
  have y9 := ok_places_right (P := P) (w := w) (base := base) T D.d_places_right
  have z1 := ok_column_there T D.d_column_there x2
  have z2 := ok_cond_right T D.d_cond_right z1 y1 y2 y3 y4 y5
  have z3 := ok_conds_right T D.d_conds_right z2
  have z4 := ok_outs_right T D.d_outs_right z1 y6 y7
  have z5 := ok_question_right T D.d_question_right y8 y9 z3 z4
  have z6 := ok_all_right T D.d_all_right x9 z5
  have v1 := ok_column_indexed T D.d_column_indexed x4
  have v2 := ok_tied_column T D.d_tied_column y1 y2 y3 y4 y5
  have v4 := ok_lookup_right T D.d_lookup_right v2 v1
  have u1 := ok_parts_rounded_up (P := P) (w := w) (base := base) T D.d_parts_rounded_up
  have u2 := ok_scan_pages T D.d_scan_pages u1
  have u3 := ok_lookup_pages T D.d_lookup_pages u1
  have u4 := ok_step_pages T D.d_step_pages x3 x6 u2 v2 u3
  have u5 := ok_most_rows_found T D.d_most_rows_found x3 x6 v2
  have u7 := ok_rows_coming T D.d_rows_coming u5
  have u6 := ok_plan_cost T D.d_plan_cost u4 u7
  have t1 := ok_longer_orders (P := P) (w := w) (base := base) T D.d_longer_orders
  have t2 := ok_every_order T D.d_every_order t1
  have t3 := ok_every_way T D.d_every_way v4
  have t4 := ok_best_way T D.d_best_way t3 u4
  have t5 := ok_best_by T D.d_best_by u7 t4
  have t6 := ok_least_cost T D.d_least_cost t5 u6
  have t7 := ok_best_order T D.d_best_order t2 t6
  have t8 := ok_row_told (P := P) (w := w) (base := base) T D.d_row_told
  exact ok_db_best F T z6 t7 t5 u6 t8
end Prog

namespace Prog
open PySem PySem.Spec PyProof.Rows L2 Ev
theorem all_mk {P : Program} {w : World} {K : PySem.W.Frag} {h : Heap} {mg : Str → Option Value} {fa : Addr} (X : K.In h) (G : h.Ns mainGlobals mg) (hfa : mg "db_best" = some (.ref fa))
    {t_MOST_TABLES t_MOST_COLS t_MOST_ROWS t_MOST_ALIKE t_FIRST_TABLE t_TABLE_LENGTH t_ROWS t_INDEXED t_NONE t_FIRST_ALIKE t_MOST_PLACES t_MOST_CONDS t_MOST_OUTS t_EQUAL t_LAST_OP t_NO_PLACE t_COND_LENGTH t_OUT_LENGTH t_SCANNED t_NO_COLUMN t_ROWS_A_PAGE t_ENTRIES_A_PAGE t_MORE_A_LOOKUP t_NUMBER_ALONE t_NUMBER_AND_PLAN t_NOT_RIGHT t_BEHIND : Tok} {f_table_start f_cols_of f_rows_of f_indexed_of f_none_of f_alike_of f_column_indexed f_alike_as_told f_table_as_told f_catalogue_as_told f_a_of f_i_of f_op_of f_b_of f_j_of f_out_place_of f_out_column_of f_counts_as_told f_places_right f_column_there f_cond_right f_conds_right f_outs_right f_question_right f_tied_column f_lookup_right f_parts_rounded_up f_scan_pages f_lookup_pages f_step_pages f_most_rows_found f_rows_coming f_plan_cost f_longer_orders f_every_order f_every_way f_best_way f_best_by f_least_cost f_best_order f_all_right f_row_told f_db_best : Addr} {od_table_start an_table_start od_cols_of an_cols_of od_rows_of an_rows_of od_indexed_of an_indexed_of od_none_of an_none_of od_alike_of an_alike_of od_column_indexed an_column_indexed od_alike_as_told an_alike_as_told od_table_as_told an_table_as_told od_catalogue_as_told an_catalogue_as_told od_a_of an_a_of od_i_of an_i_of od_op_of an_op_of od_b_of an_b_of od_j_of an_j_of od_out_place_of an_out_place_of od_out_column_of an_out_column_of od_counts_as_told an_counts_as_told od_places_right an_places_right od_column_there an_column_there od_cond_right an_cond_right od_conds_right an_conds_right od_outs_right an_outs_right od_question_right an_question_right od_tied_column an_tied_column od_lookup_right an_lookup_right od_parts_rounded_up an_parts_rounded_up od_scan_pages an_scan_pages od_lookup_pages an_lookup_pages od_step_pages an_step_pages od_most_rows_found an_most_rows_found od_rows_coming an_rows_coming od_plan_cost an_plan_cost od_longer_orders an_longer_orders od_every_order an_every_order od_every_way an_every_way od_best_way an_best_way od_best_by an_best_by od_least_cost an_least_cost od_best_order an_best_order od_all_right an_all_right od_row_told an_row_told od_db_best an_db_best : Option Addr} {sl_table_start sl_cols_of sl_rows_of sl_indexed_of sl_none_of sl_alike_of sl_column_indexed sl_alike_as_told sl_table_as_told sl_catalogue_as_told sl_a_of sl_i_of sl_op_of sl_b_of sl_j_of sl_out_place_of sl_out_column_of sl_counts_as_told sl_places_right sl_column_there sl_cond_right sl_conds_right sl_outs_right sl_question_right sl_tied_column sl_lookup_right sl_parts_rounded_up sl_scan_pages sl_lookup_pages sl_step_pages sl_most_rows_found sl_rows_coming sl_plan_cost sl_longer_orders sl_every_order sl_every_way sl_best_way sl_best_by sl_least_cost sl_best_order sl_all_right sl_row_told sl_db_best : Array (Option Value)} {oc_table_start kV_table_start dc_table_start pm_table_start cd_table_start ct_table_start oc_cols_of kV_cols_of dc_cols_of pm_cols_of cd_cols_of ct_cols_of oc_rows_of kV_rows_of dc_rows_of pm_rows_of cd_rows_of ct_rows_of oc_indexed_of kV_indexed_of dc_indexed_of pm_indexed_of cd_indexed_of ct_indexed_of oc_none_of kV_none_of dc_none_of pm_none_of cd_none_of ct_none_of oc_alike_of kV_alike_of dc_alike_of pm_alike_of cd_alike_of ct_alike_of oc_column_indexed kV_column_indexed dc_column_indexed pm_column_indexed cd_column_indexed ct_column_indexed oc_alike_as_told kV_alike_as_told dc_alike_as_told pm_alike_as_told cd_alike_as_told ct_alike_as_told oc_table_as_told kV_table_as_told dc_table_as_told pm_table_as_told cd_table_as_told ct_table_as_told oc_catalogue_as_told kV_catalogue_as_told dc_catalogue_as_told pm_catalogue_as_told cd_catalogue_as_told ct_catalogue_as_told oc_a_of kV_a_of dc_a_of pm_a_of cd_a_of ct_a_of oc_i_of kV_i_of dc_i_of pm_i_of cd_i_of ct_i_of oc_op_of kV_op_of dc_op_of pm_op_of cd_op_of ct_op_of oc_b_of kV_b_of dc_b_of pm_b_of cd_b_of ct_b_of oc_j_of kV_j_of dc_j_of pm_j_of cd_j_of ct_j_of oc_out_place_of kV_out_place_of dc_out_place_of pm_out_place_of cd_out_place_of ct_out_place_of oc_out_column_of kV_out_column_of dc_out_column_of pm_out_column_of cd_out_column_of ct_out_column_of oc_counts_as_told kV_counts_as_told dc_counts_as_told pm_counts_as_told cd_counts_as_told ct_counts_as_told oc_places_right kV_places_right dc_places_right pm_places_right cd_places_right ct_places_right oc_column_there kV_column_there dc_column_there pm_column_there cd_column_there ct_column_there oc_cond_right kV_cond_right dc_cond_right pm_cond_right cd_cond_right ct_cond_right oc_conds_right kV_conds_right dc_conds_right pm_conds_right cd_conds_right ct_conds_right oc_outs_right kV_outs_right dc_outs_right pm_outs_right cd_outs_right ct_outs_right oc_question_right kV_question_right dc_question_right pm_question_right cd_question_right ct_question_right oc_tied_column kV_tied_column dc_tied_column pm_tied_column cd_tied_column ct_tied_column oc_lookup_right kV_lookup_right dc_lookup_right pm_lookup_right cd_lookup_right ct_lookup_right oc_parts_rounded_up kV_parts_rounded_up dc_parts_rounded_up pm_parts_rounded_up cd_parts_rounded_up ct_parts_rounded_up oc_scan_pages kV_scan_pages dc_scan_pages pm_scan_pages cd_scan_pages ct_scan_pages oc_lookup_pages kV_lookup_pages dc_lookup_pages pm_lookup_pages cd_lookup_pages ct_lookup_pages oc_step_pages kV_step_pages dc_step_pages pm_step_pages cd_step_pages ct_step_pages oc_most_rows_found kV_most_rows_found dc_most_rows_found pm_most_rows_found cd_most_rows_found ct_most_rows_found oc_rows_coming kV_rows_coming dc_rows_coming pm_rows_coming cd_rows_coming ct_rows_coming oc_plan_cost kV_plan_cost dc_plan_cost pm_plan_cost cd_plan_cost ct_plan_cost oc_longer_orders kV_longer_orders dc_longer_orders pm_longer_orders cd_longer_orders ct_longer_orders oc_every_order kV_every_order dc_every_order pm_every_order cd_every_order ct_every_order oc_every_way kV_every_way dc_every_way pm_every_way cd_every_way ct_every_way oc_best_way kV_best_way dc_best_way pm_best_way cd_best_way ct_best_way oc_best_by kV_best_by dc_best_by pm_best_by cd_best_by ct_best_by oc_least_cost kV_least_cost dc_least_cost pm_least_cost cd_least_cost ct_least_cost oc_best_order kV_best_order dc_best_order pm_best_order cd_best_order ct_best_order oc_all_right kV_all_right dc_all_right pm_all_right cd_all_right ct_all_right oc_row_told kV_row_told dc_row_told pm_row_told cd_row_told ct_row_told oc_db_best kV_db_best dc_db_best pm_db_best cd_db_best ct_db_best : Value}
    (r : PySem.W.nsIn K mainGlobals "range" = some none)
    (b_min : PySem.W.nsIn K mainGlobals "min" = some none)
    (b_len : PySem.W.nsIn K mainGlobals "len" = some none)
    (c_MOST_TABLES : PySem.W.nsIn K mainGlobals "MOST_TABLES" = some (some (.int 8 t_MOST_TABLES)))
    (c_MOST_COLS : PySem.W.nsIn K mainGlobals "MOST_COLS" = some (some (.int 4 t_MOST_COLS)))
    (c_MOST_ROWS : PySem.W.nsIn K mainGlobals "MOST_ROWS" = some (some (.int 4096 t_MOST_ROWS)))
    (c_MOST_ALIKE : PySem.W.nsIn K mainGlobals "MOST_ALIKE" = some (some (.int 4096 t_MOST_ALIKE)))
    (c_FIRST_TABLE : PySem.W.nsIn K mainGlobals "FIRST_TABLE" = some (some (.int 1 t_FIRST_TABLE)))
    (c_TABLE_LENGTH : PySem.W.nsIn K mainGlobals "TABLE_LENGTH" = some (some (.int 9 t_TABLE_LENGTH)))
    (c_ROWS : PySem.W.nsIn K mainGlobals "ROWS" = some (some (.int 1 t_ROWS)))
    (c_INDEXED : PySem.W.nsIn K mainGlobals "INDEXED" = some (some (.int 2 t_INDEXED)))
    (c_NONE : PySem.W.nsIn K mainGlobals "NONE" = some (some (.int 3 t_NONE)))
    (c_FIRST_ALIKE : PySem.W.nsIn K mainGlobals "FIRST_ALIKE" = some (some (.int 5 t_FIRST_ALIKE)))
    (c_MOST_PLACES : PySem.W.nsIn K mainGlobals "MOST_PLACES" = some (some (.int 5 t_MOST_PLACES)))
    (c_MOST_CONDS : PySem.W.nsIn K mainGlobals "MOST_CONDS" = some (some (.int 12 t_MOST_CONDS)))
    (c_MOST_OUTS : PySem.W.nsIn K mainGlobals "MOST_OUTS" = some (some (.int 8 t_MOST_OUTS)))
    (c_EQUAL : PySem.W.nsIn K mainGlobals "EQUAL" = some (some (.int 0 t_EQUAL)))
    (c_LAST_OP : PySem.W.nsIn K mainGlobals "LAST_OP" = some (some (.int 5 t_LAST_OP)))
    (c_NO_PLACE : PySem.W.nsIn K mainGlobals "NO_PLACE" = some (some (.int 255 t_NO_PLACE)))
    (c_COND_LENGTH : PySem.W.nsIn K mainGlobals "COND_LENGTH" = some (some (.int 5 t_COND_LENGTH)))
    (c_OUT_LENGTH : PySem.W.nsIn K mainGlobals "OUT_LENGTH" = some (some (.int 2 t_OUT_LENGTH)))
    (c_SCANNED : PySem.W.nsIn K mainGlobals "SCANNED" = some (some (.int 255 t_SCANNED)))
    (c_NO_COLUMN : PySem.W.nsIn K mainGlobals "NO_COLUMN" = some (some (.int (-1) t_NO_COLUMN)))
    (c_ROWS_A_PAGE : PySem.W.nsIn K mainGlobals "ROWS_A_PAGE" = some (some (.int 16 t_ROWS_A_PAGE)))
    (c_ENTRIES_A_PAGE : PySem.W.nsIn K mainGlobals "ENTRIES_A_PAGE" = some (some (.int 32 t_ENTRIES_A_PAGE)))
    (c_MORE_A_LOOKUP : PySem.W.nsIn K mainGlobals "MORE_A_LOOKUP" = some (some (.int 2 t_MORE_A_LOOKUP)))
    (c_NUMBER_ALONE : PySem.W.nsIn K mainGlobals "NUMBER_ALONE" = some (some (.int 0 t_NUMBER_ALONE)))
    (c_NUMBER_AND_PLAN : PySem.W.nsIn K mainGlobals "NUMBER_AND_PLAN" = some (some (.int 1 t_NUMBER_AND_PLAN)))
    (c_NOT_RIGHT : PySem.W.nsIn K mainGlobals "NOT_RIGHT" = some (some (.int (-22) t_NOT_RIGHT)))
    (c_BEHIND : PySem.W.nsIn K mainGlobals "BEHIND" = some (some (.int 255 t_BEHIND)))
    (a_table_start : PySem.W.nsIn K mainGlobals "table_start" = some (some (.ref f_table_start))) (l_table_start : K.lookup f_table_start = some ⟨oc_table_start, od_table_start, .func (PySem.W.fnOf "table_start" "table_start" (defArgs s_table_start) (defBody s_table_start) (defScope s_table_start) .none kV_table_start dc_table_start pm_table_start an_table_start cd_table_start ct_table_start), sl_table_start⟩) (k_table_start : PySem.W.codeIn K cd_table_start "table_start" = true) (p_table_start : PySem.W.keepIn K (.ref f_table_start) = true)
    (a_cols_of : PySem.W.nsIn K mainGlobals "cols_of" = some (some (.ref f_cols_of))) (l_cols_of : K.lookup f_cols_of = some ⟨oc_cols_of, od_cols_of, .func (PySem.W.fnOf "cols_of" "cols_of" (defArgs s_cols_of) (defBody s_cols_of) (defScope s_cols_of) .none kV_cols_of dc_cols_of pm_cols_of an_cols_of cd_cols_of ct_cols_of), sl_cols_of⟩) (k_cols_of : PySem.W.codeIn K cd_cols_of "cols_of" = true) (p_cols_of : PySem.W.keepIn K (.ref f_cols_of) = true)
    (a_rows_of : PySem.W.nsIn K mainGlobals "rows_of" = some (some (.ref f_rows_of))) (l_rows_of : K.lookup f_rows_of = some ⟨oc_rows_of, od_rows_of, .func (PySem.W.fnOf "rows_of" "rows_of" (defArgs s_rows_of) (defBody s_rows_of) (defScope s_rows_of) .none kV_rows_of dc_rows_of pm_rows_of an_rows_of cd_rows_of ct_rows_of), sl_rows_of⟩) (k_rows_of : PySem.W.codeIn K cd_rows_of "rows_of" = true) (p_rows_of : PySem.W.keepIn K (.ref f_rows_of) = true)
    (a_indexed_of : PySem.W.nsIn K mainGlobals "indexed_of" = some (some (.ref f_indexed_of))) (l_indexed_of : K.lookup f_indexed_of = some ⟨oc_indexed_of, od_indexed_of, .func (PySem.W.fnOf "indexed_of" "indexed_of" (defArgs s_indexed_of) (defBody s_indexed_of) (defScope s_indexed_of) .none kV_indexed_of dc_indexed_of pm_indexed_of an_indexed_of cd_indexed_of ct_indexed_of), sl_indexed_of⟩) (k_indexed_of : PySem.W.codeIn K cd_indexed_of "indexed_of" = true) (p_indexed_of : PySem.W.keepIn K (.ref f_indexed_of) = true)
    (a_none_of : PySem.W.nsIn K mainGlobals "none_of" = some (some (.ref f_none_of))) (l_none_of : K.lookup f_none_of = some ⟨oc_none_of, od_none_of, .func (PySem.W.fnOf "none_of" "none_of" (defArgs s_none_of) (defBody s_none_of) (defScope s_none_of) .none kV_none_of dc_none_of pm_none_of an_none_of cd_none_of ct_none_of), sl_none_of⟩) (k_none_of : PySem.W.codeIn K cd_none_of "none_of" = true) (p_none_of : PySem.W.keepIn K (.ref f_none_of) = true)
    (a_alike_of : PySem.W.nsIn K mainGlobals "alike_of" = some (some (.ref f_alike_of))) (l_alike_of : K.lookup f_alike_of = some ⟨oc_alike_of, od_alike_of, .func (PySem.W.fnOf "alike_of" "alike_of" (defArgs s_alike_of) (defBody s_alike_of) (defScope s_alike_of) .none kV_alike_of dc_alike_of pm_alike_of an_alike_of cd_alike_of ct_alike_of), sl_alike_of⟩) (k_alike_of : PySem.W.codeIn K cd_alike_of "alike_of" = true) (p_alike_of : PySem.W.keepIn K (.ref f_alike_of) = true)
    (a_column_indexed : PySem.W.nsIn K mainGlobals "column_indexed" = some (some (.ref f_column_indexed))) (l_column_indexed : K.lookup f_column_indexed = some ⟨oc_column_indexed, od_column_indexed, .func (PySem.W.fnOf "column_indexed" "column_indexed" (defArgs s_column_indexed) (defBody s_column_indexed) (defScope s_column_indexed) .none kV_column_indexed dc_column_indexed pm_column_indexed an_column_indexed cd_column_indexed ct_column_indexed), sl_column_indexed⟩) (k_column_indexed : PySem.W.codeIn K cd_column_indexed "column_indexed" = true) (p_column_indexed : PySem.W.keepIn K (.ref f_column_indexed) = true)
    (a_alike_as_told : PySem.W.nsIn K mainGlobals "alike_as_told" = some (some (.ref f_alike_as_told))) (l_alike_as_told : K.lookup f_alike_as_told = some ⟨oc_alike_as_told, od_alike_as_told, .func (PySem.W.fnOf "alike_as_told" "alike_as_told" (defArgs s_alike_as_told) (defBody s_alike_as_told) (defScope s_alike_as_told) .none kV_alike_as_told dc_alike_as_told pm_alike_as_told an_alike_as_told cd_alike_as_told ct_alike_as_told), sl_alike_as_told⟩) (k_alike_as_told : PySem.W.codeIn K cd_alike_as_told "alike_as_told" = true) (p_alike_as_told : PySem.W.keepIn K (.ref f_alike_as_told) = true)
    (a_table_as_told : PySem.W.nsIn K mainGlobals "table_as_told" = some (some (.ref f_table_as_told))) (l_table_as_told : K.lookup f_table_as_told = some ⟨oc_table_as_told, od_table_as_told, .func (PySem.W.fnOf "table_as_told" "table_as_told" (defArgs s_table_as_told) (defBody s_table_as_told) (defScope s_table_as_told) .none kV_table_as_told dc_table_as_told pm_table_as_told an_table_as_told cd_table_as_told ct_table_as_told), sl_table_as_told⟩) (k_table_as_told : PySem.W.codeIn K cd_table_as_told "table_as_told" = true) (p_table_as_told : PySem.W.keepIn K (.ref f_table_as_told) = true)
    (a_catalogue_as_told : PySem.W.nsIn K mainGlobals "catalogue_as_told" = some (some (.ref f_catalogue_as_told))) (l_catalogue_as_told : K.lookup f_catalogue_as_told = some ⟨oc_catalogue_as_told, od_catalogue_as_told, .func (PySem.W.fnOf "catalogue_as_told" "catalogue_as_told" (defArgs s_catalogue_as_told) (defBody s_catalogue_as_told) (defScope s_catalogue_as_told) .none kV_catalogue_as_told dc_catalogue_as_told pm_catalogue_as_told an_catalogue_as_told cd_catalogue_as_told ct_catalogue_as_told), sl_catalogue_as_told⟩) (k_catalogue_as_told : PySem.W.codeIn K cd_catalogue_as_told "catalogue_as_told" = true) (p_catalogue_as_told : PySem.W.keepIn K (.ref f_catalogue_as_told) = true)
    (a_a_of : PySem.W.nsIn K mainGlobals "a_of" = some (some (.ref f_a_of))) (l_a_of : K.lookup f_a_of = some ⟨oc_a_of, od_a_of, .func (PySem.W.fnOf "a_of" "a_of" (defArgs s_a_of) (defBody s_a_of) (defScope s_a_of) .none kV_a_of dc_a_of pm_a_of an_a_of cd_a_of ct_a_of), sl_a_of⟩) (k_a_of : PySem.W.codeIn K cd_a_of "a_of" = true) (p_a_of : PySem.W.keepIn K (.ref f_a_of) = true)
    (a_i_of : PySem.W.nsIn K mainGlobals "i_of" = some (some (.ref f_i_of))) (l_i_of : K.lookup f_i_of = some ⟨oc_i_of, od_i_of, .func (PySem.W.fnOf "i_of" "i_of" (defArgs s_i_of) (defBody s_i_of) (defScope s_i_of) .none kV_i_of dc_i_of pm_i_of an_i_of cd_i_of ct_i_of), sl_i_of⟩) (k_i_of : PySem.W.codeIn K cd_i_of "i_of" = true) (p_i_of : PySem.W.keepIn K (.ref f_i_of) = true)
    (a_op_of : PySem.W.nsIn K mainGlobals "op_of" = some (some (.ref f_op_of))) (l_op_of : K.lookup f_op_of = some ⟨oc_op_of, od_op_of, .func (PySem.W.fnOf "op_of" "op_of" (defArgs s_op_of) (defBody s_op_of) (defScope s_op_of) .none kV_op_of dc_op_of pm_op_of an_op_of cd_op_of ct_op_of), sl_op_of⟩) (k_op_of : PySem.W.codeIn K cd_op_of "op_of" = true) (p_op_of : PySem.W.keepIn K (.ref f_op_of) = true)
    (a_b_of : PySem.W.nsIn K mainGlobals "b_of" = some (some (.ref f_b_of))) (l_b_of : K.lookup f_b_of = some ⟨oc_b_of, od_b_of, .func (PySem.W.fnOf "b_of" "b_of" (defArgs s_b_of) (defBody s_b_of) (defScope s_b_of) .none kV_b_of dc_b_of pm_b_of an_b_of cd_b_of ct_b_of), sl_b_of⟩) (k_b_of : PySem.W.codeIn K cd_b_of "b_of" = true) (p_b_of : PySem.W.keepIn K (.ref f_b_of) = true)
    (a_j_of : PySem.W.nsIn K mainGlobals "j_of" = some (some (.ref f_j_of))) (l_j_of : K.lookup f_j_of = some ⟨oc_j_of, od_j_of, .func (PySem.W.fnOf "j_of" "j_of" (defArgs s_j_of) (defBody s_j_of) (defScope s_j_of) .none kV_j_of dc_j_of pm_j_of an_j_of cd_j_of ct_j_of), sl_j_of⟩) (k_j_of : PySem.W.codeIn K cd_j_of "j_of" = true) (p_j_of : PySem.W.keepIn K (.ref f_j_of) = true)
    (a_out_place_of : PySem.W.nsIn K mainGlobals "out_place_of" = some (some (.ref f_out_place_of))) (l_out_place_of : K.lookup f_out_place_of = some ⟨oc_out_place_of, od_out_place_of, .func (PySem.W.fnOf "out_place_of" "out_place_of" (defArgs s_out_place_of) (defBody s_out_place_of) (defScope s_out_place_of) .none kV_out_place_of dc_out_place_of pm_out_place_of an_out_place_of cd_out_place_of ct_out_place_of), sl_out_place_of⟩) (k_out_place_of : PySem.W.codeIn K cd_out_place_of "out_place_of" = true) (p_out_place_of : PySem.W.keepIn K (.ref f_out_place_of) = true)
    (a_out_column_of : PySem.W.nsIn K mainGlobals "out_column_of" = some (some (.ref f_out_column_of))) (l_out_column_of : K.lookup f_out_column_of = some ⟨oc_out_column_of, od_out_column_of, .func (PySem.W.fnOf "out_column_of" "out_column_of" (defArgs s_out_column_of) (defBody s_out_column_of) (defScope s_out_column_of) .none kV_out_column_of dc_out_column_of pm_out_column_of an_out_column_of cd_out_column_of ct_out_column_of), sl_out_column_of⟩) (k_out_column_of : PySem.W.codeIn K cd_out_column_of "out_column_of" = true) (p_out_column_of : PySem.W.keepIn K (.ref f_out_column_of) = true)
    (a_counts_as_told : PySem.W.nsIn K mainGlobals "counts_as_told" = some (some (.ref f_counts_as_told))) (l_counts_as_told : K.lookup f_counts_as_told = some ⟨oc_counts_as_told, od_counts_as_told, .func (PySem.W.fnOf "counts_as_told" "counts_as_told" (defArgs s_counts_as_told) (defBody s_counts_as_told) (defScope s_counts_as_told) .none kV_counts_as_told dc_counts_as_told pm_counts_as_told an_counts_as_told cd_counts_as_told ct_counts_as_told), sl_counts_as_told⟩) (k_counts_as_told : PySem.W.codeIn K cd_counts_as_told "counts_as_told" = true) (p_counts_as_told : PySem.W.keepIn K (.ref f_counts_as_told) = true)
    (a_places_right : PySem.W.nsIn K mainGlobals "places_right" = some (some (.ref f_places_right))) (l_places_right : K.lookup f_places_right = some ⟨oc_places_right, od_places_right, .func (PySem.W.fnOf "places_right" "places_right" (defArgs s_places_right) (defBody s_places_right) (defScope s_places_right) .none kV_places_right dc_places_right pm_places_right an_places_right cd_places_right ct_places_right), sl_places_right⟩) (k_places_right : PySem.W.codeIn K cd_places_right "places_right" = true) (p_places_right : PySem.W.keepIn K (.ref f_places_right) = true)
    (a_column_there : PySem.W.nsIn K mainGlobals "column_there" = some (some (.ref f_column_there))) (l_column_there : K.lookup f_column_there = some ⟨oc_column_there, od_column_there, .func (PySem.W.fnOf "column_there" "column_there" (defArgs s_column_there) (defBody s_column_there) (defScope s_column_there) .none kV_column_there dc_column_there pm_column_there an_column_there cd_column_there ct_column_there), sl_column_there⟩) (k_column_there : PySem.W.codeIn K cd_column_there "column_there" = true) (p_column_there : PySem.W.keepIn K (.ref f_column_there) = true)
    (a_cond_right : PySem.W.nsIn K mainGlobals "cond_right" = some (some (.ref f_cond_right))) (l_cond_right : K.lookup f_cond_right = some ⟨oc_cond_right, od_cond_right, .func (PySem.W.fnOf "cond_right" "cond_right" (defArgs s_cond_right) (defBody s_cond_right) (defScope s_cond_right) .none kV_cond_right dc_cond_right pm_cond_right an_cond_right cd_cond_right ct_cond_right), sl_cond_right⟩) (k_cond_right : PySem.W.codeIn K cd_cond_right "cond_right" = true) (p_cond_right : PySem.W.keepIn K (.ref f_cond_right) = true)
    (a_conds_right : PySem.W.nsIn K mainGlobals "conds_right" = some (some (.ref f_conds_right))) (l_conds_right : K.lookup f_conds_right = some ⟨oc_conds_right, od_conds_right, .func (PySem.W.fnOf "conds_right" "conds_right" (defArgs s_conds_right) (defBody s_conds_right) (defScope s_conds_right) .none kV_conds_right dc_conds_right pm_conds_right an_conds_right cd_conds_right ct_conds_right), sl_conds_right⟩) (k_conds_right : PySem.W.codeIn K cd_conds_right "conds_right" = true) (p_conds_right : PySem.W.keepIn K (.ref f_conds_right) = true)
    (a_outs_right : PySem.W.nsIn K mainGlobals "outs_right" = some (some (.ref f_outs_right))) (l_outs_right : K.lookup f_outs_right = some ⟨oc_outs_right, od_outs_right, .func (PySem.W.fnOf "outs_right" "outs_right" (defArgs s_outs_right) (defBody s_outs_right) (defScope s_outs_right) .none kV_outs_right dc_outs_right pm_outs_right an_outs_right cd_outs_right ct_outs_right), sl_outs_right⟩) (k_outs_right : PySem.W.codeIn K cd_outs_right "outs_right" = true) (p_outs_right : PySem.W.keepIn K (.ref f_outs_right) = true)
    (a_question_right : PySem.W.nsIn K mainGlobals "question_right" = some (some (.ref f_question_right))) (l_question_right : K.lookup f_question_right = some ⟨oc_question_right, od_question_right, .func (PySem.W.fnOf "question_right" "question_right" (defArgs s_question_right) (defBody s_question_right) (defScope s_question_right) .none kV_question_right dc_question_right pm_question_right an_question_right cd_question_right ct_question_right), sl_question_right⟩) (k_question_right : PySem.W.codeIn K cd_question_right "question_right" = true) (p_question_right : PySem.W.keepIn K (.ref f_question_right) = true)
    (a_tied_column : PySem.W.nsIn K mainGlobals "tied_column" = some (some (.ref f_tied_column))) (l_tied_column : K.lookup f_tied_column = some ⟨oc_tied_column, od_tied_column, .func (PySem.W.fnOf "tied_column" "tied_column" (defArgs s_tied_column) (defBody s_tied_column) (defScope s_tied_column) .none kV_tied_column dc_tied_column pm_tied_column an_tied_column cd_tied_column ct_tied_column), sl_tied_column⟩) (k_tied_column : PySem.W.codeIn K cd_tied_column "tied_column" = true) (p_tied_column : PySem.W.keepIn K (.ref f_tied_column) = true)
    (a_lookup_right : PySem.W.nsIn K mainGlobals "lookup_right" = some (some (.ref f_lookup_right))) (l_lookup_right : K.lookup f_lookup_right = some ⟨oc_lookup_right, od_lookup_right, .func (PySem.W.fnOf "lookup_right" "lookup_right" (defArgs s_lookup_right) (defBody s_lookup_right) (defScope s_lookup_right) .none kV_lookup_right dc_lookup_right pm_lookup_right an_lookup_right cd_lookup_right ct_lookup_right), sl_lookup_right⟩) (k_lookup_right : PySem.W.codeIn K cd_lookup_right "lookup_right" = true) (p_lookup_right : PySem.W.keepIn K (.ref f_lookup_right) = true)
    (a_parts_rounded_up : PySem.W.nsIn K mainGlobals "parts_rounded_up" = some (some (.ref f_parts_rounded_up))) (l_parts_rounded_up : K.lookup f_parts_rounded_up = some ⟨oc_parts_rounded_up, od_parts_rounded_up, .func (PySem.W.fnOf "parts_rounded_up" "parts_rounded_up" (defArgs s_parts_rounded_up) (defBody s_parts_rounded_up) (defScope s_parts_rounded_up) .none kV_parts_rounded_up dc_parts_rounded_up pm_parts_rounded_up an_parts_rounded_up cd_parts_rounded_up ct_parts_rounded_up), sl_parts_rounded_up⟩) (k_parts_rounded_up : PySem.W.codeIn K cd_parts_rounded_up "parts_rounded_up" = true) (p_parts_rounded_up : PySem.W.keepIn K (.ref f_parts_rounded_up) = true)
    (a_scan_pages : PySem.W.nsIn K mainGlobals "scan_pages" = some (some (.ref f_scan_pages))) (l_scan_pages : K.lookup f_scan_pages = some ⟨oc_scan_pages, od_scan_pages, .func (PySem.W.fnOf "scan_pages" "scan_pages" (defArgs s_scan_pages) (defBody s_scan_pages) (defScope s_scan_pages) .none kV_scan_pages dc_scan_pages pm_scan_pages an_scan_pages cd_scan_pages ct_scan_pages), sl_scan_pages⟩) (k_scan_pages : PySem.W.codeIn K cd_scan_pages "scan_pages" = true) (p_scan_pages : PySem.W.keepIn K (.ref f_scan_pages) = true)
    (a_lookup_pages : PySem.W.nsIn K mainGlobals "lookup_pages" = some (some (.ref f_lookup_pages))) (l_lookup_pages : K.lookup f_lookup_pages = some ⟨oc_lookup_pages, od_lookup_pages, .func (PySem.W.fnOf "lookup_pages" "lookup_pages" (defArgs s_lookup_pages) (defBody s_lookup_pages) (defScope s_lookup_pages) .none kV_lookup_pages dc_lookup_pages pm_lookup_pages an_lookup_pages cd_lookup_pages ct_lookup_pages), sl_lookup_pages⟩) (k_lookup_pages : PySem.W.codeIn K cd_lookup_pages "lookup_pages" = true) (p_lookup_pages : PySem.W.keepIn K (.ref f_lookup_pages) = true)
    (a_step_pages : PySem.W.nsIn K mainGlobals "step_pages" = some (some (.ref f_step_pages))) (l_step_pages : K.lookup f_step_pages = some ⟨oc_step_pages, od_step_pages, .func (PySem.W.fnOf "step_pages" "step_pages" (defArgs s_step_pages) (defBody s_step_pages) (defScope s_step_pages) .none kV_step_pages dc_step_pages pm_step_pages an_step_pages cd_step_pages ct_step_pages), sl_step_pages⟩) (k_step_pages : PySem.W.codeIn K cd_step_pages "step_pages" = true) (p_step_pages : PySem.W.keepIn K (.ref f_step_pages) = true)
    (a_most_rows_found : PySem.W.nsIn K mainGlobals "most_rows_found" = some (some (.ref f_most_rows_found))) (l_most_rows_found : K.lookup f_most_rows_found = some ⟨oc_most_rows_found, od_most_rows_found, .func (PySem.W.fnOf "most_rows_found" "most_rows_found" (defArgs s_most_rows_found) (defBody s_most_rows_found) (defScope s_most_rows_found) .none kV_most_rows_found dc_most_rows_found pm_most_rows_found an_most_rows_found cd_most_rows_found ct_most_rows_found), sl_most_rows_found⟩) (k_most_rows_found : PySem.W.codeIn K cd_most_rows_found "most_rows_found" = true) (p_most_rows_found : PySem.W.keepIn K (.ref f_most_rows_found) = true)
    (a_rows_coming : PySem.W.nsIn K mainGlobals "rows_coming" = some (some (.ref f_rows_coming))) (l_rows_coming : K.lookup f_rows_coming = some ⟨oc_rows_coming, od_rows_coming, .func (PySem.W.fnOf "rows_coming" "rows_coming" (defArgs s_rows_coming) (defBody s_rows_coming) (defScope s_rows_coming) .none kV_rows_coming dc_rows_coming pm_rows_coming an_rows_coming cd_rows_coming ct_rows_coming), sl_rows_coming⟩) (k_rows_coming : PySem.W.codeIn K cd_rows_coming "rows_coming" = true) (p_rows_coming : PySem.W.keepIn K (.ref f_rows_coming) = true)
    (a_plan_cost : PySem.W.nsIn K mainGlobals "plan_cost" = some (some (.ref f_plan_cost))) (l_plan_cost : K.lookup f_plan_cost = some ⟨oc_plan_cost, od_plan_cost, .func (PySem.W.fnOf "plan_cost" "plan_cost" (defArgs s_plan_cost) (defBody s_plan_cost) (defScope s_plan_cost) .none kV_plan_cost dc_plan_cost pm_plan_cost an_plan_cost cd_plan_cost ct_plan_cost), sl_plan_cost⟩) (k_plan_cost : PySem.W.codeIn K cd_plan_cost "plan_cost" = true) (p_plan_cost : PySem.W.keepIn K (.ref f_plan_cost) = true)
    (a_longer_orders : PySem.W.nsIn K mainGlobals "longer_orders" = some (some (.ref f_longer_orders))) (l_longer_orders : K.lookup f_longer_orders = some ⟨oc_longer_orders, od_longer_orders, .func (PySem.W.fnOf "longer_orders" "longer_orders" (defArgs s_longer_orders) (defBody s_longer_orders) (defScope s_longer_orders) .none kV_longer_orders dc_longer_orders pm_longer_orders an_longer_orders cd_longer_orders ct_longer_orders), sl_longer_orders⟩) (k_longer_orders : PySem.W.codeIn K cd_longer_orders "longer_orders" = true) (p_longer_orders : PySem.W.keepIn K (.ref f_longer_orders) = true)
    (a_every_order : PySem.W.nsIn K mainGlobals "every_order" = some (some (.ref f_every_order))) (l_every_order : K.lookup f_every_order = some ⟨oc_every_order, od_every_order, .func (PySem.W.fnOf "every_order" "every_order" (defArgs s_every_order) (defBody s_every_order) (defScope s_every_order) .none kV_every_order dc_every_order pm_every_order an_every_order cd_every_order ct_every_order), sl_every_order⟩) (k_every_order : PySem.W.codeIn K cd_every_order "every_order" = true) (p_every_order : PySem.W.keepIn K (.ref f_every_order) = true)
    (a_every_way : PySem.W.nsIn K mainGlobals "every_way" = some (some (.ref f_every_way))) (l_every_way : K.lookup f_every_way = some ⟨oc_every_way, od_every_way, .func (PySem.W.fnOf "every_way" "every_way" (defArgs s_every_way) (defBody s_every_way) (defScope s_every_way) .none kV_every_way dc_every_way pm_every_way an_every_way cd_every_way ct_every_way), sl_every_way⟩) (k_every_way : PySem.W.codeIn K cd_every_way "every_way" = true) (p_every_way : PySem.W.keepIn K (.ref f_every_way) = true)
    (a_best_way : PySem.W.nsIn K mainGlobals "best_way" = some (some (.ref f_best_way))) (l_best_way : K.lookup f_best_way = some ⟨oc_best_way, od_best_way, .func (PySem.W.fnOf "best_way" "best_way" (defArgs s_best_way) (defBody s_best_way) (defScope s_best_way) .none kV_best_way dc_best_way pm_best_way an_best_way cd_best_way ct_best_way), sl_best_way⟩) (k_best_way : PySem.W.codeIn K cd_best_way "best_way" = true) (p_best_way : PySem.W.keepIn K (.ref f_best_way) = true)
    (a_best_by : PySem.W.nsIn K mainGlobals "best_by" = some (some (.ref f_best_by))) (l_best_by : K.lookup f_best_by = some ⟨oc_best_by, od_best_by, .func (PySem.W.fnOf "best_by" "best_by" (defArgs s_best_by) (defBody s_best_by) (defScope s_best_by) .none kV_best_by dc_best_by pm_best_by an_best_by cd_best_by ct_best_by), sl_best_by⟩) (k_best_by : PySem.W.codeIn K cd_best_by "best_by" = true) (p_best_by : PySem.W.keepIn K (.ref f_best_by) = true)
    (a_least_cost : PySem.W.nsIn K mainGlobals "least_cost" = some (some (.ref f_least_cost))) (l_least_cost : K.lookup f_least_cost = some ⟨oc_least_cost, od_least_cost, .func (PySem.W.fnOf "least_cost" "least_cost" (defArgs s_least_cost) (defBody s_least_cost) (defScope s_least_cost) .none kV_least_cost dc_least_cost pm_least_cost an_least_cost cd_least_cost ct_least_cost), sl_least_cost⟩) (k_least_cost : PySem.W.codeIn K cd_least_cost "least_cost" = true) (p_least_cost : PySem.W.keepIn K (.ref f_least_cost) = true)
    (a_best_order : PySem.W.nsIn K mainGlobals "best_order" = some (some (.ref f_best_order))) (l_best_order : K.lookup f_best_order = some ⟨oc_best_order, od_best_order, .func (PySem.W.fnOf "best_order" "best_order" (defArgs s_best_order) (defBody s_best_order) (defScope s_best_order) .none kV_best_order dc_best_order pm_best_order an_best_order cd_best_order ct_best_order), sl_best_order⟩) (k_best_order : PySem.W.codeIn K cd_best_order "best_order" = true) (p_best_order : PySem.W.keepIn K (.ref f_best_order) = true)
    (a_all_right : PySem.W.nsIn K mainGlobals "all_right" = some (some (.ref f_all_right))) (l_all_right : K.lookup f_all_right = some ⟨oc_all_right, od_all_right, .func (PySem.W.fnOf "all_right" "all_right" (defArgs s_all_right) (defBody s_all_right) (defScope s_all_right) .none kV_all_right dc_all_right pm_all_right an_all_right cd_all_right ct_all_right), sl_all_right⟩) (k_all_right : PySem.W.codeIn K cd_all_right "all_right" = true) (p_all_right : PySem.W.keepIn K (.ref f_all_right) = true)
    (a_row_told : PySem.W.nsIn K mainGlobals "row_told" = some (some (.ref f_row_told))) (l_row_told : K.lookup f_row_told = some ⟨oc_row_told, od_row_told, .func (PySem.W.fnOf "row_told" "row_told" (defArgs s_row_told) (defBody s_row_told) (defScope s_row_told) .none kV_row_told dc_row_told pm_row_told an_row_told cd_row_told ct_row_told), sl_row_told⟩) (k_row_told : PySem.W.codeIn K cd_row_told "row_told" = true) (p_row_told : PySem.W.keepIn K (.ref f_row_told) = true)
    (a_db_best : PySem.W.nsIn K mainGlobals "db_best" = some (some (.ref f_db_best))) (l_db_best : K.lookup f_db_best = some ⟨oc_db_best, od_db_best, .func (PySem.W.fnOf "db_best" "db_best" (defArgs s_db_best) (defBody s_db_best) (defScope s_db_best) .none kV_db_best dc_db_best pm_db_best an_db_best cd_db_best ct_db_best), sl_db_best⟩) (k_db_best : PySem.W.codeIn K cd_db_best "db_best" = true) (p_db_best : PySem.W.keepIn K (.ref f_db_best) = true)
    : ∃ fd : FuncData, (∀ (s : Shared) (us : List Value), us.length = (["ctables", "cnone", "qtables", "qconds", "qouts", "qnone", "ctable", "qtable", "qcond", "qout"] : List Str).length → BindsTo s fd ⟨us, []⟩ ((["ctables", "cnone", "qtables", "qconds", "qouts", "qnone", "ctable", "qtable", "qcond", "qout"] : List Str).zip us)) ∧ ∀ base : Heap, K.In base → base.Ns mainGlobals mg → FnOk P w K mg base CX0 10 fa fd ["ctables", "cnone", "qtables", "qconds", "qouts", "qnone", "ctable", "qtable", "qcond", "qout"] (spBest K) := by
  have T : Txt mg := ⟨PySem.W.mg_none_of X G r, PySem.W.mg_none_of X G b_min, PySem.W.mg_none_of X G b_len, ci_mk X G c_MOST_TABLES, ci_mk X G c_MOST_COLS, ci_mk X G c_MOST_ROWS, ci_mk X G c_MOST_ALIKE, ci_mk X G c_FIRST_TABLE, ci_mk X G c_TABLE_LENGTH, ci_mk X G c_ROWS, ci_mk X G c_INDEXED, ci_mk X G c_NONE, ci_mk X G c_FIRST_ALIKE, ci_mk X G c_MOST_PLACES, ci_mk X G c_MOST_CONDS, ci_mk X G c_MOST_OUTS, ci_mk X G c_EQUAL, ci_mk X G c_LAST_OP, ci_mk X G c_NO_PLACE, ci_mk X G c_COND_LENGTH, ci_mk X G c_OUT_LENGTH, ci_mk X G c_SCANNED, ci_mk X G c_NO_COLUMN, ci_mk X G c_ROWS_A_PAGE, ci_mk X G c_ENTRIES_A_PAGE, ci_mk X G c_MORE_A_LOOKUP, ci_mk X G c_NUMBER_ALONE, ci_mk X G c_NUMBER_AND_PLAN, ci_mk X G c_NOT_RIGHT, ci_mk X G c_BEHIND⟩
  have D : Defs K mg := ⟨def_mk X G a_table_start l_table_start k_table_start p_table_start, def_mk X G a_cols_of l_cols_of k_cols_of p_cols_of, def_mk X G a_rows_of l_rows_of k_rows_of p_rows_of, def_mk X G a_indexed_of l_indexed_of k_indexed_of p_indexed_of, def_mk X G a_none_of l_none_of k_none_of p_none_of, def_mk X G a_alike_of l_alike_of k_alike_of p_alike_of, def_mk X G a_column_indexed l_column_indexed k_column_indexed p_column_indexed, def_mk X G a_alike_as_told l_alike_as_told k_alike_as_told p_alike_as_told, def_mk X G a_table_as_told l_table_as_told k_table_as_told p_table_as_told, def_mk X G a_catalogue_as_told l_catalogue_as_told k_catalogue_as_told p_catalogue_as_told, def_mk X G a_a_of l_a_of k_a_of p_a_of, def_mk X G a_i_of l_i_of k_i_of p_i_of, def_mk X G a_op_of l_op_of k_op_of p_op_of, def_mk X G a_b_of l_b_of k_b_of p_b_of, def_mk X G a_j_of l_j_of k_j_of p_j_of, def_mk X G a_out_place_of l_out_place_of k_out_place_of p_out_place_of, def_mk X G a_out_column_of l_out_column_of k_out_column_of p_out_column_of, def_mk X G a_counts_as_told l_counts_as_told k_counts_as_told p_counts_as_told, def_mk X G a_places_right l_places_right k_places_right p_places_right, def_mk X G a_column_there l_column_there k_column_there p_column_there, def_mk X G a_cond_right l_cond_right k_cond_right p_cond_right, def_mk X G a_conds_right l_conds_right k_conds_right p_conds_right, def_mk X G a_outs_right l_outs_right k_outs_right p_outs_right, def_mk X G a_question_right l_question_right k_question_right p_question_right, def_mk X G a_tied_column l_tied_column k_tied_column p_tied_column, def_mk X G a_lookup_right l_lookup_right k_lookup_right p_lookup_right, def_mk X G a_parts_rounded_up l_parts_rounded_up k_parts_rounded_up p_parts_rounded_up, def_mk X G a_scan_pages l_scan_pages k_scan_pages p_scan_pages, def_mk X G a_lookup_pages l_lookup_pages k_lookup_pages p_lookup_pages, def_mk X G a_step_pages l_step_pages k_step_pages p_step_pages, def_mk X G a_most_rows_found l_most_rows_found k_most_rows_found p_most_rows_found, def_mk X G a_rows_coming l_rows_coming k_rows_coming p_rows_coming, def_mk X G a_plan_cost l_plan_cost k_plan_cost p_plan_cost, def_mk X G a_longer_orders l_longer_orders k_longer_orders p_longer_orders, def_mk X G a_every_order l_every_order k_every_order p_every_order, def_mk X G a_every_way l_every_way k_every_way p_every_way, def_mk X G a_best_way l_best_way k_best_way p_best_way, def_mk X G a_best_by l_best_by k_best_by p_best_by, def_mk X G a_least_cost l_least_cost k_least_cost p_least_cost, def_mk X G a_best_order l_best_order k_best_order p_best_order, def_mk X G a_all_right l_all_right k_all_right p_all_right, def_mk X G a_row_told l_row_told k_row_told p_row_told, def_mk X G a_db_best l_db_best k_db_best p_db_best⟩
  have e := hfa.symm.trans (PySem.W.mg_of X G a_db_best)
  cases e
  exact ⟨_, fun s us hu => match us, hu with | [_, _, _, _, _, _, _, _, _, _], _ => .of_eq rfl, fun base _ _ => all_defs T D (fun_mk l_db_best k_db_best p_db_best)⟩
end Prog

open PySem PySem.W PyProof.Rows
set_option maxRecDepth 100000 in
set_option maxHeartbeats 0 in
theorem PySem.Challenge.cw_plancost_s03_db_best_holds : PySem.Challenge.rw_plancost_s03_db_best.Holds := by
  w_on; k_headS; (case hw => exact ⟨[.int 0, .int 0, .int 0, .int 0, .int 0, .int 0, .list (WData.int 8 :: (List.replicate 8 [WData.int 0, .int 0, .int 0, .int 0, .int 4, .int 0, .int 0, .int 0, .int 0]).flatten), .list (List.replicate 8 (WData.int 0)), .list (List.replicate 60 (WData.int 0)), .list (List.replicate 16 (WData.int 0))], by decide +kernel, by decide +kernel⟩)
  k_fillS
  refine L2.walk_specK (r := PySem.Challenge.rw_plancost_s03_db_best) (k := 10) (CX := L2.CX0) (ps := ["ctables", "cnone", "qtables", "qconds", "qouts", "qnone", "ctable", "qtable", "qcond", "qout"]) (sp := Prog.spBest) (by decide +kernel) rfl rfl ⟨rfl, by decide, by decide⟩ (fun w h Y => PySem.W.kIn_of Y) ?F ?S (fun _ _ _ _ z => z)
  case F =>
    intro w mg fa h Y KX G hmg
    refine' Prog.all_mk KX G hmg ?r ?b_min ?b_len ?c_MOST_TABLES ?c_MOST_COLS ?c_MOST_ROWS ?c_MOST_ALIKE ?c_FIRST_TABLE ?c_TABLE_LENGTH ?c_ROWS ?c_INDEXED ?c_NONE ?c_FIRST_ALIKE ?c_MOST_PLACES ?c_MOST_CONDS ?c_MOST_OUTS ?c_EQUAL ?c_LAST_OP ?c_NO_PLACE ?c_COND_LENGTH ?c_OUT_LENGTH ?c_SCANNED ?c_NO_COLUMN ?c_ROWS_A_PAGE ?c_ENTRIES_A_PAGE ?c_MORE_A_LOOKUP ?c_NUMBER_ALONE ?c_NUMBER_AND_PLAN ?c_NOT_RIGHT ?c_BEHIND ?a_table_start ?l_table_start ?k_table_start ?p_table_start ?a_cols_of ?l_cols_of ?k_cols_of ?p_cols_of ?a_rows_of ?l_rows_of ?k_rows_of ?p_rows_of ?a_indexed_of ?l_indexed_of ?k_indexed_of ?p_indexed_of ?a_none_of ?l_none_of ?k_none_of ?p_none_of ?a_alike_of ?l_alike_of ?k_alike_of ?p_alike_of ?a_column_indexed ?l_column_indexed ?k_column_indexed ?p_column_indexed ?a_alike_as_told ?l_alike_as_told ?k_alike_as_told ?p_alike_as_told ?a_table_as_told ?l_table_as_told ?k_table_as_told ?p_table_as_told ?a_catalogue_as_told ?l_catalogue_as_told ?k_catalogue_as_told ?p_catalogue_as_told ?a_a_of ?l_a_of ?k_a_of ?p_a_of ?a_i_of ?l_i_of ?k_i_of ?p_i_of ?a_op_of ?l_op_of ?k_op_of ?p_op_of ?a_b_of ?l_b_of ?k_b_of ?p_b_of ?a_j_of ?l_j_of ?k_j_of ?p_j_of ?a_out_place_of ?l_out_place_of ?k_out_place_of ?p_out_place_of ?a_out_column_of ?l_out_column_of ?k_out_column_of ?p_out_column_of ?a_counts_as_told ?l_counts_as_told ?k_counts_as_told ?p_counts_as_told ?a_places_right ?l_places_right ?k_places_right ?p_places_right ?a_column_there ?l_column_there ?k_column_there ?p_column_there ?a_cond_right ?l_cond_right ?k_cond_right ?p_cond_right ?a_conds_right ?l_conds_right ?k_conds_right ?p_conds_right ?a_outs_right ?l_outs_right ?k_outs_right ?p_outs_right ?a_question_right ?l_question_right ?k_question_right ?p_question_right ?a_tied_column ?l_tied_column ?k_tied_column ?p_tied_column ?a_lookup_right ?l_lookup_right ?k_lookup_right ?p_lookup_right ?a_parts_rounded_up ?l_parts_rounded_up ?k_parts_rounded_up ?p_parts_rounded_up ?a_scan_pages ?l_scan_pages ?k_scan_pages ?p_scan_pages ?a_lookup_pages ?l_lookup_pages ?k_lookup_pages ?p_lookup_pages ?a_step_pages ?l_step_pages ?k_step_pages ?p_step_pages ?a_most_rows_found ?l_most_rows_found ?k_most_rows_found ?p_most_rows_found ?a_rows_coming ?l_rows_coming ?k_rows_coming ?p_rows_coming ?a_plan_cost ?l_plan_cost ?k_plan_cost ?p_plan_cost ?a_longer_orders ?l_longer_orders ?k_longer_orders ?p_longer_orders ?a_every_order ?l_every_order ?k_every_order ?p_every_order ?a_every_way ?l_every_way ?k_every_way ?p_every_way ?a_best_way ?l_best_way ?k_best_way ?p_best_way ?a_best_by ?l_best_by ?k_best_by ?p_best_by ?a_least_cost ?l_least_cost ?k_least_cost ?p_least_cost ?a_best_order ?l_best_order ?k_best_order ?p_best_order ?a_all_right ?l_all_right ?k_all_right ?p_all_right ?a_row_told ?l_row_told ?k_row_told ?p_row_told ?a_db_best ?l_db_best ?k_db_best ?p_db_best
    (case r => k_is); (case b_min => k_is); (case b_len => k_is); (case c_MOST_TABLES => k_is); (case c_MOST_COLS => k_is); (case c_MOST_ROWS => k_is)
    (case c_MOST_ALIKE => k_is); (case c_FIRST_TABLE => k_is); (case c_TABLE_LENGTH => k_is); (case c_ROWS => k_is); (case c_INDEXED => k_is); (case c_NONE => k_is)
    (case c_FIRST_ALIKE => k_is); (case c_MOST_PLACES => k_is); (case c_MOST_CONDS => k_is); (case c_MOST_OUTS => k_is); (case c_EQUAL => k_is); (case c_LAST_OP => k_is)
    (case c_NO_PLACE => k_is); (case c_COND_LENGTH => k_is); (case c_OUT_LENGTH => k_is); (case c_SCANNED => k_is); (case c_NO_COLUMN => k_is); (case c_ROWS_A_PAGE => k_is)
    (case c_ENTRIES_A_PAGE => k_is); (case c_MORE_A_LOOKUP => k_is); (case c_NUMBER_ALONE => k_is); (case c_NUMBER_AND_PLAN => k_is); (case c_NOT_RIGHT => k_is); (case c_BEHIND => k_is)
    (case a_table_start => k_is); (case l_table_start => k_is); (case k_table_start => k_is); (case p_table_start => k_is); (case a_cols_of => k_is); (case l_cols_of => k_is)
    (case k_cols_of => k_is); (case p_cols_of => k_is); (case a_rows_of => k_is); (case l_rows_of => k_is); (case k_rows_of => k_is); (case p_rows_of => k_is)
    (case a_indexed_of => k_is); (case l_indexed_of => k_is); (case k_indexed_of => k_is); (case p_indexed_of => k_is); (case a_none_of => k_is); (case l_none_of => k_is)
    (case k_none_of => k_is); (case p_none_of => k_is); (case a_alike_of => k_is); (case l_alike_of => k_is); (case k_alike_of => k_is); (case p_alike_of => k_is)
    (case a_column_indexed => k_is); (case l_column_indexed => k_is); (case k_column_indexed => k_is); (case p_column_indexed => k_is); (case a_alike_as_told => k_is); (case l_alike_as_told => k_is)
    (case k_alike_as_told => k_is); (case p_alike_as_told => k_is); (case a_table_as_told => k_is); (case l_table_as_told => k_is); (case k_table_as_told => k_is); (case p_table_as_told => k_is)
    (case a_catalogue_as_told => k_is); (case l_catalogue_as_told => k_is); (case k_catalogue_as_told => k_is); (case p_catalogue_as_told => k_is); (case a_a_of => k_is); (case l_a_of => k_is)
    (case k_a_of => k_is); (case p_a_of => k_is); (case a_i_of => k_is); (case l_i_of => k_is); (case k_i_of => k_is); (case p_i_of => k_is)
    (case a_op_of => k_is); (case l_op_of => k_is); (case k_op_of => k_is); (case p_op_of => k_is); (case a_b_of => k_is); (case l_b_of => k_is)
    (case k_b_of => k_is); (case p_b_of => k_is); (case a_j_of => k_is); (case l_j_of => k_is); (case k_j_of => k_is); (case p_j_of => k_is)
    (case a_out_place_of => k_is); (case l_out_place_of => k_is); (case k_out_place_of => k_is); (case p_out_place_of => k_is); (case a_out_column_of => k_is); (case l_out_column_of => k_is)
    (case k_out_column_of => k_is); (case p_out_column_of => k_is); (case a_counts_as_told => k_is); (case l_counts_as_told => k_is); (case k_counts_as_told => k_is); (case p_counts_as_told => k_is)
    (case a_places_right => k_is); (case l_places_right => k_is); (case k_places_right => k_is); (case p_places_right => k_is); (case a_column_there => k_is); (case l_column_there => k_is)
    (case k_column_there => k_is); (case p_column_there => k_is); (case a_cond_right => k_is); (case l_cond_right => k_is); (case k_cond_right => k_is); (case p_cond_right => k_is)
    (case a_conds_right => k_is); (case l_conds_right => k_is); (case k_conds_right => k_is); (case p_conds_right => k_is); (case a_outs_right => k_is); (case l_outs_right => k_is)
    (case k_outs_right => k_is); (case p_outs_right => k_is); (case a_question_right => k_is); (case l_question_right => k_is); (case k_question_right => k_is); (case p_question_right => k_is)
    (case a_tied_column => k_is); (case l_tied_column => k_is); (case k_tied_column => k_is); (case p_tied_column => k_is); (case a_lookup_right => k_is); (case l_lookup_right => k_is)
    (case k_lookup_right => k_is); (case p_lookup_right => k_is); (case a_parts_rounded_up => k_is); (case l_parts_rounded_up => k_is); (case k_parts_rounded_up => k_is); (case p_parts_rounded_up => k_is)
    (case a_scan_pages => k_is); (case l_scan_pages => k_is); (case k_scan_pages => k_is); (case p_scan_pages => k_is); (case a_lookup_pages => k_is); (case l_lookup_pages => k_is)
    (case k_lookup_pages => k_is); (case p_lookup_pages => k_is); (case a_step_pages => k_is); (case l_step_pages => k_is); (case k_step_pages => k_is); (case p_step_pages => k_is)
    (case a_most_rows_found => k_is); (case l_most_rows_found => k_is); (case k_most_rows_found => k_is); (case p_most_rows_found => k_is); (case a_rows_coming => k_is); (case l_rows_coming => k_is)
    (case k_rows_coming => k_is); (case p_rows_coming => k_is); (case a_plan_cost => k_is); (case l_plan_cost => k_is); (case k_plan_cost => k_is); (case p_plan_cost => k_is)
    (case a_longer_orders => k_is); (case l_longer_orders => k_is); (case k_longer_orders => k_is); (case p_longer_orders => k_is); (case a_every_order => k_is); (case l_every_order => k_is)
    (case k_every_order => k_is); (case p_every_order => k_is); (case a_every_way => k_is); (case l_every_way => k_is); (case k_every_way => k_is); (case p_every_way => k_is)
    (case a_best_way => k_is); (case l_best_way => k_is); (case k_best_way => k_is); (case p_best_way => k_is); (case a_best_by => k_is); (case l_best_by => k_is)
    (case k_best_by => k_is); (case p_best_by => k_is); (case a_least_cost => k_is); (case l_least_cost => k_is); (case k_least_cost => k_is); (case p_least_cost => k_is)
    (case a_best_order => k_is); (case l_best_order => k_is); (case k_best_order => k_is); (case p_best_order => k_is); (case a_all_right => k_is); (case l_all_right => k_is)
    (case k_all_right => k_is); (case p_all_right => k_is); (case a_row_told => k_is); (case l_row_told => k_is); (case k_row_told => k_is); (case p_row_told => k_is)
    (case a_db_best => k_is); (case l_db_best => k_is); (case k_db_best => k_is); (case p_db_best => k_is)
  case S =>
    intro K H xs a hO hwi hask hx
    obtain ⟨s0, s1, s4, s5, s6, s7, ct, qt, qc, qo, u⟩ := a
    have hx' : L2.DwAll K H xs [WData.int s0, WData.int s1, WData.int s4, WData.int s5, WData.int s6, WData.int s7, WData.list (ct.map WData.int), WData.list (qt.map WData.int), WData.list (qc.map WData.int), WData.list (qo.map WData.int)] := hx
    obtain ⟨a1, a2, a3, a4, rfl, hS1, hS2, hS3, hS4⟩ := Prog.args_inv hx'
    have q : (Codec.inInt 0 9223372036854775807 s0 && (Codec.inInt 0 9223372036854775807 s1 && (Codec.inInt 0 9223372036854775807 s4 && (Codec.inInt 0 9223372036854775807 s5 && (Codec.inInt 0 9223372036854775807 s6 && (Codec.inInt 0 9223372036854775807 s7 && ((Codec.inLen 73 73 ct && ct.all (Codec.inInt 0 9223372036854775807)) && ((Codec.inLen 8 8 qt && qt.all (Codec.inInt 0 9223372036854775807)) && ((Codec.inLen 60 60 qc && qc.all (Codec.inInt (-2147483648) 9223372036854775807)) && ((Codec.inLen 16 16 qo && qo.all (Codec.inInt 0 9223372036854775807)) && true)))))))))) = true := hwi
    simp only [Bool.and_eq_true, Codec.inInt_iff, List.all_eq_true] at q
    obtain ⟨b0, b1, b4, b5, b6, b7, ⟨l1, m1⟩, ⟨l2, m2⟩, ⟨l3, m3⟩, ⟨l4, m4⟩, _⟩ := q
    have l1' : ct.length = 73 := by have := Codec.inNat_iff.mp l1; omega
    have l2' : qt.length = 8 := by have := Codec.inNat_iff.mp l2; omega
    have l3' : qc.length = 60 := by have := Codec.inNat_iff.mp l3; omega
    have l4' : qo.length = 16 := by have := Codec.inNat_iff.mp l4; omega
    have ask : PyKp118.db_best_asked s0 s1 s4 s5 s6 s7 ct qt qc qo = true := hask
    have e := Pm.dbbest_eq ask l3' l4' (fun x hx => (m1 x hx).1) b0.1 b1.1 (fun x hx => (m2 x hx).1) l2' (fun x hx => (m4 x hx).1) b4.1 b5.1 b6.1 b7.1
    refine ⟨a1, a2, a3, a4, ct, qt, qc, qo, s0, s1, s4, s5, s6, s7, rfl, hS1, l1', hS2, l2', hS3, l3', hS4, l4', fun H' p hp => ?_⟩
    show L2.Dw K H' (.ref p) (WData.list ((PyKp118.db_best s0 s1 s4 s5 s6 s7 ct qt qc qo).map WData.int))
    rw [e]
    exact .lst (L2.SqL.of hp) (L2.dw_ints _)
